import PyProof.Rows.All
import Wide.All
import OpenK.AllK
import Wide.FinOn
import Lean
import PyProof.EqAt
import PyProof.EqKinds
import PyProof.TupleCall
import PySem.SetOps
import PyProof.SetScanFacts
import PyProof.TupleKey
import PyProof.SetKind
import PyProof.SetRoads
import PyProof.IsRules
import PyProof.ZipIter
import PyProof.TupleIter
import PyProof.ListMulRoad
import PyProof.FactsAll.tuple
import PyProof.ListRange
import PyProof.Draws
import PyProof.EnumFor
import PyProof.Rows.ListMul
import PyProof.AutoListH
import PyProof.ExcInit
import PyProof.ExcClass2
import PyProof.InstStore
import PyProof.InstStoreFacts
import PyProof.ExcArgsOwn
import PyProof.IsInstance
import PyProof.IsInstanceH
import PyProof.StationsW
import PyProof.Rows.CatchOwn
import PyProof.FactsAll.dict_1
import PyProof.Rows.Range3
import PyProof.FitsBits
import PySem.Challenge.RW_purseborder_k46_enough_refused
set_option Elab.async false
set_option linter.all false
set_option maxRecDepth 100000
set_option genSizeOf false
set_option compiler.extract_closed false
set_option bootstrap.genMatcherCode false
abbrev Af:=PySem.Value->PySem.Shared->Prop
abbrev Ai:=List (PySem.Addr×PySem.Obj)
abbrev Ae:=List PySem.Value
abbrev Ar:=PySem.Str->Option PySem.Value
abbrev Aw:=Array PySem.Value
def AO {p:Prop}[Decidable p](h:decide p=true:=by decide +kernel):p:=of_decide_eq_true h
noncomputable section
def KW:=@PySem.wpAny_bind
def gV:=@PySem.Heap.get?_push_of_some
def za2:=@PySem.wpAny_loadPart_at
def za3:=@PySem.wpAny_mono
def za4:=@PySem.wpAny_field
def za5:=@decide_eq_false
def za6:=@PySem.wpAny_holding
def za7:=@PySem.Heap.get?_update_self
def za8:=@PySem.wpAny_newObj_type
def za9:=@PySem.Heap.get?_update_other
def zaA:=@decide_eq_true
def zaB:=@PySem.wpAny_call_entry
def zaC:=@PySem.wpAny_setState_of
def zaD:=@PySem.wpAny_setField
def zaE:=@PySem.wpAny_isSubtype_exc
def zaF:=@PySem.wpAny_seqItems
def zaG:=@PySem.wpAny_truthy_bool
def zaH:=@PySem.wpAny_callSpecial?_slot
def zaI:=@PySem.wpAny_typeOf
def zaJ:=@PySem.wpAny_execs_nil
def zaK:=@PySem.wpAny_passesOwn
def zaL:=@PySem.Heap.get?_update_ne
def zaM:=@PySem.wpAny_setField_rec
def zaN:=@PySem.wpAny_Call_Name_kw
def zaO:=@PySem.wpAny_pyIter_list
def zaP:=@PySem.wpAny_askSetting
def zaQ:=@PySem.Heap.get?_none_of_le
def An:=@Option.bind_eq_some_iff
def Av:=@List.mem_cons_self
def AA:=@List.mem_cons_of_mem
def AK:=@Option.map_eq_some_iff
def AZ:=@List.not_mem_nil
def Bi:=@List.map_nil
def Bv:=@List.lookup_cons
def Bu:=@List.contains_cons
def BG:=@List.nodup_cons
def BF:=@Nat.lt_or_ge
def BE:=@List.any_cons
def BK:=@List.pairwise_cons
def BX:=@Bool.false_ne_true
def BW:=@Nat.ne_of_gt
def BV:=@Int.natCast_succ
def B4:=@List.replicate_succ
def B9:=@List.length_nil
def B8:=@List.mem_iff_getElem
def B7:=@List.mem_flatMap
def Co:=@List.append_nil
def Ck:=@List.flatten_cons
def Cj:=@Nat.lt_succ_of_lt
def Ci:=@Int.add_mul
def Cv:=@List.filterMap_cons
def Cu:=@List.mem_append_left
def Ct:=@List.getElem?_append_left
def Cs:=@List.find?_cons
def Cr:=@Array.getElem_toList
def Cq:=@Int.zero_add
def Cp:=@Int.mul_nonneg
def CT:=@List.mem_filterMap
def CS:=@List.length_set
def CQ:=@Bool.and_false
def CP:=@List.getElem?_set
def CO:=@Array.getElem?_eq_none
def CN:=@Nat.le_add_right
def CM:=@Int.toNat_natCast
def CL:=@Bool.or_true
def Dk:=@List.of_mem_zip
def Dj:=@List.length_take
def Di:=@List.getElem?_append_right
def Dh:=@List.getElem?_replicate
def Dg:=@Nat.lt_trans
def Df:=@List.getElem?_eq_none
def De:=@Array.size_map
def Dd:=@List.ext_getElem
def Dc:=@List.pairwise_map
def C_:=@List.pairwise_iff_getElem
def C9:=@Nat.mod_lt
def C8:=@List.toList_toArray
def C7:=@Nat.zero_add
def C6:=@List.mem_of_find?_eq_some
def C5:=@List.length_filter_le
def C4:=@Int.natCast_add
def C3:=@List.mem_nil_iff
def D0:=@Option.isSome_iff_exists
def DZ:=@List.forIn_cons
def DY:=@Array.getD_eq_getD_getElem?
def DX:=@Bool.and_self
def DW:=@List.map_congr_left
def DV:=@Int.emod_nonneg
def DU:=@Nat.mul_comm
def DT:=@List.nodup_range
def DS:=@Nat.lt_trichotomy
def DR:=@List.getElem?_cons_succ
def DQ:=@Array.getElem?_setIfInBounds
def DP:=@List.foldl_cons
def DN:=@List.map_take
def DM:=@List.map_drop
def DL:=@List.zipIdx_cons
def DJ:=@Nat.le_succ
def DI:=@Bool.not_eq_true
def Ek:=@Array.append_assoc
def Ej:=@List.getElem?_set_self
def Eh:=@List.getElem?_set_ne
def Eg:=@List.length_drop
def Ef:=@Bool.not_eq_true'
def Ee:=@List.getElem_range
def Ed:=@List.pairwise_append
def Eb:=@List.take_append_drop
def Ea:=@List.getElem?_range
def D_:=@List.perm_ext_iff_of_nodup
def D9:=@List.mem_iff_getElem?
def D8:=@List.nodup_append
def D7:=@Bool.or_eq_true
def D6:=@List.pairwise_singleton
def zcE:=@Array.getElem?_setIfInBounds_ne
def zcF:=@Int.mul_le_mul_of_nonneg_right
def zcG:=@List.mem_zipIdx_iff_getElem?
def AE:=@List.size_toArray
def AR:=@List.getElem?_eq_getElem
def AX:=@List.getElem?_eq_some_iff
def AJ:=@List.getElem?_map
def Ak:=@Nat.le_refl
def Am:=@List.mem_cons
def Ax:=@List.map_cons
def AN:=@List.length_map
def Ap:=@PySem.Heap.lt_size
def AM:=@PySem.Heap.get?_push_size
def Au:=@List.mem_map
def A6:=@List.getD_eq_getElem?_getD
def CA:=@Bool.not_false
def AB:=@Nat.ne_of_lt
def A3:=@List.mem_append_right
def CU:=@Bool.not_true
def A2:=@List.mem_singleton
def BM:=@List.mem_of_getElem?
def Bx:=@Array.getElem?_eq_getElem
def A1:=@List.mem_append
def A9:=@List.length_cons
def AL:=@List.mem_range
def Bk:=@PySem.W.mg_none_of
def Bc:=@Nat.lt_of_lt_of_le
def Br:=@Bool.false_eq_true
def Cz:=@List.length_range
def AW:=@Int.le_refl
def Bh:=@Bool.eq_iff_iff
def Be:=@List.mem_filter
def BL:=@Option.bind_some
def A8:=@List.any_eq_true
def Ad:=@PySem.wpAny_pure
def BH:=@Array.length_toList
def BU:=@Array.getElem?_toList
def A0:=@Nat.zero_le
def Bb:=@Option.some.inj
def A5:=@List.map_map
def Cb:=@List.length_append
def Bp:=@List.getElem_mem
def Bo:=@Nat.le_trans
def Ca:=@Nat.lt_irrefl
def Cy:=@Nat.lt_succ_self
def BS:=@Nat.le_of_lt
def Bj:=@List.all_eq_true
def Bw:=@Bool.and_eq_true
def B_:=@List.map_append
def Cw:=@Int.toNat_of_nonneg
open Lean in
def zR:Nat->Term->MacroM (TSyntax `rcasesPat)
|0,_=>Macro.throwUnsupported
|n+1,t=>match t with
 |`(#[$xs,*])=>do let ys<-xs.getElems.mapM (zR n);`(rcasesPat|⟨$[$ys:rcasesPat],*⟩)
 |`(_)=>`(rcasesPat|_)
 |`($x:ident)=>`(rcasesPat|$x:ident)
 |_=>Macro.throwUnsupported
local macro_rules|`(tactic|let $p:term:=$e)=>do let q<-zR 9 p;`(tactic|obtain $q:rcasesPat:=$e)
local macro_rules|`(tactic|simp! [$a,*] $[$l:location]?)=>`(tactic|simp only [$a,*] $[$l:location]?)
local macro_rules|`(tactic|exists $e)=>`(tactic|simpa using $e)
local macro_rules|`(tactic|show $e)=>`(tactic|refine $e)
local macro_rules|`(tactic|exact $e)=>`(tactic|refine $e)
local macro_rules|`(#[])=>`(by simp)|`(#[$xs,*])=>`(⟨$xs,*⟩)
local macro_rules|`(↑$x)=>`(some $x)
local macro_rules|`(⋯)=>`(by lia)
local macro_rules|`(())=>`(by decide)
abbrev Ac:=PySem.W.Frag
local macro_rules(kind:=Lean.Parser.Command.declaration)|s=>do
 if s[0][4].getNumArgs>0||![``Lean.Parser.Command.definition,``Lean.Parser.Command.abbrev].contains s[1].getKind then Lean.Macro.throwUnsupported
 return s.setArg 0 (s[0].setArg 4 (Lean.mkNullNode [Lean.mkNode ``Lean.Parser.Command.noncomputable [Lean.mkAtom "noncomputable"].toArray].toArray))
namespace L2
open PySem PySem.Spec PyProof.Rows
abbrev Key:=Sum Int Str
def pH:Key->Value->Bool
 | .inl k,v=>Value.isInt k v
 | .inr x,v=>Value.isStrOf x v
def Nh (w:World):Key->Int
 | .inl k=>hashInt k
 | .inr x=>hashStr w x
theorem tR:∀ {k:Key}{v:Value},pH k v=true->(∃ i t,k=Sum.inl i/\v=Value.int i t)\/(∃ x t,k=Sum.inr x/\v=Value.str x t)
 | .inl i,v,h=>by
  let#[t,e]:=Value.isInt_shape (k:=i) (v:=v) h;show .inl #[i,t,rfl,e]
 | .inr x,v,h=>by
  let#[t,e]:=Value.isStrOf_shape (x:=x) (v:=v) h;show .inr #[x,t,rfl,e]
def Ng (i:Int) (t:Tok):pH (.inl i) (.int i t)=true:=by simp[pH,Value.isInt]
def Nf (x:Str) (t:Tok):pH (.inr x) (.str x t)=true:=by simp[pH,Value.isStrOf]
def Nd (a b:Int):decide ((Sum.inl a:Key)=Sum.inl b)=(a == b):=by
 by_cases e:a=b
 .subst e;simp
 .have h:¬ (Sum.inl a:Key)=Sum.inl b:=λ q=>e (Sum.inl.inj q);rw[za5 h];show (beq_eq_false_iff_ne.mpr e).symm
def Na (a b:Str):decide ((Sum.inr a:Key)=Sum.inr b)=decide (a=b):=by
 by_cases e:a=b
 .subst e;simp
 .have h:¬ (Sum.inr a:Key)=Sum.inr b:=λ q=>e (Sum.inr.inj q);rw[za5 h,za5 e]
def Nc (a:Int) (b:Str):decide ((Sum.inl a:Key)=Sum.inr b)=false:=za5 (λ q=>nomatch q)
def Nb (a:Str) (b:Int):decide ((Sum.inr a:Key)=Sum.inl b)=false:=za5 (λ q=>nomatch q)
def wK (prog:Program) (w:World):PySem.KeyKind prog w Key where
 is:=pH
 hash:=Nh w
 inj:=λ v a b ha hb=>by
  rcases tR ha with ⟨i,t,rfl,rfl⟩ | ⟨x,t,rfl,rfl⟩
  .rcases tR hb with ⟨j,u,rfl,e⟩ | ⟨y,u,rfl,e⟩
   .injection e with e1 _;rw[e1]
   .show nomatch e
  .rcases tR hb with ⟨j,u,rfl,e⟩ | ⟨y,u,rfl,e⟩
   .show nomatch e
   .injection e with e1 _;rw[e1]
 byValue:=λ k v h=>by
  rcases tR h with ⟨i,t,rfl,rfl⟩ | ⟨x,t,rfl,rfl⟩ <;> rfl
 pyHash:=λ hv h=>by
  rcases tR hv with ⟨i,t,rfl,rfl⟩ | ⟨x,t,rfl,rfl⟩
  .show wpAny_pyHash_int h
  .show wpAny_pyHash_str h
 eqBool:=λ hu hv h=>by
  rcases tR hu with ⟨i,t,rfl,rfl⟩ | ⟨x,t,rfl,rfl⟩
  .rcases tR hv with ⟨j,u,rfl,rfl⟩ | ⟨y,u,rfl,rfl⟩
   .rw[Nd] at h;show wpAny_eqBool_int h
   .rw[Nc] at h;show SeqAt.EqAt.int_str i t y u _ _ _ _ h
  .rcases tR hv with ⟨j,u,rfl,rfl⟩ | ⟨y,u,rfl,rfl⟩
   .rw[Nb] at h;show SeqAt.EqAt.str_int x t j u _ _ _ _ h
   .rw[Na] at h;show wpAny_eqBool_str h
 «strs»:=λ k x t v h=>by
  rcases tR h with ⟨i,u,rfl,e⟩ | ⟨y,u,rfl,e⟩
  .show nomatch e
  .injection e with e1 _
   subst e1;cases v <;> rfl
def O1 (prog:Program) (w:World) (i:Int) (t:Tok):(wK prog w).is (.inl i) (.int i t)=true:=Ng i t
def O0 (prog:Program) (w:World) (x:Str) (t:Tok):(wK prog w).is (.inr x) (.str x t)=true:=Nf x t
inductive V where
 | zh | bl (b:Bool) | int (i:Int) | str (x:Str) | mj (b:Array UInt8) | gm (b:UInt64) | ref (a:Addr) | ty (n:String)
 deriving DecidableEq
def RelV:V->Value->Prop
 | .zh,u=>u=Value.none
 | .bl b,u=>u=Value.bool b
 | .int i,u=>∃ t,u=Value.int i t
 | .str x,u=>∃ t,u=Value.str x t
 | .mj b,u=>∃ t,u=Value.bytes b t
 | .gm b,u=>∃ t,u=Value.float b t
 | .ref a,u=>u=Value.ref a
 | .ty n,u=>u=Value.type n
abbrev Vals:List V->List Value->Prop:=Paired RelV
theorem Vals.length {xs:List V}{us:Ae}(r:Vals xs us):xs.length=us.length:=Paired.length r
theorem Vals.get:∀ {xs:List V}{us:Ae}{i:Nat}{x:V},Vals xs us->xs[i]?=↑x->∃ u,us[i]?=↑u/\RelV x u
 | _,_,_,_,.nil,e=>by simp at e
 | _,_,0,_,.cons r _,e=>by simp at e;subst e;show#[_,rfl,r]
 | _,_,i+1,x,.cons _ t,e=>by
  let#[u,h1,h2]:=Vals.get (i:=i) (x:=x) t (by exists e);show#[u,by simpa using h1,h2]
theorem Vals.set {x:V}{u:Value}(r:RelV x u):∀ {xs:List V}{us:Ae}(i:Nat),Vals xs us->Vals (xs.set i x) (us.set i u)
 | _,_,_,.nil=>.nil
 | _,_,0,.cons _ t=>.cons r t
 | _,_,i+1,.cons q t=>.cons q (Vals.set r i t)
theorem Vals.append:∀ {xs ys:List V}{us ws:Ae},Vals xs us->Vals ys ws->Vals (xs++ys) (us++ws)
 | _,_,_,_,.nil,s=>s
 | _,_,_,_,.cons r t,s=>.cons r (Vals.append t s)
theorem Vals.take:∀ {xs:List V}{us:Ae}(n:Nat),Vals xs us->Vals (xs.take n) (us.take n)
 | _,_,0,_=>.nil
 | _,_,_+1,.nil=>.nil
 | _,_,n+1,.cons r t=>.cons r (Vals.take n t)
theorem Vals.drop:∀ {xs:List V}{us:Ae}(n:Nat),Vals xs us->Vals (xs.drop n) (us.drop n)
 | _,_,0,r=>r
 | _,_,_+1,.nil=>.nil
 | _,_,n+1,.cons _ t=>Vals.drop n t
def vQ:Option V->Option Value->Prop
 | some v,↑u=>RelV v u
 | none,none=>True
 | _,_=>False
def KV {κ:Type}:List (κ × V)->List (κ × Value)->Prop:=Paired λ(p:κ × V) (q:κ × Value)=>p.1=q.1/\RelV p.2 q.2
def kV:Key->V
 | .inl i=>.int i
 | .inr x=>.str x
inductive HO where
 /-- a list -/
 | lst (xs:List V)
 /-- a tuple (never changes) -/
 | tup (xs:List V)
 /-- a dict Jd keys are ints and texts;one Jd keys are tuples of ints and texts (IP empty one is both) -/
 | dK (Ab:List (Key×V)) | dT (Ab:List (List Key×V))
 /-- a set of ints: Aa members,Aa size -/
 | set (S:Int->Bool) (n:Nat)
 /-- an instance of IP class at C,Aa dict at dx,Aa attributes -/
 | ins (C dx:Addr) (fs:List (Str×V))
 /-- IP dict of IP instance at x -/
 | own (x:Addr)
 /-- IP dict of an exception -/
 | xd (fs:List (Str×V))
 /-- a bound method,f of x -/
 | met (f x:Addr)
 /-- a range object lo,lo+1,.. below hi -/
 | jP (lo hi:Int)
 /-- a Jg that is known to IP object (IP script;a dict while a loop walks it): read,never written while it is so -/
 | wa (o:Obj) (u:HO)
 /-- a code Jm table -/
 | r_ (ps:Aw)
 /-- any other Jg,by what is true of Aa one object (a def of one's own: yN a S n:=HO.ext λ h=>..) -/
 | ext (φ:Heap->Prop)
abbrev Hp:=Addr->Option HO
def upd (H:Hp) (a:Addr) (o:HO):Hp:=λ b=>if b=a then ↑o else H b
def zZ {H:Hp}{a:Addr}{o:HO}:upd H a o a=↑o:=by unfold upd;rw[if_pos rfl]
def zI {H:Hp}{a b:Addr}{o:HO}(h:b≠a):upd H a o b=H b:=by unfold upd;rw[if_neg h]
def uf {H:Hp}{a b:Addr}{o u:HO}(h:H a=↑o) (h':H b=↑u) (d:o≠u):a≠b:=by
 intro e;subst e;rw[h] at h';show d (Bb h')
def xC {H:Hp}{a b:Addr}{o:HO}(h:H a=↑o) (h':H b=none):a≠b:=by
 intro e;subst e;rw[h] at h';cases h'
def fB (h:Heap) (a:Addr):Prop:=∃ o,h.get? a=↑o/\o.dict=none
def fB.new (h:Heap) {d:Aw}{n:Nat}:fB (h.push { cls:=.type "tuple",data:=.seq d n }) h.objs.size:=#[_,AM _ rfl,rfl]
section
variable (P:Program)(w:World)
def yW (H:Hp) (h:Heap) (a:Addr):HO->Prop
 | .lst xs=>xs.length<=sizeLine/\∃ (Aa:Ae) (n:Nat),Vals xs Aa/\h.get? a=↑{ cls:=.type "list",data:=.seq Aa.toArray n }
 | .tup xs=>(xs.length<=sizeLine/\fB h a)/\∃ Aa:List Value,Vals xs Aa/\IsTup h a Aa.toArray
 | .dK Ab=>Ab.length<=sizeLine/\(a == sysModules)=false/\∃ vs,KV Ab vs/\h.DictOf (wK P w) a vs
 | .dT Ab=>Ab.length<=sizeLine/\(a == sysModules)=false/\∃ xs:List (List Key×Addr×Value),
   Paired (λ(p:List Key×V) (q:List Key×Addr×Value)=>p.1=q.1/\H q.2.1=↑(.tup (p.1.map kV))/\RelV p.2 q.2.2) Ab xs/\
   ∃ o es ep,h.get? a=↑o/\o.ExactDict/\o.data=.dict es ep/\es.toList=xs.map (entryOfKey (tupleKind (wK P w)))/\(xs.map (·.1)).Nodup
 | .set S n=>h.SetOf (intKind P w) a S n
 | .ins C dx fs=>H dx=↑(.own a)/\fs.length<=1000/\dx≠a/\h.get? a=↑(PySem.W.instObj C dx)/\
   ∃ mA,h.Ns1 dx mA/\(∀ f,vQ (fs.lookup f) (mA f))/\PySem.Within mA (fs.map (·.1))
 | .own _=>∃ o,h.get? a=↑o
 | .xd fs=>∃ mA,h.Ns1 a mA/\∀ f,vQ (fs.lookup f) (mA f)
 | .jP lo hi=>∃ t u v,h.get? a=↑{ cls:=.type "range",data:=.fields [.int lo t,.int hi u,.int 1 v].toArray }
 | .wa o u=>h.get? a=↑o/\yW H h a u
 | .r_ ps=>h.get? a=↑{ cls:=.none,data:=.fields ps }
 | .met f x=>h.get? a=↑(PySem.W.methodObj (.ref f) (.ref x))
 | .ext φ=>φ h/\(∃ o,h.get? a=↑o)/\∀ h1 h2:Heap,φ h1->(∀ o,h1.get? a=↑o->h2.get? a=↑o)->φ h2
def yd (H:Hp) (h:Heap):Prop:=∀ a o,H a=↑o->yW P w H h a o
end
section
variable {P:Program}{w:World}{H H':Hp}{h h':Heap}{a:Addr}{o:HO}
theorem yW.lt (x:yW P w H h a o):a<h.objs.size:=by
 cases o with
 | lst xs=>let#[_,_,_,_,e]:=x;show Ap e
 | tup xs=>let#[_,_,_,p]:=x;show p.lt
 | dK Ab=>let#[_,_,_,_,o,_,_,e,_]:=x;show Ap e
 | dT Ab=>let#[_,_,_,_,o,_,_,e,_]:=x;show Ap e
 | set S n=>let#[o,_,_,_,e,_]:=x;show Ap e
 | ins C dx fs=>let#[_,_,_,e,_]:=x;show Ap e
 | own y=>let#[_,e]:=x;show Ap e
 | xd fs=>let#[_,#[_,_,_,e,_],_]:=x;show Ap e
 | jP lo hi=>let#[_,_,_,e]:=x;show Ap e
 | wa ob u=>let#[e,_]:=x;show Ap e
 | r_ ps=>show Ap (show h.get? a=↑_ from x)
 | met f y=>show Ap (show h.get? a=↑_ from x)
 | ext φ=>let#[_,#[_,e],_]:=x;show Ap e
theorem Paired.lS {α β:Type}{F G:α->β->Prop}:∀ {l₁:List α}{l₂:List β},Paired F l₁ l₂->(∀ a b,F a b->G a b)->Paired G l₁ l₂
 | _,_,.nil,_=>.nil
 | _,_,.cons r t,f=>.cons (f _ _ r) (Paired.lS t f)
def yW.vm (x:yW P w H h a o) (k:∀ b u,(b=a\/H b=↑(.own a))->h.get? b=↑u->h'.get? b=↑u)
  (ho:∀ b,H b=↑(.own a)->H' b=↑(.own a)) (ht:∀ b xs,H b=↑(.tup xs)->H' b=↑(.tup xs)):yW P w H' h' a o:=by
 induction o with
 | lst xs=>let#[z,Aa,n,r,e]:=x;show#[z,Aa,n,r,k _ _ (.inl rfl) e]
 | tup xs=>let#[#[z,y,u,v],Aa,r,ob,e,c]:=x;show#[#[z,y,k _ _ (.inl rfl) u,v],Aa,r,ob,k _ _ (.inl rfl) e,c]
 | dK Ab=>let#[z,y,vs,r,ob,es,ep,e,c]:=x;show#[z,y,vs,r,ob,es,ep,k _ _ (.inl rfl) e,c]
 | dT Ab=>
  let#[z,y,xs,r,ob,es,ep,e,c]:=x;show#[z,y,xs,Paired.lS r λ p q z=>#[z.1,ht _ _ z.2.1,z.2.2],ob,es,ep,k _ _ (.inl rfl) e,c]
 | set S n=>let#[ob,es,ep,t,e,c]:=x;show#[ob,es,ep,t,k _ _ (.inl rfl) e,c]
 | ins C dx fs=>
  let#[d,z,ne,e,mA,#[od,es,ep,e2,c],r]:=x;show#[ho _ d,z,ne,k _ _ (.inl rfl) e,mA,#[od,es,ep,k _ _ (.inr d) e2,c],r]
 | own y=>let#[ob,e]:=x;show#[ob,k _ _ (.inl rfl) e]
 | xd fs=>let#[mA,#[od,es,ep,e,c],r]:=x;show#[mA,#[od,es,ep,k _ _ (.inl rfl) e,c],r]
 | jP lo hi=>let#[t,u,v,e]:=x;show#[t,u,v,k _ _ (.inl rfl) e]
 | wa ob u ih=>let#[e,q]:=x;show#[k _ _ (.inl rfl) e,ih q]
 | r_ ps=>
  have e:h.get? a=↑{ cls:=.none,data:=.fields ps }:=x;change h'.get? a=↑{ cls:=.none,data:=.fields ps };show k a _ (.inl rfl) e
 | met f y=>
  have e:h.get? a=↑(PySem.W.methodObj (.ref f) (.ref y)):=x;change h'.get? a=↑(PySem.W.methodObj (.ref f) (.ref y));show k a _ (.inl rfl) e
 | ext φ=>let#[p,#[o,e],st]:=x;show#[st _ _ p λ o q=>k _ _ (.inl rfl) q,#[o,k _ _ (.inl rfl) e],st]
theorem yd.lt (x:yd P w H h) (e:H a=↑o):a<h.objs.size:=(x a o e).lt
def yd.fresh (x:yd P w H h) (e:h.objs.size<=a):H a=none:=by
 cases q:H a with
 | none=>rfl
 | some u=>show absurd (Bc (x.lt q) e) (Ca _)
def yd.kept (x:yd P w H h) (k:∀ b u,h.get? b=↑u->h'.get? b=↑u):yd P w H h':=λ a o e=>
 (x a o e).vm (λ b u _ q=>k b u q) (λ _ q=>q) λ _ _ q=>q
def yd.laid (x:yd P w H h) (k:∀ b u,h.get? b=↑u->h'.get? b=↑u) (hp:h.objs.size<=a) (new:yW P w (upd H a o) h' a o):yd P w (upd H a o) h':=λ b u e=>by
 have hn:=x.fresh hp;by_cases hb:b=a
 .subst hb;rw[zZ] at e;cases e;show new
 .rw[zI hb] at e;show (x b u e).vm (λ c v _ q=>k c v q) (λ c q=>by rw[zI (xC q hn)];show q) λ c xs q=>by rw[zI (xC q hn)];show q
end
def Rd (H:Hp) (a:Addr) (u:HO):Prop:=H a=↑u\/∃ o,H a=↑(.wa o u)
def Rd.ok {P:Program}{w:World}{H:Hp}{h:Heap}{a:Addr}{u:HO}(r:Rd H a u) (x:yd P w H h):yW P w H h a u:=by
 rcases r with r | ⟨o,r⟩
 .show x a u r
 .let#[_,q]:=x a _ r;show q
def m9:Option HO->Prop
 | some (.lst _)=>True
 | some (.dK _)=>True
 | some (.dT _)=>True
 | some (.set _ _)=>True
 | some (.ins _ _ _)=>True
 | some (.ext _)=>True
 | _=>False
section
variable {P:Program}{w:World}{H:Hp}{h h':Heap}{x e:Addr}{o':HO}
def yd.write (ok:yd P w H h) (mu:m9 (H x)) (he:e=x\/H e=↑(.own x)) (k:∀ b u,b≠e->h.get? b=↑u->h'.get? b=↑u) (Ce:∃ u,h'.get? e=↑u)
  (new:yW P w (upd H x o') h' x o'):yd P w (upd H x o') h':=λ b u q=>by
 have Jn:∀ c y,H c=↑(.own y)->c≠x:=λ c y r z=>by subst z;rw[r] at mu;show mu
 have ntup:∀ c xs,H c=↑(.tup xs)->c≠x:=λ c xs r z=>by subst z;rw[r] at mu;show mu
 by_cases hb:b=x
 .subst hb;rw[zZ] at q;cases q;show new
 .rw[zI hb] at q;by_cases BD:b=e
  .have q':H b=↑(.own x):=by
    rcases he with z | z
    .show absurd (BD.trans z) hb
    .rw[BD];show z
   rw[q] at q';cases q';let#[v,hv]:=Ce;show#[v,by rw[BD];show hv]
  .exact (ok b u q).vm (λ c v hc r=>k c v ?_ r) (λ c r=>by rw[zI (Jn c b r)];show r) λ c xs r=>by rw[zI (ntup c xs r)];show r
   rcases hc with rfl | hc
   .show BD
   .rintro rfl;rcases he with z | z
    .show Jn c b hc z
    .rw[hc] at z;cases z;show hb rfl
end
structure Un (fs ex:List Addr) (H H':Hp) (h h':Heap):Prop where
 keep:∀ b o,h.get? b=↑o->H b=none->b∉fs->b∉ex->h'.get? b=↑o
 slot:∀ b o,h.get? b=↑o->H b=none->b∈fs->b∉ex->∃ sl,h'.get? b=↑{ o with slots:=sl }
 free:∀ b o,h.get? b=↑o->H b=none->b∉ex->H' b=none
 there:∀ b o,h.get? b=↑o->b∉ex->∃ o',h'.get? b=↑o'
 vj:∀ b xs,H b=↑(.tup xs)->H' b=↑(.tup xs)
 vH:∀ b o u,H b=↑(.wa o u)->H' b=↑(.wa o u)
 vX:∀ b ps,H b=↑(.r_ ps)->∃ more,H' b=↑(.r_ (ps++more))
section
variable {fs ex:List Addr}{H H1:Hp}{h h1 h':Heap}{a x e:Addr}{o:HO}
def Un.any (u:Un fs ex H H1 h h1) {b:Addr}{ob:Obj}(q:h.get? b=↑ob) (n:H b=none) (hx:b∉ex):∃ sl,h1.get? b=↑{ ob with slots:=sl }:=by
 by_cases hb:b∈fs
 .show u.slot b ob q n hb hx
 .show#[ob.slots,u.keep b ob q n hb hx]
def Un.kept (k:∀ b u,h.get? b=↑u->h'.get? b=↑u):Un fs ex H H h h':=
 #[λ b ob q _ _ _=>k b ob q,λ b ob q _ _ _=>#[ob.slots,k b ob q],λ _ _ _ n _=>n,λ b ob q _=>#[ob,k b ob q],λ _ _ q=>q,λ _ _ _ q=>q,λ _ ps q=>#[[].toArray,by rw[q];simp]]
def Un.refl:Un fs ex H H h h:=Un.kept λ _ _ q=>q
def Un.laid (k:∀ b u,h.get? b=↑u->h'.get? b=↑u) (hp:h.objs.size<=a) (hn:H a=none):Un fs ex H (upd H a o) h h' where
 keep:=λ b u q _ _ _=>k b u q
 slot:=λ b u q _ _ _=>#[u.slots,k b u q]
 free:=λ b u q n _=>by rw[zI (AB (Bc (Ap q) hp))];show n
 there:=λ b u q _=>#[u,k b u q]
 vj:=λ b xs q=>by rw[zI (xC q hn)];show q
 vH:=λ b u xs q=>by rw[zI (xC q hn)];show q
 vX:=λ b ps q=>#[[].toArray,by rw[zI (xC q hn),q];simp]
def Un.write (mu:m9 (H x)) (he:e=x\/H e=↑(.own x)) (k:∀ b u,b≠e->h.get? b=↑u->h'.get? b=↑u) (Ce:∃ u,h'.get? e=↑u):Un fs ex H (upd H x o) h h':=by
 have hx:∀ b,H b=none->b≠x:=λ b n z=>by subst z;rw[n] at mu;show mu
 have hb:∀ b,H b=none->b≠e:=λ b n z=>by
  subst z;rcases he with r | r
  .show hx b n r
  .rw[n] at r;cases r
 have hm:∀ b u,H b=↑u->¬ m9 ↑u->b≠x:=λ b u q nm z=>by subst z;rw[q] at mu;show nm mu
 exact#[λ b u q n _ _=>k b u (hb b n) q,λ b u q n _ _=>#[u.slots,k b u (hb b n) q],λ b u q n _=>by rw[zI (hx b n)];show n,λ b u q _=>?_,
  λ b xs q=>by rw[zI (hm b _ q λ z=>z)];show q,λ b u xs q=>by rw[zI (hm b _ q λ z=>z)];show q,λ b ps q=>#[[].toArray,by rw[zI (hm b _ q λ z=>z),q];simp]]
 by_cases BD:b=e
 .subst BD;show Ce
 .show#[u,k b u BD q]
end
def ll (h:Heap) (H:Hp):List Addr:=(List.range h.objs.size).filter λ a=>(H a).isSome
def tS (h:Heap) (H:Hp):Heap:=PySem.W.hideAll h (ll h H)
def NC (h:Heap) (H:Hp):(tS h H).objs.size=h.objs.size:=PySem.W.hideAll_size _ _
def ND {h:Heap}{H:Hp}{b:Addr}{o:Obj}(e:h.get? b=↑o) (n:H b=none):(tS h H).get? b=↑o:=
 PySem.W.hideAll_get _ e λ hm=>by
  have q:(H b).isSome=true:=(Be.mp hm).2;rw[n] at q;simp at q
def P_ {h:Heap}{H:Hp}{b:Addr}{o:Obj}(e:(tS h H).get? b=↑o):h.get? b=↑o/\H b=none:=by
 have e':h.get? b=↑o:=PySem.W.of_hideAll (ll h H) e;exact#[e',?_];cases q:H b with
 | none=>rfl
 | some x=>
  have hm:b∈ll h H:=Be.mpr #[AL.mpr (Ap e'),by simp[q]];have z:(tS h H).get? b=none:=PySem.W.hideAll_none (ll h H) hm;rw[z] at e;cases e
structure Mod (K:Ac) (mg:Ar) (base:Heap):Prop where
 pG:K.In base
 glob:base.Ns mainGlobals mg
 blt:∃ mb,base.Ns builtinsNs mb/\∀ x:Str,x≠"__name__"->mb x=bootBuiltins x
 nolimit:base.NoLimit
structure Cx where
 prog:Program
 w:World
 K:Ac
 mg:Str->Option Value
 base:Heap
 A:Around
 N:List Str
 s₀:Shared
 H₀:Hp
 env:Env
 outer:List Env
 stack:List Env
 ex:List Addr
 fn:Str->Bool
 calm:Bool
 pn:Ai
 xe:Af
def yP (l:List Env):List Addr:=l.filterMap (·.frame)
abbrev Ay (X:Cx) (e:Expr) (es:List Expr):Prop:=starEach (e::es) X.env=(false,eval e X.env)::starEach es X.env
abbrev AG (X:Cx) (p:Pos) (es:List Expr):Prop:=(backTo p (starEach es X.env)).any (·.1)=false
abbrev Cx.fs (X:Cx):List Addr:=yP X.outer
def m5 (sc:Scope) (x:Str):Prop:=sc.names.lookup x=↑.local\/sc.names.lookup x=↑.cell\/sc.names.lookup x=↑.free
def Loc (sc:Scope) (x:Str):Prop:=sc.names.lookup x=↑.local\/sc.names.lookup x=↑.cell
def Look (env:Env) (h:Heap) (m:Ar) (x:Str) (u:Value):Prop:=
 (env.kindOf x=↑.local/\m x=↑u)\/((env.kindOf x=↑.cell\/env.kindOf x=↑.free)/\∃ c,env.cells.lookup x=↑c/\h.IsCell c ↑u)
structure Cx.Ok (X:Cx):Prop where
 mod:Mod X.K X.mg X.base
 kind:X.env.scope.kind=.function
 glob:X.env.globals=mainGlobals
 blt:X.env.builtins=builtinsNs
 above:X.s₀.heap.objs.size<=X.env.locals
 inj:∀ x y c,X.env.cells.lookup x=↑c->X.env.cells.lookup y=↑c->x=y
 has:∀ x,(X.env.kindOf x=↑.cell\/X.env.kindOf x=↑.free)->∃ c,X.env.cells.lookup x=↑c
 qB:∀ x c,X.fn x=true->X.env.cells.lookup x=↑c->X.s₀.heap.objs.size<=c
 hd:X.calm=true->X.A.handled=none
 frames:X.A.frames=↑X.stack
 qV:X.stack=X.outer\/(X.stack=X.env::X.outer/\X.env.frame=↑X.env.locals)
 nL:∀ b∈X.ex,b≠X.env.locals/\∀ x c,X.env.cells.lookup x=↑c->c≠b
 bs:∀ b o,X.base.get? b=↑o->X.s₀.heap.get? b=↑o/\X.H₀ b=none
 t5:X.base.objs.size<=X.s₀.heap.objs.size
 ql:∀ b o,X.base.get? b=↑o->b∉X.ex
 qv:∀ b∈X.ex,b∉X.fs
 vn:X.s₀.heap.FunFrames X.base X.outer
 tV:∀ b∈X.fs,X.H₀ b=none
structure Inv (X:Cx) (E6:Ai) (Y:List (Option V)) (H:Hp) (s:Shared):Prop where
 ok:X.Ok
 os:s.os=X.s₀.os
 bare:AllBare s.gens
 base:Un X.fs X.ex X.H₀ H X.s₀.heap s.heap
 loc:∃ m,s.heap.Ns X.env.locals m/\∀ (i:Nat) (x:Str) (v:V),X.N[i]?=↑x->Y[i]?=↑↑v->m5 X.env.scope x->∃ u,RelV v u/\Look X.env s.heap m x u
 cell:∀ x c,X.env.cells.lookup x=↑c->∃ v,s.heap.IsCell c v
 free:H X.env.locals=none
 vf:∀ x c,X.env.cells.lookup x=↑c->H c=none
 pin:∀ p∈X.pn++E6,s.heap.get? p.1=↑p.2/\H p.1=none/\p.1≠X.env.locals/\p.1∉X.fs/\∀ v,p.2.data≠.cell v
 zp:yd X.prog X.w H s.heap
 len:Y.length=X.N.length
section
variable {X:Cx}{E6:Ai}{Y:List (Option V)}{H H':Hp}{s:Shared}{h':Heap}
def Cx.Ok.Oi (ok:X.Ok) {b:Addr}{o:Obj}(e:X.base.get? b=↑o):b∉X.fs:=λ hb=>by
 have:=(ok.vn.mem hb).1;rw[e] at this;cases this
theorem Inv.bs (I:Inv X E6 Y H s):∀ b o,X.base.get? b=↑o->s.heap.get? b=↑o/\H b=none:=λ b o e=>
 #[I.base.keep b o (I.ok.bs b o e).1 (I.ok.bs b o e).2 (I.ok.Oi e) (I.ok.ql b o e),I.base.free b o (I.ok.bs b o e).1 (I.ok.bs b o e).2 (I.ok.ql b o e)]
def Inv.bk (I:Inv X E6 Y H s):∀ b o,X.base.get? b=↑o->s.heap.get? b=↑o:=λ b o e=>(I.bs b o e).1
theorem Inv.mod (I:Inv X E6 Y H s):Mod X.K X.mg X.base:=I.ok.mod
def Inv.yo (I:Inv X E6 Y H s):X.K.In s.heap:=I.ok.mod.pG.keeps I.bk
theorem Inv.lt (I:Inv X E6 Y H s):X.env.locals<s.heap.objs.size:=let #[_,hn,_]:=I.loc;hn.lt
def Inv.sz (I:Inv X E6 Y H s):X.s₀.heap.objs.size<=s.heap.objs.size:=Bo I.ok.above (BS I.lt)
def Inv.ba (I:Inv X E6 Y H s) {a:Addr}(h:s.heap.objs.size<=a):a∉X.fs:=λ hb=>by
 let#[_,o,ho,_]:=I.ok.vn.mem hb;show absurd (Bc (Ap ho) (Bo I.sz h)) (Ca _)
def Inv.uK (I:Inv X E6 Y H s):∀ x c,X.env.cells.lookup x=↑c->c≠X.env.locals:=λ x c e z=>by
 let#[v,o,ho,hd]:=I.cell x c e;let#[m,#[o',es,ep,FQ,HU,_],_]:=I.loc;rw[z,FQ] at ho;cases ho;rw[HU] at hd;cases hd
theorem Inv.vn (I:Inv X E6 Y H s):s.heap.FunFrames X.base X.outer:=by
 have all:∀ (l:List Env),(∀ b∈yP l,b∈X.fs)->X.s₀.heap.FunFrames X.base l->s.heap.FunFrames X.base l:=by
  intro l
  induction l with
  | nil=>intro _ _;trivial
  | cons env r ih=>
   intro hs hl;let#[hk,#[L,o,hf,hn,ho,hd],hr]:=hl;have hL:L∈X.fs:=hs L (by unfold yP;rw[Cv,hf];show Av);let#[sl,e]:=I.base.slot L o ho (I.ok.tV L hL) hL λ z=>I.ok.qv L z hL;show#[hk,#[L,_,hf,hn,e,hd],ih (λ b hb=>hs b (by unfold yP;rw[Cv,hf];show AA _ hb)) hr]
 show all X.outer (λ _ hb=>hb) I.ok.vn
theorem Inv.stack (I:Inv X E6 Y H s):s.heap.FunFrames X.base X.stack:=by
 rcases I.ok.qV with e | ⟨e,hf⟩
 .rw[e];show I.vn
 .rw[e];let#[m,hn,_]:=I.loc;exact .cons (by rw[I.ok.kind];decide) hf hn ?_ I.vn;show zaQ (Bo I.ok.t5 I.ok.above)
def Inv.jF (I:Inv X E6 Y H s):∀ b∈yP X.stack,b∈X.env.locals::X.fs:=λ b hb=>by
 rcases I.ok.qV with e | ⟨e,hf⟩
 .rw[e] at hb;show AA _ hb
 .rw[e] at hb;unfold yP at hb;rw[Cv,hf] at hb;show hb
def Inv.jG (I:Inv X E6 Y H s):∀ b∈yP X.stack,H b=none:=λ b hb=>by
 rcases Am.mp (I.jF b hb) with e | hb
 .rw[e];show I.free
 .let#[_,o,ho,_]:=I.ok.vn.mem hb;show I.base.free b o ho (I.ok.tV b hb) λ z=>I.ok.qv b z hb
def Inv.step {g':Array GenState}{t':Nat}{d':Drawn}{ch:List Addr}(I:Inv X E6 Y H s)
  (B6:∀ b∈ch,(b∈X.ex\/X.s₀.heap.objs.size<=b)/\b≠X.env.locals/\(∀ x c,X.env.cells.lookup x=↑c->c≠b)/\∀ p∈X.pn++E6,p.1≠b)
  (keep:∀ b o,b≠X.env.locals->b∉X.fs->b∉ch->s.heap.get? b=↑o->H b=none->h'.get? b=↑o)
  (slot:∀ b o,b≠X.env.locals->b∈X.fs->b∉ch->s.heap.get? b=↑o->H b=none->∃ sl,h'.get? b=↑{ o with slots:=sl }) (free:∀ b o,b∉ch->s.heap.get? b=↑o->H b=none->H' b=none)
  (there:∀ b o,b∉ch->s.heap.get? b=↑o->∃ o',h'.get? b=↑o')
  (vj:∀ b xs,H b=↑(.tup xs)->H' b=↑(.tup xs)) (vH:∀ b o u,H b=↑(.wa o u)->H' b=↑(.wa o u)) (vX:∀ b ps,H b=↑(.r_ ps)->∃ more,H' b=↑(.r_ (ps++more)))
  (ns:∀ m,s.heap.Ns X.env.locals m->h'.Ns X.env.locals m) (zp:yd X.prog X.w H' h') (hg:AllBare g'):
  Inv X E6 Y H' { s with heap:=h',gens:=g',drawn:=d',toks:=t' }:=by
 have neL:∀ b o,X.s₀.heap.get? b=↑o->b≠X.env.locals:=λ b o e=>AB (Bc (Ap e) I.ok.above);have JW:∀ b o,X.s₀.heap.get? b=↑o->b∉X.ex->b∉ch:=λ b o e hx hb=>by
  rcases (B6 b hb).1 with z | z
  .show hx z
  .show absurd (Bc (Ap e) z) (Ca _)
 have cellK:∀ x c,X.env.cells.lookup x=↑c->∀ v,s.heap.IsCell c v->h'.IsCell c v:=λ x c e v #[o,ho,hd]=>by
  have Jq:c∉ch:=λ z=>(B6 c z).2.2.1 x c e rfl;by_cases hc:c∈X.fs
  .let#[sl,q]:=slot c o (I.uK x c e) hc Jq ho (I.vf x c e);show#[_,q,hd]
  .show#[o,keep c o (I.uK x c e) hc Jq ho (I.vf x c e),hd]
 exact#[I.ok,I.os,hg,#[λ b o e n hb hx=>?_,λ b o e n hb hx=>?_,λ b o e n hx=>?_,λ b o e hx=>?_,λ b xs e=>vj b xs (I.base.vj b xs e),λ b o xs e=>vH b o xs (I.base.vH b o xs e),λ b ps e=>?_],?_,λ x c e=>?_,?_,λ x c e=>?_,λ p hp=>?_,zp,I.len]
 .show keep b o (neL b o e) hb (JW b o e hx) (I.base.keep b o e n hb hx) (I.base.free b o e n hx)
 .let#[sl,e1]:=I.base.slot b o e n hb hx;let#[K_,e2]:=slot b _ (neL b o e) hb (JW b o e hx) e1 (I.base.free b o e n hx);show#[K_,e2]
 .let#[o',e1]:=I.base.there b o e hx;show free b o' (JW b o e hx) e1 (I.base.free b o e n hx)
 .let#[o',e1]:=I.base.there b o e hx;show there b o' (JW b o e hx) e1
 .let#[m1,e1]:=I.base.vX b ps e;let#[m2,e2]:=vX b _ e1;show#[m1++m2,by rw[e2,Ek]]
 .let#[m,hn,hl]:=I.loc;exact#[m,ns m hn,λ i x v e1 e2 e3=>?_];let#[u,r,l]:=hl i x v e1 e2 e3;exact#[u,r,?_];rcases l with l | ⟨k,c,e,z⟩
  .show .inl l
  .show .inr #[k,c,e,cellK x c e _ z]
 .let#[v,z]:=I.cell x c e;show#[v,cellK x c e v z]
 .let#[m,#[o,_,_,ho,_],_]:=I.loc;show free _ o (λ z=>(B6 _ z).2.1 rfl) ho I.free
 .let#[v,o,ho,hd]:=I.cell x c e;show free c o (λ z=>(B6 c z).2.2.1 x c e rfl) ho (I.vf x c e)
 .let#[e,n,ne,nf,d]:=I.pin p hp;have Jq:p.1∉ch:=λ z=>(B6 p.1 z).2.2.2 p hp rfl;show#[keep p.1 p.2 ne nf Jq e n,free p.1 p.2 Jq e n,ne,nf,d]
theorem Inv.un {t':Nat}(I:Inv X E6 Y H s) (u:Un X.fs [] H H' s.heap h') (zp:yd X.prog X.w H' h'):Inv X E6 Y H' { s with heap:=h',toks:=t' }:=by
 let#[m,#[o,es,ep,ho,r],_]:=id I.loc;let#[sl,hL]:=u.any ho I.free #[];show I.step (g':=s.gens) (d':=s.drawn) (ch:=[]) (λ _ z=>nomatch z) (λ b o _ hb _ e n=>u.keep b o e n hb #[]) (λ b o _ hb _ e n=>u.slot b o e n hb #[]) (λ b o _ e n=>u.free b o e n #[]) (λ b o _ e=>u.there b o e #[]) u.vj u.vH u.vX (λ m' hm=>by
  let#[o',Gi,ep',FQ,r']:=hm;rw[ho] at FQ;cases FQ;show#[_,Gi,ep',hL,r']) zp I.bare
def Inv.call {g':Array GenState}{t':Nat}{d':Drawn}{ch:List Addr}(I:Inv X E6 Y H s) (u:Un (yP X.stack) ch H H' s.heap h') (zp:yd X.prog X.w H' h') (hg:AllBare g')
  (B6:∀ b∈ch,(b∈X.ex\/X.s₀.heap.objs.size<=b)/\b≠X.env.locals/\(∀ x c,X.env.cells.lookup x=↑c->c≠b)/\∀ p∈X.pn++E6,p.1≠b):
  Inv X E6 Y H' { s with heap:=h',gens:=g',drawn:=d',toks:=t' }:=by
 let#[m,#[o,es,ep,ho,r],_]:=id I.loc;let#[sl,hL]:=u.any ho I.free λ z=>(B6 _ z).2.1 rfl;show I.step (ch:=ch) B6 (λ b o hL hb hc e n=>u.keep b o e n (λ z=>(Am.mp (I.jF b z)).elim hL hb) hc) (λ b o _ _ hc e n=>u.any e n hc) (λ b o hc e n=>u.free b o e n hc) (λ b o hc e=>u.there b o e hc) u.vj u.vH u.vX (λ m' hm=>by
  let#[o',Gi,ep',FQ,r']:=hm;rw[ho] at FQ;cases FQ;show#[_,Gi,ep',hL,r']) zp hg
def Inv.turned {t':Nat}{it:Addr}(I:Inv X E6 Y H s) (k:∀ b o,b≠it->s.heap.get? b=↑o->h'.get? b=↑o) (hn:H it=none) (hL:it≠X.env.locals)
  (h1:it∈X.ex\/X.s₀.heap.objs.size<=it) (h2:∀ x c,X.env.cells.lookup x=↑c->c≠it) (h3:∀ p∈X.pn++E6,p.1≠it):Inv X E6 Y H { s with heap:=h',toks:=t' }:=by
 have Jp:∀ b u,H b=↑u->b≠it:=λ b u e z=>by rw[z,hn] at e;cases e
 exact I.step (g':=s.gens) (d':=s.drawn) (ch:=[it]) (λ b hb=>?_) (λ b o _ _ hc e _=>k b o (λ z=>hc (by simp[z])) e) (λ b o _ _ hc e _=>#[o.slots,k b o (λ z=>hc (by simp[z])) e]) (λ _ _ _ _ n=>n)
  (λ b o hc e=>#[o,k b o (λ z=>hc (by simp[z])) e]) (λ _ _ e=>e) (λ _ _ _ e=>e) (λ b ps e=>#[[].toArray,by rw[e];simp]) (λ m hm=>?_) (λ b u e=>?_) I.bare
 .have e:b=it:=by exists hb
  subst e;show#[h1,hL,h2,h3]
 .let#[o,es,ep,ho,r]:=hm;show#[o,es,ep,k _ o (Ne.symm hL) ho,r]
 .exact (I.zp b u e).vm (λ c v hc q=>k c v ?_ q) (λ _ q=>q) λ _ _ q=>q;rcases hc with z | z
  .rw[z];show Jp b u e
  .show Jp c _ z
def Inv.tok (I:Inv X E6 Y H s) (t:Nat):Inv X E6 Y H { s with toks:=t }:=I.un (h':=s.heap) (t':=t) Un.refl I.zp
theorem Inv.kept {t':Nat}(I:Inv X E6 Y H s) (k:∀ b u,s.heap.get? b=↑u->h'.get? b=↑u):Inv X E6 Y H { s with heap:=h',toks:=t' }:=I.un (Un.kept k) (I.zp.kept k)
theorem Inv.laid {a:Addr}{o:HO}{t':Nat}(I:Inv X E6 Y H s) (k:∀ b u,s.heap.get? b=↑u->h'.get? b=↑u) (hp:s.heap.objs.size<=a) (new:yW X.prog X.w (upd H a o) h' a o):
  Inv X E6 Y (upd H a o) { s with heap:=h',toks:=t' }:=I.un (Un.laid k hp (I.zp.fresh hp)) (I.zp.laid k hp new)
theorem Inv.write {x e:Addr}{o:HO}{t':Nat}(I:Inv X E6 Y H s) (mu:m9 (H x)) (he:e=x\/H e=↑(.own x)) (k:∀ b u,b≠e->s.heap.get? b=↑u->h'.get? b=↑u) (Ce:∃ u,h'.get? e=↑u)
  (new:yW X.prog X.w (upd H x o) h' x o):Inv X E6 Y (upd H x o) { s with heap:=h',toks:=t' }:=I.un (Un.write mu he k Ce) (I.zp.write mu he k Ce new)
def Inv.jY {FH:Ai}(I:Inv X E6 Y H s) (h:∀ p∈FH,s.heap.get? p.1=↑p.2/\H p.1=none/\p.1≠X.env.locals/\p.1∉X.fs/\∀ v,p.2.data≠.cell v):Inv X FH Y H s:=
 #[I.ok,I.os,I.bare,I.base,I.loc,I.cell,I.free,I.vf,λ p hp=>(A1.mp hp).elim (λ z=>I.pin p (Cu _ z)) (h p),I.zp,I.len]
def ix {N:List Str}(hN:N.Nodup) {i j:Nat}{x:Str}(a:N[i]?=↑x) (b:N[j]?=↑x):i=j:=by
 let#[h1,e1]:=AX.mp a;let#[h2,e2]:=AX.mp b;show (List.getElem_inj hN).mp (e1.trans e2.symm)
def WZ {M:Model}{A:Around}{E:Af}{i:Nat}{x:Str}{v:V}{u:Value}{Q:Unit->Shared->Prop}(I:Inv X E6 Y H s) (hN:X.N.Nodup) (hi:X.N[i]?=↑x) (hx:Loc X.env.scope x) (r:RelV v u)
  (h:∀ s',Inv X E6 (Y.set i ↑v) H s'->(∃ a,Heap.SameBut a s.heap s'.heap/\(a=X.env.locals\/X.env.cells.lookup x=↑a))->Q Unit.unit s') (hf:X.fn x=true\/X.env.scope.names.lookup x=↑.local:=by first | show .inl rfl | show .inr rfl | assumption):wpAny M A (storeName X.env x u) Q E s:=by
 let#[m,hn,hl]:=id I.loc;have Bg:(X.env.scope.kind == .class||(X.env.scope.kind == .module&&X.env.locals != X.env.globals))=false:=by rw[I.ok.kind];rfl
 have hiσ:i < Y.length:=by rw[I.len];show (AX.mp hi).1
 have uK:=I.uK;have tracked:∀ {a:Addr}{h':Heap},(∃ o,s.heap.get? a=↑o/\H a=none)->Heap.SameBut a s.heap h'->yd X.prog X.w H h':=λ{a h'} ha hs b ob e=>by
  let#[_,_,Ic]:=ha;exact (I.zp b ob e).vm (λ c w' hc q=>(hs.2 c ?_).trans q) (λ _ q=>q) λ _ _ q=>q;rintro rfl;rcases hc with rfl | hc
  .rw[Ic] at e;cases e
  .rw[Ic] at hc;cases hc
 rcases hx with hk | hk
 .exact wpAny_storeName_local hk hn (λ h' GU hs=>?_) Bg;let#[oL,_,_,JB,_]:=id hn;exact h _ #[I.ok,I.os,I.bare,#[λ b o e n hb hx=>?_,λ b o e n hb hx=>?_,I.base.free,λ b o e hx=>?_,I.base.vj,I.base.vH,I.base.vX],#[_,GU,λ j y v' e1 e2 e3=>?_],λ y c e=>?_,I.free,I.vf,λ p hp=>?_,tracked #[oL,JB,I.free] hs,by exists I.len] #[_,hs,.inl rfl]
  .show (hs.2 b (AB (Bc (Ap e) I.ok.above))).trans (I.base.keep b o e n hb hx)
  .let#[sl,e1]:=I.base.slot b o e n hb hx;show#[sl,(hs.2 b (AB (Bc (Ap e) I.ok.above))).trans e1]
  .let#[o',e1]:=I.base.there b o e hx;show#[o',(hs.2 b (AB (Bc (Ap e) I.ok.above))).trans e1]
  .by_cases hj:j=i
   .subst hj;rw[hi] at e1;cases e1;rw[Ej hiσ] at e2;cases e2;show#[u,r,.inl #[hk,#[]]]
   .rw[Eh (Ne.symm hj)] at e2;let#[u',r',q]:=hl j y v' e1 e2 e3;exact#[u',r',?_];rcases q with ⟨k,e⟩ | ⟨k,c,e,z⟩
    .exact .inl #[k,?_];have:y≠x:=λ e=>hj (ix hN e1 (e▸hi));simp[this,e]
    .show .inr #[k,c,e,z.sameBut hs (uK y c e)]
  .let#[w',z]:=I.cell y c e;show#[w',z.sameBut hs (uK y c e)]
  .let#[e,n,ne,nf,d]:=I.pin p hp;show#[(hs.2 p.1 ne).trans e,n,ne,nf,d]
 .have B2:X.fn x=true:=by
   rcases hf with z | z
   .show z
   .rw[z] at hk;cases hk
  let#[c,hc]:=I.ok.has x (.inl hk);let#[w',z]:=I.cell x c hc;exact wpAny_storeName_cell I.ok.kind hk hc z (λ h' GL hs=>?_);let#[oc,hoc,EH]:=id z;exact h { s with heap:=h' } #[I.ok,I.os,I.bare,#[λ b o e n hb hx=>?_,λ b o e n hb hx=>?_,I.base.free,λ b o e hx=>?_,I.base.vj,I.base.vH,I.base.vX],#[m,hn.sameBut hs (Ne.symm (uK x c hc)),λ j y v' e1 e2 e3=>?_],λ y c' e=>?_,I.free,I.vf,λ p hp=>?_,tracked #[oc,hoc,I.vf x c hc] hs,by exists I.len] #[c,hs,.inr hc]
  .show (hs.2 b (AB (Bc (Ap e) (I.ok.qB x c B2 hc)))).trans (I.base.keep b o e n hb hx)
  .let#[sl,e1]:=I.base.slot b o e n hb hx;show#[sl,(hs.2 b (AB (Bc (Ap e) (I.ok.qB x c B2 hc)))).trans e1]
  .let#[o',e1]:=I.base.there b o e hx;show#[o',(hs.2 b (AB (Bc (Ap e) (I.ok.qB x c B2 hc)))).trans e1]
  .by_cases hj:j=i
   .subst hj;rw[hi] at e1;cases e1;rw[Ej hiσ] at e2;cases e2;show#[u,r,.inr #[.inl hk,c,hc,GL]]
   .rw[Eh (Ne.symm hj)] at e2;let#[u',r',q]:=hl j y v' e1 e2 e3;exact#[u',r',?_];rcases q with q | ⟨k,c',e,z'⟩
    .show .inl q
    .exact .inr #[k,c',e,z'.sameBut hs ?_];rintro rfl;show hj (ix hN e1 (I.ok.inj _ _ _ e hc▸hi))
  .by_cases BJ:c'=c
   .subst BJ;show#[_,GL]
   .let#[w2,z2]:=I.cell y c' e;show#[w2,z2.sameBut hs BJ]
  .let#[e,n,ne,nf,d]:=I.pin p hp;exact#[(hs.2 p.1 ?_).trans e,n,ne,nf,d];intro q;rw[q,hoc] at e;have q':oc=p.2:=Bb e;show d w' (by rw[<- q'];show EH)
def lx {M:Model}{A:Around}{E:Af}{i:Nat}{x:Str}{v:V}{u:Value}{Q:Unit->Shared->Prop}(I:Inv X E6 Y H s) (hN:X.N.Nodup) (hi:X.N[i]?=↑x) (hx:Loc X.env.scope x) (r:RelV v u)
  (h:∀ s',Inv X E6 (Y.set i ↑v) H s'->Q Unit.unit s') (hf:X.fn x=true\/X.env.scope.names.lookup x=↑.local:=by first | show .inl rfl | show .inr rfl | assumption):wpAny M A (storeName X.env x u) Q E s:=
 WZ I hN hi hx r (λ s' I' _=>h s' I') hf
def Inv.ZE {s':Shared}{ch:List Addr}(I:Inv X E6 Y H s) (ho:s'.os=s.os) (u:Un (yP X.stack) ch H H' s.heap s'.heap) (zp:yd X.prog X.w H' s'.heap) (hg:AllBare s'.gens)
  (B6:∀ b∈ch,(b∈X.ex\/X.s₀.heap.objs.size<=b)/\b≠X.env.locals/\(∀ x c,X.env.cells.lookup x=↑c->c≠b)/\∀ p∈X.pn++E6,p.1≠b):Inv X E6 Y H' s':=by
 let#[h',g',d',t',o']:=s';have e:o'=s.os:=ho;subst e;show I.call (g':=g') (t':=t') (d':=d') u zp hg B6
end
abbrev XK:=Value->Option Addr->Hp->Prop
abbrev St:=List (Option V)
abbrev VK:=V->Hp->Prop
abbrev TE:=St->Hp->VK->Prop
abbrev TT:=St->Hp->(Bool->Hp->Prop)->Prop
abbrev TA:=St->Hp->(List V->Hp->Prop)->Prop
structure Ends where
 nx:St->Hp->Prop
 rt:VK
 bk:St->Hp->Prop:=λ _ _=>False
 ct:St->Hp->Prop:=λ _ _=>False
abbrev TS:=Ends->St->Hp->Prop
def EP (X:Cx) (E6:Ai) (Y:St) (Q:VK) (u:Value) (s':Shared):Prop:=∃ v H',Inv X E6 Y H' s'/\RelV v u/\Q v H'
def TP (X:Cx) (E6:Ai) (Y:St) (Q:Bool->Hp->Prop) (b:Bool) (s':Shared):Prop:=∃ H',Inv X E6 Y H' s'/\Q b H'
def AP (X:Cx) (E6:Ai) (Y:St) (Q:List V->Hp->Prop) (us:Ae) (s':Shared):Prop:=∃ vs H',Inv X E6 Y H' s'/\Vals vs us/\Q vs H'
def SP (X:Cx) (E6:Ai) (D:Ends) (f:Flow) (s':Shared):Prop:=
 match f with
 | .next=>∃ Y' H',Inv X E6 Y' H' s'/\D.nx Y' H'
 | .brk=>∃ Y' H',Inv X E6 Y' H' s'/\D.bk Y' H'
 | .cont=>∃ Y' H',Inv X E6 Y' H' s'/\D.ct Y' H'
 | .ret u=>∃ v Y' H',Inv X E6 Y' H' s'/\RelV v u/\D.rt v H'
def PE (X:Cx) (e:Expr) (t:TE):Prop:=
 ∀ (E6:Ai) (s:Shared) (Y:St) (H:Hp) (Q:VK),Inv X E6 Y H s->t Y H Q->wpAny (model X.prog X.w) X.A (eval e X.env) (EP X E6 Y Q) X.xe s
def PT (X:Cx) (e:Expr) (t:TT):Prop:=
 ∀ (E6:Ai) (s:Shared) (Y:St) (H:Hp) (Q:Bool->Hp->Prop),Inv X E6 Y H s->t Y H Q->wpAny (model X.prog X.w) X.A (isTrue e X.env (eval e X.env)) (TP X E6 Y Q) X.xe s
def PW (X:Cx) (e:Expr) (t:TT):Prop:=
 ∀ (whole:Sem Value) (E6:Ai) (s:Shared) (Y:St) (H:Hp) (Q:Bool->Hp->Prop),Inv X E6 Y H s->t Y H Q->wpAny (model X.prog X.w) X.A (isTrue e X.env whole) (TP X E6 Y Q) X.xe s
def PW.pt {X:Cx}{e:Expr}{t:TT}(h:PW X e t):PT X e t:=h _
def PA (X:Cx) (es:List Expr) (t:TA):Prop:=
 ∀ (pos:Pos) (E6:Ai) (s:Shared) (Y:St) (H:Hp) (Q:List V->Hp->Prop),Inv X E6 Y H s->t Y H Q->wpAny (model X.prog X.w) X.A (spliced (backTo pos (starEach es X.env))) (AP X E6 Y Q) X.xe s
def PS (X:Cx) (st:Stmt) (t:TS):Prop:=
 ∀ (E6:Ai) (s:Shared) (Y:St) (H:Hp) (D:Ends),Inv X E6 Y H s->t D Y H->wpAny (model X.prog X.w) X.A (exec st X.env) (SP X E6 D) X.xe s
def xU (X:Cx) (st:List Stmt) (t:TS):Prop:=
 ∀ (E6:Ai) (s:Shared) (Y:St) (H:Hp) (D:Ends),Inv X E6 Y H s->t D Y H->wpAny (model X.prog X.w) X.A (execs st X.env) (SP X E6 D) X.xe s
def zu {α:Type}{t:Sem α}{Q Q':α->Shared->Prop}{M:Model}{A:Around}{E:Af}{s:Shared}(h:wpAny M A t Q E s) (hQ:∀ a s,Q a s->Q' a s):wpAny M A t Q' E s:=za3 h hQ λ _ _ x=>x
section
variable {X:Cx}
def oB (i:Nat):TE:=fun Y H Q=>∃ v,Y[i]?=↑↑v/\Q v H
def tC (v:V):TE:=λ _ H Q=>Q v H
def U0 {i:Nat}{x:Str}{pos:Pos}(hN:X.N[i]?=↑x) (hv:m5 X.env.scope x) (hd:(x == ("__debug__":Str))=false:=by decide) (Ba:(x == ("__classdict__":Str))=false:=by decide):PE X (.Name x pos) (oB i):=by
 intro E6 s Y H Q I h;let#[v,e,h]:=h;let#[m,hn,hl]:=I.loc;let#[u,r,l]:=hl i x v hN e hv;have fin:EP X E6 Y Q u s:=#[v,H,I,r,h];rcases l with ⟨hk,hm⟩ | ⟨hk,c,hc,Ii⟩
 .show wpAny_Name (wpAny_loadName_local I.ok.kind hk hn hm fin) hd
 .rcases hk with hk | hk
  .show wpAny_Name (wpAny_loadName_cell I.ok.kind hk hc Ii fin) hd
  .show wpAny_Name (wpAny_loadName_free I.ok.kind hk hc Ii fin Ba) hd
def UC {i j pos}:PE X (.Constant (.int i) j pos) (tC (.int i)):=λ _ _ _ H _ I h=>wpAny_Constant_int #[.int i,H,I.tok _,#[_,rfl],h]
def UL {b j pos}:PE X (.Constant (.bool b) j pos) (tC (.bl b)):=λ _ _ _ H _ I h=>Constant_bool #[.bl b,H,I,rfl,h]
def U8 {j pos}:PE X (.Constant .none j pos) (tC .zh):=λ _ _ _ H _ I h=>Constant_none #[.zh,H,I,rfl,h]
def U3 {x j pos}:PE X (.Constant (.str x) j pos) (tC (.str x)):=λ _ _ _ H _ I h=>Calls.Constant_str #[.str x,H,I.tok _,#[_,rfl],h]
def Gl (X:Cx) (x:Str):Prop:=X.env.kindOf x=↑.globalImplicit
def nk {E:Af}{E6:Ai}{s:Shared}{Y:St}{H:Hp}{x:Str}{u:Value}{pos:Pos}{Q:Af}(I:Inv X E6 Y H s) (hg:Gl X x) (hm:X.mg x=↑u) (h:Q u s)
  (hd:(x == ("__debug__":Str))=false:=by decide):wpAny (model X.prog X.w) X.A (eval (.Name x pos) X.env) Q E s:=
 Calls.Name_function_global I.ok.kind hg (Calls.loadGlobal_global (by rw[I.ok.glob];show I.mod.glob.keeps I.bk) hm h) hd
def pF {E:Af}{E6:Ai}{s:Shared}{Y:St}{H:Hp}{x:Str}{u:Value}{pos:Pos}{Q:Af}(I:Inv X E6 Y H s) (hg:Gl X x) (hm:X.mg x=none) (hv:bootBuiltins x=↑u) (h:Q u s)
  (hn:x≠"__name__":=by decide) (hd:(x == ("__debug__":Str))=false:=by decide):wpAny (model X.prog X.w) X.A (eval (.Name x pos) X.env) Q E s:=by
 let#[mb,h1,h2]:=I.mod.blt;show Calls.Name_function_global I.ok.kind hg (Calls.loadGlobal_builtin (by rw[I.ok.glob];show I.mod.glob.keeps I.bk) hm (by rw[I.ok.blt];show h1.keeps I.bk) ((h2 x hn).trans hv) h) hd
def ia {x:Str}{v:V}{u:Value}{pos:Pos}(hg:Gl X x) (hm:X.mg x=↑u) (r:RelV v u) (hd:(x == ("__debug__":Str))=false:=by decide):PE X (.Name x pos) (tC v):=
 λ _ _ _ H _ I h=>nk I hg hm #[v,H,I,r,h] hd
def cB {x:Str}{v:V}{u:Value}{pos:Pos}(hg:Gl X x) (hm:X.mg x=none) (hv:bootBuiltins x=↑u) (r:RelV v u) (hn:x≠"__name__":=by decide) (hd:(x == ("__debug__":Str))=false:=by decide):PE X (.Name x pos) (tC v):=
 λ _ _ _ H _ I h=>pF I hg hm hv #[v,H,I,r,h] hn hd
variable {a b:Expr}{ta tb:TE}{pos:Pos}
variable {tA JU:TT}{E9:List Expr}
def WV (t u:TT):TT:=fun Y H Q=>t Y H λ c H1=>if c=true then u Y H1 Q else Q false H1
def WE (t u:TT):TT:=fun Y H Q=>t Y H λ c H1=>if c=true then Q true H1 else u Y H1 Q
def WH (t:TT):TT:=fun Y H Q=>t Y H λ c H1=>Q (!c) H1
def VG (ha:PT X a tA):PW X (.BoolOp .And [a] pos) tA:=by
 intro wh E6 s Y H Q I h;exact isTrue_and (zu (ha E6 s Y H Q I h) λ c s1 e=>?_);cases c with
 | true=>show isTrue_and_nil e
 | false=>show e
def VE (ha:PT X a tA):PW X (.BoolOp .Or [a] pos) tA:=by
 intro wh E6 s Y H Q I h;exact isTrue_or (zu (ha E6 s Y H Q I h) λ c s1 e=>?_);cases c with
 | false=>show isTrue_or_nil e
 | true=>show e
def VH (ha:PT X a tA) (hb:PW X (.BoolOp .And (b::E9) pos) JU):PW X (.BoolOp .And (a::b::E9) pos) (WV tA JU):=by
 intro wh E6 s Y H Q I h;exact isTrue_and (zu (ha E6 s Y H _ I h) λ c s1 #[H1,I1,q1]=>?_);cases c with
 | true=>show hb wh E6 s1 Y H1 Q I1 q1
 | false=>show#[H1,I1,q1]
def VF (ha:PT X a tA) (hb:PW X (.BoolOp .Or (b::E9) pos) JU):PW X (.BoolOp .Or (a::b::E9) pos) (WE tA JU):=by
 intro wh E6 s Y H Q I h;exact isTrue_or (zu (ha E6 s Y H _ I h) λ c s1 #[H1,I1,q1]=>?_);cases c with
 | true=>show#[H1,I1,q1]
 | false=>show hb wh E6 s1 Y H1 Q I1 q1
def VM (ha:PT X a tA):PT X (.UnaryOp .Not a pos) (WH tA):=by
 intro E6 s Y H Q I h;show isTrue_not (ha E6 s Y H (λ c H1=>Q (!c) H1) I h)
def WU (ta tb:TE):TE:=fun Y H Q=>ta Y H λ x H1=>∃ c,x=.bl c/\if c=true then tb Y H1 Q else Q (.bl false) H1
def WG (ta:TE):TE:=fun Y H Q=>ta Y H λ x H1=>∃ c,x=.bl c/\Q (.bl (!c)) H1
def U6 {op} {t:TE}(h:PE X a t):PE X (.BoolOp op [a] pos) t:=λ E6 s Y H Q I hw=>BoolOp_one (h E6 s Y H Q I hw)
def UM (ha:PE X a ta) (hb:PE X (.BoolOp .And (b::E9) pos) tb):PE X (.BoolOp .And (a::b::E9) pos) (WU ta tb):=by
 intro E6 s Y H Q I h;exact BoolOp_and (zu (ha E6 s Y H _ I h) λ v s1 #[x,H1,I1,r1,q1]=>?_);let#[c,rfl,q1]:=q1;cases r1;exact zaG ?_;cases c with
 | true=>show hb E6 s1 Y H1 Q I1 q1
 | false=>show#[.bl false,H1,I1,rfl,q1]
def U7 (ha:PE X a ta):PE X (.UnaryOp .Not a pos) (WG ta):=by
 intro E6 s Y H Q I h;exact UnaryOp_ (zu (ha E6 s Y H _ I h) λ v s1 #[x,H1,I1,r1,q1]=>?_);let#[c,rfl,q1]:=q1;cases r1;show not_of (zaG #[.bl (!c),H1,I1,rfl,q1])
def WM (t:TT) (ta tb:TE):TE:=fun Y H Q=>t Y H λ c H1=>if c=true then ta Y H1 Q else tb Y H1 Q
def UD {c:Expr}(hc:PT X c tA) (ha:PE X a ta) (hb:PE X b tb):PE X (.IfExp c a b pos) (WM tA ta tb):=by
 intro E6 s Y H Q I h;exact wpAny_IfExp (zu (hc E6 s Y H _ I h) λ d s1 #[H1,I1,q1]=>?_);cases d with
 | true=>show ha E6 s1 Y H1 Q I1 q1
 | false=>show hb E6 s1 Y H1 Q I1 q1
end
def zO (K:Ac) (H:Hp) (a:Addr) (xs:List V):Prop:=
 Rd H a (.lst xs)\/
  ∃ (o:Obj) (Aa:Aw) (n:Nat),K.lookup a=↑o/\o.cls=.type "list"/\o.dict=none/\o.data=.seq Aa n/\Aa.size<=sizeLine/\Vals xs Aa.toList
def zW (K:Ac) (H:Hp) (a:Addr) (xs:List V):Prop:=
 Rd H a (.tup xs)\/
  ∃ (o:Obj) (Aa:Aw) (n:Nat),K.lookup a=↑o/\(o.cls=.type "tuple"/\o.dict=none)/\o.data=.seq Aa n/\Aa.size<=sizeLine/\Vals xs Aa.toList
def Kg:Value->Option V
 | .none=>↑.zh
 | .bool b=>↑(.bl b)
 | .int i _=>↑(.int i)
 | .str x _=>↑(.str x)
 | .bytes b _=>↑(.mj b)
 | .float b _=>↑(.gm b)
 | .ref a=>↑(.ref a)
 | .type n=>↑(.ty n)
 | _=>none
def RelV.abs {x:V}{u:Value}(r:RelV x u):Kg u=↑x:=by
 cases x with
 | zh=>cases r;rfl
 | bl _=>cases r;rfl
 | ref _=>cases r;rfl
 | ty _=>cases r;rfl
 | _=>let#[t,rfl]:=r;rfl
theorem RelV.inj {x y:V}{u:Value}(r:RelV x u) (q:RelV y u):x=y:=Bb (r.abs.symm.trans q.abs)
theorem Vals.inj:∀ {xs ys:List V}{us:Ae},Vals xs us->Vals ys us->xs=ys
 | _,_,_,.nil,.nil=>rfl
 | _,_,_,.cons r t,.cons r' t'=>by rw[r.inj r',Vals.inj t t']
section
variable {X:Cx}{E6:Ai}{Y:St}{H:Hp}{s:Shared}{a:Addr}{xs ys:List V}
def zO.of {K:Ac}(h:H a=↑(.lst xs)):zO K H a xs:=.inl (.inl h)
def zW.of {K:Ac}(h:H a=↑(.tup xs)):zW K H a xs:=.inl (.inl h)
def Inv.list (I:Inv X E6 Y H s) (h:zO X.K H a xs):∃ Aa:List Value,Vals xs Aa/\PlainL s.heap a Aa.toArray/\xs.length<=sizeLine:=by
 rcases h with h | ⟨o,Aa,n,hk,hc,hd,hs,hz,r⟩
 .let#[z,Aa,n,r,e]:=h.ok I.zp;show#[Aa,r,#[_,n,e,rfl,rfl,rfl],z]
 .exact#[Aa.toList,r,#[o,n,I.yo a o hk,hc,hd,by exists hs],?_];have e:=r.length;simp![BH] at e;lia
def Inv.tuple (I:Inv X E6 Y H s) (h:zW X.K H a xs):∃ Aa:List Value,Vals xs Aa/\IsTup s.heap a Aa.toArray/\xs.length<=sizeLine:=by
 rcases h with h | ⟨o,Aa,n,hk,hc,hs,hz,r⟩
 .let#[z,Aa,r,p]:=h.ok I.zp;show#[Aa,r,p,z.1]
 .exact#[Aa.toList,r,#[o,I.yo a o hk,hc.1,n,by exists hs],?_];have e:=r.length;simp![BH] at e;lia
def Inv.iC (I:Inv X E6 Y H s) (h:zO X.K H a xs) (h':zO X.K H a ys):xs=ys:=by
 let#[Aa,r,#[o,n,e,_,_,d],_]:=I.list h;let#[AQ,r',#[o',n',e',_,_,d'],_]:=I.list h';rw[e] at e';cases e';rw[d] at d'
 injection d' with d1 _
 have:Aa=AQ:=by exists congrArg Array.toList d1
 subst this;show r.inj r'
def Inv.j9 (I:Inv X E6 Y H s) (h:zW X.K H a xs) (h':zW X.K H a ys):xs=ys:=by
 let#[Aa,r,#[o,e,_,n,d],_]:=I.tuple h;let#[AQ,r',#[o',e',_,n',d'],_]:=I.tuple h';rw[e] at e';cases e';rw[d] at d'
 injection d' with d1 _
 have:Aa=AQ:=by exists congrArg Array.toList d1
 subst this;show r.inj r'
end
abbrev Cx.uQ (X:Cx) (E:Af):Cx:={ X with xe:=E }
abbrev Cx.xx (X:Cx):Cx:=X.uQ λ _ _=>False
theorem Cx.Ok.uQ {X:Cx}(ok:X.Ok) (E:Af):(X.uQ E).Ok:=
 #[ok.mod,ok.kind,ok.glob,ok.blt,ok.above,ok.inj,ok.has,ok.qB,ok.hd,ok.frames,ok.qV,ok.nL,ok.bs,ok.t5,ok.ql,ok.qv,ok.vn,ok.tV]
def Cx.Ok.qU {X:Cx}{E:Af}(ok:(X.uQ E).Ok):X.Ok:=
 #[ok.mod,ok.kind,ok.glob,ok.blt,ok.above,ok.inj,ok.has,ok.qB,ok.hd,ok.frames,ok.qV,ok.nL,ok.bs,ok.t5,ok.ql,ok.qv,ok.vn,ok.tV]
section
variable {X:Cx}{E6:Ai}{Y:St}{H:Hp}{s:Shared}{E:Af}
theorem Inv.uQ (I:Inv X E6 Y H s) (E:Af):Inv (X.uQ E) E6 Y H s:=#[I.ok.uQ E,I.os,I.bare,I.base,I.loc,I.cell,I.free,I.vf,I.pin,I.zp,I.len]
theorem Inv.qU (I:Inv (X.uQ E) E6 Y H s):Inv X E6 Y H s:=#[I.ok.qU,I.os,I.bare,I.base,I.loc,I.cell,I.free,I.vf,I.pin,I.zp,I.len]
theorem SP.qU {D:Ends}{f:Flow}{s':Shared}(h:SP (X.uQ E) E6 D f s'):SP X E6 D f s':=by
 cases f with
 | ret u=>let#[v,Y',H',I,r,q]:=h;show#[v,Y',H',I.qU,r,q]
 | _=>let#[Y',H',I,q]:=h;show#[Y',H',I.qU,q]
theorem xU.xx {st:List Stmt}{t:TS}(h:xU X.xx st t):xU X st t:=λ E6 s Y H D I hw=>
 za3 (h E6 s Y H D (I.uQ _) hw) (λ _ _ q=>q.qU) λ _ _ z=>False.elim z
end
section
variable {X:Cx}{st:Stmt}{E9:List Stmt}{t u:TS}{e:Expr}{te:TE}{pos:Pos}
def WJ:TS:=λ D Y H=>D.nx Y H
def WA (t u:TS):TS:=λ D Y H=>t { D with nx:=u D } Y H
def VP:xU X [] WJ:=λ _ _ Y H _ I h=>zaJ #[Y,H,I,h]
def VQ (h1:PS X st t) (h2:xU X E9 u):xU X (st::E9) (WA t u):=by
 intro E6 s Y H D I h;exact wpAny_execs_cons (zu (h1 E6 s Y H { D with nx:=u D } I h) λ f s1 q=>?_);cases f with
 | next=>
  let#[Y',H',I',q]:=q;show h2 E6 s1 Y' H' D I' q
 | ret v=>show q
 | _=>show q
def jW (h1:PS X st t):xU X [st] t:=by
 intro E6 s Y H D I h;exact wpAny_execs_cons (zu (h1 E6 s Y H D I h) λ f s1 q=>?_);cases f with
 | next=>show zaJ q
 | ret v=>show q
 | _=>show q
def Inv.quiet {E6:Ai}{Y:St}{H:Hp}{s:Shared}(I:Inv X E6 Y H s):interactive X.env=false:=by simp[interactive,I.ok.kind]
def WO (te:TE):TS:=λ D Y H=>te Y H λ _ H1=>D.nx Y H1
def VY (he:PE X e te) (hs:swapsWith e none pos.line X.env=pure false:=by rfl):PS X (.Expr e pos) (WO te):=by
 intro E6 s Y H D I h;show wpAny_Expr_any (zu (he E6 s Y H _ I h) λ v s1 #[x,H1,I1,r1,q1]=>#[Y,H1,I1,q1]) I.quiet hs
def WC (te:TE):TS:=λ D Y H=>te Y H D.rt
def VV (he:PE X e te):PS X (.Return ↑e pos) (WC te):=by
 intro E6 s Y H D I h;show wpAny_Return_some (zu (he E6 s Y H _ I h) λ v s1 #[x,H1,I1,r1,q1]=>#[x,Y,H1,I1,r1,q1])
def WL (c:TT) (t u:TS):TS:=λ D Y H=>c Y H λ b H1=>if b=true then t D Y H1 else u D Y H1
def VW {c:Expr}{a b:List Stmt}{tc:TT}(hc:PT X c tc) (ha:xU X a t) (hb:xU X b u):PS X (.If c a b pos) (WL tc t u):=by
 intro E6 s Y H D I h;exact wpAny_If (zu (hc E6 s Y H _ I h) λ d s1 #[H1,I1,q1]=>?_);cases d with
 | true=>show ha E6 s1 Y H1 D I1 q1
 | false=>show hb E6 s1 Y H1 D I1 q1
end
abbrev TG:=V->St->Hp->(St->Hp->Prop)->Prop
abbrev sj:=List V->St->Hp->(St->Hp->Prop)->Prop
def PG (X:Cx) (target:Expr) (t:TG):Prop:=
 ∀ (E6:Ai) (s:Shared) (Y:St) (H:Hp) (v:V) (u:Value) (Q:St->Hp->Prop),Inv X E6 Y H s->RelV v u->t v Y H Q->
  wpAny (model X.prog X.w) X.A (assign target X.env u) (λ _ s'=>∃ Y' H',Inv X E6 Y' H' s'/\Q Y' H') X.xe s
def tD (X:Cx) (ts:List Expr) (t:sj):Prop:=
 ∀ (E6:Ai) (s:Shared) (Y:St) (H:Hp) (vs:List V) (us:Ae) (Q:St->Hp->Prop),Inv X E6 Y H s->Vals vs us->t vs Y H Q->
  wpAny (model X.prog X.w) X.A (assignInOrder ((assignEach ts X.env).map (·.2)) us) (λ _ s'=>∃ Y' H',Inv X E6 Y' H' s'/\Q Y' H') X.xe s
abbrev fw:=V->V->V->Hp->(Hp->Prop)->Prop
def Yi (X:Cx) (t:fw):Prop:=
 ∀ (E6:Ai) (s:Shared) (Y:St) (H:Hp) (o i v:V) (ov iv u:Value) (Q:Hp->Prop),Inv X E6 Y H s->RelV o ov->RelV i iv->RelV v u->t o i v H Q->
  wpAny (model X.prog X.w) X.A (setItem ov iv u) (λ _ s'=>∃ H',Inv X E6 Y H' s'/\Q H') X.xe s
section
variable {X:Cx}{pos:Pos}
def pS (i:Nat):TG:=λ v Y H Q=>Q (Y.set i ↑v) H
def Uu {i:Nat}{x:Str}(hN:X.N.Nodup) (hi:X.N[i]?=↑x) (hx:Loc X.env.scope x) (hf:X.fn x=true\/X.env.scope.names.lookup x=↑.local:=by first | show .inl rfl | show .inr rfl | assumption):PG X (.Name x pos) (pS i):=by
 intro E6 s Y H v u Q I r h;show wpAny_assign_Name (lx I hN hi hx r (λ s' I'=>#[_,H,I',h]) hf)
def Md:sj:=λ vs Y H Q=>vs=[]/\Q Y H
def Me (t:TG) (u:sj):sj:=λ vs Y H Q=>∃ v r,vs=v::r/\t v Y H fun Y' H'=>u r Y' H' Q
def Uq:tD X [] Md:=by
 intro E6 s Y H vs us Q I r h;let#[e,h]:=h;subst e;cases r;show assignInOrder_nil #[Y,H,I,h]
def Ur {e:Expr}{es:List Expr}{t:TG}{u:sj}(h1:PG X e t) (h2:tD X es u)
  (hs:(assignEach (e::es) X.env).map (·.2)=assign e X.env::(assignEach es X.env).map (·.2):=by rfl):tD X (e::es) (Me t u):=by
 intro E6 s Y H vs us Q I r h;let#[v,vr,e1,h]:=h;subst e1;cases r with
 | cons r rr=>
  rw[hs];exact assignInOrder_cons (zu (h1 E6 s Y H _ _ _ I r h) λ _ s1 #[Y1,H1,I1,q1]=>?_);show h2 E6 s1 Y1 H1 _ _ Q I1 rr q1
def az (K:Ac) (n:Nat) (t:sj):TG:=λ v Y H Q=>∃ a xs,v=.ref a/\zW K H a xs/\xs.length=n/\t xs Y H Q
def Us {es:List Expr}{k:Nat}{t:sj}{n:Nat}(hc:X.calm=true) (h:tD X es t)
  (hn:(assignEach es X.env).length=n:=by rfl) (AH:(assignEach es X.env).findIdx? (·.1)=none:=by rfl):PG X (.Tuple es k pos) (az X.K n t):=by
 intro E6 s Y H v u Q I r hw;let#[a,xs,e1,hq,hl,hw]:=hw;subst e1;cases r;let#[Aa,rv,ht,hz]:=I.tuple hq;exact assign_Tuple_tuple (I.ok.hd hc) ht (by simp[hn,<- hl,rv.length]) AH λ h' hx=>?_;have I1:Inv X E6 Y H { s with heap:=h' }:=I.kept (t':=s.toks) λ b o e=>hx b o (AB (Ap e)) e;show h E6 _ Y H xs _ Q I1 (by exists rv) hw
def Mc (to ti:TE) (t:fw):TG:=λ v Y H Q=>to Y H λ o H1=>ti Y H1 λ i H2=>t o i v H2 λ H3=>Q Y H3
def Ut {o i:Expr}{to ti:TE}{t:fw}(ho:PE X o to) (hi:PE X i ti) (hs:Yi X t)
  (ha:∀ v,assign (.Subscript o i pos) X.env v=(do
   let ov <- holding [v] (eval o X.env)
   let iv <- holding [v,ov] (eval i X.env)
   standAt pos
   holding [v,ov,iv] (setItem ov iv v)
   release [v,ov,iv] []):=by intro _;rfl):PG X (.Subscript o i pos) (Mc to ti t):=by
 intro E6 s Y H v u Q I r h;rw[ha];exact KW (za6 (zu (ho E6 s Y H _ I h) λ ov s1 #[x,H1,I1,r1,q1]=>?_));exact KW (za6 (zu (hi E6 s1 Y H1 _ I1 q1) λ iv s2 #[y,H2,I2,r2,q2]=>?_));exact KW (wpAny_standAt (KW (za6 (zu (hs E6 s2 Y H2 x y v ov iv u _ I2 r1 r2 r q2) λ _ s3 #[H3,I3,q3]=>?_))));show wpAny_release #[Y,H3,I3,q3]
def lu (te:TE) (g:TG):TS:=λ D Y H=>te Y H λ x H1=>g x Y H1 D.nx
def V_ {tg e:Expr}{te:TE}{g:TG}(he:PE X e te) (hg:PG X tg g) (hs:swapsWithSole [tg] e pos.line X.env=pure false:=by rfl) (hw:swappedStores [tg] e X.env=pure none:=by rfl)
  (h1:(assignEach [tg] X.env).map (·.2)=[assign tg X.env]:=by rfl):PS X (.Assign [tg] e pos) (lu te g):=by
 intro E6 s Y H D I h;exact wpAny_Assign_stores (zu (he E6 s Y H _ I h) λ v s1 #[x,H1,I1,r1,q1]=>?_) hs hw;rw[h1];show zu (hg E6 s1 Y H1 x v _ I1 r1 q1) λ _ s2 q=>q
def cw {i:Nat}{x:Str}{e:Expr}{te:TE}{pos':Pos}(hN:X.N.Nodup) (hi:X.N[i]?=↑x) (hx:Loc X.env.scope x) (he:PE X e te) (hs:swapsWith e ↑(.Name x pos') pos.line X.env=pure false:=by rfl) (hf:X.fn x=true\/X.env.scope.names.lookup x=↑.local:=by first | show .inl rfl | show .inr rfl | assumption):
  PS X (.Assign [.Name x pos'] e pos) (lu te (pS i)):=by
 intro E6 s Y H D I h;exact wpAny_Assign_Name (zu (he E6 s Y H _ I h) λ v s1 #[y,H1,I1,r1,q1]=>?_) hs;show lx I1 hN hi hx r1 (λ s2 I2=>#[_,H1,I2,q1]) hf
def W6 (c:TT) (tb:TS):TS:=λ D Y H=>∃ W:Nat->St->Hp->Prop,(∃ m,W m Y H)/\∀ m Y H,W m Y H->
 c Y H λ b H1=>if b=true then ∃ N:St->Hp->Prop,(∀ Y' H',N Y' H'->∃ m',m'<m/\W m' Y' H')/\tb { D with nx:=N,ct:=N,bk:=D.nx } Y H1 else D.nx Y H1
def VS {c:Expr}{body:List Stmt}{tc:TT}{tb:TS}(hp:PassesOwn (model X.prog X.w) X.A X.env X.xe) (hc:PT X c tc) (hb:xU X body tb):PS X (.While c body [] pos) (W6 tc tb):=by
 intro E6 s Y H D I h;let#[W,#[m0,w0],turn]:=h;exact wpAny_While (codeAny_whileLoop (λ n s'=>∃ Y' H',Inv X E6 Y' H' s'/\W n Y' H') ?_ m0 #[Y,H,I,w0]);rintro n s1 ⟨Y1,H1,I1,w1⟩;exact zaK hp (zu (hc E6 s1 Y1 H1 _ I1 (turn n Y1 H1 w1)) λ b s2 #[H2,I2,q2]=>?_);cases b with
 | true=>
  let#[N,hN,q2]:=q2;rw[if_pos rfl];exact zaK hp (zu (hb E6 s2 Y1 H2 _ I2 q2) λ f s3 q3=>?_);cases f with
  | next=>
   let#[Y3,H3,I3,n3]:=q3;let#[m',hm,w3]:=hN Y3 H3 n3;show#[m',hm,Y3,H3,I3,w3]
  | cont=>
   let#[Y3,H3,I3,n3]:=q3;let#[m',hm,w3]:=hN Y3 H3 n3;show#[m',hm,Y3,H3,I3,w3]
  | brk=>show q3
  | ret v=>show q3
 | false=>
  rw[if_neg BX];show zaJ #[Y1,H2,I2,q2]
end
structure It where
 go:Nat->Hp->Prop
 qS:Nat->Hp->V->Hp->Prop
 stop:Nat->Hp->Prop
def vT (X:Cx) (E6:Ai) (H:Hp) (b:Addr):Prop:=
 H b=none/\b≠X.env.locals/\b∉X.fs/\(b∈X.ex\/X.s₀.heap.objs.size<=b)/\(∀ x c,X.env.cells.lookup x=↑c->c≠b)/\∀ p∈X.pn++E6,p.1≠b
theorem Inv.kg {X:Cx}{E6:Ai}{Y:St}{H H':Hp}{s:Shared}{b:Addr}(I:Inv X E6 Y H s) (hb:s.heap.objs.size<=b) (hn:H' b=none):vT X E6 H' b:=by
 exact#[hn,BW (Bc I.lt hb),I.ba hb,.inr (Bo I.sz hb),λ x c e z=>?_,λ p hp z=>?_]
 .let#[v,q]:=I.cell x c e;show absurd (Bc q.lt (by rw[z];show hb)) (Ca _)
 .show absurd (Bc (Ap (I.pin p hp).1) (by rw[z];show hb)) (Ca _)
structure Turn (P:Program) (w:World) (K:Ac) (tg:Expr) (J:It) (fp:List Addr) (it:Addr) (tn:Nat->Heap->Prop):Prop where
 mem:it∈fp
 obj:∀ i h,tn i h->∀ b∈fp,∃ o,h.get? b=↑o/\∀ v,o.data≠.cell v
 keep:∀ i h h',tn i h->(∀ b∈fp,∀ o,h.get? b=↑o->h'.get? b=↑o)->tn i h'
 item:∀ (X:Cx),X.prog=P->X.w=w->X.K=K->X.calm=true->∀ (i:Nat) (E6:Ai) (s:Shared) (Y:St) (H:Hp) (E:Af),Inv X E6 Y H s->(∀ b∈fp,vT X E6 H b)->tn i s.heap->J.go i H->
  wpAny (model P w) X.A (pyNext (.ref it)) (λ r s1=>∃ u,r=↑u/\
   wpAny (model P w) X.A (letOwnedTupleGo tg (.ref it) u) (λ _ s2=>∃ x H',Inv X E6 Y H' s2/\RelV x u/\J.qS i H x H'/\tn (i+1) s2.heap/\∀ b∈fp,H' b=none) E s1) E s
 done:∀ (X:Cx),X.prog=P->X.w=w->X.K=K->X.calm=true->∀ (i:Nat) (E6:Ai) (s:Shared) (Y:St) (H:Hp) (E:Af),Inv X E6 Y H s->(∀ b∈fp,vT X E6 H b)->tn i s.heap->J.stop i H->
  wpAny (model P w) X.A (pyNext (.ref it)) (λ r s1=>r=none/\Inv X E6 Y H s1) E s
 self:∀ (A:Around) (i:Nat) (s:Shared) (Q:Af) (E:Af),tn i s.heap->Q (.ref it) s->wpAny (model P w) A (pyIter (.ref it)) Q E s
abbrev TI:=St->Hp->(It->Hp->Prop)->Prop
def Yj (X:Cx) (E6:Ai) (Y:St) (tg:Expr) (R:It->Hp->Prop) (JY:Value) (s2:Shared):Prop:=
 ∃ (it:Addr) (fp:List Addr) (tn:Nat->Heap->Prop) (J:It) (H':Hp),JY=.ref it/\Inv X E6 Y H' s2/\Turn X.prog X.w X.K tg J fp it tn/\tn 0 s2.heap/\(∀ b∈fp,vT X E6 H' b)/\R J H'
def PI (X:Cx) (tg iter:Expr) (wi:TI):Prop:=
 ∀ (E6:Ai) (s:Shared) (Y:St) (H:Hp) (R:It->Hp->Prop),Inv X E6 Y H s->wi Y H R->
  wpAny (model X.prog X.w) X.A (eval iter X.env) (λ v s1=>wpAny (model X.prog X.w) X.A (pyIter v) (Yj X E6 Y tg R) X.xe s1) X.xe s
def hJ {M:Model}{A:Around}{E:Af}{s:Shared}{tg:Expr}{it:Addr}{u:Value}{o:Obj}{n:String}{vs:Aw}{Q:Unit->Shared->Prop}(ho:s.heap.get? it=↑o) (hc:o.cls=.type n) (hd:o.data=.fields vs)
  (hn:["enumerate","zip","dict_itemiterator","dict_reverseitemiterator","odict_iterator","itertools.zip_longest","itertools.pairwise"].contains n=false) (hQ:Q Unit.unit s):wpAny M A (letOwnedTupleGo tg (.ref it) u) Q E s:=by
 unfold letOwnedTupleGo;cases tg <;> first
  | show Ad hQ
  | (cases u <;> first
    | show Ad hQ
    | (exact KW (wpAny_load ho ?_)
       rw[hc,hd];change wpAny M A (if (["enumerate","zip","dict_itemiterator","dict_reverseitemiterator","odict_iterator","itertools.zip_longest","itertools.pairwise"].contains n&&vs[0]? == ↑(rawInt _))=true then _ else _) Q E s;rw[if_neg (by intro h;rw[hn,Bool.false_and] at h;cases h)];show Ad hQ))
def Yq (K:Ac) (a:Addr):It:=
 #[λ i H=>∃ xs x,zO K H a xs/\xs[i]?=↑x,λ i H x H'=>H'=H/\∀ xs,zO K H a xs->xs[i]?=↑x,λ i H=>∃ xs,zO K H a xs/\xs.length<=i]
def Yp (K:Ac) (a:Addr):It:=
 #[λ i H=>∃ xs x,zW K H a xs/\xs[i]?=↑x,λ i H x H'=>H'=H/\∀ xs,zW K H a xs->xs[i]?=↑x,λ i H=>∃ xs,zW K H a xs/\xs.length<=i]
def je (lo:Int) (n:Nat):It:=#[λ i _=>i<n,λ i H x H'=>H'=H/\x=.int (lo+i),λ i _=>n<=i]
def Wu {P:Program}{w:World}{K:Ac}{tg:Expr}(a it:Addr):Turn P w K tg (Yq K a) [it] it (λ i h=>h.IsListIter it a i) where
 mem:=#[]
 obj:=λ i h st b hb=>by
  have e:b=it:=by exists hb
  subst e;let#[o,e,c,d]:=st;show#[o,e,λ v z=>by rw[d] at z;cases z]
 keep:=λ i h h' st k=>st.at λ o e=>k it #[] o e
 item:=by
  intro X hP hw hK hc i E6 s Y H E I hf st hg;subst hP hw hK;let#[xs,x,hq,hx]:=hg;let#[Aa,rv,p,hz]:=I.list hq;let#[u,hu,ru]:=rv.get hx;let#[f0,f1,f2,f3,f4,f5]:=hf it #[];exact wpAny_pyNext_list_item st p.isList (x:=u) (by exists hu) λ h' GQ sb=>?_;have I1:Inv X E6 Y H { s with heap:=h' }:=I.turned (t':=s.toks) (λ b o hb e=>(sb.2 b hb).trans e) f0 f1 f3 f4 f5;let#[o,e,c,d]:=id GQ;show#[u,rfl,hJ (s:={ s with heap:=h' }) e c d () #[x,H,I1,ru,#[rfl,λ ys hy=>by rw[I.iC hy hq];show hx],GQ,λ b hb=>(hf b hb).1]]
 done:=by
  intro X hP hw hK hc i E6 s Y H E I hf st hg;subst hP hw hK;let#[xs,hq,hx]:=hg;let#[Aa,rv,p,hz]:=I.list hq;let#[f0,f1,f2,f3,f4,f5]:=hf it #[];have hl:=rv.length;show wpAny_pyNext_list_end (I.ok.hd hc) st p.isList (by simp;lia) λ h' eb=>#[rfl,I.turned (t':=s.toks) (λ b o hb e=>eb b o hb e) f0 f1 f3 f4 f5]
 self:=λ _ _ _ _ _ st h=>wpAny_pyIter_listiter st h
def Ws {P:Program}{w:World}{K:Ac}{tg:Expr}(a it:Addr):Turn P w K tg (Yp K a) [it] it (λ i h=>h.IsTupleIter it a i) where
 mem:=#[]
 obj:=λ i h st b hb=>by
  have e:b=it:=by exists hb
  subst e;let#[o,e,c,d]:=st;show#[o,e,λ v z=>by rw[d] at z;cases z]
 keep:=λ i h h' st k=>st.at λ o e=>k it #[] o e
 item:=by
  intro X hP hw hK hc i E6 s Y H E I hf st hg;subst hP hw hK;let#[xs,x,hq,hx]:=hg;let#[Aa,rv,p,hz]:=I.tuple hq;let#[u,hu,ru]:=rv.get hx;let#[f0,f1,f2,f3,f4,f5]:=hf it #[];exact wpAny_pyNext_tuple_item st (show s.heap.IsTuple a Aa.toArray from p) (x:=u) (by exists hu) λ h' GQ sb=>?_;have I1:Inv X E6 Y H { s with heap:=h' }:=I.turned (t':=s.toks) (λ b o hb e=>(sb.2 b hb).trans e) f0 f1 f3 f4 f5;let#[o,e,c,d]:=id GQ;show#[u,rfl,hJ (s:={ s with heap:=h' }) e c d () #[x,H,I1,ru,#[rfl,λ ys hy=>by rw[I.j9 hy hq];show hx],GQ,λ b hb=>(hf b hb).1]]
 done:=by
  intro X hP hw hK hc i E6 s Y H E I hf st hg;subst hP hw hK;let#[xs,hq,hx]:=hg;let#[Aa,rv,p,hz]:=I.tuple hq;let#[f0,f1,f2,f3,f4,f5]:=hf it #[];have hl:=rv.length;show wpAny_pyNext_tuple_end (I.ok.hd hc) st (show s.heap.IsTuple a Aa.toArray from p) (by simp;lia) λ h' eb=>#[rfl,I.turned (t':=s.toks) (λ b o hb e=>eb b o hb e) f0 f1 f3 f4 f5]
 self:=λ _ _ _ _ _ st h=>wpAny_pyIter_tupleiter st h
def Wt {P:Program}{w:World}{K:Ac}{tg:Expr}(it:Addr) (lo:Int) (n:Nat):Turn P w K tg (je lo n) [it] it (λ i h=>IsRangeIter h it (lo+(i:Nat)*1) ((n:Int)-(i:Nat)) 1) where
 mem:=#[]
 obj:=λ i h st b hb=>by
  have e:b=it:=by exists hb
  subst e;show#[_,st,λ v z=>by
   have z':Data.fields _=Data.cell v:=z;cases z']
 keep:=λ i h h' st k=>k it #[] _ st
 item:=by
  intro X hP hw hK hc i E6 s Y H E I hf st hg;subst hP hw hK;let#[f0,f1,f2,f3,f4,f5]:=hf it #[];have W:=Walks.range (prog:=X.prog) (w:=X.w) (I.ok.hd hc) it lo 1 n;exact W.item i s _ _ hg st λ v h' tk hv GQ kk=>?_;let#[t,rfl]:=hv;have I1:Inv X E6 Y H { s with heap:=h',toks:=tk }:=I.turned (λ b o hb e=>kk b o (by exists hb) e) f0 f1 f3 f4 f5;exact#[_,rfl,hJ (s:={ s with heap:=h',toks:=tk }) (n:="range_iterator") GQ rfl rfl () #[.int (lo+i),H,I1,#[t,?_],#[rfl,rfl],GQ,λ b hb=>(hf b hb).1]];rw[Int.mul_one]
 done:=by
  intro X hP hw hK hc i E6 s Y H E I hf st hg;subst hP hw hK;let#[f0,f1,f2,f3,f4,f5]:=hf it #[];show wpAny_pyNext_range_end (I.ok.hd hc) st (by have:n<=i:=hg;lia) λ h' eb=>#[rfl,I.turned (t':=s.toks) (λ b o hb e=>eb b o hb e) f0 f1 f3 f4 f5]
 self:=λ _ _ _ _ _ st h=>wpAny_pyIter_rangeiter st h
section
variable {X:Cx}{tg:Expr}
def V8 {E6:Ai}{Y:St}{H:Hp}{s:Shared}{R:It->Hp->Prop}{E:Af}{lo hi:Int}{t u v:Tok}{tk:Nat}(I:Inv X E6 Y H s) (h1:-(2 ^ 62)<=lo) (h2:lo<2 ^ 62) (h3:-(2 ^ 62)<=hi) (h4:hi<2 ^ 62)
  (q:R (je lo (hi-lo).toNat) H):wpAny (model X.prog X.w) X.A (pyIter (.ref s.heap.objs.size)) (Yj X E6 Y tg R) E { s with heap:=s.heap.push { cls:=.type "range",data:=.fields [.int lo t,.int hi u,.int 1 v].toArray },toks:=tk }:=by
 exact wpAny_pyIter_range (IsRange.new ..) (small_one h1 h2 h3 h4) ?_;have I1:Inv X E6 Y H { s with heap:=s.heap.push { cls:=.type "range",data:=.fields [.int lo t,.int hi u,.int 1 v].toArray },toks:=tk }:=I.kept λ b o e=>gV _ e;exact#[(s.heap.push { cls:=.type "range",data:=.fields [.int lo t,.int hi u,.int 1 v].toArray }).objs.size,[(s.heap.push { cls:=.type "range",data:=.fields [.int lo t,.int hi u,.int 1 v].toArray }).objs.size],_,_,H,rfl,
  I1.kept (t':=tk) λ b o e=>gV _ e,Wt _ lo (hi-lo).toNat,?_,λ b hb=>?_,q]
 .have e1:lo+((0:Nat):Int)*1=lo:=#[];have e2:(((hi-lo).toNat:Nat):Int)-((0:Nat):Int)=Builtin.Range.rangeSize lo hi 1:=by rw[rangeSize_one];split <;> lia
  change IsRangeIter _ _ (lo+((0:Nat):Int)*1) ((((hi-lo).toNat:Nat):Int)-((0:Nat):Int)) 1;rw[e1,e2];show AM _ rfl
 .have e:b=(s.heap.push { cls:=.type "range",data:=.fields [.int lo t,.int hi u,.int 1 v].toArray }).objs.size:=by exists hb
  subst e;show I1.kg (Ak _) (I1.zp.fresh (Ak _))
def ao (ta:TA):TI:=fun Y H R=>ta Y H λ vs H1=>∃ j:Int,vs=[.int j]/\-(2 ^ 62)<=j/\j<2 ^ 62/\R (je 0 j.toNat) H1
theorem Um {a:Expr}{ta:TA}{p pos:Pos}(hg:Gl X "range") (hm:X.mg "range"=none) (ha:PA X [a] ta) (hs:starEach [a] X.env=[(false,eval a X.env)]:=by rfl):PI X tg (.Call (.Name "range" p) [a] [] pos) (ao ta):=by
 intro E6 s Y H R I h;exact Call_ (pF I hg hm boot_range (PyProof.Rows.callWith_type1 (zu (ha pos E6 s Y H _ I h) λ us s1 #[vs,H1,I1,r1,q1]=>?_) hs rfl));let#[j,e,q1,q2,q]:=q1;subst e;cases r1 with
 | cons r rr=>
  cases rr;let#[t,rfl]:=r;show call_range_1 (V8 I1 ⋯ ⋯ q1 q2 (by exists q))
def WN (wi:TI) (g:TG) (tb:TS):TS:=λ D Y H=>wi Y H λ J H1=>∃ W:Nat->Nat->St->Hp->Prop,(∃ m,W 0 m Y H1)/\∀ i m Y H,W i m Y H->
 (J.stop i H/\D.nx Y H)\/(J.go i H/\∃ N:St->Hp->Prop,(∀ Y' H',N Y' H'->∃ m',m'<m/\W (i+1) m' Y' H')/\∀ x H',J.qS i H x H'->g x Y H' fun Y2 H2=>tb { D with nx:=N,ct:=N,bk:=D.nx } Y2 H2)
def oU (fp:List Addr) (h:Heap):Ai:=fp.filterMap λ b=>(h.get? b).map λ o=>(b,o)
def lQ {fp:List Addr}{h:Heap}{b:Addr}{o:Obj}(hb:b∈fp) (e:h.get? b=↑o):(b,o)∈oU fp h:=CT.mpr #[b,hb,by rw[e];rfl]
def PZ {fp:List Addr}{h:Heap}{p:Addr×Obj}(hp:p∈oU fp h):p.1∈fp/\h.get? p.1=↑p.2:=by
 let#[b,hb,e]:=CT.mp hp;cases q:h.get? b with
 | none=>rw[q] at e;cases e
 | some o=>
  rw[q] at e;have e':(b,o)=p:=Bb e;subst e';show#[hb,q]
def Inv.pinned {E6:Ai}{Y:St}{H:Hp}{s:Shared}{fp:List Addr}(I:Inv X E6 Y H s) (hf:∀ b∈fp,vT X E6 H b) (ho:∀ b∈fp,∃ o,s.heap.get? b=↑o/\∀ v,o.data≠.cell v):Inv X (E6++oU fp s.heap) Y H s:=
 I.jY λ p hp=>(A1.mp hp).elim (λ z=>I.pin p (A3 _ z)) λ z=>by
  let#[hb,e]:=PZ z;let#[f0,f1,f2,_]:=hf p.1 hb;let#[o,e',d]:=ho p.1 hb;rw[e] at e';cases e';show#[e,f0,f1,f2,d]
def Inv.oA {E6 pl:Ai}{Y:St}{H:Hp}{s:Shared}(I:Inv X (E6++pl) Y H s):Inv X E6 Y H s:=I.jY λ p hp=>I.pin p (A3 _ (Cu _ hp))
def VX {iter:Expr}{body:List Stmt}{wi:TI}{g:TG}{tb:TS}{pos:Pos}(hp:PassesOwn (model X.prog X.w) X.A X.env X.xe) (hc:X.calm=true) (hi:PI X tg iter wi) (hg:PG X tg g) (hb:xU X body tb)
  (hs:∀ x,foldedSetIterable iter X.env x=pure x:=by intro _;rfl):PS X (.For tg iter body [] pos) (WN wi g tb):=by
 intro E6 s Y H D I h;exact wpAny_For (zu (hi E6 s Y H _ I h) λ v s1 h1=>zu h1 λ JY s2 h2=>?_) hs;let#[it,fp,tn,J,H2,e,I2,T,Jj,f2,W,#[m0,w0],turn]:=h2;subst e;have G6:∀ {H':Hp},(∀ b∈fp,H' b=none)->∀ b∈fp,vT X E6 H' b:=λ hn b hb=>#[hn b hb,(f2 b hb).2];exact codeAny_forLoop_any (λ n s'=>∃ i Y' H',Inv X E6 Y' H' s'/\tn i s'.heap/\(∀ b∈fp,H' b=none)/\W i n Y' H') ?_ m0 #[0,Y,H2,I2,Jj,λ b hb=>(f2 b hb).1,w0];rintro n s3 ⟨i,Y3,H3,I3,Ji,JO,w3⟩;rcases turn i n Y3 H3 w3 with ⟨stop,qn⟩ | ⟨go,N,hN,step⟩
 .exact zaK hp (zu (T.done X rfl rfl rfl hc i E6 s3 Y3 H3 X.xe I3 (G6 JO) Ji stop) λ r s4 #[hr,I4]=>?_);subst hr;show zaJ #[Y3,H3,I4,qn]
 .exact zaK hp (zu (T.item X rfl rfl rfl hc i E6 s3 Y3 H3 X.xe I3 (G6 JO) Ji go) λ r s4 #[u,hr,h4]=>?_);subst hr;exact zaK hp (zu h4 λ _ s5 #[x,H5,I5,r5,y5,Iq,fr5]=>?_);have I5':=I5.pinned (G6 fr5) (T.obj _ _ Iq);exact zaK hp (zu (hg _ s5 Y3 H5 x u _ I5' r5 (step x H5 y5)) λ _ s6 #[Y6,H6,I6,q6]=>?_);exact zaK hp (zu (hb _ s6 Y6 H6 _ I6 q6) λ f s7 q7=>?_);have again:∀ {Y7:St}{H7:Hp},Inv X (E6++oU fp s5.heap) Y7 H7 s7->N Y7 H7->∃ m,m<n/\∃ i Y' H',Inv X E6 Y' H' s7/\tn i s7.heap/\(∀ b∈fp,H' b=none)/\W i m Y' H':=λ{Y7 H7} I7 n7=>by
   let#[m',hm,w7]:=hN Y7 H7 n7;exact#[m',hm,i+1,Y7,H7,I7.oA,T.keep _ _ _ Iq λ b hb o e=>(I7.pin (b,o) (A3 _ (A3 _ (lQ hb e)))).1,λ b hb=>?_,w7];let#[o,e,d]:=T.obj _ _ Iq b hb;show (I7.pin (b,o) (A3 _ (A3 _ (lQ hb e)))).2.1
  cases f with
  | brk=>let#[Y7,H7,I7,q7]:=q7;show#[Y7,H7,I7.oA,q7]
  | ret v=>let#[x7,Y7,H7,I7,r7,q7]:=q7;show#[x7,Y7,H7,I7.oA,r7,q7]
  | _=>let#[Y7,H7,I7,n7]:=q7;show again I7 n7
end
abbrev R2:=V->V->Hp->VK->Prop
def zY (X:Cx) (f:Value->Value->Sem Value) (r:R2):Prop:=
 ∀ (E6:Ai) (s:Shared) (Y:St) (H:Hp) (x y:V) (v u:Value) (Q:VK),Inv X E6 Y H s->RelV x v->RelV y u->r x y H Q->
  wpAny (model X.prog X.w) X.A (f v u) (EP X E6 Y Q) X.xe s
def fq (X:Cx) (f:Value->Sem Value) (r:V->Hp->VK->Prop):Prop:=
 ∀ (E6:Ai) (s:Shared) (Y:St) (H:Hp) (x:V) (v:Value) (Q:VK),Inv X E6 Y H s->RelV x v->r x H Q->
  wpAny (model X.prog X.w) X.A (f v) (EP X E6 Y Q) X.xe s
def yD (X:Cx) (f:Value) (r:List V->Hp->VK->Prop):Prop:=
 ∀ (E6:Ai) (s:Shared) (Y:St) (H:Hp) (xs:List V) (us:Ae) (Q:VK),Inv X E6 Y H s->Vals xs us->r xs H Q->
  wpAny (model X.prog X.w) X.A (call f us) (EP X E6 Y Q) X.xe s
def Kh (X:Cx) (r:V->Hp->(Bool->Hp->Prop)->Prop):Prop:=
 ∀ (E6:Ai) (s:Shared) (Y:St) (H:Hp) (x:V) (v:Value) (Q:Bool->Hp->Prop),Inv X E6 Y H s->RelV x v->r x H Q->
  wpAny (model X.prog X.w) X.A (truthy v) (TP X E6 Y Q) X.xe s
def oE (r:R2) (ta tb:TE):TE:=fun Y H Q=>ta Y H λ x H1=>tb Y H1 λ y H2=>r x y H2 Q
def W7 (r:V->Hp->VK->Prop) (ta:TE):TE:=fun Y H Q=>ta Y H λ x H1=>r x H1 Q
def rI (C:Int->Int->Prop) (g:Int->Int->V):R2:=λ x y H Q=>∃ i j,x=.int i/\y=.int j/\C i j/\Q (g i j) H
def w_ (g:Int->Int->V):R2:=λ x y H Q=>∃ i j,x=.int i/\y=.int j/\Q (g i j) H
def rU (g:Int->V):V->Hp->VK->Prop:=λ x H Q=>∃ i,x=.int i/\Q (g i) H
section
variable {X:Cx}{a b:Expr}{ta tb:TE}{pos:Pos}
def gT (ha:PE X a ta) (hb:PE X b tb) {E6:Ai}{s:Shared}{Y:St}{H:Hp}{R:V->V->Hp->Prop}(I:Inv X E6 Y H s)
  (h:ta Y H λ x H1=>tb Y H1 λ y H2=>R x y H2) {Q:Af}{f:Value->Value->Sem Value}
  (hf:∀ v u s2 x y H2,Inv X E6 Y H2 s2->RelV x v->RelV y u->R x y H2->wpAny (model X.prog X.w) X.A (f v u) Q X.xe s2):
  wpAny (model X.prog X.w) X.A (eval a X.env) (λ v s₁=>wpAny (model X.prog X.w) X.A (eval b X.env) (λ u s₂=>wpAny (model X.prog X.w) X.A (f v u) Q X.xe s₂) X.xe s₁) X.xe s:=by
 exact zu (ha E6 s Y H _ I h) λ v s1 #[x,H1,I1,r1,q1]=>?_;exact zu (hb E6 s1 Y H1 _ I1 q1) λ u s2 #[y,H2,I2,r2,q2]=>?_;show hf v u s2 x y H2 I2 r1 r2 q2
def U5 {op:Operator}{r:R2}(ho:zY X (binaryOp op) r) (ha:PE X a ta) (hb:PE X b tb):PE X (.BinOp a op b pos) (oE r ta tb):=by
 intro E6 s Y H Q I h;show wpAny_BinOp (gT ha hb I h λ v u s2 x y H2 I2 rx ry q=>ho E6 s2 Y H2 x y v u Q I2 rx ry q)
def U1 {op:UnaryOp}{r:V->Hp->VK->Prop}(ho:fq X (unaryOp op) r) (ha:PE X a ta):PE X (.UnaryOp op a pos) (W7 r ta):=by
 intro E6 s Y H Q I h;show UnaryOp_ (zu (ha E6 s Y H _ I h) λ v s1 #[x,H1,I1,r1,q1]=>ho E6 s1 Y H1 x v Q I1 r1 q1)
def lJ {f:Value->Value->Sem Value}{C:Int->Int->Prop}{g:Int->Int->Int}
  (rule:∀ (i j:Int) (t u:Tok) (s:Shared) (Q:Af) (E:Af),C i j->Q (.int (g i j) s.toks) { s with toks:=s.toks+1 }->wpAny (model X.prog X.w) X.A (f (.int i t) (.int j u)) Q E s):
  zY X f (rI C λ i j=>.int (g i j)):=by
 intro E6 s Y H x y v u Q I rx ry h;let#[i,j,rfl,rfl,hc,q]:=h;let#[t,rfl]:=rx;let#[t',rfl]:=ry;show rule i j t t' s _ _ hc #[.int (g i j),H,I.tok _,#[_,rfl],q]
def cU {f:Value->Value->Sem Value}{g:Int->Int->Int}
  (rule:∀ (i j:Int) (t u:Tok) (s:Shared) (Q:Af) (E:Af),Q (.int (g i j) s.toks) { s with toks:=s.toks+1 }->wpAny (model X.prog X.w) X.A (f (.int i t) (.int j u)) Q E s):
  zY X f (w_ λ i j=>.int (g i j)):=by
 intro E6 s Y H x y v u Q I rx ry h;let#[i,j,rfl,rfl,q]:=h;let#[t,rfl]:=rx;let#[t',rfl]:=ry;show rule i j t t' s _ _ #[.int (g i j),H,I.tok _,#[_,rfl],q]
def lK {f:Value->Value->Sem Value}{g:Int->Int->Bool}
  (rule:∀ (i j:Int) (t u:Tok) (s:Shared) (Q:Af) (E:Af),Q (.bool (g i j)) s->wpAny (model X.prog X.w) X.A (f (.int i t) (.int j u)) Q E s):
  zY X f (w_ λ i j=>.bl (g i j)):=by
 intro E6 s Y H x y v u Q I rx ry h;let#[i,j,rfl,rfl,q]:=h;let#[t,rfl]:=rx;let#[t',rfl]:=ry;show rule i j t t' s _ _ #[.bl (g i j),H,I,rfl,q]
def xj (i j:Int):Prop:=0<j/\j<1073741824
def sJ (i j:Int):Prop:=0<=j/\j<=1000000/\i.natAbs<2 ^ 64
def wj (i j:Int):Prop:=(-(2 ^ 64)<i/\i<2 ^ 64)\/(-(2 ^ 64)<j/\j<2 ^ 64)
def wj.ok {i j:Int}(h:wj i j):IntMulOk i j:=by
 rcases h with ⟨h1,h2⟩ | ⟨h1,h2⟩
 .show .of_left (intBits_le_64 h1 h2)
 .show .of_right (intBits_le_64 h1 h2)
def RI:zY X (binaryOp .Add) (w_ λ i j=>.int (i+j)):=cU λ _ _ _ _ _ _ _ q=>add_int q
def R1:zY X (binaryOp .Sub) (w_ λ i j=>.int (i-j)):=cU λ _ _ _ _ _ _ _ q=>sub_int q
def R7:zY X (binaryOp .Mult) (rI wj λ i j=>.int (i*j)):=lJ λ _ _ _ _ _ _ _ hc q=>mul_int q hc.ok
def RD:zY X (binaryOp .FloorDiv) (rI xj λ i j=>.int (i/j)):=lJ λ i j _ _ _ _ _ hc q=>by
 have h1:(0:Int)<j:=hc.1;have h2:j<1073741824:=hc.2;show floordiv_int ⋯ (by rw[Int.fdiv_eq_ediv_of_nonneg i ⋯];show q) (.inl (PyProof.noPylong_small ⋯))
def R8:zY X (binaryOp .Mod) (rI (λ _ j=>0<j) λ i j=>.int (i%j)):=lJ λ i j _ _ _ _ _ hc q=>by
 have h1:(0:Int)<j:=hc;show mod_int' ⋯ (by rw[Int.fmod_eq_emod_of_nonneg i ⋯];show q)
def R3:zY X (binaryOp .Pow) (rI sJ λ i j=>.int (i ^ j.toNat)):=lJ λ _ _ _ _ _ _ _ hc q=>pow_int_small hc.1 hc.2.1 hc.2.2 q
def Wn {f:Value->Sem Value}{g:Int->Int}
  (rule:∀ (i:Int) (t:Tok) (s:Shared) (Q:Af) (E:Af),Q (.int (g i) s.toks) { s with toks:=s.toks+1 }->wpAny (model X.prog X.w) X.A (f (.int i t)) Q E s):
  fq X f (rU λ i=>.int (g i)):=by
 intro E6 s Y H x v Q I rx h;let#[i,rfl,q]:=h;let#[t,rfl]:=rx;show rule i t s _ _ #[.int (g i),H,I.tok _,#[_,rfl],q]
def Wl:fq X (unaryOp .USub) (rU λ i=>.int (-i)):=Wn λ _ _ _ _ _ q=>neg_int q
end
section
variable {X:Cx}{a b c:Expr}{ta tb tc:TE}{pos:Pos}
def aL {E6:Ai}{Y:St}{H:Hp}{s:Shared}{Q:VK}{k k':Bool}(I:Inv X E6 Y H s) (q:Q (.bl k) H) (e:k=k'):EP X E6 Y Q (.bool k') s:=by
 subst e;show#[.bl k,H,I,rfl,q]
def RA:zY X (compareOp .Lt) (w_ λ i j=>.bl (decide (i<j))):=lK λ _ _ _ _ _ _ _ q=>lt_int q
def nc:zY X (compareOp .LtE) (w_ λ i j=>.bl (decide (i<=j))):=lK λ _ _ _ _ _ _ _ q=>le_int q
def RC:zY X (compareOp .Gt) (w_ λ i j=>.bl (decide (j<i))):=lK λ _ _ _ _ _ _ _ q=>gt_int q
def cR:zY X (compareOp .GtE) (w_ λ i j=>.bl (decide (j<=i))):=lK λ _ _ _ _ _ _ _ q=>ge_int q
def cP:zY X (compareOp .Is) (λ x y H Q=>y=.zh/\Q (.bl (decide (x=.zh))) H):=by
 intro E6 s Y H x y v u Q I rx ry h;let#[rfl,q]:=h;cases ry;exact is_none_gen (aL I q ?_);cases x <;> first
  | (cases rx;rfl)
  | (let#[t,rfl]:=rx;rfl)
def cM:zY X (compareOp .IsNot) (λ x y H Q=>y=.zh/\Q (.bl (!decide (x=.zh))) H):=by
 intro E6 s Y H x y v u Q I rx ry h;let#[rfl,q]:=h;cases ry;exact isnot_none_gen (aL I q ?_);cases x <;> first
  | (cases rx;rfl)
  | (let#[t,rfl]:=rx;rfl)
def zY.or {f:Value->Value->Sem Value}{r r':R2}(h:zY X f r) (h':zY X f r'):zY X f (λ x y H Q=>r x y H Q\/r' x y H Q):=by
 intro E6 s Y H x y v u Q I rx ry q;rcases q with q | q
 .show h E6 s Y H x y v u Q I rx ry q
 .show h' E6 s Y H x y v u Q I rx ry q
def vA (b:Expr) {op:CmpOp}(h:op≠.In:=by decide) (h2:op≠.NotIn:=by decide):behindInMarks op b=false:=by
 have e1:(op == CmpOp.In)=false:=by cases op <;> first | rfl | show absurd rfl h
 have e2:(op == CmpOp.NotIn)=false:=by cases op <;> first | rfl | show absurd rfl h2
 cases b <;> simp[behindInMarks,e1,e2]
def UI {op:CmpOp}{r:R2}(ho:zY X (compareOp op) r) (ha:PE X a ta) (hb:PE X b tb) (hm:behindInMarks op b=false):PE X (.Compare a [op] [b] pos) (oE r ta tb):=by
 intro E6 s Y H Q I h;show wpAny_Compare1 (gT ha hb I h λ v u s2 x y H2 I2 rx ry q=>ho E6 s2 Y H2 x y v u Q I2 rx ry q) hm
def eZ (t:TE):TT:=fun Y H Q=>t Y H λ x H'=>∃ k,x=.bl k/\Q k H'
def VN {op:CmpOp}{r:R2}(ho:zY X (compareOp op) r) (ha:PE X a ta) (hb:PE X b tb) (hm:behindInMarks op b=false):PT X (.Compare a [op] [b] pos) (eZ (oE r ta tb)):=by
 intro E6 s Y H Q I h;exact wpAny_isTrue_Compare1 (zu (ha E6 s Y H _ I h) λ v s1 #[x,H1,I1,r1,q1]=>zu (hb E6 s1 Y H1 _ I1 q1) λ u s2 #[y,H2,I2,r2,q2]=>
  zu (ho E6 s2 Y H2 x y v u _ I2 r1 r2 q2) λ c s3 #[z,H3,I3,r3,k,e,q3]=>?_) hm
 subst e;cases r3;show zaG #[H3,I3,q3]
def jD (r r':R2) (ta tb tc:TE):TE:=fun Y H Q=>ta Y H λ x H1=>tb Y H1 λ y H2=>r x y H2 λ z H3=>∃ k,z=.bl k/\
 (if k=true then tc Y H3 λ w' H4=>r' y w' H4 Q else Q (.bl false) H3)
def UJ {op G7:CmpOp}{r r':R2}(ho:zY X (compareOp op) r) (FQ:zY X (compareOp G7) r') (ha:PE X a ta) (hb:PE X b tb) (hc:PE X c tc)
  (hm:lastMarks [op,G7] [b,c]=false:=by with_unfolding_all rfl):PE X (.Compare a [op,G7] [b,c] pos) (jD r r' ta tb tc):=by
 intro E6 s Y H Q I h;exact Compare_chain (zu (ha E6 s Y H _ I h) λ v s1 #[x,H1,I1,r1,q1]=>chain_link (zu (hb E6 s1 Y H1 _ I1 q1) λ u s2 #[y,H2,I2,r2,q2]=>
  zu (ho E6 s2 Y H2 x y v u _ I2 r1 r2 q2) λ d s3 #[z,H3,I3,r3,k,e,q3]=>?_)) hm
 subst e;cases r3;exact zaG ?_;cases k with
 | false=>show ite_ff #[.bl false,H3,I3,rfl,q3]
 | true=>show ite_tt (chain_last (zu (hc E6 s3 Y H3 _ I3 q3) λ w' s4 #[z',H4,I4,r4,q4]=>FQ E6 s4 Y H4 y z' u w' Q I4 r2 r4 q4))
def VO {op G7:CmpOp}{r r':R2}(ho:zY X (compareOp op) r) (FQ:zY X (compareOp G7) r') (ha:PE X a ta) (hb:PE X b tb) (hc:PE X c tc)
  (hm:lastMarks [op,G7] [b,c]=false:=by with_unfolding_all rfl):PT X (.Compare a [op,G7] [b,c] pos) (eZ (jD r r' ta tb tc)):=by
 intro E6 s Y H Q I h;exact isTrue_chain (zu (ha E6 s Y H _ I h) λ v s1 #[x,H1,I1,r1,q1]=>test_link (zu (hb E6 s1 Y H1 _ I1 q1) λ u s2 #[y,H2,I2,r2,q2]=>
  zu (ho E6 s2 Y H2 x y v u _ I2 r1 r2 q2) λ d s3 #[z,H3,I3,r3,k,e,q3]=>?_)) hm
 subst e;cases r3;exact zaG ?_;cases k with
 | false=>
  let#[k',e',q']:=q3;cases e';show ite_ff #[H3,I3,q']
 | true=>
  exact ite_tt (test_last (zu (hc E6 s3 Y H3 _ I3 q3) λ w' s4 #[z',H4,I4,r4,q4]=>zu (FQ E6 s4 Y H4 y z' u w' _ I4 r2 r4 q4) λ d' s5 #[z2,H5,I5,r5,k2,e2,q5]=>?_));subst e2;cases r5;show zaG #[H5,I5,q5]
def fu (K:Ac) (x:V) (H:Hp) (k:Bool):Prop:=
 match x with
 | .zh=>k=false
 | .bl b=>k=b
 | .int i=>k=(i != 0)
 | .str y=>y.length<=sizeLine/\k=((y.length:Int) != 0)
 | .mj y=>y.size<=sizeLine/\k=((y.size:Int) != 0)
 | .ref p=>(∃ xs,zO K H p xs/\k=!xs.isEmpty)\/(∃ xs,zW K H p xs/\k=!xs.isEmpty)\/∃ Ab,H p=↑(.dK Ab)/\k=!Ab.isEmpty
 | _=>False
def Nv {κ:Type}{Ab:List (κ × V)}{vs:List (κ × Value)}(r:KV Ab vs):(!vs.isEmpty)=!Ab.isEmpty:=by
 cases r <;> rfl
def bM {xs:List V}{Aa:Ae}(r:Vals xs Aa):(!Aa.toArray.isEmpty)=!xs.isEmpty:=by
 cases r <;> simp
def qp:(sizeLine:Nat)<2 ^ 63:=by rw[sizeLine_eq];decide
theorem Wz:Kh X (λ x H Q=>∃ k,fu X.K x H k/\Q k H):=by
 intro E6 s Y H x v Q I rx h;let#[k,e,q]:=h;have hl:=qp;have hs:sizeLine=16777216:=sizeLine_eq;cases x with
 | zh=>
  cases rx;have e':k=false:=e;subst e';show truthy_none #[H,I,q]
 | bl b=>
  cases rx;have e':k=b:=e;subst e';show zaG #[H,I,q]
 | int i=>
  let#[t,rfl]:=rx;have e':k=(i != 0):=e;subst e';show PySem.P.truthy_int #[H,I,q]
 | str y=>
  let#[t,rfl]:=rx;obtain⟨hy,e'⟩:y.length<=sizeLine/\k=((y.length:Int) != 0):=e;subst e';show PySem.P.truthy_str ⋯ #[H,I.tok _,q]
 | mj y=>
  let#[t,rfl]:=rx;obtain⟨hy,e'⟩:y.size<=sizeLine/\k=((y.size:Int) != 0):=e;subst e';show PySem.W.truthy_bytes ⋯ #[H,I.tok _,q]
 | ref p=>
  cases rx;have e':(∃ xs,zO X.K H p xs/\k=!xs.isEmpty)\/(∃ xs,zW X.K H p xs/\k=!xs.isEmpty)\/∃ Ab,H p=↑(.dK Ab)/\k=!Ab.isEmpty:=e;rcases e' with ⟨xs,hx,e'⟩ | ⟨xs,hx,e'⟩ | ⟨Ab,hx,e'⟩
  .subst e';let#[Aa,r,pl,hz]:=I.list hx;have hlen:=r.length;show wpAny_truthy_list pl.isList (by simp![AE];lia) #[H,I.tok _,by rw[bM r];show q]
  .subst e';let#[Aa,r,pl,hz]:=I.tuple hx;have hlen:=r.length;show truthy_tuple pl (by simp![AE];lia) #[H,I.tok _,by rw[bM r];show q]
  .subst e';obtain⟨hz,hS,vs,r,m⟩:Ab.length<=sizeLine/\(p == sysModules)=false/\∃ vs,KV Ab vs/\s.heap.DictOf (wK X.prog X.w) p vs:=I.zp p _ hx;have hlen:Ab.length=vs.length:=Paired.length r;show wpAny_truthy_dict hS m ⋯ #[H,I.tok _,by rw[Nv r];show q]
 | _=>show (show False from e).elim
def VL (ha:PE X a ta) (he:∀ whole,isTrue a X.env whole=(do let v <- whole;standAt a.pos;holding [v] (truthy v))):
  PT X a (fun Y H Q=>ta Y H λ x H'=>∃ k,fu X.K x H' k/\Q k H'):=by
 intro E6 s Y H Q I h;show isTrue_plain (zu (ha E6 s Y H _ I h) λ v s1 #[x,H1,I1,r1,q1]=>Wz E6 s1 Y H1 x v Q I1 r1 q1) (he _)
def RH:zY X (binaryOp .Add) (λ x y H Q=>∃ i j,x=.str i/\y=.str j/\i.length+j.length<=sizeLine/\Q (.str (i++j)) H):=by
 intro E6 s Y H x y v u Q I rx ry h;let#[i,j,rfl,rfl,hz,q]:=h;let#[t,rfl]:=rx;let#[t',rfl]:=ry;show add_str (λ t' tk=>#[.str (i++j),H,I.tok _,#[_,rfl],q]) hz
def vals1 {x:V}{us:Ae}(r:Vals [x] us):∃ u,us=[u]/\RelV x u:=by
 cases r with
 | cons r1 r2=>cases r2;show#[_,rfl,r1]
def vals2 {x y:V}{us:Ae}(r:Vals [x,y] us):∃ u w',us=[u,w']/\RelV x u/\RelV y w':=by
 cases r with
 | cons r1 r2=>
  cases r2 with
  | cons r3 r4=>cases r4;show#[_,_,rfl,r1,r3]
def Lz (hc:X.calm=true):yD X (.builtin "max") (λ xs H Q=>∃ i j,xs=[.int i,.int j]/\Q (.int (if j>i then j else i)) H):=by
 intro E6 s Y H xs us Q I r h;let#[i,j,rfl,q]:=h;let#[u,w',rfl,#[t,rfl],#[t',rfl]]:=vals2 r;exact max_two_ints (I.ok.hd hc) λ h' tk k=>#[_,H,I.kept k,?_,q];by_cases hj:j>i
 .rw[if_pos hj,if_pos hj];show#[_,rfl]
 .rw[if_neg hj,if_neg hj];show#[_,rfl]
def Ly (hc:X.calm=true):yD X (.builtin "min") (λ xs H Q=>∃ i j,xs=[.int i,.int j]/\Q (.int (if j<i then j else i)) H):=by
 intro E6 s Y H xs us Q I r h;let#[i,j,rfl,q]:=h;let#[u,w',rfl,#[t,rfl],#[t',rfl]]:=vals2 r;exact min_two_ints (I.ok.hd hc) λ h' tk k=>#[_,H,I.kept k,?_,q];by_cases hj:j<i
 .rw[if_pos hj,if_pos hj];show#[_,rfl]
 .rw[if_neg hj,if_neg hj];show#[_,rfl]
def LD:yD X (.type "int") (λ xs H Q=>(∃ i,xs=[.int i]/\Q (.int i) H)\/∃ k,xs=[.bl k]/\Q (.int (if k then 1 else 0)) H):=by
 intro E6 s Y H xs us Q I r h;rcases h with ⟨i,rfl,q⟩ | ⟨k,rfl,q⟩
 .let#[u,rfl,t,rfl]:=vals1 r;show call_int_int #[.int i,H,I,#[_,rfl],q]
 .let#[u,rfl,r1]:=vals1 r;cases r1;show call_int_bool #[.int (if k then 1 else 0),H,I.tok _,#[_,rfl],q]
end
def vQ.some_of {v:V}{o:Option Value}(r:vQ ↑v o):∃ u,o=↑u/\RelV v u:=by
 cases o with
 | none=>show (show False from r).elim
 | some u=>show#[u,rfl,r]
def NI {v:V}{u:Value}(r:RelV v u):PySem.W.handedIn u=true:=by
 cases v with
 | zh=>cases (show u=Value.none from r);rfl
 | bl b=>cases (show u=Value.bool b from r);rfl
 | int i=>let#[t,e]:=(show ∃ t,u=Value.int i t from r);cases e;rfl
 | str x=>let#[t,e]:=(show ∃ t,u=Value.str x t from r);cases e;rfl
 | mj b=>let#[t,e]:=(show ∃ t,u=Value.bytes b t from r);cases e;rfl
 | gm b=>let#[t,e]:=(show ∃ t,u=Value.float b t from r);cases e;rfl
 | ref a=>cases (show u=Value.ref a from r);rfl
 | ty n=>cases (show u=Value.type n from r);rfl
section
variable {s:Shared}{f:Str}{A:Around}{E:Af}
def LV {prog:Program}{w:World}{env:Env}{e:Expr}{f:Str}{pos:Pos}{s:Shared}{Q:Af}(hb:attributeBase e f env (eval e env)=eval e env)
  (h:wpAny (model prog w) A (eval e env) (λ o s₁=>wpAny (model prog w) A (getAttr o f true) Q E s₁) E s):wpAny (model prog w) A (eval (.Attribute e f pos) env) Q E s:=
 Attribute_any_ h (by rw[arm_eval_Attribute,hb])
end
structure zX (k:Nat) (A:Around):Prop where
 hd:A.handled=none
 dp:A.depth+3*k+5<recursionLimit
 un:A.units+16*k+200<cLine
def zX.mono {j k:Nat}{A:Around}(r:zX k A) (h:j<=k):zX j A:=#[r.hd,by have:=r.dp;lia,by have:=r.un;lia]
theorem zX.deeper {k:Nat}{A:Around}(r:zX (k+1) A) (env:Env):zX k (A.deeper env):=
 #[r.hd,by have:=r.dp;change A.depth+1+3*k+5<_;lia,by have:=r.un;change A.units+3+16*k+200<_;lia]
def O6 {A:Around}{C:Addr}{us:Ae}{kw:List (Str×Value)}:(A.under (.builtin "type.__call__" #[.ref C::us,kw])).depth=A.depth+1:=by
 first | rfl | simp[Around.under,Code.weight,Code.isCreation,Code.isGuard,Code.isCaller,Code.frames,Code.isFrame,guardIds]
def O5 {A:Around}{C:Addr}{us:Ae}{kw:List (Str×Value)}:(A.under (.builtin "type.__call__" #[.ref C::us,kw])).units=A.units+1:=by
 first | rfl | simp[Around.under,Code.cUnits,Code.frames,Code.isFrame]
def zX.make {k:Nat}{A:Around}(r:zX (k+1) A) (C:Addr) (us:Ae) (kw:List (Str×Value)):zX k (A.under (.builtin "type.__call__" #[.ref C::us,kw])):=
 #[r.hd,by have:=r.dp;rw[O6];lia,by have:=r.un;rw[O5];lia]
theorem zX.depth {k:Nat}{A:Around}(r:zX k A):A.depth<recursionLimit:=by have:=r.dp;lia
theorem zX.units {k:Nat}{A:Around}(r:zX k A):A.units+64<cLine:=by have:=r.un;lia
def oG:TA:=λ _ H Q=>Q [] H
def oH (ta:TE) (tr:TA):TA:=fun Y H Q=>ta Y H λ x H1=>tr Y H1 λ xs H2=>Q (x::xs) H2
section
variable {X:Cx}{e:Expr}{es:List Expr}{te:TE}{t:TA}{pos:Pos}
def uW:PA X [] oG:=λ _ _ _ _ H Q I h=>Calls.spliced_nil #[[],H,I,.nil,h]
def v9 (ha:PE X e te) (hr:PA X es t) (hs:Ay X e es:=by rfl):PA X (e::es) (oH te t):=by
 intro pos E6 s Y H Q I h;rw[hs];change wpAny _ _ (spliced ((false,eval e X.env)::backTo pos (starEach es X.env))) _ _ s;exact Calls.spliced_cons (zu (ha E6 s Y H _ I h) λ u s1 #[x,H1,I1,r1,q1]=>?_);show zu (hr pos E6 s1 Y H1 _ I1 q1) λ us s2 #[xs,H2,I2,r2,q2]=>#[x::xs,H2,I2,.cons r1 r2,q2]
def W8 (t:TA):TE:=fun Y H Q=>t Y H λ xs H1=>xs.length<=sizeLine/\∀ p,H1 p=none->Q (.ref p) (upd H1 p (.tup xs))
def WK (t:TA):TE:=fun Y H Q=>t Y H λ xs H1=>xs.length<=sizeLine/\∀ p,H1 p=none->Q (.ref p) (upd H1 p (.lst xs))
def c9 {x1} (h:PA X es t):PE X (.Tuple es x1 pos) (W8 t):=by
 intro E6 s Y H Q I hq;exact wpAny_Tuple_spliced (zu (h pos E6 s Y H _ I hq) λ us s1 #[xs,H1,I1,r,z,q]=>#[by rw[<- r.length];show z,?_]);have hf:H1 s1.heap.objs.size=none:=I1.zp.fresh (Ak _);exact#[.ref s1.heap.objs.size,upd H1 s1.heap.objs.size (.tup xs),I1.laid (t':=s1.toks) (λ b u e=>gV _ e) (Ak _) ?_,rfl,q _ hf];show#[#[z,.new _],us,r,#[_,AM _ rfl,rfl,_,rfl]]
def U9 (h:PA X es t):PE X (.List es pos) (WK t):=by
 intro E6 s Y H Q I hq;exact wpAny_List_spliced (zu (h pos E6 s Y H _ I hq) λ us s1 #[xs,H1,I1,r,z,q]=>#[by rw[<- r.length];show z,?_]);have hf:H1 s1.heap.objs.size=none:=I1.zp.fresh (Ak _);exact#[.ref s1.heap.objs.size,upd H1 s1.heap.objs.size (.lst xs),I1.laid (t':=s1.toks) (λ b u e=>gV _ e) (Ak _) ?_,rfl,q _ hf];show#[z,us,0,r,AM _ rfl]
end
abbrev Sp:=List V->Hp->VK->XK->Prop
abbrev vV:=List Env->Hp->Shared->XK->Value->Shared->Prop
structure qP (P:Program) (w:World) (K:Ac) (mg:Ar) (base:Heap) (A:Around) (outer:List Env) (s:Shared) (H:Hp):Prop where
 frames:A.frames=↑outer
 mod:Mod K mg base
 bs:∀ b o,base.get? b=↑o->s.heap.get? b=↑o/\H b=none
 t5:base.objs.size<=s.heap.objs.size
 vn:s.heap.FunFrames base outer
 tV:∀ b∈yP outer,H b=none
 zp:yd P w H s.heap
 bare:AllBare s.gens
def CE (outer:List Env) (P:Program) (w:World) (H:Hp) (s:Shared) (Q:VK) (u:Value) (s':Shared):Prop:=
 ∃ v H',s'.os=s.os/\AllBare s'.gens/\Un (yP outer) [] H H' s.heap s'.heap/\yd P w H' s'.heap/\RelV v u/\Q v H'
def CR (CX:vV) (outer:List Env) (P:Program) (w:World) (H:Hp) (s:Shared) (Q:VK) (E:XK) (r:Result) (s':Shared):Prop:=
 match r with
 | .ok (.ret u)=>CE outer P w H s Q u s'
 | .ok _=>False
 | .error e=>CX outer H s E e s'
structure xl (P:Program) (w:World) (K:Ac) (mg:Ar) (base:Heap) (CX:vV) (k:Nat) (f:Addr) (fd:FuncData) (ps:List Str) (sp:Sp):Prop where
 len:∀ vs H Q E,sp vs H Q E->vs.length=ps.length
 run:∀ (A:Around) (outer:List Env) (s:Shared) (H:Hp) (args:Args) (us:Ae) (vs:List V) (Q:VK) (E:XK),zX k A->qP P w K mg base A outer s H->BindsTo s fd args (ps.zip us)->Vals vs us->sp vs H Q E->
  codeAny (model P w) A (.call (.ref f) args) (CR CX outer P w H s Q E) s
def xl.imp {P:Program}{w:World}{K:Ac}{mg:Ar}{base:Heap}{CX:vV}{k:Nat}{f:Addr}{fd:FuncData}{ps:List Str}{sp sp':Sp}(F:xl P w K mg base CX k f fd ps sp)
  (h:∀ vs H Q E,sp' vs H Q E->sp vs H Q E):xl P w K mg base CX k f fd ps sp':=
 #[λ vs H Q E q=>F.len vs H Q E (h _ _ _ _ q),λ A outer s H args us vs Q E hr he hb hv hs=>F.run A outer s H args us vs Q E hr he hb hv (h _ _ _ _ hs)]
def qP.make {P:Program}{w:World}{K:Ac}{mg:Ar}{base:Heap}{A:Around}{outer:List Env}{s:Shared}{H:Hp}(e:qP P w K mg base A outer s H) (C:Addr) (us:Ae) (kw:List (Str×Value)):
  qP P w K mg base (A.under (.builtin "type.__call__" #[.ref C::us,kw])) outer s H:=#[by first | show e.frames | (simpa [Around.under,Code.envs,Code.isFrame,pushEnvs] using e.frames),e.mod,e.bs,e.t5,e.vn,e.tV,e.zp,e.bare]
section
variable {X:Cx}{E6:Ai}{Y:St}{H:Hp}{s s':Shared}
def Inv.gy (I:Inv X E6 Y H s):qP X.prog X.w X.K X.mg X.base X.A X.stack s H:=
 #[I.ok.frames,I.ok.mod,I.bs,Bo I.ok.t5 I.sz,I.stack,I.jG,I.zp,I.bare]
theorem Inv.after {Q:VK}{u:Value}(I:Inv X E6 Y H s) (h:CE X.stack X.prog X.w H s Q u s'):EP X E6 Y Q u s':=by
 let#[v,H',os,bare,un,zp,r,q]:=h;let#[hh,g,d,t,Jk]:=s';obtain rfl:Jk=s.os:=os;show#[v,H',I.call (h':=hh) (g':=g) (d':=d) (t':=t) (ch:=[]) un zp bare (λ b z=>absurd z #[]),r,q]
end
def e_ (sp:Sp) (Io:List V) (E:XK) (t:TA):TE:=fun Y H Q=>t Y H λ vs H1=>sp (vs++Io) H1 Q E
def Binds (K:Ac) (fd:FuncData) (ps:List Str) (ds:Ae):Prop:=
 ∀ (s:Shared) (us:Ae),K.In s.heap->(us++ds).length=ps.length->BindsTo s fd #[us,[]] (ps.zip (us++ds))
def Binds.all {K:Ac}{fd:FuncData}{ps:List Str}(h:∀ us:List Value,us.length=ps.length->bindArgs fd #[us,[]]=pure (ps.zip us)):Binds K fd ps []:=λ s us _ hl=>by
 rw[Co] at hl ⊢;show .of_eq (h us hl)
def Passes (CX:vV) (X:Cx) (E:XK):Prop:=∀ (E6:Ai) (Y:St) (H:Hp) (s:Shared) (e:Value) (s':Shared),Inv X E6 Y H s->CX X.stack H s E e s'->X.xe e s'
section
variable {X:Cx}{CX:vV}{k:Nat}{f:Addr}{fd:FuncData}{ps:List Str}{sp:Sp}{Io:List V}{ds:Ae}{E:XK}{x:Str}{p pos:Pos}{e:Expr}{es:List Expr}{t:TA}
def Vx {E6:Ai}{Y:St}{H:Hp}{s:Shared}{Q:VK}{us:Ae}{vs:List V}(F:xl X.prog X.w X.K X.mg X.base CX k f fd ps sp) (hr:zX k X.A) (hb:Binds X.K fd ps ds) (hd:Vals Io ds) (hx:Passes CX X E)
  (I:Inv X E6 Y H s) (r:Vals vs us) (h:sp (vs++Io) H Q E):wpAny (model X.prog X.w) X.A (call (.ref f) us) (EP X E6 Y Q) X.xe s:=by
 have r2:Vals (vs++Io) (us++ds):=r.append hd;have hl:(us++ds).length=ps.length:=by rw[<- r2.length];show F.len _ _ _ _ h
 exact wpAny_call (codeAny_mono (F.run X.A X.stack s H #[us,[]] (us++ds) (vs++Io) Q E hr I.gy (hb s us I.yo hl) r2 h) λ r s' hq=>?_);cases r with
 | error e=>show hx E6 Y H s e s' I hq
 | ok fl=>
  cases fl with
  | ret u=>show I.after hq
  | _=>show False.elim hq
def UK (F:xl X.prog X.w X.K X.mg X.base CX k f fd ps sp) (hr:zX k X.A) (hg:Gl X x) (hm:X.mg x=↑(.ref f)) (hk:PySem.W.keepIn X.K (.ref f)=true) (hb:Binds X.K fd ps ds) (hd:Vals Io ds) (hx:Passes CX X E)
  (ha:PA X (e::es) t) (A_:(x == ("__debug__":Str))=false:=by decide) (he:Ay X e es:=by rfl) (Ao:AG X pos es:=by rfl):
  PE X (.Call (.Name x p) (e::es) [] pos) (e_ sp Io E t):=by
 intro E6 s Y H Q I h;exact zaN (nk I hg hm ?_ A_);exact PySem.W.callWith_K (h₀:=X.base) I.ok.mod.pG hk (zu (ha pos E6 s Y H _ I h) λ us s1 #[vs,H1,I1,r,q]=>#[I1.yo,?_]) he Ao;show Vx F hr hb hd hx I1 r q
end
structure vw (N P:List Str) (sc:Scope):Prop where
 kind:sc.kind=.function
 co:sc.isCoroutine=false
 gen:sc.isGenerator=false
 nd:N.Nodup
 pre:N.take P.length=P
 par:∀ x∈P,sc.names.lookup x=↑.local\/sc.names.lookup x=↑.cell
 Oh:∀ y∈sc.names,y.2≠.free
theorem ZR {kindOf:Str->Option NameKind}{x:Str}:∀ {binds:List (Str×Value)}{m:Ar},(∀ v,(x,v)∉binds)->bindL kindOf binds m x=m x
 | [],_,_=>rfl
 | (n,v)::r,m,h=>by
  unfold bindL;rw[ZR λ w hw=>h w (AA _ hw)];split
  .have:x≠n:=by rintro rfl;show h v Av
   simp[this]
  .rfl
theorem ZT {kindOf:Str->Option NameKind}{x:Str}:∀ {binds:List (Str×Value)}{m:Ar},(∀ v,(x,v)∉binds)->bindC kindOf binds m x=m x
 | [],_,_=>rfl
 | (n,v)::r,m,h=>by
  unfold bindC;rw[ZT λ w hw=>h w (AA _ hw)];split
  .rfl
  .have:x≠n:=by rintro rfl;show h v Av
   simp[this]
theorem ZS {kindOf:Str->Option NameKind}{x:Str}{v:Value}:∀ {P:List Str}{vs:Ae}{i:Nat}{m:Ar},P.Nodup->P[i]?=↑x->vs[i]?=↑v->kindOf x=↑.local->
  bindL kindOf (P.zip vs) m x=↑v
 | [],_,_,_,_,h,_,_=>by simp at h
 | _::_,[],_,_,_,_,h,_=>by simp at h
 | p::P,w::vs,0,m,nd,h1,h2,hk=>by
  simp at h1 h2;subst h1;subst h2;change bindL kindOf ((p,w)::P.zip vs) m p=_;unfold bindL;rw[ZR λ v hv=>(BG.mp nd).1 (Dk hv).1,if_pos hk];simp
 | p::P,w::vs,i+1,m,nd,h1,h2,hk=>by
  change bindL kindOf ((p,w)::P.zip vs) m x=_;unfold bindL;show ZS (i:=i) (BG.mp nd).2 (by exists h1) (by exists h2) hk
theorem ZU {kindOf:Str->Option NameKind}{x:Str}{v:Value}:∀ {P:List Str}{vs:Ae}{i:Nat}{m:Ar},P.Nodup->P[i]?=↑x->vs[i]?=↑v->kindOf x≠↑.local->
  bindC kindOf (P.zip vs) m x=↑v
 | [],_,_,_,_,h,_,_=>by simp at h
 | _::_,[],_,_,_,_,h,_=>by simp at h
 | p::P,w::vs,0,m,nd,h1,h2,hk=>by
  simp at h1 h2;subst h1;subst h2;change bindC kindOf ((p,w)::P.zip vs) m p=_;unfold bindC;rw[ZT λ v hv=>(BG.mp nd).1 (Dk hv).1,if_neg hk];simp
 | p::P,w::vs,i+1,m,nd,h1,h2,hk=>by
  change bindC kindOf ((p,w)::P.zip vs) m x=_;unfold bindC;show ZU (i:=i) (BG.mp nd).2 (by exists h1) (by exists h2) hk
def start (N:List Str) (vs:List V):St:=vs.map some++List.replicate (N.length-vs.length) none
def y_ (CX:vV) (P:Program) (w:World) (K:Ac) (mg:Ar) (base:Heap) (N:List Str) (qual:Str) (scope:Scope) (f:Addr) (cd:Value) (A:Around) (outer:List Env) (s:Shared) (H:Hp) (E:XK):Cx where
 prog:=P
 w:=w
 K:=K
 mg:=mg
 base:=base
 A:=A.deeper (envOfC qual scope s.heap.objs.size f cd)
 N:=N
 s₀:=s
 H₀:=H
 env:=envOfC qual scope s.heap.objs.size f cd
 outer:=outer
 stack:=envOfC qual scope s.heap.objs.size f cd::outer
 ex:=[]
 calm:=true
 fn:=λ _=>true
 pn:=[]
 xe:=λ e s'=>wpAny (model P w) (A.deeper (envOfC qual scope s.heap.objs.size f cd)) (leaving (envOfC qual scope s.heap.objs.size f cd) e) (λ _ HQ=>CX outer H s E e HQ) (λ e' HQ=>CX outer H s E e' HQ) s'
def ZC {sc:Scope}{n:Nat}{x:Str}(h:sc.names.lookup x=↑.cell):∃ c,(cellsFrom n sc.names []).lookup x=↑c:=by
 have q:=PySem.W.cellsFrom_some sc.names n [] (.inl h);show D0.mp q
def Nz {CX:vV}{P:Program}{w:World}{K:Ac}{mg:Ar}{base:Heap}{N ps:List Str}{qual:Str}{scope:Scope}{f:Addr}{cd:Value}{A:Around}{outer:List Env}{s s1:Shared}{H:Hp}{E:XK}{us:Ae}{vs:List V}
  (S:vw N ps scope) (hd:A.handled=none) (e0:qP P w K mg base A outer s H) (hl:vs.length=ps.length) (r:Vals vs us)
  (x:InCallC s s.heap.objs.size (bindL (envOfC qual scope s.heap.objs.size f cd).kindOf (ps.zip us) λ _=>none) (cellsFrom (s.heap.objs.size+1) scope.names []) (bindC (envOfC qual scope s.heap.objs.size f cd).kindOf (ps.zip us) λ _=>none) s1):
  Inv (y_ CX P w K mg base N qual scope f cd A outer s H E) [] (start N vs) H s1:=by
 have Ao:ps.length<=N.length:=by have:=congrArg List.length S.pre;rw[Dj] at this;lia
 let#[h1,tk,rfl,hk]:=x.done;have Jo:∀ b:Addr,b∉(y_ CX P w K mg base N qual scope f cd A outer s H E).ex:=λ b z=>absurd (show b∈([]:List Addr) from z) #[];exact#[#[e0.mod,S.kind,rfl,rfl,Ak _,λ y z c h1 h2=>?_,λ y hy=>?_,λ y c _ h=>?_,λ _=>hd,Around.frames_deeper e0.frames,.inr #[rfl,rfl],λ b z=>absurd z (Jo b),e0.bs,e0.t5,λ b _ _=>Jo b,λ b z=>absurd z (Jo b),e0.vn,e0.tV],
  rfl,e0.bare,Un.kept hk,#[_,x.toInCall.ns,λ i y v h1 h2 h3=>?_],λ y c h=>#[_,x.cell y c h],e0.zp.fresh (Ak _),λ y c h=>?_,λ p hp=>absurd (show p∈([]:Ai) from hp) #[],e0.zp.kept hk,?_]
 .show name_of_addr x.apart (PySem.mem_of_lookup h1) (PySem.mem_of_lookup h2)
 .have hy:scope.names.lookup y=↑.cell\/scope.names.lookup y=↑.free:=hy;rcases hy with hy | hy
  .show ZC hy
  .show absurd rfl (S.Oh _ (PySem.mem_of_lookup hy))
 .show BS (x.above y c (PySem.mem_of_lookup h))
 .have hi:i<vs.length:=by
   unfold start at h2;by_cases hi:i<vs.length
   .show hi
   .rw[Di (by exists hi)] at h2;rw[Dh] at h2;split at h2 <;> cases h2
  have ha:vs[i]?=↑v:=by
   unfold start at h2;rw[Ct (by exists hi),AJ] at h2;cases e:vs[i]? with
   | none=>rw[e] at h2;cases h2
   | some a=>rw[e] at h2;cases h2;rfl
  let#[u,hu,rv]:=r.get ha;have hp:ps[i]?=↑y:=by
   rw[<- S.pre,List.getElem?_take_of_lt ⋯];show h1
  have ndP:ps.Nodup:=by rw[<- S.pre];show S.nd.sublist (List.take_sublist _ _)
  exact#[u,rv,?_];rcases S.par y (BM hp) with k | k
  .show .inl #[k,ZS ndP hp hu k]
  .let#[c,e]:=ZC (n:=s.heap.objs.size+1) k;exact .inr #[.inl k,c,e,?_];have q:=x.cell y c e;rw[ZU ndP hp hu (by change scope.names.lookup y≠_;rw[k];decide)] at q;show q
 .show e0.zp.fresh (BS (x.above y c (PySem.mem_of_lookup h)))
 .unfold start;change _=N.length;rw[Cb,AN,List.length_replicate];lia
def aB {CX:vV}{P:Program}{w:World}{K:Ac}{mg:Ar}{base:Heap}{k:Nat}{f:Addr}{name qual:Str}{params:Arguments}{body:List Stmt}{scope:Scope}{dV kV doc pm Ag ct oc:Value}{an od:Option Addr}
  {Hk:Array (Option Value)}{N ps:List Str}{sp:Sp}(lk:K.lookup f=↑#[oc,od,.func (PySem.W.fnOf name qual params body scope dV kV doc pm an Ag ct),Hk]) (Ba:PySem.W.codeIn K Ag qual=true) (S:vw N ps scope)
  (len:∀ vs H Q E,sp vs H Q E->vs.length=ps.length)
  (Fm:∀ (A:Around) (outer:List Env) (s:Shared) (H:Hp) (vs:List V) (Q:VK) (E:XK),zX k (A.deeper (envOfC qual scope s.heap.objs.size f Ag))->sp vs H Q E->
   ∃ t,xU (y_ CX P w K mg base N qual scope f Ag A outer s H E) body t/\t { nx:=λ _ H'=>Q .zh H',rt:=Q } (start N vs) H):
  xl P w K mg base CX (k+1) f (PySem.W.fnOf name qual params body scope dV kV doc pm an Ag ct) ps sp:=by
 exact#[len,λ A outer s H args us vs Q E hr e0 hb r B5=>?_];have hl:=len _ _ _ _ B5;have KX:K.In s.heap:=e0.mod.pG.keeps λ b o e=>(e0.bs b o e).1;have lim:s.heap.NoLimit:=e0.mod.nolimit.keeps λ b o e=>(e0.bs b o e).1;have JF:∀ y∈ps.zip us,scope.names.lookup y.1=↑.local\/(scope.names.lookup y.1=↑.cell/\((cellsFrom (s.heap.objs.size+1) scope.names []).lookup y.1).isSome=true):=λ#[n,v] hy=>by
  rcases S.par n (Dk hy).1 with q | q
  .show .inl q
  .show .inr #[q,PySem.W.cellsFrom_some _ _ _ (.inl q)]
 exact codeAny_call_function hr.depth (KX _ _ lk) rfl S.co S.gen rfl (PySem.W.codeRec_of KX Ba) (hb _ _ _ _ ?_);exact wpAny_newFunctionEnv_cells S.kind JF λ env he s1 x=>?_;subst he;exact#[lim.keeps x.toInCall.keep,codeAny_func ?_];let#[t,ht,hq]:=Fm A outer s H vs Q E (hr.deeper _) B5;have I:Inv (y_ CX P w K mg base N qual scope f Ag A outer s H E) [] (start N vs) H s1:=Nz S hr.hd e0 hl r x;exact za3 (ht [] s1 (start N vs) H _ I hq) (λ fl s' hs=>?_) λ e s' hs=>hs;have fin:∀ {Y':St}{H':Hp}{v:V}{u:Value},Inv (y_ CX P w K mg base N qual scope f Ag A outer s H E) [] Y' H' s'->RelV v u->Q v H'->CE outer P w H s Q u s':=
  λ{Y' H' v u} J rv q=>#[v,H',J.os,J.bare,J.base,J.zp,rv,q]
 cases fl with
 | ret u=>
  let#[v,Y',H',J,rv,q]:=hs;show fin J rv q
 | next=>
  let#[Y',H',J,q]:=hs;show fin (v:=V.zh) (u:=Value.none) J rfl q
 | brk=>
  let#[_,_,_,q]:=hs;show False.elim q
 | cont=>
  let#[_,_,_,q]:=hs;show False.elim q
section
variable {X:Cx}{x:Str}{p pos:Pos}{e:Expr}{es:List Expr}{t:TA}{id T:String}{r:List V->Hp->VK->Prop}
def lq (r:List V->Hp->VK->Prop) (t:TA):TE:=fun Y H Q=>t Y H λ vs H1=>r vs H1 Q
def uB (hc:yD X (.builtin id) r) (hg:Gl X x) (hm:X.mg x=none) (hv:bootBuiltins x=↑(.builtin id)) (ha:PA X (e::es) t) (hn:x≠"__name__":=by decide) (A_:(x == ("__debug__":Str))=false:=by decide)
  (he:Ay X e es:=by rfl) (Ao:AG X pos es:=by rfl):PE X (.Call (.Name x p) (e::es) [] pos) (lq r t):=by
 intro E6 s Y H Q I h;exact zaN (pF I hg hm hv ?_ hn A_);show PyProof.Rows.callWith_builtin1 (zu (ha pos E6 s Y H _ I h) λ us s1 #[vs,H1,I1,r1,q1]=>hc E6 s1 Y H1 vs us Q I1 r1 q1) he Ao
def p7 (hc:yD X (.type T) r) (hg:Gl X x) (hm:X.mg x=none) (hv:bootBuiltins x=↑(.type T)) (ha:PA X (e::es) t) (hn:x≠"__name__":=by decide) (A_:(x == ("__debug__":Str))=false:=by decide)
  (he:Ay X e es:=by rfl) (Ao:AG X pos es:=by rfl):PE X (.Call (.Name x p) (e::es) [] pos) (lq r t):=by
 intro E6 s Y H Q I h;exact zaN (pF I hg hm hv ?_ hn A_);show PyProof.Rows.callWith_type1 (zu (ha pos E6 s Y H _ I h) λ us s1 #[vs,H1,I1,r1,q1]=>hc E6 s1 Y H1 vs us Q I1 r1 q1) he Ao
end
end L2
namespace HT
open PySem PyProof.Rows
def lexLt:List Int->List Int->Bool
 | [],[]=>false
 | [],_::_=>true
 | _::_,[]=>false
 | x::xs,y::ys=>if x=y then lexLt xs ys else decide (x<y)
def sU (x y:Int) (xs ys:List Int):lexLt (x::xs) (y::ys)=if x=y then lexLt xs ys else decide (x<y):=rfl
def OD:lexLt [] []=false:=rfl
def OE (y:Int) (ys:List Int):lexLt [] (y::ys)=true:=rfl
def OG (x:Int) (xs:List Int):lexLt (x::xs) []=false:=rfl
def M0 (A:Around) (s:Shared) (a:Int) (t:Tok) (c:Int) (u:Tok):∃ e,SeqAt.EqAt A s (.int a t) (.int c u) e/\(e=true↔a=c):=
 #[(a == c),SeqAt.EqAt.int_int a t c u,#[]]
def V7 (A:Around) (s:Shared) (a:Int) (t:Tok) (c:Int) (u:Tok) (prog:Program) (w:World) (E:Af) (Q:Af) (h:Q (.bool (decide (a<c))) s):
  wpAny (model prog w) A (richCompare .Lt (.int a t) (.int c u)) Q E s:=
 (PyProof.Rows.lt_int h:wpAny (model prog w) A (compareOp .Lt (.int a t) (.int c u)) Q E s)
section
open PySem.SeqAt
open PySem.AutoSeq1 (wpAny_loadPart')
open PySem.MeetsSeq PySem.MeetsSeq2 PySem.MeetsSeq3
def Ww (l b:Addr) (items FC:Aw) (n n2:Nat) (dd HP:Option Addr) (sl HL:Array (Option Value)) (ns ms:List Int) (hi:IntsAre items.toList ns) (hj:IntsAre FC.toList ms):
  Meets (Builtin.«tuple.__lt__» #[[.ref l,.ref b],[]])
   (λ _ R s=>s.heap.get? l=↑{ cls:=.type "tuple",dict:=dd,data:=.seq items n,slots:=sl }/\s.heap.get? b=↑{ cls:=.type "tuple",dict:=HP,data:=.seq FC n2,slots:=HL }/\
    R (.ok (.ret (.bool (lexLt ns ms)))) s):=
 .of_wp λ prog w A R s h=>by
  let#[hp,g,d,tk,os]:=s;let#[hl,hb,h]:=h
  have f2:=AutoSeq1.sub_tuple_tuple;have z1:items.size=ns.length:=by rw[<- hi.length];simp
  have z2:FC.size=ms.length:=by rw[<- hj.length];simp
  wp_walk using wpAny_loadPart' hl,wpAny_loadPart' hb,wpAny_forIn_list _ (λ E9 b s'=>b.1=none/\s'=#[hp,g,d,tk,os]/\∃ (vs ws:Ae) (GH GI:List Int),E9=vs.zip ws/\
   IntsAre vs GH/\IntsAre ws GI/\GH.length+FC.size=GI.length+items.size/\R (.ok (.ret (.bool (lexLt GH GI)))) #[hp,g,d,tk,os]) _
  case turn=>
   rintro⟨y,x⟩ E9 b s' ⟨II,rfl,vs,ws,GH,GI,hz,Es,CW,hlen,hR⟩;cases Es with
   | nil=>rw[List.zip_nil_left] at hz;cases hz
   | cons a t Er=>
    cases CW with
    | nil=>rw[List.zip_nil_right] at hz;cases hz
    | cons c u En=>
     rw[List.zip_cons_cons] at hz
     injection hz with hyx Gz
     injection hyx with hy hx
     subst hy hx;rw[sU] at hR;simp![A9] at hlen;let#[e,he,Dx]:=M0 A.in1 #[hp,g,d,tk,os] a t c u;exact KW (he prog w _ _ ?_);cases e with
     | true=>
      rw[if_pos (Dx.mp rfl)] at hR
      wp_walk
      show#[rfl,rfl,_,_,_,_,Gz,Er,En,⋯,hR]
     | false=>
      rw[if_neg (λ q=>absurd (Dx.mpr q) BX)] at hR;have hri:=V7 A.in1 #[hp,g,d,tk,os] a t c u prog w
      wp_walk using hri
      show#[_,rfl,by exists hR]
  case fin=>
   rintro⟨b1,b2⟩ s' ⟨II,rfl,vs,ws,GH,GI,hz,Es,CW,hlen,hR⟩;simp only at II;subst II;have hv:lexLt GH GI=decide (items.size<FC.size):=by
    cases Es with
    | nil=>
     cases CW with
     | nil=>
      simp![B9] at hlen;rw[OD];show (za5 ⋯).symm
     | cons c u hw=>
      simp![B9,A9] at hlen;rw[OE];show (zaA ⋯).symm
    | cons a t hv=>
     cases CW with
     | nil=>
      simp![B9,A9] at hlen;rw[OG];show (za5 ⋯).symm
     | cons c u hw=>
      rw[List.zip_cons_cons] at hz;cases hz
   rw[hv] at hR
   wp_walk
   show#[_,rfl,by simpa [Builtin.Tuple.tupleCompareSizes] using hR]
  case h=>
   show#[rfl,rfl,items.toList,FC.toList,ns,ms,rfl,hi,hj,⋯,h]
end
section
variable {prog:Program}{w:World}{A:Around}{E:Af}{s:Shared}
def O7 {l b:Addr}{items FC:Aw}{ns ms:List Int}{Q:Af}(hl:IsTup s.heap l items) (hb:IsTup s.heap b FC) (hi:IntsAre items.toList ns) (hj:IntsAre FC.toList ms)
  (hu:A.units<cLine) (h:Q (.bool (lexLt ns ms)) s):wpAny (model prog w) A (compareOp .Lt (.ref l) (.ref b)) Q E s:=by
 let#[#[cls,dd,data,sl],ho,hc,n,hd]:=id hl;let#[#[IK,HP,data2,HL],Hn,GZ,n2,hd2]:=id hb;simp only at hc hd GZ hd2;subst hc hd GZ hd2;show richCompare_meets_room (op:=.Lt) #[_,ho,rfl] #[_,Hn,rfl] PySem.F.slot_tuple_lt PySem.F.entry_tuple_lt (PySem.F.args_tuple_lt_2 _ _) (Ww l b items FC n n2 dd HP sl HL ns ms hi hj)
  #[ho,Hn,show Value.bool (lexLt ns ms)≠Value.notImplemented/\Q (.bool (lexLt ns ms)) s from #[(λ x=>nomatch x),h]] hu
def Ll {t b:Addr}{vs ws:Ae}{Q:Af}(ht:IsTup s.heap t vs.toArray) (hb:IsTup s.heap b ws.toArray) (hv:vs≠[])
  (h1:ws=[]->Q (.ref t) s) (h2:ws≠[]->Q (.ref s.heap.objs.size) { s with heap:=s.heap.push { cls:=.type "tuple",data:=.seq (vs++ws).toArray } })
  (hsz:vs.length+ws.length<=sizeLine):wpAny (model prog w) A (binaryOp .Add (.ref t) (.ref b)) Q E s:=by
 let#[#[cls,dd,data,sl],ho,hc,n,hd]:=id ht;let#[#[IK,HP,data2,HL],Hn,GZ,n2,hd2]:=id hb;simp only at hc hd GZ hd2;subst hc hd GZ hd2;have e:vs.toArray++ws.toArray=(vs++ws).toArray:=#[];by_cases hw:ws=[]
 .show concat_meets #[_,ho,rfl] #[_,Hn,rfl] noFill_tuple_add seq_tuple_add PySem.F.slot_tuple_add PySem.F.entry_tuple_add (PySem.F.args_tuple_add_2 _ _)
   (tuple_addW1 t b vs.toArray ws.toArray n n2 dd HP sl HL (by exists hv) (by simp[hw])) #[ho,Hn,h1 hw]
 .exact concat_meets #[_,ho,rfl] #[_,Hn,rfl] noFill_tuple_add seq_tuple_add PySem.F.slot_tuple_add PySem.F.entry_tuple_add (PySem.F.args_tuple_add_2 _ _)
   (tuple_addW2 t b vs.toArray ws.toArray n n2 dd HP sl HL (by exists hv) (by exists hw) (by rw[AE,AE];show hsz)) #[ho,Hn,?_]
  rw[e];show h2 hw
def zF (n d:Nat):Option Int->Nat
 | none=>d
 | some v=>if v<0 then (v+(n:Int)).toNat else min v.toNat n
def Vu (n d:Nat) (hd:d<=n) (o:Option Int):zF n d o<=n:=by
 cases o with
 | none=>show hd
 | some v=>
  change (if v<0 then (v+(n:Int)).toNat else min v.toNat n)<=n;by_cases hv:v<0
  .rw[if_pos hv];lia
  .rw[if_neg hv];show Nat.min_le_right _ _
def Zz (v:Int) (n d:Nat):(if v<0 then max (v+(n:Int)) 0 else min v (n:Int))=((zF n d ↑v:Nat):Int):=by
 change (if v<0 then max (v+(n:Int)) 0 else min v (n:Int))=(((if v<0 then (v+(n:Int)).toNat else min v.toNat n):Nat):Int)
 by_cases hv:v<0
 .simp![if_pos hv];lia
 .simp![if_neg hv];lia
theorem Ke (lo hi:Option Int) (n:Nat):Builtin.Slice.sliceAdjust lo hi 1 (n:Int)=(((zF n 0 lo:Nat):Int),((zF n n hi:Nat):Int)):=by
 have h1:¬ ((1:Int)<0):=⋯;unfold Builtin.Slice.sliceAdjust;simp![h1,if_false];exact Prod.ext ?_ ?_
 .cases lo with
  | none=>rfl
  | some v=>show Zz v n 0
 .cases hi with
  | none=>rfl
  | some v=>show Zz v n n
theorem Ue (i j:Nat):Builtin.Slice.slicePlaces (i:Int) (j:Int) 1=j-i:=by
 unfold Builtin.Slice.slicePlaces;have h1:(1:Int)>0:=⋯;simp![h1,if_true,Int.ediv_one];split <;> lia
def dq {v:Value}{o:Option Int}{Q:Option Int->Shared->Prop}(p:IsPart v o) (h:Q o s):wpAny (model prog w) A (Builtin.Slice.slicePartIndex v) Q E s:=by
 cases p with
 | none=>show slicePart_none h
 | int i t=>show slicePart_int h
def du {sl:Addr}{vl vu:Value}{lo hi:Option Int}{n:Nat}{Q:Int×Int×Nat->Shared->Prop}(hs:s.heap.IsSliceOf sl vl vu .none) (pl:IsPart vl lo) (pu:IsPart vu hi)
  (h:Q (((zF n 0 lo:Nat):Int),1,zF n n hi-zF n 0 lo) s):wpAny (model prog w) A (Builtin.Slice.sliceApplied (.ref sl) (pure (n:Int))) Q E s:=by
 let#[os,Dr,hcs,D5]:=id hs;unfold Builtin.Slice.sliceApplied Builtin.Slice.sliceFields;exact KW (KW (za4 Dr D5 (x:=vl) rfl (KW (za4 Dr D5 (x:=vu) rfl (KW (za4 Dr D5 (x:=.none) rfl (Ad ?_)))))));exact KW (slicePart_none ?_);change wpAny _ _ (if ((1:Int) == 0)=true then _ else _) _ _ s;rw[if_neg ()];exact KW (dq pl (KW (dq pu (KW (Ad ?_)))));change wpAny _ _ (match Builtin.Slice.sliceAdjust lo hi 1 (n:Int) with | (lo,hi)=>pure (lo,(1:Int),Builtin.Slice.slicePlaces lo hi 1)) _ _ s;rw[Ke lo hi n];change wpAny _ _ (pure (((zF n 0 lo:Nat):Int),(1:Int),Builtin.Slice.slicePlaces ((zF n 0 lo:Nat):Int) ((zF n n hi:Nat):Int) 1)) _ _ s;rw[Ue];show Ad h
theorem Ui (xs:Aw) (i k:Nat):((List.range k).filterMap λ(m:Nat)=>xs[((i:Int)+(m:Int)*1).toNat]?).toArray=((xs.toList.drop i).take k).toArray:=by
 have e:(λ(m:Nat)=>xs[((i:Int)+(m:Int)*1).toNat]?)=λ m=>xs[i+m]?:=by
  funext m;have:((i:Int)+(m:Int)*1).toNat=i+m:=⋯;rw[this]
 rw[e];have:=pick_run xs i k;rw[List.filterMap_map] at this;have e2:((λ x=>xs[x]?) ∘ λ x=>i+x)=λ m=>xs[i+m]?:=rfl;rw[e2] at this;rw[this]
def Mb {t sl:Addr}{items:Aw}{vl vu:Value}{lo hi:Option Int}{Q:Af}(ht:IsTup s.heap t items) (hs:s.heap.IsSliceOf sl vl vu .none) (pl:IsPart vl lo) (pu:IsPart vu hi)
  (hw:¬ (zF items.size 0 lo=0/\zF items.size items.size hi=items.size))
  (h:Q (.ref s.heap.objs.size) { s with heap:=s.heap.push { cls:=.type "tuple",data:=.seq ((items.toList.drop (zF items.size 0 lo)).take (zF items.size items.size hi-zF items.size 0 lo)).toArray } })
  (hsz:items.size<=sizeLine):wpAny (model prog w) A (getItem (.ref t) (.ref sl)) Q E s:=by
 have He:sizeOk (.seq ((items.toList.drop (zF items.size 0 lo)).take (zF items.size items.size hi-zF items.size 0 lo)).toArray):=by
  change ((items.toList.drop (zF items.size 0 lo)).take (zF items.size items.size hi-zF items.size 0 lo)).toArray.size<=sizeLine;rw[AE,Dj,Eg,BH];lia
 have hj:zF items.size items.size hi<=items.size:=Vu _ _ (Ak _) hi;let#[os,Dr,hcs,D5]:=id hs;have hTs:s.TypeIs (.ref sl) "slice":=#[os,Dr,hcs];unfold getItem
 try with_reducible exact za6 ?_
 first | exact KW (Ad ?_) | skip
 exact KW (wpAny_sequenceKey ht.typeIs () ?_);exact KW (zaH (name:=Str.ofString "__getitem__") ht.typeIs PyProof.Rows.slot_tuple_getitem
  (zaB PyProof.Rows.slot_tuple_getitem ht.typeIs entry_tuple_getitem ?_ (args_tuple_getitem _ _)))
 change wpAny _ _ (Builtin.Tuple.tupleItemsOf (.ref t) >>= _) _ _ s;exact KW (tupleItemsOf_ ht ?_);exact KW (zaI hTs ?_);rw[if_pos ()];exact KW (du hs pl pu ?_);have hno:¬ ((((zF items.size 0 lo:Nat):Int) == 0&&(1:Int) == 1&&(zF items.size items.size hi-zF items.size 0 lo) == items.size)=true):=by
  intro q;rw[Bw,Bw] at q;have q1:((zF items.size 0 lo:Nat):Int)=0:=eq_of_beq q.1.1;have q2:zF items.size items.size hi-zF items.size 0 lo=items.size:=eq_of_beq q.2;show hw #[⋯,⋯]
 change wpAny _ _ (if (((zF items.size 0 lo:Nat):Int) == 0&&(1:Int) == 1&&(zF items.size items.size hi-zF items.size 0 lo) == items.size)=true then _ else _) _ _ s;rw[if_neg hno,Ui]
 first
  | show KW (m:=Builtin.Tuple.tupleExact _) (za8 (Ad #[_,rfl,Ad h]) He)
  | show KW (m:=Builtin.Tuple.tupleExact _) (za8 (KW (Ad (Ad #[_,rfl,Ad h]))) He)
  | show KW (KW (m:=Builtin.Tuple.tupleExact _) (za8 (Ad (Ad #[_,rfl,Ad h])) He))
  | show KW (KW (m:=Builtin.Tuple.tupleExact _) (za8 (Ad #[_,rfl,Ad h]) He))
end
end HT
namespace L2
open PySem PySem.Spec PyProof.Rows
abbrev TO:=St->Hp->(Option Int->Hp->Prop)->Prop
def PO (X:Cx) (e:Option Expr) (t:TO):Prop:=
 ∀ (E6:Ai) (s:Shared) (Y:St) (H:Hp) (Q:Option Int->Hp->Prop),Inv X E6 Y H s->t Y H Q->
  wpAny (model X.prog X.w) X.A (evalPart e X.env) (λ u s'=>∃ o H',Inv X E6 Y H' s'/\IsPart u o/\Q o H') X.xe s
def WI:TO:=λ _ H Q=>Q none H
def WD (t:TE):TO:=fun Y H Q=>t Y H λ x H1=>∃ i,x=.int i/\Q ↑i H1
def intsAre_of {ns:List Int}:∀ {us:Ae},Vals (ns.map V.int) us->IntsAre us ns:=by
 induction ns with
 | nil=>intro us r;rw[Bi] at r;cases r;show .nil
 | cons n ns ih=>
  intro us r;rw[Ax] at r;cases r with
  | cons r1 r2=>
   let#[t,e]:=r1;subst e;show .cons n t (ih r2)
section
variable {X:Cx}{e:Expr}{te:TE}{lo hi:Option Expr}{tl th:TO}{pos p2:Pos}
def Ud:PO X none WI:=by
 intro E6 s Y H Q I h;rw[evalPart_none];show Ad #[none,H,I,.none,h]
def Uc (h:PE X e te):PO X ↑e (WD te):=by
 intro E6 s Y H Q I hw;rw[evalPart_some];exact zu (h E6 s Y H _ I hw) λ u s1 #[x,H1,I1,r1,q1]=>?_;let#[i,rfl,q]:=q1;let#[t,rfl]:=r1;show#[↑i,H1,I1,.int i t,q]
def rB (X:Cx) (r:V->Option Int->Option Int->Hp->VK->Prop):Prop:=
 ∀ (E6:Ai) (s:Shared) (Y:St) (H:Hp) (x:V) (v vl vu:Value) (lo hi:Option Int) (sl:Addr) (Q:VK),Inv X E6 Y H s->RelV x v->s.heap.IsSliceOf sl vl vu .none->IsPart vl lo->IsPart vu hi->r x lo hi H Q->
  ∃ T id,typeLookup (.type T) "__getitem__"=pure ↑(.builtin id)/\s.TypeIs v T/\wpAny (model X.prog X.w) X.A (getItem v (.ref sl)) (EP X E6 Y Q) X.xe s
def rB.or {r r':V->Option Int->Option Int->Hp->VK->Prop}(h:rB X r) (h':rB X r'):rB X (λ x lo hi H Q=>r x lo hi H Q\/r' x lo hi H Q):=by
 intro E6 s Y H x v vl vu lo hi sl Q I rx hs pl pu q;rcases q with q | q
 .show h E6 s Y H x v vl vu lo hi sl Q I rx hs pl pu q
 .show h' E6 s Y H x v vl vu lo hi sl Q I rx hs pl pu q
def W9 (r:V->Option Int->Option Int->Hp->VK->Prop) (te:TE) (tl th:TO):TE:=fun Y H Q=>te Y H λ x H1=>tl Y H1 λ l H2=>th Y H2 λ u H3=>r x l u H3 Q
theorem U4 {r:V->Option Int->Option Int->Hp->VK->Prop}(hr:rB X r) (he:PE X e te) (hl:PO X lo tl) (hu:PO X hi th):PE X (.Subscript e (.Slice lo hi none p2) pos) (W9 r te tl th):=by
 intro E6 s Y H Q I h;exact Subscript_ (zu (he E6 s Y H _ I h) λ v s1 #[x,H1,I1,r1,q1]=>?_);exact wpAny_Slice (zu (hl E6 s1 Y H1 _ I1 q1) λ vl s2 #[l,H2,I2,pl,q2]=>zu (hu E6 s2 Y H2 _ I2 q2) λ vu s3 #[u,H3,I3,pu,q3]=>?_);rw[evalPart_none];exact Ad ?_;have I4:Inv X E6 Y H3 { s3 with heap:=s3.heap.push { cls:=.type "slice",data:=.fields [vl,vu,.none].toArray } }:=I3.kept (t':=s3.toks) λ b ob q=>gV _ q;let#[T,id,hT,ht,hg]:=hr E6 { s3 with heap:=s3.heap.push { cls:=.type "slice",data:=.fields [vl,vu,.none].toArray } } Y H3 x v vl vu l u s3.heap.objs.size Q I4 r1 (Heap.IsSliceOf.new ..) pl pu q3;change wpAny (model X.prog X.w) X.A (subscriptTail e (.Slice lo hi none p2) v (.ref s3.heap.objs.size)) (EP X E6 Y Q) X.xe { s3 with heap:=s3.heap.push { cls:=.type "slice",data:=.fields [vl,vu,.none].toArray } };show tail_any (ops:=[.ref s3.heap.objs.size,v]) ht hT hg (by with_unfolding_all rfl)
def t4 (xs:List V) (lo hi:Option Int):List V:=(xs.drop (HT.zF xs.length 0 lo)).take (HT.zF xs.length xs.length hi-HT.zF xs.length 0 lo)
def Zs (xs:List V) (lo hi:Option Int):(t4 xs lo hi).length<=xs.length:=by
 unfold t4;rw[Dj,Eg];lia
def dS (K:Ac):V->Option Int->Option Int->Hp->VK->Prop:=λ x lo hi H Q=>∃ a xs,x=.ref a/\zW K H a xs/\
 ¬ (HT.zF xs.length 0 lo=0/\HT.zF xs.length xs.length hi=xs.length)/\∀ p,H p=none->Q (.ref p) (upd H p (.tup (t4 xs lo hi)))
theorem Vl:rB X (dS X.K):=by
 intro E6 s Y H x v vl vu lo hi sl Q I rx hs pl pu h;let#[a,xs,rfl,hx,hw,q]:=h;cases rx;let#[Aa,r,ht,hz]:=I.tuple hx;have hlen:Aa.toArray.size=xs.length:=by rw[AE];show r.length.symm
 exact#["tuple",_,PyProof.Rows.slot_tuple_getitem.lookup,ht.typeIs,?_];exact HT.Mb ht hs pl pu (by rw[hlen];show hw) ?_ (by rw[hlen];show hz);rw[hlen];exact#[.ref s.heap.objs.size,_,I.laid (t':=s.toks) (o:=.tup (t4 xs lo hi)) (λ b ob q=>gV _ q) (Ak _) ?_,rfl,q _ (I.zp.fresh (Ak _))];show#[#[Bo (Zs xs lo hi) hz,.new _],_,(r.drop (HT.zF xs.length 0 lo)).take (HT.zF xs.length xs.length hi-HT.zF xs.length 0 lo),IsTup.new _ _]
def jU (K:Ac):R2:=λ x y H Q=>∃ a b ns ms,x=.ref a/\y=.ref b/\zW K H a (ns.map V.int)/\zW K H b (ms.map V.int)/\Q (.bl (HT.lexLt ns ms)) H
def R9 (hu:X.A.units<cLine):zY X (compareOp .Lt) (jU X.K):=by
 intro E6 s Y H x y v u Q I rx ry h;let#[a,b,ns,ms,rfl,rfl,ha,hb,q]:=h;cases rx;cases ry;let#[Aa,r1,p1,_]:=I.tuple ha;let#[FP,r2,p2,_]:=I.tuple hb;have i1:IntsAre Aa.toArray.toList ns:=intsAre_of r1;have i2:IntsAre FP.toArray.toList ms:=intsAre_of r2;show HT.O7 p1 p2 i1 i2 hu #[.bl (HT.lexLt ns ms),H,I,rfl,q]
def cj (K:Ac):R2:=λ x y H Q=>∃ a b xs ys,x=.ref a/\y=.ref b/\zW K H a xs/\zW K H b ys/\xs≠[]/\xs.length+ys.length<=sizeLine/\
 (ys=[]->Q (.ref a) H)/\(ys≠[]->∀ p,H p=none->Q (.ref p) (upd H p (.tup (xs++ys))))
def Vals.ng {xs:List V}{us:Ae}(r:Vals xs us):us=[]↔xs=[]:=by
 cases r with
 | _=>simp
theorem RF:zY X (binaryOp .Add) (cj X.K):=by
 intro E6 s Y H x y v u Q I rx ry h;let#[a,b,xs,ys,rfl,rfl,ha,hb,hx,hz,q1,q2]:=h;cases rx;cases ry;let#[Aa,r1,p1,_]:=I.tuple ha;let#[FP,r2,p2,_]:=I.tuple hb;exact HT.Ll p1 p2 (λ z=>hx (r1.ng.mp z)) (λ z=>#[.ref a,H,I,rfl,q1 (r2.ng.mp z)]) (λ z=>?_) (by rw[<- r1.length,<- r2.length];show hz);exact#[.ref s.heap.objs.size,_,I.laid (t':=s.toks) (o:=.tup (xs++ys)) (λ b ob q=>gV _ q) (Ak _) ?_,rfl,q2 (λ w=>z (r2.ng.mpr w)) _ (I.zp.fresh (Ak _))];show#[#[by rw[Cb];show hz,.new _],_,r1.append r2,IsTup.new _ _]
end
def vd (n:Nat) (i:Int):Option Nat:=if 0<=i then (if i<n then ↑i.toNat else none) else if -(n:Int)<=i then ↑(i+n).toNat else none
def zQ {α:Type}(xs:List α) (i:Int):Option α:=(vd xs.length i).bind λ j=>xs[j]?
theorem bI {n:Nat}{i:Int}{j:Nat}(h:vd n i=↑j):seqIndex? i n=↑j/\j<n/\-(n:Int)<=i/\i<n:=by
 unfold vd at h;by_cases h0:0<=i
 .rw[if_pos h0] at h;by_cases h1:i<n
  .rw[if_pos h1] at h;have e:i.toNat=j:=Bb h;show#[by rw[seqIndex_of h0 h1,e],⋯,⋯,h1]
  .rw[if_neg h1] at h;cases h
 .rw[if_neg h0] at h;by_cases h1:-(n:Int)<=i
  .rw[if_pos h1] at h;have e:(i+n).toNat=j:=Bb h;show#[by rw[seqIndex_neg ⋯ h1,e],⋯,h1,⋯]
  .rw[if_neg h1] at h;cases h
def gY {α:Type}{xs:List α}{i:Int}{v:α}(h:zQ xs i=↑v):∃ j,seqIndex? i xs.length=↑j/\xs[j]?=↑v/\j<xs.length/\-(xs.length:Int)<=i/\i<xs.length:=by
 unfold zQ at h;cases e:vd xs.length i with
 | none=>rw[e] at h;cases h
 | some j=>
  rw[e] at h;let#[h1,h2,h3,h4]:=bI e;show#[j,h1,h,h2,h3,h4]
theorem gX {α:Type}(xs:List α) (v:α):zQ (xs++[v]) (-1)=↑v:=by
 have hl:(xs++[v]).length=xs.length+1:=#[];have e:vd (xs++[v]).length (-1)=↑xs.length:=by
  unfold vd;rw[hl,if_neg (),if_pos ⋯];congr 1;lia
 unfold zQ;rw[e];change (xs++[v])[xs.length]?=↑v;simp
def Yh (b:Expr):Prop:=∀ o i,subscripted b false o i=operate [o,i] (getItem o i)
def su (X:Cx) (r:R2):Prop:=
 ∀ (value slice:Expr) (E6:Ai) (s:Shared) (Y:St) (H:Hp) (x y:V) (v u:Value) (Q:VK),Inv X E6 Y H s->RelV x v->RelV y u->r x y H Q->
  subscripted slice false v u=operate [v,u] (getItem v u)->wpAny (model X.prog X.w) X.A (subscriptTail value slice v u) (EP X E6 Y Q) X.xe s
def Kk (X:Cx) (id:String) (r:V->List V->Hp->VK->Prop):Prop:=
 ∀ (E6:Ai) (s:Shared) (Y:St) (H:Hp) (x:V) (xs:List V) (v:Value) (us:Ae) (Q:VK),Inv X E6 Y H s->RelV x v->Vals xs us->r x xs H Q->
  wpAny (model X.prog X.w) X.A (call (.builtin id) (v::us)) (EP X E6 Y Q) X.xe s
section
variable {X:Cx}{a b:Expr}{ta tb:TE}{pos:Pos}
def su.or {r r':R2}(h:su X r) (h':su X r'):su X (λ x y H Q=>r x y H Q\/r' x y H Q):=by
 intro value slice E6 s Y H x y v u Q I rx ry q hs;rcases q with q | q
 .show h value slice E6 s Y H x y v u Q I rx ry q hs
 .show h' value slice E6 s Y H x y v u Q I rx ry q hs
def UB {r:R2}(hr:su X r) (ha:PE X a ta) (hb:PE X b tb) (hs:Yh b):PE X (.Subscript a b pos) (oE r ta tb):=by
 intro E6 s Y H Q I h;show Subscript_ (gT ha hb I h λ v u s2 x y H2 I2 rx ry q=>hr a b E6 s2 Y H2 x y v u Q I2 rx ry q (hs _ _))
def dY (K:Ac):R2:=λ x y H Q=>∃ p xs i v,x=.ref p/\y=.int i/\zO K H p xs/\zQ xs i=↑v/\Q v H
def dW (K:Ac):R2:=λ x y H Q=>∃ p xs i v,x=.ref p/\y=.int i/\zW K H p xs/\zQ xs i=↑v/\Q v H
def dX:R2:=λ x y H Q=>∃ z i c,x=.str z/\y=.int i/\z.length<=sizeLine/\zQ z.cps.toList i=↑c/\Q (.str #[[c].toArray]) H
theorem Nn:su X (dY X.K):=by
 intro value slice E6 s Y H x y v u Q I rx ry h hs;let#[p,xs,i,z,rfl,rfl,hq,he,q]:=h;cases rx;let#[t,rfl]:=ry;let#[Aa,r,pl,hz]:=I.list hq;let#[j,h1,h2,h3,h4,h5]:=gY he;let#[w,ew,Hz]:=r.get h2;have hl:=r.length;have hn:=qp;have fin:EP X E6 Y Q w s:=#[z,H,I,Hz,q];by_cases h0:0<=i
 .have hj:i.toNat=j:=by
   rw[seqIndex_of h0 h5] at h1;show Bb h1
  show item_listR pl.isList h0 ⋯ (by rw[hj];exists ew) fin hs
 .have hj:(i+(Aa.toArray.size:Int)).toNat=j:=by
   rw[seqIndex_neg ⋯ h4] at h1;rw[AE,<- hl];show Bb h1
  show subscriptTail_builtinR (x:=w) pl.isList.typeIs slot_list_getitem.lookup
   (wpAny_getItem_list_neg (Q:=λ r s'=>r=w/\EP X E6 Y Q r s') pl.isList ⋯ (by rw[AE] <;> lia) ⋯ (by rw[hj];exists ew) #[rfl,fin]) hs
theorem Nk:su X (dW X.K):=by
 intro value slice E6 s Y H x y v u Q I rx ry h hs;let#[p,xs,i,z,rfl,rfl,hq,he,q]:=h;cases rx;let#[t,rfl]:=ry;let#[Aa,r,pl,hz]:=I.tuple hq;let#[j,h1,h2,h3,h4,h5]:=gY he;let#[w,ew,Hz]:=r.get h2;have hl:=r.length;have hn:=qp;have fin:EP X E6 Y Q w s:=#[z,H,I,Hz,q];show subscriptTail_builtinR (x:=w) pl.typeIs slot_tuple_getitem.lookup
  (getItem_tuple (j:=j) (Q:=λ r s'=>r=w/\EP X E6 Y Q r s') pl ⋯ ⋯ (by rw[AE,<- hl];show h1) (by exists ew) #[rfl,fin]) hs
theorem Nl:su X dX:=by
 intro value slice E6 s Y H x y v u Q I rx ry h hs;let#[z,i,c,rfl,rfl,hz,he,q]:=h;let#[t,rfl]:=rx;let#[t',rfl]:=ry;let#[j,h1,h2,h3,h4,h5]:=gY he;have hl:z.cps.toList.length=z.length:=by simp[Str.length]
 rw[hl] at h1 h4 h5;have hn:=qp;show tail_any (typeIs_str s z t) slot_str_getitem.lookup (getItem_str (c:=c) (by
  have e1:decide (i < -(2 ^ 63:Int))=false:=za5 ⋯;have e2:decide (i≥2 ^ 63)=false:=za5 ⋯;rw[e1,e2,Bool.or_false]) (by rw[h1];exists h2) #[.str #[[c].toArray],H,I.tok _,#[_,rfl],q]) hs
def dZ (K:Ac):R2:=λ x y H Q=>dY K x y H Q\/dW K x y H Q\/dX x y H Q
def Nm:su X (dZ X.K):=Nn.or (Nk.or Nl)
def O4 (Aa:Ae) (n j:Nat) (u:Value):Obj.mapSeq (·.setIfInBounds j u) { cls:=.type "list",data:=.seq Aa.toArray n }={ cls:=.type "list",data:=.seq (Aa.set j u).toArray n }:=by
 simp[Obj.mapSeq]
theorem Inv.lst {E6:Ai}{Y:St}{H:Hp}{s:Shared}{p:Addr}{xs:List V}(I:Inv X E6 Y H s) (h:H p=↑(.lst xs)):
  ∃ (Aa:Ae) (n:Nat),Vals xs Aa/\s.heap.get? p=↑{ cls:=.type "list",data:=.seq Aa.toArray n }/\xs.length<=sizeLine:=by
 let#[z,Aa,n,r,e]:=I.zp p _ h;show#[Aa,n,r,e,z]
def Inv.O8 {E6:Ai}{Y:St}{H:Hp}{s:Shared}{p:Addr}{xs ys:List V}{Aa AQ:Ae}{n n':Nat}{f:Obj->Obj}(I:Inv X E6 Y H s) (h:H p=↑(.lst xs))
  (ho:s.heap.get? p=↑{ cls:=.type "list",data:=.seq Aa.toArray n }) (hf:f { cls:=.type "list",data:=.seq Aa.toArray n }={ cls:=.type "list",data:=.seq AQ.toArray n' }) (r:Vals ys AQ) (hz:ys.length<=sizeLine) (t:Nat):
  Inv X E6 Y (upd H p (.lst ys)) { s with heap:=s.heap.update p f,toks:=t }:=by
 have e:(s.heap.update p f).get? p=↑{ cls:=.type "list",data:=.seq AQ.toArray n' }:=by
  rw[za7 f ho (by rw[hf] <;> rfl),hf]
 exact I.write (x:=p) (e:=p) (by rw[h];trivial) (.inl rfl) (λ b u hb q=>(za9 _ _ (Ne.symm hb)).trans q) #[_,e] ?_;show#[hz,AQ,n',r,e]
def VC:V->V->V->Hp->(Hp->Prop)->Prop:=λ o i v H Q=>∃ p xs k j,o=.ref p/\i=.int k/\H p=↑(.lst xs)/\vd xs.length k=↑j/\Q (upd H p (.lst (xs.set j v)))
theorem set_list:Yi X VC:=by
 intro E6 s Y H o i v ov iv u Q I ro ri rv h;let#[p,xs,k,j,rfl,rfl,hp,hj,q]:=h;cases ro;let#[t,rfl]:=ri;let#[Aa,n,r,ho,hz]:=I.lst hp;let#[h1,h2,h3,h4]:=bI hj;have hl:=r.length;have hn:=qp;have I':Inv X E6 Y (upd H p (.lst (xs.set j v))) { s with heap:=s.heap.update p (Obj.mapSeq (·.setIfInBounds j u)) }:=
  I.O8 hp ho (O4 Aa n j u) (r.set rv j) (by rw[CS];show hz) s.toks
 by_cases h0:0<=k
 .have hk:k.toNat=j:=by
   rw[seqIndex_of h0 h4] at h1;show Bb h1
  show PySem.W.ki_setAt ho h0 ⋯ (by rw[AE,<- hl];show h4) (by rw[hk];show#[_,I',q])
 .have hk:(k+(Aa.toArray.size:Int)).toNat=j:=by
   rw[seqIndex_neg ⋯ h3] at h1;rw[AE,<- hl];show Bb h1
  show PySem.W.ki_setBack ho ⋯ (by rw[AE,<- hl];show h3) ⋯ (by rw[hk];show#[_,I',q])
def Vi (lo hi:Option Int) (n:Nat):(sliceBounds lo hi none n).1=((HT.zF n 0 lo:Nat):Int)/\(sliceBounds lo hi none n).2.1=((HT.zF n n hi:Nat):Int)/\(sliceBounds lo hi none n).2.2=1:=by
 exact#[?_,?_,rfl]
 .cases lo with
  | none=>simp[sliceBounds,HT.zF]
  | some i=>
   simp![sliceBounds,HT.zF,Option.getD_none,show (1:Int)>0 by decide,if_true];by_cases h:i<0
   .simp![h,if_true] <;> lia
   .simp![h,if_false] <;> lia
 .cases hi with
  | none=>simp[sliceBounds,HT.zF]
  | some i=>
   simp![sliceBounds,HT.zF,Option.getD_none,show (1:Int)>0 by decide,if_true];by_cases h:i<0
   .simp![h,if_true] <;> lia
   .simp![h,if_false] <;> lia
def Vj (Aa:Ae) (lo hi:Option Int):slicePick Aa.toArray lo hi none=((Aa.drop (HT.zF Aa.length 0 lo)).take (HT.zF Aa.length Aa.length hi-HT.zF Aa.length 0 lo)).toArray:=by
 let#[h1,h2,h3]:=Vi lo hi Aa.toArray.size;unfold slicePick;rw[h1,h2,h3];simp![sliceRange_one,pick_run,AE] <;> rfl
def dU (K:Ac):V->Option Int->Option Int->Hp->VK->Prop:=λ x lo hi H Q=>∃ a xs,x=.ref a/\zO K H a xs/\∀ p,H p=none->Q (.ref p) (upd H p (.lst (t4 xs lo hi)))
theorem Vm:rB X (dU X.K):=by
 intro E6 s Y H x v vl vu lo hi sl Q I rx hs pl pu h;let#[a,xs,rfl,hx,q]:=h;cases rx;let#[Aa,r,ht,hz]:=I.list hx;have hlen:=r.length;exact#["list",_,slot_list_getitem.lookup,ht.isList.typeIs,?_];exact wpAny_getItem_list_slice ht.isList hs pl pu .none #[] ?_ (by rw[AE] <;> lia);rw[Vj,<- hlen];exact#[.ref s.heap.objs.size,_,I.laid (t':=s.toks) (o:=.lst (t4 xs lo hi)) (λ b ob q=>gV _ q) (Ak _) ?_,rfl,q _ (I.zp.fresh (Ak _))];show#[Bo (Zs xs lo hi) hz,_,0,(r.drop (HT.zF xs.length 0 lo)).take (HT.zF xs.length xs.length hi-HT.zF xs.length 0 lo),AM _ rfl]
theorem L9:yD X (.builtin "len") (λ xs H Q=>∃ p ys,xs=[.ref p]/\(zO X.K H p ys\/zW X.K H p ys)/\Q (.int ys.length) H):=by
 intro E6 s Y H xs us Q I r h;let#[p,ys,rfl,hq,q]:=h;let#[u,rfl,rx]:=vals1 r;cases rx;have hn:=qp;rcases hq with hq | hq
 .let#[Aa,r',pl,hz]:=I.list hq;have hlen:=r'.length;show Calls.call_len_list pl.isList (by simp![AE] <;> lia) #[.int ys.length,H,I.tok _,#[s.toks+1,by rw[AE,hlen]],q]
 .let#[Aa,r',pl,hz]:=I.tuple hq;have hlen:=r'.length;show len_tuple pl (by simp![AE] <;> lia) #[.int ys.length,H,I.tok _,#[s.toks+1,by rw[AE,hlen]],q]
theorem L8:yD X (.builtin "len") (λ xs H Q=>∃ z,xs=[.str z]/\z.length<=sizeLine/\Q (.int z.length) H):=by
 intro E6 s Y H xs us Q I r h;let#[z,rfl,hz,q]:=h;let#[u,rfl,t,rfl]:=vals1 r;have hn:=qp;show len_str ⋯ #[.int z.length,H,I.tok _,#[_,rfl],q]
def yD.or {f:Value}{r r':List V->Hp->VK->Prop}(h:yD X f r) (h':yD X f r'):yD X f (λ xs H Q=>r xs H Q\/r' xs H Q):=by
 intro E6 s Y H xs us Q I rs q;rcases q with q | q
 .show h E6 s Y H xs us Q I rs q
 .show h' E6 s Y H xs us Q I rs q
theorem L6:yD X (.type "list") (λ xs H Q=>∃ p ys,xs=[.ref p]/\(zO X.K H p ys\/zW X.K H p ys)/\∀ l,H l=none->Q (.ref l) (upd H l (.lst ys))):=by
 intro E6 s Y H xs us Q I r h;let#[p,ys,rfl,hq,q]:=h;let#[u,rfl,rx]:=vals1 r;cases rx;have fin:∀ (Aa:Ae),Vals ys Aa->ys.length<=sizeLine->∀ (h':Heap) (c':Nat),(∀ b o',s.heap.get? b=↑o'->h'.get? b=↑o')->
   h'.get? s.heap.objs.size=↑{ cls:=.type "list",dict:=none,data:=.seq Aa.toArray c',slots:=[].toArray }->EP X E6 Y Q (.ref s.heap.objs.size) { s with heap:=h' }:=λ Aa r' hz h' c' kp e=>
  #[.ref s.heap.objs.size,_,I.laid (t':=s.toks) kp (Ak _) (show yW X.prog X.w _ h' _ (.lst ys) from #[hz,Aa,c',r',e]),rfl,q _ (I.zp.fresh (Ak _))]
 rcases hq with hq | hq
 .let#[Aa,r',pl,hz]:=I.list hq;have hlen:=r'.length;let#[o,ho,hc,n,hd]:=pl.isList;show call_list_seq p (.inl rfl) ho hc hd (λ h' c' kp e=>fin Aa r' hz h' c' kp e) (by simp![AE] <;> lia)
 .let#[Aa,r',pl,hz]:=I.tuple hq;have hlen:=r'.length;let#[o,ho,hc,n,hd]:=pl;show call_list_seq p (.inr rfl) ho hc hd (λ h' c' kp e=>fin Aa r' hz h' c' kp e) (by simp![AE] <;> lia)
theorem Lm:yD X (.type "tuple") (λ xs H Q=>∃ p ys,xs=[.ref p]/\((zO X.K H p ys/\∀ l,H l=none->Q (.ref l) (upd H l (.tup ys)))\/(zW X.K H p ys/\Q (.ref p) H))):=by
 intro E6 s Y H xs us Q I r h;let#[p,ys,rfl,h]:=h;let#[u,rfl,rx]:=vals1 r;cases rx;rcases h with ⟨hq,q⟩ | ⟨hq,q⟩
 .let#[Aa,r',pl,hz]:=I.list hq;have hlen:=r'.length;exact call_tuple_list pl.isList (λ h' kp=>?_) (by simp![AE] <;> lia);have I1:Inv X E6 Y H { s with heap:=h' }:=I.kept (t':=s.toks) kp;have I2:Inv X E6 Y (upd H h'.objs.size (.tup ys)) { s with heap:=h'.push { cls:=.type "tuple",data:=.seq Aa.toArray } }:=
   I1.laid (t':=s.toks) (λ b o e=>gV _ e) (Ak _) (show yW X.prog X.w _ _ _ (.tup ys) from #[#[hz,.new _],Aa,r',IsTup.new _ _])
  show#[.ref h'.objs.size,_,I2,rfl,q _ (I1.zp.fresh (Ak _))]
 .let#[Aa,r',pl,hz]:=I.tuple hq;show call_tuple_same pl #[.ref p,H,I,rfl,q]
def eV (K:Ac) (T:String) (x:V) (H:Hp):Prop:=match x with
 | .str _=>T="str"
 | .int _=>T="int"
 | .ref p=>(T="list"/\∃ xs,zO K H p xs)\/(T="tuple"/\∃ o,K.lookup p=↑o/\o.cls=.type "tuple"/\o.dict=none)\/
   (T="dict"/\((∃ Ab,H p=↑(.dK Ab))\/∃ Ab,H p=↑(.dT Ab)))\/(T="set"/\∃ S n,H p=↑(.set S n))
 | _=>False
def Wo {E6:Ai}{Y:St}{H:Hp}{s:Shared}{T:String}{x:V}{v:Value}(I:Inv X E6 Y H s) (r:RelV x v) (ty:eV X.K T x H):
  s.TypeIs v T/\∀ a,v=.ref a->∃ ob,s.heap.get? a=↑ob/\ob.dict=none:=by
 cases x with
 | str z=>
  let#[t,rfl]:=r;cases (show T="str" from ty);show#[typeIs_str s z t,λ _ e=>nomatch e]
 | int i=>
  let#[t,rfl]:=r;cases (show T="int" from ty);show#[typeIs_int s i t,λ _ e=>nomatch e]
 | ref p=>
  cases r;rcases ty with ⟨rfl,xs,hq⟩ | ⟨rfl,o,hk,hc,hd⟩ | ⟨rfl,hk⟩ | ⟨rfl,S,n,hk⟩
  .let#[Aa,_,pl,_]:=I.list hq;exact#[pl.isList.typeIs,λ a e=>?_];cases e;let#[o,n,e,c,hd,_]:=pl;show#[o,e,hd]
  .exact#[#[o,I.yo p o hk,hc],λ a e=>?_];cases e;show#[o,I.yo _ o hk,hd]
  .have z:∃ o,s.heap.get? p=↑o/\o.ExactDict:=by
    rcases hk with ⟨Ab,hk⟩ | ⟨Ab,hk⟩
    .let#[_,_,_,_,o,_,_,e,ex,_]:=I.zp p _ hk;show#[o,e,ex]
    .let#[_,_,_,_,o,_,_,e,ex,_]:=I.zp p _ hk;show#[o,e,ex]
   let#[o,e,ex]:=z;exact#[#[o,e,ex.1],λ a e2=>?_];cases e2;show#[o,e,ex.2.1]
  .let#[o,_,_,_,e,ex,_]:=I.zp p _ hk;exact#[#[o,e,ex.1],λ a e2=>?_];cases e2;show#[o,e,ex.2.1]
 | _=>show False.elim ty
def jE (K:Ac) (T:String) (r:V->List V->Hp->VK->Prop) (to:TE) (t:TA):TE:=fun Y H Q=>to Y H λ x H1=>eV K T x H1/\t Y H1 λ xs H2=>r x xs H2 Q
variable {o e:Expr}{es:List Expr}{to:TE}{t:TA}{name:Str}{apos Aj:Pos}{T id:String}{r:V->List V->Hp->VK->Prop}
def cA (pa:PlainAttrs T) (slot:Slot T name id) (hty:typeOf (.builtin id)=pure (.type "method_descriptor")) (hm:Kk X id r) (ho:PE X o to) (ha:PA X (e::es) t)
  (FT:attributeBase o name X.env (eval o X.env)=eval o X.env:=by rfl)
  (AU:((backTo Aj (starEach (e::es) X.env)).all (λ x=>!x.1)&&(backToKw Aj (keywordEach [] X.env)).all (λ x=>x.1.isSome)
   && decide ((e::es).length+([]:List Keyword).length+(if ([]:List Keyword).isEmpty then 0 else 1)<30))=true:=by rfl)
  (G0:(apos.endLine == Aj.line)=true:=by rfl) (hs:Ay X e es:=by rfl) (GA:AG X Aj es:=by rfl):
  PE X (.Call (.Attribute o name apos) (e::es) [] Aj) (jE X.K T r to t):=by
 intro E6 s Y H Q I h;exact wpAny_Call_method_late FT AU G0 rfl (zu (ho E6 s Y H _ I h) λ v s1 #[x,H1,I1,r1,ty,q1]=>?_);let#[h1,h2]:=Wo I1 r1 ty;exact#[T,id,pa,slot,hty,h1,h2,?_];have hA:=ha Aj E6 s1 Y H1 _ I1 q1;rw[hs] at hA ⊢;exact Calls.callWith_builtin (by change (false||(backTo Aj (starEach es X.env)).any (·.1))=false;rw[GA] <;> rfl) (Calls.evalArgs_plain ?_);show zu hA λ us s2 #[vs,H2,I2,r2,q2]=>hm E6 s2 Y H2 x vs v us Q I2 r1 r2 q2
end
def Yl (X:Cx) (id:String) (r:V->List V->Hp->VK->Prop):Prop:=
 ∀ (E6:Ai) (s:Shared) (Y:St) (H:Hp) (x:V) (xs:List V) (v:Value) (us:Ae) (Q:VK),Inv X E6 Y H s->RelV x v->Vals xs us->r x xs H Q->
  wpAny (model X.prog X.w) X.A (call (.builtin id) (v::us)) (EP X E6 Y Q) X.xe s
theorem Vals.one:∀ {x:V}{us:Ae},Vals [x] us->∃ u,us=[u]/\RelV x u
 | _,_,.cons r .nil=>#[_,rfl,r]
theorem Vals.rep {xs:List V}{us:Ae}(h:Vals xs us):∀ k:Nat,Vals (List.replicate k xs).flatten (List.replicate k us).flatten
 | 0=>.nil
 | k+1=>by
  rw[B4,B4,Ck,Ck];show Vals.append h (Vals.rep h k)
section
variable {X:Cx}{E6:Ai}{Y:St}{H:Hp}{s:Shared}{l:Addr}{xs ys:List V}
def Inv.bu {Aa AQ:Ae}{n:Nat}{f:Array Value->Array Value}{t':Nat}(I:Inv X E6 Y H s) (hH:H l=↑(.lst xs))
  (e:s.heap.get? l=↑{ cls:=.type "list",data:=.seq Aa.toArray n }) (hf:f Aa.toArray=AQ.toArray) (hv:Vals ys AQ) (hz:ys.length<=sizeLine):
  Inv X E6 Y (upd H l (.lst ys)) { s with heap:=s.heap.update l (Obj.mapSeq f),toks:=t' }:=by
 have q:=PySem.IsL.update e f;rw[hf] at q;exact I.write (x:=l) (e:=l) (by rw[hH];show trivial) (.inl rfl) (λ b' u hb hu=>(za9 s.heap (Obj.mapSeq f) (Ne.symm hb)).trans hu) #[_,q] ?_;show#[hz,AQ,_,hv,q]
def Inv.O9 {Aa:Ae}{t':Nat}(I:Inv X E6 Y H s) (hv:Vals ys Aa) (hz:ys.length<=sizeLine):
  Inv X E6 Y (upd H s.heap.objs.size (.lst ys)) { s with heap:=s.heap.push { cls:=.type "list",data:=.seq Aa.toArray },toks:=t' }:=
 I.laid (λ _ _ q=>gV _ q) (Ak _) #[hz,Aa,0,hv,AM _ rfl]
theorem Inv.fresh (I:Inv X E6 Y H s):H s.heap.objs.size=none:=I.zp.fresh (Ak _)
def Inv.i7 (I:Inv X E6 Y H s) (hH:H l=↑(.lst xs)):xs.length<=sizeLine/\∃ (Aa:Ae) (n:Nat),Vals xs Aa/\xs.length=Aa.length/\s.heap.get? l=↑{ cls:=.type "list",data:=.seq Aa.toArray n }:=by
 let#[z,Aa,n,r,e]:=I.zp l _ hH;show#[z,Aa,n,r,r.length,e]
theorem Od {n:Nat}(h:n<=sizeLine):Builtin.List.listTooLong n=false:=by
 unfold Builtin.List.listTooLong;show za5 ⋯
def cm:V->List V->Hp->VK->Prop:=λ x vs H Q=>∃ l xs y,x=.ref l/\vs=[y]/\H l=↑(.lst xs)/\xs.length<sizeLine/\Q .zh (upd H l (.lst (xs++[y])))
theorem br:Yl X "list.append" cm:=by
 intro E6 s Y H x vs v us Q I rx rv h;let#[l,xs,y,rfl,rfl,hH,hz,q]:=h;cases rx;let#[u,rfl,ru]:=rv.one;let#[z,Aa,n,r,hl,e]:=I.i7 hH;exact call_meets F.slot_list_append #[_,e,rfl] F.entry_list_append (F.args_list_append_2 _ _) (PySem.list_append l Aa.toArray n u (by rw[AE];lia)) #[e,?_];exact#[.zh,_,I.bu (AQ:=Aa++[u]) hH e #[] (r.append (.cons ru .nil)) ?_,rfl,q];rw[Cb,List.length_singleton];lia
def cf:V->List V->Hp->VK->Prop:=λ x vs H Q=>∃ l b xs zs,x=.ref l/\vs=[.ref b]/\H l=↑(.lst xs)/\H b=↑(.lst zs)/\xs.length+zs.length<=sizeLine/\Q .zh (upd H l (.lst (xs++zs)))
theorem Oz:Yl X "list.extend" cf:=by
 intro E6 s Y H x vs v us Q I rx rv h;let#[l,b,xs,zs,rfl,rfl,hH,hB,hz,q]:=h;cases rx;let#[u,rfl,ru]:=rv.one;cases ru;let#[z,Aa,n,r,hl,e]:=I.i7 hH;let#[z2,FP,n2,r2,IX,e2]:=I.i7 hB;have hsz:Aa.toArray.size+FP.toArray.size<=sizeLine:=by rw[AE,AE];lia
 have JD:¬ (!Aa.toArray.isEmpty&&Builtin.List.listTooLong (Aa.toArray.size+FP.toArray.size))=true:=by
  rw[Od hsz,CQ];show BX
 exact call_meets F.slot_list_extend #[_,e,rfl] F.entry_list_extend (F.args_list_extend_2 _ _)
  (AutoSeq1.list_extend_list_list_0 l Aa.toArray n b FP.toArray n2 JD (by rw[AE];lia) ⋯) #[e,e2,?_]
 exact#[.zh,_,I.bu (AQ:=Aa++FP) hH e #[] (r.append r2) ?_,rfl,q];rw[Cb];lia
end
end L2
namespace X5
open PySem PySem.W PySem.Calls PyProof.Rows
def N2 {P:Params}{h:Heap}:∀ (ns:List Int) (vs:Ae),WellAll P h vs (ns.map WData.int)->IntsAre vs ns:=by
 intro ns
 induction ns with
 | nil=>
  intro vs w;rw[Bi] at w;cases w;show .nil
 | cons n ns ih=>
  intro vs w;rw[Ax] at w;cases w with
  | cons a b=>
   cases a;show .cons _ _ (ih _ b)
def Vt {l:OpenLaw}{n:Nat}(hn:l.most=↑n) {P:Params}{h:Heap}{args:List WData}{vals:Ae}
  (Cc:l.row.toRowW.claim.pre args=true) (CV:WellAll P h vals args):
  ∃ a vs ns,vals=[Value.ref a]/\args=[WData.list (ns.map WData.int)]/\h.get? a=↑{ cls:=.type "list",data:=.seq vs.toArray }/\IntsAre vs ns/\ns.length<=n:=by
 have D1:WShape.hasAll [] args [.list .int]=true:=(pre_splitW Cc).1;have hc:l.pre.holds [] { args:=args }=true:=(pre_splitW Cc).2;let#[d,r,rfl,h1,h2]:=hasAllW_cons D1;obtain rfl:=hasAllW_nil h2;let#[xs,rfl,h3]:=hasW_list h1;let#[ns,rfl]:=items_int h3;have hlen:ns.length<=n:=by
  unfold OpenLaw.pre at hc;have h4:(WTm.not (.lt (.lit (.int (n:Int))) (.len (.arg 0)))).holds [] { args:=[.list (ns.map .int)] }=true:=by
   have h4:=(holds_andW hc).1;rw[hn] at h4;show h4
  have h5:=condW_of h4 (w_not (w_lt w_lit (w_len_list (w_arg rfl))));rw[AN] at h5;exact Nat.le_of_not_lt λ q=>?_;have q':(n:Int)<((ns.length:Nat):Int):=⋯
  first
   | (rw[zaA q'] at h5;show absurd h5 ())
   | (simp at h5;lia)
 cases CV with
 | cons w1 w2=>
  cases w2;cases w1 with
  | list ho Az=>show#[_,_,ns,rfl,rfl,ho,N2 ns _ Az,hlen]
def Ub (l:OpenLaw) (args:List WData):l.row.toRowW.claim.post args (.bool true) args=true:=
 postW_of (r:=l.row.toRowW) (X:=(true == true))
  (show WShape.has [] (.bool true) .bool=true by first | rfl | decide | simp[WShape.has,WShape.arms,WShape.armsAll])
  (show (WTm.eq .res (.lit (.bool true))).value [] { args:=args,res:=↑(.bool true),after:=args }=↑(.bool (true == true)) from w_eq_bool (w_res rfl) w_lit) rfl
def LW {l:OpenLaw}{n:Nat}{q:Program}{loose:List Str}{XP:(Str->Option Value)->Heap->Prop}{YP:World->Heap->Prop}{d:DefRec}
  (hn:l.most=↑n) (DE:d.params.defaults=[])
  (call:∀ (w:World) (s₀ s₁:Shared) (mg mb:Ar) (fa:Addr) (o:Obj) (pm cd doc:Value) (a:Addr) (vs:Ae) (ns:List Int),
   Ground q loose [] XP w s₀ mg mb s₁.heap->YP w s₁.heap->
   s₁.heap.get? fa=↑o->o.data=.func (docDef d.name d.params d.body d.scope pm cd doc)->s₁.heap.CodeRec cd d.name->mg d.name=↑(.ref fa)->
   s₁.heap.get? a=↑{ cls:=.type "list",data:=.seq vs.toArray }->IntsAre vs ns->ns.length<=n->s₁.gens=[].toArray->
   codeAny (model l.prog w) callerA (.call (.ref fa) #[[.ref a],[]]) (λ r s'=>r=.ok (.ret (.bool true))/\OldK s₁.heap s'.heap/\s'.os=s₁.os/\AllBare s'.gens) s₁):
  WalkO q loose XP YP l.row.toRowW d [] (λ f vs=>PySem.call f vs):=by
 intro w s₀ s₁ mg mb G Y fa o pm cd doc dV kV ho hd Ba hD Dt hg args vals as Cc Dv hrd CV hlo;obtain rfl:dV=.none:=Dflts.none hD DE;obtain rfl:kV=.none:=Dflts.noKw hD;let#[a,vs,ns,rfl,rfl,CF,hints,hlen]:=Vt hn Cc CV;exact enter_call (codeAny_mono (call w s₀ s₁ mg mb fa o pm cd doc a vs ns G Y ho (fd_plain hd) Ba Dt CF hints hlen hg) λ r s' hq=>?_);let#[rfl,h2,h3,h4]:=hq;show#[.inl #[.bool true,.bool true,[],rfl,λ _=>rfl,.bool true,Ub l _,λ _=>#[List.Pairwise.nil,λ _ hm=>(nomatch hm)]],h2,h3,h4]
end X5
namespace L2
open PySem PySem.Spec PyProof.Rows
theorem eJ:∀ {vs:Ae}{ns:List Int},IntsAre vs ns->Vals (ns.map V.int) vs
 | _,_,.nil=>.nil
 | _,_,.cons n t h=>.cons #[t,rfl] (eJ h)
def kW (H:Hp):Prop:=∀ b,H b=none\/∃ o xs,H b=↑(.wa o (.lst xs))
def OV {P:Program}{w:World}{K:Ac}{mg mb:Ar}{CX:vV}{k:Nat}{fa a:Addr}{fd:FuncData}{x:Str}{sp:Sp}{s₁:Shared}{vs:Ae}{ns:List Int}
  (KX:K.In s₁.heap) (BI:s₁.heap.Ns mainGlobals mg) (hb:s₁.heap.Ns builtinsNs mb) (C1:∀ x:Str,x≠"__name__"->mb x=bootBuiltins x) (EJ:s₁.heap.NoLimit) (hg:s₁.gens=[].toArray)
  (ha:s₁.heap.get? a=↑{ cls:=.type "list",data:=.seq vs.toArray }) (hi:IntsAre vs ns) (hl:ns.length<=sizeLine) (hr:zX k callerA)
  (F:∀ base:Heap,K.In base->base.Ns mainGlobals mg->xl P w K mg base CX k fa fd [x] sp) (JK:∀ (s:Shared) (u:Value),BindsTo s fd #[[u],[]] [(x,u)])
  (B5:∀ H:Hp,kW H->zO K H a (ns.map V.int)->sp [.ref a] H (λ v _=>v=.bl true) λ _ _ _=>False)
  (hCX:∀ H e s',CX [] H s₁ (λ _ _ _=>False) e s'->False):
  codeAny (model P w) callerA (.call (.ref fa) #[[.ref a],[]]) (λ r s'=>r=.ok (.ret (.bool true))/\OldK s₁.heap s'.heap/\s'.os=s₁.os/\AllBare s'.gens) s₁:=by
 have rv:=eJ hi;have lenV:=hi.length;have core:∀ H:Hp,kW H->zO K H a (ns.map V.int)->yd P w H s₁.heap->(∀ b,H b≠none->b=a)->(H a≠none->K.lookup a=none)->
   codeAny (model P w) callerA (.call (.ref fa) #[[.ref a],[]]) (λ r s'=>r=.ok (.ret (.bool true))/\OldK s₁.heap s'.heap/\s'.os=s₁.os/\AllBare s'.gens) s₁:=by
  intro H hO hS zp hA hK;have Hj:∀ {b:Addr}{o:Obj},s₁.heap.get? b=↑o->H b=none->(tS s₁.heap H).get? b=↑o:=λ e n=>ND e n;have Jo:∀ {b:Addr}{o:Obj}{es:Array DictEntry}{ep:Nat},s₁.heap.get? b=↑o->o.data=.dict es ep->H b=none:=λ{b o es ep} e d=>by
   cases q:H b with
   | none=>rfl
   | some u=>
    have e':b=a:=hA b (by rw[q];simp);subst e';rw[ha] at e;cases e;have d':Data.seq vs.toArray _=Data.dict es ep:=d;cases d'
  have JV:∀ {b:Addr}{m:Ar},s₁.heap.Ns b m->(tS s₁.heap H).Ns b m:=λ{b m} #[o,es,ep,e,d,r]=>#[o,es,ep,Hj e (Jo e d),d,r];have hKb:K.In (tS s₁.heap H):=λ b o e=>Hj (KX b o e) (by
   cases q:H b with
   | none=>rfl
   | some u=>
    have e':b=a:=hA b (by rw[q];simp);subst e';rw[hK (by rw[q];simp)] at e;cases e)
  have hM:Mod K mg (tS s₁.heap H):=#[hKb,JV BI,#[mb,JV hb,C1],let #[mc,h1,h2]:=EJ;#[mc,JV h1,h2]];have e0:qP P w K mg (tS s₁.heap H) callerA [] s₁ H:=#[rfl,hM,λ b o e=>P_ e,Nat.le_of_eq (NC _ _),trivial,λ b hb=>absurd (show b∈([]:List Addr) from hb) #[],zp,.of_eq hg];exact codeAny_mono ((F _ hKb (JV BI)).run callerA [] s₁ H #[[.ref a],[]] [.ref a] [.ref a] _ _ hr e0 (JK s₁ (.ref a)) (.cons rfl .nil) (B5 H hO hS)) λ r s' h=>?_;cases r with
  | error e=>show (hCX H e s' h).elim
  | ok fl=>
   cases fl with
   | ret u=>
    let#[v,H',os,bare,un,BA,r',q]:=h;have q':v=.bl true:=q;subst q';obtain rfl:u=Value.bool true:=r';exact#[rfl,OldK.of_keep λ b o e=>?_,os,bare];cases q:H b with
    | none=>show un.keep b o e q (by intro z;show absurd (show b∈([]:List Addr) from z) #[]) #[]
    | some u=>
     rcases hO b with z | ⟨ob,xs,z⟩
     .rw[q] at z;cases z
     .have z2:=un.vH b ob _ z;let#[e1,_]:=zp b _ z;let#[e2,_]:=BA b _ z2;rw[e] at e1;cases e1;show e2
   | _=>show False.elim h
 cases hk:K.lookup a with
 | some o=>
  have e:=KX a o hk;rw[ha] at e;cases e;exact core (λ _=>none) (λ _=>.inl rfl) (.inr #[_,vs.toArray,_,hk,rfl,rfl,rfl,by rw[AE,lenV];show hl,by exists rv]) (λ b u z=>by have z':(none:Option HO)=↑u:=z;cases z') (λ b z=>absurd rfl z) λ z=>absurd rfl z
 | none=>
  exact core (λ b=>if b=a then ↑(.wa { cls:=.type "list",data:=.seq vs.toArray } (.lst (ns.map V.int))) else none) (λ b=>?_) (.inl (.inr #[{ cls:=.type "list",data:=.seq vs.toArray },if_pos rfl])) (λ b u z=>?_) (λ b z=>?_) λ _=>hk
  .by_cases hb:b=a
   .show .inr #[_,_,if_pos hb]
   .show .inl (if_neg hb)
  .by_cases hb:b=a
   .have z':=(if_pos hb).symm.trans z;cases z';subst hb;show#[ha,by rw[AN];show hl,vs,_,rv,ha]
   .have z':=(if_neg hb).symm.trans z;cases z'
  .by_cases hb:b=a
   .show hb
   .show absurd (if_neg hb) z
def Wf {l:PySem.W.OpenLaw}{n k:Nat}{q:Program}{loose:List Str}{XP:(Str->Option Value)->Heap->Prop}{YP:World->Heap->Prop}{d:DefRec}{K:Params->Ac}{CX:World->vV}{sp:World->Sp}{x:Str}
  (hn:l.most=↑n) (hn2:n<=sizeLine) (DE:d.params.defaults=[]) (hr:zX k callerA)
  (hY:∀ (w:World) (h:Heap),YP w h->(K w.params).In h)
  (F:∀ (w:World) (mg:Ar) (fa:Addr) (h:Heap),(K w.params).In h->h.Ns mainGlobals mg->mg d.name=↑(.ref fa)->
   ∃ fd:FuncData,(∀ (s:Shared) (u:Value),BindsTo s fd #[[u],[]] [(x,u)])/\
    ∀ base:Heap,(K w.params).In base->base.Ns mainGlobals mg->xl l.prog w (K w.params) mg base (CX w) k fa fd [x] (sp w))
  (B5:∀ (w:World) (H:Hp) (a:Addr) (ns:List Int),ns.length<=n->kW H->zO (K w.params) H a (ns.map V.int)->sp w [.ref a] H (λ v _=>v=.bl true) λ _ _ _=>False)
  (hCX:∀ (w:World) (H:Hp) (s:Shared) (e:Value) (s':Shared),CX w [] H s (λ _ _ _=>False) e s'->False):
  PySem.W.WalkO q loose XP YP l.row.toRowW d [] (λ f vs=>PySem.call f vs):=by
 exact X5.LW hn DE λ w s₀ s₁ mg mb fa o pm cd doc a vs ns G Y ho hd Ba Dt CF hints hlen hg=>?_;have KX:=hY w _ Y;let#[fd,hb,hF]:=F w mg fa _ KX G.T.g Dt;show OV KX G.T.g G.T.b G.T.builtins G.T.nolimit hg CF hints (Bo hlen hn2) hr hF hb (λ H hO hS=>B5 w H a ns hlen hO hS) λ H e s'=>hCX w H s₁ e s'
def vg (s:Stmt):Arguments:=match s with
 | .FunctionDef _ a _ _ _ _ _ _ _ _=>a
 | _=>{ posonlyargs:=[],args:=[],vararg:=none,kwonlyargs:=[],kw_defaults:=[],kwarg:=none,defaults:=[] }
def yZ (s:Stmt):List Stmt:=match s with
 | .FunctionDef _ _ b _ _ _ _ _ _ _=>b
 | _=>[]
def zL (s:Stmt):Scope:=match s with
 | .FunctionDef _ _ _ _ _ _ sc _ _ _=>sc
 | _=>{ kind:=.function,names:=[],isGenerator:=false,isCoroutine:=false }
abbrev yG:vV:=λ _ _ _ _ _ _=>False
abbrev E0:XK:=λ _ _ _=>False
def Rx {X:Cx}:Passes yG X E0:=λ _ _ _ _ _ _ _ h=>h.elim
structure wV (K:Ac) (x qual:Str) (st:Stmt) (f:Addr) (fd:FuncData):Prop where
 ex:∃ (oc:Value) (od:Option Addr) (kV doc pm:Value) (an:Option Addr) (Ag ct:Value) (Hk:Array (Option Value)),
  fd=PySem.W.fnOf x qual (vg st) (yZ st) (zL st) .none kV doc pm an Ag ct/\K.lookup f=↑#[oc,od,.func fd,Hk]/\PySem.W.codeIn K Ag qual=true
 kp:PySem.W.keepIn K (.ref f)=true
section
variable {P:Program}{w:World}{K:Ac}{mg:Ar}{base:Heap}
def wV.ok {x qual:Str}{st:Stmt}{f:Addr}{fd:FuncData}{N ps:List Str}{k:Nat}{sp:Sp}(F:wV K x qual st f fd) (S:vw N ps (zL st)) (len:∀ vs H Q E,sp vs H Q E->vs.length=ps.length)
  (Fm:∀ (Ag:Value) (A:Around) (outer:List Env) (s:Shared) (H:Hp) (vs:List V) (Q:VK) (E:XK),zX k (A.deeper (envOfC qual (zL st) s.heap.objs.size f Ag))->sp vs H Q E->
   ∃ t,xU (y_ yG P w K mg base N qual (zL st) f Ag A outer s H E).xx (yZ st) t/\t { nx:=λ _ H'=>Q .zh H',rt:=Q } (start N vs) H):xl P w K mg base yG (k+1) f fd ps sp:=by
 let#[oc,od,kV,doc,pm,an,Ag,ct,Hk,rfl,lk,Ba]:=F.ex;exact aB lk Ba S len λ A outer s H vs Q E hr B5=>?_;let#[t,h,q]:=Fm Ag A outer s H vs Q E hr B5;show#[t,h.xx,q]
def wV.binds {x qual:Str}{st:Stmt}{f:Addr}{fd:FuncData}{ps:List Str}(F:wV K x qual st f fd)
  (h:∀ (kV doc pm:Value) (an:Option Addr) (Ag ct:Value) (us:Ae),us.length=ps.length->bindArgs (PySem.W.fnOf x qual (vg st) (yZ st) (zL st) .none kV doc pm an Ag ct) #[us,[]]=pure (ps.zip us)):Binds K fd ps []:=by
 let#[oc,od,kV,doc,pm,an,Ag,ct,Hk,rfl,lk,Ba]:=F.ex;show .all (h kV doc pm an Ag ct)
def gh {x qual:Str}{st:Stmt}{f:Addr}{oc:Value}{od an:Option Addr}{Hk:Array (Option Value)}{kV doc pm Ag ct:Value}(l:K.lookup f=↑#[oc,od,.func (PySem.W.fnOf x qual (vg st) (yZ st) (zL st) .none kV doc pm an Ag ct),Hk])
  (c:PySem.W.codeIn K Ag qual=true) (k:PySem.W.keepIn K (.ref f)=true):wV K x qual st f (PySem.W.fnOf x qual (vg st) (yZ st) (zL st) .none kV doc pm an Ag ct):=#[#[oc,od,kV,doc,pm,an,Ag,ct,Hk,rfl,l,c],k]
end
def iP {A:Around}{k:Nat}(hr:zX k A):A.units+1<cLine:=Nat.lt_of_le_of_lt (Nat.add_le_add_left (by decide:1<=64) _) hr.units
section
variable {X:Cx}
def pv (i:Nat) {x:Str}{pos:Pos}(hN:X.N[i]?=↑x:=by rfl) (hv:m5 X.env.scope x:=by first | show Or.inl rfl | show Or.inr (Or.inl rfl) | show Or.inr (Or.inr rfl)) (hd:(x == ("__debug__":Str))=false:=by decide)
  (Ba:(x == ("__classdict__":Str))=false:=by decide):PE X (.Name x pos) (oB i):=U0 hN hv hd Ba
end
def m7 (H H':Hp):Prop:=∀ b o,H b=↑o->H' b=↑o
end L2
namespace PySem
theorem gL {env:Env}:∀ (l:List (Str×NameKind)) (acc:List (Str×Addr)),(∀ y∈l,y.2=.free->∃ c,env.cells.lookup y.1=↑c)->
  ∃ cl,(forIn l acc (λ(x:Str×NameKind) r=>if (x.2 == NameKind.free)=true then do let a <- cellOf env x.1;pure (ForInStep.yield ((x.1,a)::r)) else pure (ForInStep.yield r)):Sem (List (Str×Addr)))=pure cl/\
   (∀ x c,cl.lookup x=↑c->acc.lookup x=↑c\/((x,NameKind.free)∈l/\env.cells.lookup x=↑c))/\(∀ x,(x,NameKind.free)∈l\/(acc.lookup x).isSome->(cl.lookup x).isSome)
 | [],acc,_=>#[acc,rfl,λ x c h=>.inl h,λ x h=>by exists h]
 | (n,k)::l,acc,h=>by
  by_cases hk:k=.free
  .subst hk;let#[c,hc]:=h (n,.free) Av rfl;let#[cl,e1,e2,e3]:=gL l ((n,c)::acc) λ y hy=>h y (AA _ hy);exact#[cl,?_,λ x d hx=>?_,λ x hx=>?_]
   .rw[DZ];simp![beq_self_eq_true,if_true,cellOf,hc];show e1
   .rcases e2 x d hx with q | ⟨q1,q2⟩
    .rw[Bv] at q;cases Dl:x == n with
     | true=>
      rw[Dl] at q;have:x=n:=by exists Dl
      subst this;exact .inr #[Av,?_];rw[hc];show q
     | false=>rw[Dl] at q;show .inl q
    .show .inr #[AA _ q1,q2]
   .exact e3 x ?_;rcases hx with hx | hx
    .rcases Am.mp hx with q | q
     .have:x=n:=congrArg Prod.fst q;subst this;show .inr (by simp[Bv])
     .show .inl q
    .exact .inr ?_;rw[Bv];cases x == n <;> simp[hx]
  .have hb:(k == NameKind.free)=false:=by exists hk
   let#[cl,e1,e2,e3]:=gL l acc λ y hy=>h y (AA _ hy);exact#[cl,?_,λ x d hx=>?_,λ x hx=>?_]
   .rw[DZ];simp![hb,Br,if_false];show e1
   .rcases e2 x d hx with q | ⟨q1,q2⟩
    .show .inl q
    .show .inr #[AA _ q1,q2]
   .exact e3 x ?_;rcases hx with hx | hx
    .rcases Am.mp hx with q | q
     .show absurd (congrArg Prod.snd q).symm hk
     .show .inl q
    .show .inr hx
def Zy {scope:Scope}{env:Env}(h:∀ y∈scope.names,y.2=.free->∃ c,env.cells.lookup y.1=↑c):
  ∃ cl,closureFor scope env=pure cl/\(∀ x c,cl.lookup x=↑c->(x,NameKind.free)∈scope.names/\env.cells.lookup x=↑c)/\∀ x,(x,NameKind.free)∈scope.names->(cl.lookup x).isSome:=by
 let#[cl,e1,e2,e3]:=gL (env:=env) scope.names [] h;exact#[cl,?_,λ x c hx=>?_,λ x hx=>e3 x (.inl hx)]
 .simp![closureFor];rw[e1];rfl
 .rcases e2 x c hx with q | q
  .simp at q
  .show q
theorem bz {env:Env}:∀ {names:List (Str×NameKind)}{x:Str},names.lookup x=↑.free->
  (names.map λ(n,k)=>if (k == NameKind.free&&env.scope.kind == .function&&env.kindOf n == ↑.cell) then (n,NameKind.cell) else (n,k)).lookup x=↑.cell\/
  (names.map λ(n,k)=>if (k == NameKind.free&&env.scope.kind == .function&&env.kindOf n == ↑.cell) then (n,NameKind.cell) else (n,k)).lookup x=↑.free
 | [],_,h=>by simp at h
 | (n,k)::r,x,h=>by
  have ih:=@bz env r x;change List.lookup x ((if (k == NameKind.free&&env.scope.kind == .function&&env.kindOf n == ↑.cell)=true then (n,NameKind.cell) else (n,k))::_)=_\/List.lookup x ((if (k == NameKind.free&&env.scope.kind == .function&&env.kindOf n == ↑.cell)=true then (n,NameKind.cell) else (n,k))::_)=_;cases hx:x == n with
  | true=>
   simp![Bv,hx] at h;cases h;by_cases hc:(NameKind.free == NameKind.free&&env.scope.kind == .function&&env.kindOf n == ↑.cell)=true
   .rw[if_pos hc];simp[Bv,hx]
   .rw[if_neg hc];simp[Bv,hx]
  | false=>
   simp![Bv,hx] at h;by_cases hc:(k == NameKind.free&&env.scope.kind == .function&&env.kindOf n == ↑.cell)=true
   .rw[if_pos hc];simp![Bv,hx];show ih h
   .rw[if_neg hc];simp![Bv,hx];show ih h
theorem dP {env:Env}:∀ {names:List (Str×NameKind)}{x:Str},(∀ y∈names,y.2≠.cell)->
  ((names.map λ(n,k)=>if (k == NameKind.free&&env.scope.kind == .function&&env.kindOf n == ↑.cell) then (n,NameKind.cell) else (n,k)).lookup x=↑.cell\/
  (names.map λ(n,k)=>if (k == NameKind.free&&env.scope.kind == .function&&env.kindOf n == ↑.cell) then (n,NameKind.cell) else (n,k)).lookup x=↑.free)->(x,NameKind.free)∈names
 | [],_,_,h=>by simp at h
 | (n,k)::r,x,hn,h=>by
  have ih:=@dP env r x λ y hy=>hn y (AA _ hy);have h':List.lookup x ((if (k == NameKind.free&&env.scope.kind == .function&&env.kindOf n == ↑.cell)=true then (n,NameKind.cell) else (n,k))::_)=↑.cell\/List.lookup x ((if (k == NameKind.free&&env.scope.kind == .function&&env.kindOf n == ↑.cell)=true then (n,NameKind.cell) else (n,k))::_)=↑.free:=h;have hf:∀ k',((if (k == NameKind.free&&env.scope.kind == .function&&env.kindOf n == ↑.cell)=true then (n,NameKind.cell) else (n,k)):Str×NameKind)=(n,k')->(k'=.cell\/k'=.free)->k=.free:=by
   intro k' e GX;by_cases hc:(k == NameKind.free&&env.scope.kind == .function&&env.kindOf n == ↑.cell)=true
   .simp![Bw] at hc;exists hc.1.1
   .rw[if_neg hc] at e;have:k=k':=congrArg Prod.snd e;subst this;rcases GX with q | q
    .show absurd q (hn (n,k) Av)
    .show q
  cases hx:x == n with
  | true=>
   have Dl:x=n:=by exists hx
   subst Dl;by_cases hc:(k == NameKind.free&&env.scope.kind == .function&&env.kindOf x == ↑.cell)=true
   .simp![Bw] at hc;have:k=.free:=by exists hc.1.1
    subst this;show Av
   .rw[if_neg hc] at h';simp![Bv,beq_self_eq_true] at h';rcases h' with q | q
    .show absurd (Bb q) (hn (x,k) Av)
    .have:=Bb q;subst this;show Av
  | false=>
   exact AA _ (ih ?_);by_cases hc:(k == NameKind.free&&env.scope.kind == .function&&env.kindOf n == ↑.cell)=true
   .rw[if_pos hc] at h';simp![Bv,hx] at h';show h'
   .rw[if_neg hc] at h';simp![Bv,hx] at h';show h'
end PySem
namespace L2
open PySem PySem.Spec PyProof.Rows
def v_ (pick:List (Option Nat)) (Y:St):St:=pick.map λ o=>o.bind λ i=>(Y[i]?).join
def yw (X:Cx) (N':List Str) (scope:Scope) (cl:List (Str×Addr)) (C:Addr) (s:Shared) (H:Hp) (ex:List Addr):Cx:=
 { X with N:=N',s₀:=s,H₀:=H,env:=compEnvC scope cl C X.env,outer:=X.stack,stack:=X.stack,ex:=ex,fn:=λ _=>false,pn:=[],xe:=λ _ _=>False }
def pz (N N':List Str) (pick:List (Option Nat)) (scope:Scope):Bool:=(N'.zip pick).all λ p=>match p.2 with
 | none=>true
 | some j=>decide (N[j]?=↑p.1)&&decide (scope.names.lookup p.1=↑.free)
structure sI (X:Cx) (N':List Str) (pick:List (Option Nat)) (scope:Scope):Prop where
 kind:scope.kind=.function
 bf:∀ y∈scope.names,y.2≠.cell
 names:∀ y∈scope.names,y.2=.local->scope.names.lookup y.1=↑.local
 free:∀ y∈scope.names,y.2=.free->X.env.scope.names.lookup y.1=↑.cell\/X.env.scope.names.lookup y.1=↑.free
 len:pick.length=N'.length
 ok:pz X.N N' pick scope=true
def pz.get {N N':List Str}{pick:List (Option Nat)}{scope:Scope}(h:pz N N' pick scope=true) {i j:Nat}{x:Str}(h1:N'[i]?=↑x) (h2:pick[i]?=↑↑j):N[j]?=↑x/\scope.names.lookup x=↑.free:=by
 unfold pz at h;have hm:(x,↑j)∈N'.zip pick:=by
  exact BM (i:=i) ?_;rw[List.getElem?_zip_eq_some];show#[h1,h2]
 have q:=Bj.mp h _ hm;simp![Bw,decide_eq_true_eq] at q;show q
def v_.get {pick:List (Option Nat)}{Y:St}{i:Nat}{v:V}(h:(v_ pick Y)[i]?=↑↑v):∃ j,pick[i]?=↑↑j/\Y[j]?=↑↑v:=by
 unfold v_ at h;rw[AJ] at h;cases e:pick[i]? with
 | none=>rw[e] at h;cases h
 | some o=>
  rw[e] at h;cases o with
  | none=>simp at h
  | some j=>
   exact#[j,rfl,?_];simp![Option.map_some,Option.some.injEq,BL] at h;cases q:Y[j]? with
   | none=>rw[q] at h;simp at h
   | some w=>rw[q] at h;simp at h;rw[h]
def PF (X:Cx) (ifs:List Expr) (t:TT):Prop:=∀ (E6:Ai) (s:Shared) (Y:St) (H:Hp) (Q:Bool->Hp->Prop),Inv X E6 Y H s->t Y H Q->
 wpAny (model X.prog X.w) X.A (forIn ifs true λ c r=>if r=true then do let ok <- isTrue c X.env (eval c X.env);pure (ForInStep.yield ok) else pure (ForInStep.yield r)) (TP X E6 Y Q) X.xe s
def Uy {X:Cx}:PF X [] (λ _ H Q=>Q true H):=λ _ _ _ H _ I h=>wpAny_tests_nil #[H,I,h]
def Ux {X:Cx}{c:Expr}{t:TT}(h:PT X c t):PF X [c] t:=λ E6 s Y H Q I q=>wpAny_tests_one (h E6 s Y H Q I q)
def jC (pick:List (Option Nat)) (wi:TI) (g:TG) (tc:TT) (te:TE):TE:=fun Y H Q=>wi Y H λ J H1=>∀ D,H1 D=none->∃ W:Nat->Nat->St->Hp->Prop,(∃ m,W 0 m (v_ pick Y) (upd H1 D (.lst [])))/\
 ∀ i m Y H,W i m Y H->(J.stop i H/\Q (.ref D) H)\/(J.go i H/\∀ x H',J.qS i H x H'->g x Y H' fun Y2 H2=>tc Y2 H2 λ b H3=>
  if b=true then te Y2 H3 λ y H4=>∃ ys m',H4 D=↑(.lst ys)/\ys.length<sizeLine/\m'<m/\W (i+1) m' Y2 (upd H4 D (.lst (ys++[y]))) else ∃ m',m'<m/\W (i+1) m' Y2 H3)
section
variable {X:Cx}{E6:Ai}{Y:St}{H:Hp}{s:Shared}{N':List Str}{pick:List (Option Nat)}{scope:Scope}{cl:List (Str×Addr)}{C:Addr}{fp:List Addr}
def N1 (S:sI X N' pick scope) (I:Inv X E6 Y H s) (BB:∀ b∈fp,vT X E6 H b) (AD:∀ b∈fp,b<s.heap.objs.size)
  (c1:∀ x c,cl.lookup x=↑c->(x,NameKind.free)∈scope.names/\X.env.cells.lookup x=↑c) (c2:∀ x,(x,NameKind.free)∈scope.names->(cl.lookup x).isSome)
  {h1:Heap}{m1:Ar}{t':Nat}(hC:s.heap.objs.size<C) (old:∀ b o,s.heap.get? b=↑o->h1.get? b=↑o) (BI:h1.Ns C m1)
  (hD:h1.get? s.heap.objs.size=↑{ cls:=.type "list",data:=.seq [].toArray 0 }):
  Inv (yw X N' scope cl C s H fp) [] (v_ pick Y) (upd H s.heap.objs.size (.lst [])) { s with heap:=h1,toks:=t' }:=by
 have hDn:H s.heap.objs.size=none:=I.zp.fresh (Ak _);have hCn:H C=none:=I.zp.fresh (BS hC);have clt:∀ x c,cl.lookup x=↑c->c<s.heap.objs.size:=λ x c e=>by
  let#[v,q]:=I.cell x c (c1 x c e).2;show q.lt
 exact#[#[I.ok.mod,S.kind,I.ok.glob,I.ok.blt,BS hC,λ x y c e1 e2=>I.ok.inj x y c (c1 x c e1).2 (c1 y c e2).2,λ x hx=>?_,λ x c hf _=>absurd (show false=true from hf) BX,I.ok.hd,I.ok.frames,.inl rfl,
  λ b hb=>#[AB (Dg (AD b hb) hC),λ x c e=>(BB b hb).2.2.2.2.1 x c (c1 x c e).2],I.bs,Bo I.ok.t5 I.sz,λ b o e hb=>?_,λ b hb z=>?_,I.stack,I.jG],
  rfl,I.bare,Un.laid old (Ak _) hDn,#[m1,BI,λ i x v e1 e2 e3=>?_],λ x c e=>?_,?_,λ x c e=>?_,λ p hp=>absurd (show p∈([]:Ai) from hp) #[],I.zp.laid old (Ak _) ?_,?_]
 .show D0.mp (c2 x (dP S.bf hx))
 .rcases (BB b hb).2.2.2.1 with z | z
  .show I.ok.ql b o e z
  .show absurd (Bc (Ap (I.ok.bs b o e).1) z) (Ca _)
 .rcases Am.mp (I.jF b z) with q | q
  .show (BB b hb).2.1 q
  .show (BB b hb).2.2.1 q
 .let#[j,p1,p2]:=v_.get e2;let#[q1,q2]:=pz.get S.ok e1 p1;let#[m0,n0,l0]:=I.loc;have hm:(x,NameKind.free)∈scope.names:=PySem.mem_of_lookup q2;have hk:X.env.scope.names.lookup x=↑.cell\/X.env.scope.names.lookup x=↑.free:=S.free _ hm rfl;let#[u,r,l]:=l0 j x v q1 p2 (.inr hk);exact#[u,r,.inr #[bz q2,?_]];rcases l with ⟨k,_⟩ | ⟨_,c,e,z⟩
  .have k':X.env.scope.names.lookup x=↑.local:=k;rcases hk with hk | hk <;> (rw[k'] at hk;cases hk)
  .let#[c',e']:=D0.mp (c2 x hm);have e'':=(c1 x c' e').2;rw[e] at e'';cases e'';let#[o,z1,z2]:=z;show#[c,e',o,old _ _ z1,z2]
 .let#[v,o,z1,z2]:=I.cell x c (c1 x c e).2;show#[v,o,old _ _ z1,z2]
 .change upd H s.heap.objs.size (.lst []) C=none;rw[zI (BW hC)];show hCn
 .change upd H s.heap.objs.size (.lst []) c=none;rw[zI (AB (clt x c e))];show I.vf x c (c1 x c e).2
 .show#[A0 _,[],0,.nil,hD]
 .change (v_ pick Y).length=N'.length;unfold v_;rw[AN];show S.len
def Ny {Y':St}{H':Hp}{s':Shared}{oC:Obj}(I:Inv X E6 Y H s) (BB:∀ b∈fp,vT X E6 H b) (hC:s.heap.objs.size<C)
  (I':Inv (yw X N' scope cl C s H fp) [] Y' H' s') (hoC:s'.heap.get? C=↑oC):Inv X (E6++[(C,oC)]) Y H' s':=by
 have J:Inv X E6 Y H' s':=I.ZE (ch:=fp) I'.os I'.base I'.zp I'.bare λ b hb=>#[(BB b hb).2.2.2.1,(BB b hb).2.1,(BB b hb).2.2.2.2.1,(BB b hb).2.2.2.2.2];exact J.jY λ p hp=>(A1.mp hp).elim (λ z=>J.pin p (A3 _ z)) λ z=>?_;obtain rfl:p=(C,oC):=A2.mp z;exact#[hoC,I'.free,BW (Dg I.lt hC),I.ba (BS hC),λ v hv=>?_];let#[m,#[o,es,ep,ho,hd,_],_]:=I'.loc;have FQ:s'.heap.get? C=↑o:=ho;rw[hoC] at FQ;cases FQ;rw[hd] at hv;cases hv
def bW {Y':St}{H':Hp}{s':Shared}{oC:Obj}{h':Heap}(I:Inv X E6 Y H s) (hC:s.heap.objs.size<C) (J:Inv X (E6++[(C,oC)]) Y' H' s') (hs:Heap.SameBut C s'.heap h'):Inv X E6 Y' H' { s' with heap:=h' }:=by
 have J':=J.oA;have hp:=J.pin (C,oC) (A3 _ (A3 _ (A2.mpr rfl)));have lt:∀ c,c<s.heap.objs.size->c≠C:=λ c h=>AB (Dg h hC);exact J'.turned (t':=s'.toks) (it:=C) (λ b o hb e=>hs.extBut b o hb e) hp.2.1 hp.2.2.1 (.inr (Bo I.sz (BS hC))) (λ x c e z=>?_) (λ p hq z=>?_)
 .let#[v,q]:=I.cell x c e;show lt c q.lt z
 .show lt p.1 (Ap (I.pin p hq).1) z
end
section
variable {X:Cx}{N':List Str}{pick:List (Option Nat)}{scope:Scope}{elt iter tg:Expr}{ifs:List Expr}{pos:Pos}{wi:TI}{g:TG}{tc:TT}{te:TE}
def OO {E6:Ai}{Y:St}{H:Hp}{s:Shared}{it C:Addr}{fp:List Addr}{tn:Nat->Heap->Prop}{J:It}{cl:List (Str×Addr)}{W:Nat->Nat->St->Hp->Prop}{Q:V->Hp->Prop}{R:Result->Shared->Prop}{D:Addr}
  (hc:X.calm=true) (hg:PG (yw X N' scope cl C s H fp) tg g) (hf:PF (yw X N' scope cl C s H fp) ifs tc) (he:PE (yw X N' scope cl C s H fp) elt te)
  (T:Turn X.prog X.w X.K tg J fp it tn) (BB:∀ b∈fp,vT X E6 H b) (HF:∀ b∈fp,b≠C/\b∉yP X.stack/\∀ x c,cl.lookup x=↑c->c≠b)
  (turn:∀ i m Y H,W i m Y H->(J.stop i H/\Q (.ref D) H)\/(J.go i H/\∀ x H',J.qS i H x H'->g x Y H' fun Y2 H2=>tc Y2 H2 λ b H3=>
   if b=true then te Y2 H3 λ y H4=>∃ ys m',H4 D=↑(.lst ys)/\ys.length<sizeLine/\m'<m/\W (i+1) m' Y2 (upd H4 D (.lst (ys++[y]))) else ∃ m',m'<m/\W (i+1) m' Y2 H3))
  (fin:∀ Y' H' s',Inv (yw X N' scope cl C s H fp) [] Y' H' s'->Q (.ref D) H'->R (.ok .next) s')
  {m0:Nat}{Y0:St}{H0:Hp}{s0:Shared}(I0:Inv (yw X N' scope cl C s H fp) [] Y0 H0 s0) (t0:tn 0 s0.heap) (f0:∀ b∈fp,H0 b=none) (w0:W 0 m0 Y0 H0):
  codeAny (model X.prog X.w) X.A (.compLoop (.ListComp elt [#[tg,iter,ifs,0]] scope pos) 0 (.ref it) (.ref D) (compEnvC scope cl C X.env)) R s0:=by
 have G6:∀ {H':Hp},(∀ b∈fp,H' b=none)->∀ b∈fp,vT (yw X N' scope cl C s H fp) [] H' b:=λ hn b hb=>#[hn b hb,(HF b hb).1,(HF b hb).2.1,.inl hb,(HF b hb).2.2,λ p hp=>absurd (show p∈([]:Ai) from hp) #[]];exact codeAny_loop rfl (λ n s'=>∃ i Y' H',Inv (yw X N' scope cl C s H fp) [] Y' H' s'/\tn i s'.heap/\(∀ b∈fp,H' b=none)/\W i n Y' H') (λ n s3 hI=>?_) m0 #[0,Y0,H0,I0,t0,f0,w0];let#[i,Y3,H3,I3,Ji,JO,w3]:=hI;change wpAny _ X.A ((compTurn (.ListComp elt [#[tg,iter,ifs,0]] scope pos) 0 (.ref it) (.ref D) (compEnvC scope cl C X.env)).onRaise (λ x=>do noteFrame x (compEnvC scope cl C X.env);theTreesLotGoes x)) _ _ s3;exact wpAny_noted ?_;rw[compTurn_list];exact KW (wpAny_standAt (KW ?_));rcases turn i n Y3 H3 w3 with ⟨stop,qn⟩ | ⟨go,step⟩
 .exact zu (T.done (yw X N' scope cl C s H fp) rfl rfl rfl hc i [] s3 Y3 H3 _ I3 (G6 JO) Ji stop) λ r s4 #[hr,I4]=>?_;subst hr;show Ad (fin Y3 H3 s4 I4 qn)
 .exact zu (T.item (yw X N' scope cl C s H fp) rfl rfl rfl hc i [] s3 Y3 H3 _ I3 (G6 JO) Ji go) λ r s4 #[u,hr,h4]=>?_;subst hr;exact KW (zu h4 λ _ s5 #[x,H5,I5,r5,y5,Iq,fr5]=>?_);have I5':=I5.pinned (G6 fr5) (T.obj _ _ Iq);exact KW (za3 (hg _ s5 Y3 H5 x u _ I5' r5 (step x H5 y5)) (λ _ s6 #[Y6,H6,I6,q6]=>?_) λ _ _ z=>False.elim z);exact KW (za3 (hf _ s6 Y6 H6 _ I6 q6) (λ ok s7 #[H7,I7,q7]=>?_) λ _ _ z=>False.elim z);have back:∀ {H8:Hp}{s8:Shared},Inv (yw X N' scope cl C s H fp) ([]++oU fp s5.heap) Y6 H8 s8->(∃ m',m'<n/\W (i+1) m' Y6 H8)->∃ m,m<n/\∃ i Y' H',Inv (yw X N' scope cl C s H fp) [] Y' H' s8/\tn i s8.heap/\(∀ b∈fp,H' b=none)/\W i m Y' H':=λ{H8 s8} I8 #[m',hm,w8]=>by
   exact#[m',hm,i+1,Y6,H8,I8.oA,T.keep _ _ _ Iq λ b hb o e=>(I8.pin (b,o) (A3 _ (A3 _ (lQ hb e)))).1,λ b hb=>?_,w8];let#[o,e,d]:=T.obj _ _ Iq b hb;show (I8.pin (b,o) (A3 _ (A3 _ (lQ hb e)))).2.1
  cases ok with
  | false=>
   rw[if_neg BX] at q7;show Ad #[rfl,back I7 q7]
  | true=>
   rw[if_pos rfl] at q7;exact KW (KW (za3 (he _ s7 Y6 H7 _ I7 q7) (λ uy s8 #[y,H8,I8,r8,ys,m',e8,z8,hm,w8]=>?_) λ _ _ z=>False.elim z));exact KW (za3 (br (X:=yw X N' scope cl C s H fp) _ s8 Y6 H8 (.ref D) [y] (.ref D) [uy] (λ _ H9=>W (i+1) m' Y6 H9) I8 rfl (.cons r8 .nil) #[D,ys,y,rfl,rfl,e8,z8,w8]) (λ _ s9 #[_,H9,I9,_,q9]=>?_) λ _ _ z=>False.elim z);show Ad (Ad #[rfl,back I9 #[m',hm,q9]])
def bD {E6:Ai}{Y:St}{H:Hp}{s:Shared}{it:Addr}{fp:List Addr}{tn:Nat->Heap->Prop}{J:It}{cl:List (Str×Addr)}{Q:V->Hp->Prop}{E:Af}{RR:Value->Addr->Result->Shared->Prop}
  (S:sI X N' pick scope) (hc:X.calm=true) (hg:∀ cl C s H fp,PG (yw X N' scope cl C s H fp) tg g) (hf:∀ cl C s H fp,PF (yw X N' scope cl C s H fp) ifs tc) (he:∀ cl C s H fp,PE (yw X N' scope cl C s H fp) elt te)
  (c1:∀ x c,cl.lookup x=↑c->(x,NameKind.free)∈scope.names/\X.env.cells.lookup x=↑c) (c2:∀ x,(x,NameKind.free)∈scope.names->(cl.lookup x).isSome)
  (I:Inv X E6 Y H s) (T:Turn X.prog X.w X.K tg J fp it tn) (t0:tn 0 s.heap) (BB:∀ b∈fp,vT X E6 H b)
  (rd:∀ D,H D=none->∃ W:Nat->Nat->St->Hp->Prop,(∃ m,W 0 m (v_ pick Y) (upd H D (.lst [])))/\
   ∀ i m Y H,W i m Y H->(J.stop i H/\Q (.ref D) H)\/(J.go i H/\∀ x H',J.qS i H x H'->g x Y H' fun Y2 H2=>tc Y2 H2 λ b H3=>
    if b=true then te Y2 H3 λ y H4=>∃ ys m',H4 D=↑(.lst ys)/\ys.length<sizeLine/\m'<m/\W (i+1) m' Y2 (upd H4 D (.lst (ys++[y]))) else ∃ m',m'<m/\W (i+1) m' Y2 H3))
  (fin:∀ C D oC H' s',s.heap.objs.size<C->Inv X (E6++[(C,oC)]) Y H' s'->s'.heap.get? C=↑oC->(∃ m,s'.heap.Ns C m)->Q (.ref D) H'->RR (.ref D) C (.ok .next) s'):
  wpAny (model X.prog X.w) X.A (newList []) (λ acc s₃=>wpAny (model X.prog X.w) X.A (newFunctionEnv scope X.env.globals cl [] X.env.qual none .none ↑X.env) (λ JR s₄=>
   codeAny (model X.prog X.w) X.A (.compStart (.ListComp elt [#[tg,iter,ifs,0]] scope pos) 0 (.ref it) acc { JR with scope:=relabel scope X.env }) (RR acc JR.locals) s₄) E s₃) E s:=by
 exact za8 (wpAny_newFunctionEnv S.bf (by intro y hy;simp at hy) (λ h₁ IE HS=>?_) S.kind);dsimp only at IE HS ⊢;generalize hH2:s.heap.push { cls:=.type "list",dict:=none,data:=.seq ([]:Ae).toArray }=H2 at IE HS ⊢;have hC:H2.objs.size=s.heap.objs.size+1:=by rw[<- hH2,Heap.size_push]
 have AD:s.heap.objs.size<H2.objs.size:=by rw[hC];show Cy _
 have old:∀ b o,s.heap.get? b=↑o->h₁.get? b=↑o:=λ b o e=>HS.extBut b o (AB (Dg (Ap e) AD)) (gV _ (hH2▸gV _ e));have AY:h₁.get? s.heap.objs.size=↑{ cls:=.type "list",data:=.seq [].toArray 0 }:=HS.extBut _ _ (AB AD) (gV _ (hH2▸AM _ rfl));have DA:∀ b∈fp,b<s.heap.objs.size:=λ b hb=>by
  let#[o,e,_]:=T.obj _ _ t0 b hb;show Ap e
 have hDn:H s.heap.objs.size=none:=I.zp.fresh (Ak _);let#[W,#[m0,w0],turn]:=rd s.heap.objs.size hDn;have I0:=N1 (t':=s.toks+([]:List (Str×Value)).length) S I BB DA c1 c2 AD old IE AY;have t1:tn 0 h₁:=T.keep _ _ _ t0 λ b _ o e=>old b o e;have AH:∀ b∈fp,b≠H2.objs.size/\b∉yP X.stack/\∀ x c,cl.lookup x=↑c->c≠b:=λ b hb=>I0.ok.nL b hb |> λ q=>#[q.1,I0.ok.qv b hb,q.2]
 have loop:codeAny (model X.prog X.w) X.A (.compLoop (.ListComp elt [#[tg,iter,ifs,0]] scope pos) 0 (.ref it) (.ref s.heap.objs.size) (compEnvC scope cl H2.objs.size X.env)) (RR (.ref s.heap.objs.size) H2.objs.size) { s with heap:=h₁,toks:=s.toks+([]:List (Str×Value)).length }:=by
  exact OO (Y:=Y) hc (hg _ _ _ _ _) (hf _ _ _ _ _) (he _ _ _ _ _) T BB AH turn (fun Y' H' s' I' q=>?_) I0 t1 (λ b hb=>?_) w0
  .let#[m,hn,_]:=I'.loc;have GU:s'.heap.Ns H2.objs.size m:=hn;let#[oC,es,ep,ho,hr]:=id GU;show fin _ _ oC H' s' AD (Ny I BB AD I' ho) ho #[m,GU] q
  .change upd H s.heap.objs.size (.lst []) b=none;rw[zI (AB (DA b hb))];show (BB b hb).1
 show codeAny_compStart_list loop (T.self _ 0 _ _ _ t1 loop)
def UA (S:sI X N' pick scope) (hc:X.calm=true) (hi:PI X tg iter wi) (hg:∀ cl C s H fp,PG (yw X N' scope cl C s H fp) tg g) (hf:∀ cl C s H fp,PF (yw X N' scope cl C s H fp) ifs tc) (he:∀ cl C s H fp,PE (yw X N' scope cl C s H fp) elt te)
  (hs:∀ x,foldedSetIterable iter X.env x=pure x:=by intro _;rfl):PE X (.ListComp elt [#[tg,iter,ifs,0]] scope pos) (jC pick wi g tc te):=by
 intro E6 s Y H Q I h;let#[cl,HJ,c1,c2]:=Zy (scope:=scope) (env:=X.env) λ y hy hk=>I.ok.has y.1 (S.free y hy hk);rw[eval_ListComp];exact wpAny_comprehension_free (use:=none) rfl hs HJ S.kind S.names (zu (hi E6 s Y H _ I h) λ v s1 h1=>zu h1 λ JY s2 h2=>?_);let#[it,fp,tn,J,H2,e,I2,T,Jj,f2,rd]:=h2;subst e;exact bD (RR:=λ acc C=>compPost (model X.prog X.w) X.A X.xe none (EP X E6 Y Q) acc C) S hc hg hf he c1 c2 I2 T Jj f2 rd λ C D oC H' s' hC J' ho hn q=>?_;let#[m,hn]:=hn;show#[m,hn,λ h' GR=>#[.ref D,H',bW I2 hC J' GR,rfl,q]]
def VT {i:Nat}{y:Str}{py Bl:Pos}(S:sI X N' pick scope) (hc:X.calm=true) (hi:PI X tg iter wi) (hg:∀ cl C s H fp,PG (yw X N' scope cl C s H fp) tg g) (hf:∀ cl C s H fp,PF (yw X N' scope cl C s H fp) ifs tc) (he:∀ cl C s H fp,PE (yw X N' scope cl C s H fp) elt te)
  (hN:X.N.Nodup) (hy:X.N[i]?=↑y) (hx:Loc X.env.scope y)
  (Bz:swapsWith (.ListComp elt [#[tg,iter,ifs,0]] scope pos) ↑(.Name y py) Bl.line X.env=pure true:=by rfl)
  (B2:X.fn y=true\/X.env.scope.names.lookup y=↑.local:=by first | show .inl rfl | show .inr rfl | assumption)
  (hs:∀ x,foldedSetIterable iter X.env x=pure x:=by intro _;rfl):PS X (.Assign [.Name y py] (.ListComp elt [#[tg,iter,ifs,0]] scope pos) Bl) (lu (jC pick wi g tc te) (pS i)):=by
 intro E6 s Y H Q I h;let#[cl,HJ,c1,c2]:=Zy (scope:=scope) (env:=X.env) λ y hy hk=>I.ok.has y.1 (S.free y hy hk);rw[exec_Assign_Name_used _ _ _ _ Bz];exact KW (wpAny_standAt (KW ?_));change wpAny _ X.A (do let _ <- comprehension (.ListComp elt [#[tg,iter,ifs,0]] scope pos) scope X.env _ (newList []) false (eval iter X.env) ↑(assign (.Name y py) X.env)) _ _ s;exact KW (za3 (wpAny_comprehension_free (use:=↑(assign (.Name y py) X.env)) (Q:=λ _ s'=>SP X E6 Q .next s') rfl hs HJ S.kind S.names
  (zu (hi E6 s Y H _ I h) λ v s1 h1=>zu h1 λ JY s2 h2=>?_)) (λ _ s' hq=>Ad (Ad hq)) λ _ _ e=>e)
 let#[it,fp,tn,J,H2,e,I2,T,Jj,f2,rd]:=h2;subst e;exact bD (Q:=λ x H1=>pS i x Y H1 Q.nx) (RR:=λ acc C=>compPost (model X.prog X.w) X.A X.xe ↑(assign (.Name y py) X.env) (λ _ s'=>SP X E6 Q .next s') acc C) S hc hg hf he c1 c2 I2 T Jj f2 rd λ C D oC H' s' hC J' ho hn q=>?_;change wpAny _ X.A (assign (.Name y py) X.env (.ref D)) _ _ _;exact wpAny_assign_Name (lx J' hN hy hx (v:=.ref D) rfl (λ s3 J3=>?_) B2);have hp:=(J3.pin (C,oC) (A3 _ (A3 _ (A2.mpr rfl)))).1;let#[m,o,es,ep,FQ,hr]:=hn;have:o=oC:=Bb (FQ.symm.trans ho);subst this;show#[m,#[o,es,ep,hp,hr],λ h' GR=>#[_,H',bW I2 hC J3 GR,q]]
end
end L2
namespace L3
open PySem PySem.Spec L2
open PyProof.Rows hiding St
inductive D where
 | zh | bl (b:Bool) | int (i:Int) | str (x:Str) | tup (ds:List D) | xI (ds:List D) | ref (a:Addr) | err (c f:Str) (d:D)
def oa (K:Ac) (H:Hp) (a:Addr) (xs:List V):Prop:=
 (∃ o,H a=↑(.wa o (.lst xs)))\/
  ∃ (o:Obj) (Aa:Aw) (n:Nat),K.lookup a=↑o/\o.cls=.type "list"/\o.dict=none/\o.data=.seq Aa n/\Aa.size<=sizeLine/\Vals xs Aa.toList
def oa.sq {K:Ac}{H:Hp}{a:Addr}{xs:List V}(h:oa K H a xs):zO K H a xs:=by
 rcases h with h | h
 .show .inl (.inr h)
 .show .inr h
abbrev vP:List Value:=[.type "ValueError",.type "Exception",.type "BaseException",.type "object"]
abbrev sS:List Str:=["__getattribute__","__getattr__","__class__","__setattr__","place","pair","way","times","told","name","row"]
def rG (K:Ac) (c:Str) (C:Addr) (bm:Ae) (N:Addr):Prop:=
 (∃ (q:Str) (bs:Ae) (sn:List Str) (sub:Ae) (ab:Bool) (col:Option Bool) (dd:Option Addr) (k0 k1 k2 k3 k5:Option Value),K.lookup C=↑(excClassObj c q C N bs bm true sn sub ab col dd k0 k1 k2 k3 k5 "ValueError.__new__"))/\
 PySem.W.nsOkIn K N=true/\∀ n∈sS,PySem.W.nsIn K N n=↑none
structure rS (K:Ac) (c:Str) (C P N NP:Addr):Prop where
 own:rG K c C (.ref P::vP) N
 par:rG K "PurseError" P vP NP
 top:PySem.W.nsIn K mainGlobals c=↑↑(.ref C)
 cu:PySem.W.nsIn K mainGlobals "PurseError"=↑↑(.ref P)
 Ug:PySem.W.nsIn K NP "__init__"=↑none
def vU (K:Ac) (c:Str) (C:Addr):Prop:=∃ P N NP,rS K c C P N NP
def ownIn (K:Ac) (c:Str) (C:Addr) (bm:Ae):Option Addr:=match K.lookup C with
 | some #[.type "type",_,.cls cd,sl]=>(match cd.mro,sl.toList with
  | .ref C'::HW,[_,_,_,_,↑(.builtin n),_]=>if C' == C&&n == "ValueError.__new__"&&!cd.hasDel&&HW == bm&&cd.hasDict&&cd.name == c&&PySem.W.nsOkIn K cd.ns&&sS.all (λ n=>PySem.W.nsIn K cd.ns n == ↑none) then ↑cd.ns else none
  | _,_=>none)
 | _=>none
def cJ {K:Ac}{c:Str}{C N:Addr}{bm:Ae}(h:ownIn K c C bm=↑N):rG K c C bm N:=by
 unfold ownIn at h;split at h
 .rename_i dd cd sl ho;split at h
  .rename_i C' HW k0 k1 k2 k3 n k5 hm hs;split at h
   .rename_i hc;cases h;simp![Bw,beq_iff_eq,Ef,Bj] at hc;let#[#[#[#[#[#[#[rfl,rfl],DF],rfl],hhd],rfl],zp],hn]:=hc;let#[nm,bs,mro,ns,qn,hd,sn,sub,ab,col,del]:=cd;dsimp only at hm DF zp hn hhd;subst hm DF hhd;have Bs:sl=[k0,k1,k2,k3,↑(.builtin "ValueError.__new__"),k5].toArray:=by
     let#[l]:=sl;simp only at hs;rw[hs]
    subst Bs;show#[#[qn,bs,sn,sub,ab,col,dd,k0,k1,k2,k3,k5,ho],zp,hn]
   .cases h
  .cases h
 .cases h
def kq (K:Ac) (c:Str):Option (Addr×Addr×Addr×Addr):=match PySem.W.nsIn K mainGlobals c,PySem.W.nsIn K mainGlobals "PurseError" with
 | some ↑(.ref C),↑↑(.ref P)=>(match ownIn K c C (.ref P::vP),ownIn K "PurseError" P vP with
  | some N,↑NP=>if PySem.W.nsIn K NP "__init__" == ↑none then ↑(C,P,N,NP) else none
  | _,_=>none)
 | _,_=>none
def aP {K:Ac}{c:Str}{C P N NP:Addr}(h:kq K c=↑(C,P,N,NP)):rS K c C P N NP:=by
 unfold kq at h;split at h
 .rename_i h1 h2;split at h
  .rename_i h3 h4;split at h
   .rename_i h5;cases h;show#[cJ h3,cJ h4,h1,h2,beq_iff_eq.mp h5]
   .cases h
  .cases h
 .cases h
def wF (e C dx:Addr):HO:=.ext λ h=>∃ oe vs,h.get? e=↑oe/\oe.cls=.ref C/\oe.dict=↑dx/\oe.data=.fields vs
mutual
def ze (K:Ac) (H:Hp):D->V->Prop
 | .zh,v=>v=.zh
 | .bl b,v=>v=.bl b
 | .int i,v=>v=.int i
 | .str x,v=>v=.str x
 | .tup ds,v=>∃ a xs,v=.ref a/\zW K H a xs/\zk K H ds xs
 | .xI ds,v=>∃ a xs,v=.ref a/\oa K H a xs/\zk K H ds xs
 | .ref a,v=>v=.ref a
 | .err c f d,v=>∃ e C dx w,v=.ref e/\(vU K c C/\H e=↑(wF e C dx)/\H dx=↑(.xd [(f,w)]))/\ze K H d w
def zk (K:Ac) (H:Hp):List D->List V->Prop
 | [],xs=>xs=[]
 | d::ds,xs=>∃ x r,xs=x::r/\ze K H d x/\zk K H ds r
end
structure Ext (H H':Hp):Prop where
 tup:∀ b xs,H b=↑(.tup xs)->H' b=↑(.tup xs)
 wa:∀ b o u,H b=↑(.wa o u)->H' b=↑(.wa o u)
 ext:∀ b φ,H b=↑(.ext φ)->H' b=↑(.ext φ)
 xd:∀ b fs,H b=↑(.xd fs)->H' b=↑(.xd fs)
def Ext.refl (H:Hp):Ext H H:=#[λ _ _ h=>h,λ _ _ _ h=>h,λ _ _ h=>h,λ _ _ h=>h]
def Ext.trans {H H1 H2:Hp}(a:Ext H H1) (b:Ext H1 H2):Ext H H2:=#[λ c xs h=>b.tup c xs (a.tup c xs h),λ c o u h=>b.wa c o u (a.wa c o u h),λ c u h=>b.ext c u (a.ext c u h),λ c u h=>b.xd c u (a.xd c u h)]
def Ext.new {H:Hp}{p:Addr}(h:H p=none) (o:HO):Ext H (upd H p o):=
 #[λ b xs q=>by rw[zI (xC q h)];show q,λ b ob u q=>by rw[zI (xC q h)];show q,λ b u q=>by rw[zI (xC q h)];show q,λ b u q=>by rw[zI (xC q h)];show q]
theorem Ext.lst {H:Hp}{p:Addr}{xs:List V}(h:H p=↑(.lst xs)) (o:HO):Ext H (upd H p o):=
 #[λ b ys q=>by rw[zI (uf q h (by intro z;cases z))];show q,λ b ob u q=>by rw[zI (uf q h (by intro z;cases z))];show q,λ b u q=>by rw[zI (uf q h (by intro z;cases z))];show q,λ b u q=>by rw[zI (uf q h (by intro z;cases z))];show q]
def Ext.l4 {K:Ac}{H H':Hp}{a:Addr}{xs:List V}(e:Ext H H') (h:zW K H a xs):zW K H' a xs:=by
 rcases h with (h | ⟨o,h⟩) | h
 .show .inl (.inl (e.tup _ _ h))
 .show .inl (.inr #[o,e.wa _ _ _ h])
 .show .inr h
def Ext.l6 {K:Ac}{H H':Hp}{a:Addr}{xs:List V}(e:Ext H H') (h:oa K H a xs):oa K H' a xs:=by
 rcases h with ⟨o,h⟩ | h
 .show .inl #[o,e.wa _ _ _ h]
 .show .inr h
section
variable {K:Ac}{H H':Hp}
mutual
theorem ze.ext (e:Ext H H'):∀ (d:D) {v:V},ze K H d v->ze K H' d v
 | .zh,v,h=>by simpa only [ze] using h
 | .bl b,v,h=>by simpa only [ze] using h
 | .int i,v,h=>by simpa only [ze] using h
 | .str x,v,h=>by simpa only [ze] using h
 | .ref a,v,h=>by simpa only [ze] using h
 | .err c f d,v,h=>by
  simp![ze] at h ⊢;let#[a,C,dx,w,h1,#[h2,h3,h4],h5]:=h;show#[a,C,dx,w,h1,#[h2,e.ext _ _ h3,e.xd _ _ h4],ze.ext e d h5]
 | .tup ds,v,h=>by
  simp![ze] at h ⊢;let#[a,xs,h1,h2,h3]:=h;show#[a,xs,h1,e.l4 h2,zk.ext e ds h3]
 | .xI ds,v,h=>by
  simp![ze] at h ⊢;let#[a,xs,h1,h2,h3]:=h;show#[a,xs,h1,e.l6 h2,zk.ext e ds h3]
theorem zk.ext (e:Ext H H'):∀ (ds:List D) {xs:List V},zk K H ds xs->zk K H' ds xs
 | [],xs,h=>by simpa only [zk] using h
 | d::ds,xs,h=>by
  simp![zk] at h ⊢;let#[x,r,h1,h2,h3]:=h;show#[x,r,h1,ze.ext e d h2,zk.ext e ds h3]
end
theorem zk.length:∀ {ds:List D}{xs:List V},zk K H ds xs->ds.length=xs.length
 | [],xs,h=>by simp![zk] at h;subst h;rfl
 | d::ds,xs,h=>by
  simp![zk] at h;let#[x,r,h1,_,h3]:=h;subst h1;simp[zk.length h3]
theorem zk.get:∀ {ds:List D}{xs:List V}{i:Nat}{d:D},zk K H ds xs->ds[i]?=↑d->∃ x,xs[i]?=↑x/\ze K H d x
 | [],_,i,d,_,e=>by simp at e
 | c::ds,xs,i,d,h,e=>by
  simp![zk] at h;let#[x,r,h1,h2,h3]:=h;subst h1;cases i with
  | zero=>simp at e;subst e;show#[x,rfl,h2]
  | succ i=>
   let#[y,e1,e2]:=zk.get (i:=i) h3 (by exists e);show#[y,by simpa using e1,e2]
theorem zk.append:∀ {ds es:List D}{xs ys:List V},zk K H ds xs->zk K H es ys->zk K H (ds++es) (xs++ys)
 | [],es,xs,ys,h,h'=>by simp![zk] at h;subst h;exists h'
 | d::ds,es,xs,ys,h,h'=>by
  simp![zk] at h;let#[x,r,h1,h2,h3]:=h;subst h1;change zk K H (d::(ds++es)) (x::(r++ys));simp![zk];show#[x,r++ys,rfl,h2,zk.append h3 h']
def zk.nil:zk K H [] []:=by simp![zk]
def zk.cons {d:D}{ds:List D}{x:V}{xs:List V}(h:ze K H d x) (h':zk K H ds xs):zk K H (d::ds) (x::xs):=by
 simp![zk];show#[x,xs,rfl,h,h']
def zk.snoc {d:D}{ds:List D}{x:V}{xs:List V}(h':zk K H ds xs) (h:ze K H d x):zk K H (ds++[d]) (xs++[x]):=h'.append (.cons h .nil)
theorem zk.ints:∀ {ns:List Int}{xs:List V},zk K H (ns.map D.int) xs->xs=ns.map V.int
 | [],xs,h=>by simpa only [Bi,zk] using h
 | n::ns,xs,h=>by
  rw[Ax] at h;simp![zk,ze] at h;let#[x,r,h1,h2,h3]:=h;subst h1 h2;rw[Ax,zk.ints h3]
theorem zk.iq:∀ (ns:List Int),zk K H (ns.map D.int) (ns.map V.int)
 | []=>.nil
 | n::ns=>.cons (by simp![ze]) (zk.iq ns)
theorem zk.bools:∀ {ns:List Bool}{xs:List V},zk K H (ns.map D.bl) xs->xs=ns.map V.bl
 | [],xs,h=>by simpa only [Bi,zk] using h
 | n::ns,xs,h=>by
  rw[Ax] at h;simp![zk,ze] at h;let#[x,r,h1,h2,h3]:=h;subst h1 h2;rw[Ax,zk.bools h3]
end
inductive O where
 | lst (ds:List D)
 | zD (Ab:List (Key×D))
abbrev SS:=Addr->Option O
def yV (K:Ac) (H:Hp):List (Key×D)->List (Key×V)->Prop:=Paired λ p q=>p.1=q.1/\ze K H p.2 q.2
def qI (K:Ac) (H:Hp) (a:Addr):O->Prop
 | .lst ds=>∃ xs,H a=↑(.lst xs)/\zk K H ds xs
 | .zD Ab=>∃ vs,H a=↑(.dK vs)/\yV K H Ab vs
def zE (K:Ac) (H:Hp) (S:SS):Prop:=∀ a o,S a=↑o->qI K H a o
def ups (S:SS) (a:Addr) (o:O):SS:=λ b=>if b=a then ↑o else S b
def sN {S:SS}{a:Addr}{o:O}:ups S a o a=↑o:=by unfold ups;rw[if_pos rfl]
def tJ {S:SS}{a b:Addr}{o:O}(h:b≠a):ups S a o b=S b:=by unfold ups;rw[if_neg h]
def Sx (S S':SS):Prop:=∀ b o,S b=↑o->S' b=↑o
def Sx.refl (S:SS):Sx S S:=λ _ _ h=>h
def Sx.trans {S S1 S2:SS}(a:Sx S S1) (b:Sx S1 S2):Sx S S2:=λ c o h=>b c o (a c o h)
def Sx.new {S:SS}{p:Addr}(h:S p=none) (o:O):Sx S (ups S p o):=λ b u q=>by
 rw[tJ (by intro z;subst z;rw[h] at q;cases q)];show q
theorem Sx.none {S S':SS}(e:Sx S S') {p:Addr}(h:S' p=Option.none):S p=Option.none:=by
 cases q:S p with
 | none=>rfl
 | some o=>rw[e p o q] at h;cases h
section
variable {K:Ac}{H H':Hp}{S:SS}
def qI.has {a:Addr}{o:O}(h:qI K H a o):H a≠none:=by
 cases o with
 | lst ds=>let#[xs,h,_]:=h;rw[h];simp
 | zD Ab=>let#[xs,h,_]:=h;rw[h];simp
theorem zE.none (r:zE K H S) {p:Addr}(h:H p=Option.none):S p=Option.none:=by
 cases q:S p with
 | none=>rfl
 | some o=>show absurd h (r p o q).has
theorem yV.ext (e:Ext H H') {Ab:List (Key×D)}{vs:List (Key×V)}(h:yV K H Ab vs):yV K H' Ab vs:=
 Paired.lS h λ p q z=>#[z.1,ze.ext e p.2 z.2]
def qI.keep {a:Addr}{o:O}(e:Ext H H') (k:∀ u,H a=↑u->H' a=↑u) (h:qI K H a o):qI K H' a o:=by
 cases o with
 | lst ds=>let#[xs,h1,h2]:=h;show#[xs,k _ h1,zk.ext e ds h2]
 | zD Ab=>let#[xs,h1,h2]:=h;show#[xs,k _ h1,h2.ext e]
theorem zE.keep (e:Ext H H') (k:∀ a u o,S a=↑o->H a=↑u->H' a=↑u) (r:zE K H S):zE K H' S:=λ a o h=>(r a o h).keep e λ u q=>k a u o h q
def zE.same (e:m7 H H') (r:zE K H S):zE K H' S:=r.keep #[λ b xs q=>e _ _ q,λ b o u q=>e _ _ q,λ b u q=>e _ _ q,λ b u q=>e _ _ q] λ a u _ _ q=>e a u q
theorem zE.new {p:Addr}{u:HO}(hp:H p=Option.none) (r:zE K H S):zE K (upd H p u) S:=
 r.keep (Ext.new hp u) λ a v o _ q=>by rw[zI (xC q hp)];show q
theorem zE.ups {p:Addr}{u:HO}{o:O}(e:Ext H (upd H p u)) (hn:qI K (upd H p u) p o) (r:zE K H S):zE K (upd H p u) (ups S p o):=λ a o' h=>by
 by_cases ha:a=p
 .subst ha;rw[sN] at h;cases h;show hn
 .rw[tJ ha] at h;show (r a o' h).keep e λ v q=>by rw[zI ha];show q
end
abbrev z_:=List (Option D)
def yu (K:Ac) (H:Hp) (L:z_) (Y:St):Prop:=L.length=Y.length/\∀ (i:Nat) (d:D),L[i]?=↑↑d->∃ v,Y[i]?=↑↑v/\ze K H d v
theorem yu.ext {K:Ac}{H H':Hp}{L:z_}{Y:St}(e:Ext H H') (r:yu K H L Y):yu K H' L Y:=#[r.1,λ i d h=>by
 let#[v,h1,h2]:=r.2 i d h;show#[v,h1,ze.ext e d h2]]
theorem yu.set {K:Ac}{H:Hp}{L:z_}{Y:St}(i:Nat) {d:D}{v:V}(r:yu K H L Y) (h:ze K H d v):yu K H (L.set i ↑d) (Y.set i ↑v):=by
 exact#[by rw[CS,CS];show r.1,λ j c hc=>?_];rw[CP] at hc ⊢;by_cases hj:i=j
 .subst hj;rw[if_pos rfl] at hc ⊢;by_cases hl:i < L.length
  .rw[if_pos hl] at hc;rw[if_pos (by rw[<- r.1];show hl)];cases hc;show#[v,rfl,h]
  .rw[if_neg hl] at hc;cases hc
 .rw[if_neg hj] at hc ⊢;show r.2 j c hc
abbrev DK:=D->SS->Prop
abbrev zr:=z_->SS->DK->Prop
abbrev yx:=z_->SS->(Bool->SS->Prop)->Prop
abbrev yh:=z_->SS->(List D->SS->Prop)->Prop
def yi (t:zr):Prop:=∀ L S (Q Q':DK),(∀ d S',Q d S'->Q' d S')->t L S Q->t L S Q'
def wU (t:yx):Prop:=∀ L S (Q Q':Bool->SS->Prop),(∀ d S',Q d S'->Q' d S')->t L S Q->t L S Q'
def sr (t:yh):Prop:=∀ L S (Q Q':List D->SS->Prop),(∀ d S',Q d S'->Q' d S')->t L S Q->t L S Q'
def xS (K:Ac) (H:Hp) (Q:VK):DK:=λ d S'=>∀ v H',ze K H' d v->Ext H H'->zE K H' S'->Q v H'
def nS (K:Ac) (H:Hp) (Q:Bool->Hp->Prop):Bool->SS->Prop:=λ b S'=>∀ H',Ext H H'->zE K H' S'->Q b H'
def ME (K:Ac) (H:Hp) (Q:List V->Hp->Prop):List D->SS->Prop:=λ ds S'=>∀ vs H',zk K H' ds vs->Ext H H'->zE K H' S'->Q vs H'
def xM (K:Ac) (H:Hp) (Q:St->Hp->Prop):z_->SS->Prop:=fun L S'=>∀ Y H',yu K H' L Y->Ext H H'->zE K H' S'->Q Y H'
def xS.ext {K:Ac}{H H':Hp}{Q:VK}(e:Ext H H') {d:D}{S:SS}(h:xS K H Q d S):xS K H' Q d S:=λ v H2 r x q=>h v H2 r (e.trans x) q
def nS.ext {K:Ac}{H H':Hp}{Q:Bool->Hp->Prop}(e:Ext H H') {d:Bool}{S:SS}(h:nS K H Q d S):nS K H' Q d S:=λ H2 x q=>h H2 (e.trans x) q
def xM.ext {K:Ac}{H H':Hp}{Q:St->Hp->Prop}(e:Ext H H') {d:z_}{S:SS}(h:xM K H Q d S):xM K H' Q d S:=λ v H2 r x q=>h v H2 r (e.trans x) q
def zJ (K:Ac) (t:zr):TE:=fun Y H Q=>∃ L S,yu K H L Y/\zE K H S/\t L S (xS K H Q)
def xV (K:Ac) (t:yx):TT:=fun Y H Q=>∃ L S,yu K H L Y/\zE K H S/\t L S (nS K H Q)
def wq (K:Ac) (t:yh):TA:=fun Y H Q=>∃ L S,yu K H L Y/\zE K H S/\t L S (ME K H Q)
structure PD (X:Cx) (e:Expr) (t:zr):Prop where
 mo:yi t
 pe:PE X e (zJ X.K t)
structure xb (X:Cx) (e:Expr) (t:yx):Prop where
 mo:wU t
 pt:PT X e (xV X.K t)
structure xh (X:Cx) (es:List Expr) (t:yh):Prop where
 mo:sr t
 pa:PA X es (wq X.K t)
def PE.imp {X:Cx}{e:Expr}{t t':TE}(h:PE X e t) (hi:∀ Y H Q,t' Y H Q->t Y H Q):PE X e t':=λ E6 s Y H Q I q=>h E6 s Y H Q I (hi Y H Q q)
def PT.imp {X:Cx}{e:Expr}{t t':TT}(h:PT X e t) (hi:∀ Y H Q,t' Y H Q->t Y H Q):PT X e t':=λ E6 s Y H Q I q=>h E6 s Y H Q I (hi Y H Q q)
def PA.imp {X:Cx}{e:List Expr}{t t':TA}(h:PA X e t) (hi:∀ Y H Q,t' Y H Q->t Y H Q):PA X e t':=λ pos E6 s Y H Q I q=>h pos E6 s Y H Q I (hi Y H Q q)
def PS.imp {X:Cx}{e:Stmt}{t t':TS}(h:PS X e t) (hi:∀ D Y H,t' D Y H->t D Y H):PS X e t':=λ E6 s Y H Q I q=>h E6 s Y H Q I (hi Q Y H q)
def xU.imp {X:Cx}{e:List Stmt}{t t':TS}(h:xU X e t) (hi:∀ D Y H,t' D Y H->t D Y H):xU X e t':=λ E6 s Y H Q I q=>h E6 s Y H Q I (hi Q Y H q)
section
variable {X:Cx}{K:Ac}
def zJ.go {t:zr}{Y:St}{H:Hp}{Q:VK}{L:z_}{S:SS}{R:DK}(mo:yi t) (r1:yu K H L Y) (r2:zE K H S) (h:t L S R) (k:∀ d S' v H',R d S'->ze K H' d v->Ext H H'->zE K H' S'->Q v H'):zJ K t Y H Q:=
 #[L,S,r1,r2,mo L S _ _ (λ d S' q v H' a b c=>k d S' v H' q a b c) h]
def xV.go {t:yx}{Y:St}{H:Hp}{Q:Bool->Hp->Prop}{L:z_}{S:SS}{R:Bool->SS->Prop}(mo:wU t) (r1:yu K H L Y) (r2:zE K H S) (h:t L S R) (k:∀ d S' H',R d S'->Ext H H'->zE K H' S'->Q d H'):xV K t Y H Q:=
 #[L,S,r1,r2,mo L S _ _ (λ d S' q H' b c=>k d S' H' q b c) h]
def wq.go {t:yh}{Y:St}{H:Hp}{Q:List V->Hp->Prop}{L:z_}{S:SS}{R:List D->SS->Prop}(mo:sr t) (r1:yu K H L Y) (r2:zE K H S) (h:t L S R) (k:∀ d S' v H',R d S'->zk K H' d v->Ext H H'->zE K H' S'->Q v H'):wq K t Y H Q:=
 #[L,S,r1,r2,mo L S _ _ (λ d S' q v H' a b c=>k d S' v H' q a b c) h]
def yq (i:Nat):zr:=fun L S Q=>match L[i]? with
 | some ↑d=>Q d S
 | _=>False
def dC (d:D):zr:=λ _ S Q=>Q d S
def TY (i:Nat) {x:Str}{pos:Pos}(h:PE X (.Name x pos) (oB i)):PD X (.Name x pos) (yq i):=by
 exact#[fun L S Q Q' hq h=>?_,PE.imp h fun Y H Q hu=>?_]
 .unfold yq at h ⊢;split at h
  .show hq _ _ h
  .show h
 .let#[L,S,r1,r2,h]:=hu;unfold yq at h;split at h
  .rename_i d e;let#[v,h1,h2]:=r1.2 i d e;show#[v,h1,h v H h2 (Ext.refl H) r2]
  .show h.elim
def dC.mo (d:D):yi (dC d):=λ _ _ _ _ hq h=>hq _ _ h
def oX {e:Expr}{d:D}{v:V}(h:PE X e (tC v)) (r:∀ H,ze X.K H d v):PD X e (dC d):=
 #[dC.mo d,PE.imp h λ _ H _ #[_,_,_,r2,h]=>h v H (r H) (Ext.refl H) r2]
def SX {i j pos}:PD X (.Constant (.int i) j pos) (dC (.int i)):=oX UC λ _=>by simp![ze]
def Rq {i j pos}:PD X (.Constant (.bool i) j pos) (dC (.bl i)):=oX UL λ _=>by simp![ze]
def Sq {j pos}:PD X (.Constant .none j pos) (dC .zh):=oX U8 λ _=>by simp![ze]
def Sd {x j pos}:PD X (.Constant (.str x) j pos) (dC (.str x)):=oX U3 λ _=>by simp![ze]
abbrev yF:=D->D->SS->DK->Prop
def xw (f:yF):Prop:=∀ x y S (Q Q':DK),(∀ d S',Q d S'->Q' d S')->f x y S Q->f x y S Q'
def xi (K:Ac) (f:yF) (r:R2):Prop:=∀ x y d e H S Q,ze K H d x->ze K H e y->zE K H S->f d e S (xS K H Q)->r x y H Q
def yr (f:yF) (ta tb:zr):zr:=fun L S Q=>ta L S λ x S1=>tb L S1 λ y S2=>f x y S2 Q
def yr.mo {f:yF}{ta tb:zr}(hf:xw f) (ha:yi ta) (hb:yi tb):yi (yr f ta tb):=fun L S Q Q' hq h=>
 ha L S _ _ (λ x S1 h=>hb L S1 _ _ (λ y S2 h=>hf x y S2 _ _ hq h) h) h
def m_ {f:yF}{r:R2}{ta tb:zr}(hr:xi K f r) (hf:xw f) (ha:yi ta) (hb:yi tb) {Y:St}{H:Hp}{Q:VK}(h:zJ K (yr f ta tb) Y H Q):oE r (zJ K ta) (zJ K tb) Y H Q:=by
 let#[L,S,r1,r2,h]:=h;exact zJ.go ha r1 r2 h λ x S1 v H1 h1 q1 e1 p1=>?_;exact zJ.go hb (r1.ext e1) p1 h1 λ y S2 w H2 h2 q2 e2 p2=>?_;show hr v w x y H2 S2 Q (ze.ext e2 x q1) q2 p2 (hf x y S2 _ _ (λ d S' z=>z.ext (e1.trans e2)) h2)
def p8 {a b:Expr}{op:Operator}{pos:Pos}{f:yF}{r:R2}{ta tb:zr}(ho:zY X (binaryOp op) r) (hr:xi X.K f r) (hf:xw f) (ha:PD X a ta) (hb:PD X b tb):PD X (.BinOp a op b pos) (yr f ta tb):=
 #[yr.mo hf ha.mo hb.mo,PE.imp (U5 ho ha.pe hb.pe) λ _ _ _ h=>m_ hr hf ha.mo hb.mo h]
def oY {a b:Expr}{op:CmpOp}{pos:Pos}{f:yF}{r:R2}{ta tb:zr}(ho:zY X (compareOp op) r) (hr:xi X.K f r) (hf:xw f) (ha:PD X a ta) (hb:PD X b tb) (hm:behindInMarks op b=false):PD X (.Compare a [op] [b] pos) (yr f ta tb):=
 #[yr.mo hf ha.mo hb.mo,PE.imp (UI ho ha.pe hb.pe hm) λ _ _ _ h=>m_ hr hf ha.mo hb.mo h]
def wO (t:zr):yx:=fun L S Q=>t L S λ x S1=>match x with
 | .bl b=>Q b S1
 | _=>False
def wO.mo {t:zr}(h:yi t):wU (wO t):=fun L S Q Q' hq q=>h L S _ _ (λ d S' z=>by
 cases d <;> first
  | show hq _ _ z
  | show z) q
def tN {a b:Expr}{op:CmpOp}{pos:Pos}{f:yF}{r:R2}{ta tb:zr}(ho:zY X (compareOp op) r) (hr:xi X.K f r) (hf:xw f) (ha:PD X a ta) (hb:PD X b tb) (hm:behindInMarks op b=false):xb X (.Compare a [op] [b] pos) (wO (yr f ta tb)):=by
 exact#[wO.mo (yr.mo hf ha.mo hb.mo),PT.imp (VN ho ha.pe hb.pe hm) fun Y H Q h=>?_];let#[L,S,r1,r2,h]:=h;exact m_ hr hf ha.mo hb.mo #[L,S,r1,r2,yr.mo hf ha.mo hb.mo L S _ _ (λ d S' z v H' a b c=>?_) h];cases d with
 | bl k=>simp![ze] at a;show#[k,a,z H' b c]
 | _=>show z.elim
def fI (C:Int->Int->Prop) (g:Int->Int->D):yF:=λ x y S Q=>match x,y with
 | .int i,.int j=>C i j/\Q (g i j) S
 | _,_=>False
def fI.mo {C:Int->Int->Prop}{g:Int->Int->D}:xw (fI C g):=λ x y S Q Q' hq h=>by
 unfold fI at h ⊢;split at h
 .show#[h.1,hq _ _ h.2]
 .show h.elim
def xf (g:Int->Int->D):yF:=λ x y S Q=>match x,y with
 | .int i,.int j=>Q (g i j) S
 | _,_=>False
def xf.mo {g:Int->Int->D}:xw (xf g):=λ x y S Q Q' hq h=>by
 unfold xf at h ⊢;split at h
 .show hq _ _ h
 .show h.elim
def fI.fits {C:Int->Int->Prop}{g:Int->Int->D}{g':Int->Int->V}(hg:∀ i j H,ze K H (g i j) (g' i j)):xi K (fI C g) (rI C g'):=λ x y d e H S Q h1 h2 h3 h=>by
 unfold fI at h;split at h
 .simp![ze] at h1 h2;show#[_,_,h1,h2,h.1,h.2 _ H (hg _ _ H) (Ext.refl H) h3]
 .show h.elim
def xf.fits {g:Int->Int->D}{g':Int->Int->V}(hg:∀ i j H,ze K H (g i j) (g' i j)):xi K (xf g) (w_ g'):=λ x y d e H S Q h1 h2 h3 h=>by
 unfold xf at h;split at h
 .simp![ze] at h1 h2;show#[_,_,h1,h2,h _ H (hg _ _ H) (Ext.refl H) h3]
 .show h.elim
variable {a b:Expr}{ta tb:zr}{pos:Pos}
def Sb (ha:PD X a ta) (hb:PD X b tb):PD X (.BinOp a .Sub b pos) (yr (xf λ i j=>.int (i-j)) ta tb):=p8 R1 (xf.fits λ _ _ _=>by simp![ze]) xf.mo ha hb
def Sv (ha:PD X a ta) (hb:PD X b tb):PD X (.BinOp a .Mod b pos) (yr (fI (λ _ j=>0<j) λ i j=>.int (i%j)) ta tb):=p8 R8 (fI.fits λ _ _ _=>by simp![ze]) fI.mo ha hb
def Rf (ha:PD X a ta) (hb:PD X b tb):PD X (.BinOp a .FloorDiv b pos) (yr (fI xj λ i j=>.int (i/j)) ta tb):=p8 RD (fI.fits λ _ _ _=>by simp![ze]) fI.mo ha hb
def Sj (ha:PD X a ta) (hb:PD X b tb):PD X (.BinOp a .Pow b pos) (yr (fI sJ λ i j=>.int (i ^ j.toNat)) ta tb):=p8 R3 (fI.fits λ _ _ _=>by simp![ze]) fI.mo ha hb
abbrev gq:yF:=xf λ i j=>.bl (decide (i<=j))
abbrev gr:yF:=xf λ i j=>.bl (decide (j<i))
abbrev km:yF:=xf λ i j=>.bl (decide (j<=i))
def fit_le:xi K gq (w_ λ i j=>.bl (decide (i<=j))):=xf.fits λ _ _ _=>by simp![ze]
def Mn:xi K gr (w_ λ i j=>.bl (decide (j<i))):=xf.fits λ _ _ _=>by simp![ze]
def aJ:xi K km (w_ λ i j=>.bl (decide (j<=i))):=xf.fits λ _ _ _=>by simp![ze]
def Rb (ha:PD X a ta) (hb:PD X b tb):PD X (.Compare a [.GtE] [b] pos) (yr km ta tb):=oY cR aJ xf.mo ha hb (vA _)
def Tb (ha:PD X a ta) (hb:PD X b tb):xb X (.Compare a [.LtE] [b] pos) (wO (yr gq ta tb)):=tN nc fit_le xf.mo ha hb (vA _)
def Tf (ha:PD X a ta) (hb:PD X b tb):xb X (.Compare a [.Gt] [b] pos) (wO (yr gr ta tb)):=tN RC Mn xf.mo ha hb (vA _)
def Tg (ha:PD X a ta) (hb:PD X b tb):xb X (.Compare a [.GtE] [b] pos) (wO (yr km ta tb)):=tN cR aJ xf.mo ha hb (vA _)
end
section
variable {X:Cx}{K:Ac}{a b c:Expr}{ta tb:zr}{pos:Pos}
def n_ (ta tb:zr):zr:=fun L S Q=>ta L S λ x S1=>match x with
 | .bl k=>if k=true then tb L S1 Q else Q (.bl false) S1
 | _=>False
def nW (ta:zr):zr:=fun L S Q=>ta L S λ x S1=>match x with
 | .bl k=>Q (.bl (!k)) S1
 | _=>False
def wy {c:Prop} [Decidable c] {A B A' B':Prop}(h1:A->A') (h2:B->B') (h:if c then A else B):if c then A' else B':=by
 by_cases q:c
 .rw[if_pos q] at h ⊢;show h1 h
 .rw[if_neg q] at h ⊢;show h2 h
def n_.mo (ha:yi ta) (hb:yi tb):yi (n_ ta tb):=fun L S Q Q' hq h=>ha L S _ _ (λ x S1 z=>by
 cases x <;> first
  | show wy (hb L S1 _ _ hq) (hq _ _) z
  | show z) h
def nW.mo (ha:yi ta):yi (nW ta):=fun L S Q Q' hq h=>ha L S _ _ (λ x S1 z=>by
 cases x <;> first
  | show hq _ _ z
  | show z) h
def Sk {op} {t:zr}(h:PD X a t):PD X (.BoolOp op [a] pos) t:=#[h.mo,U6 h.pe]
variable {E9:List Expr}
theorem Ru (ha:PD X a ta) (hb:PD X (.BoolOp .And (b::E9) pos) tb):PD X (.BoolOp .And (a::b::E9) pos) (n_ ta tb):=by
 exact#[n_.mo ha.mo hb.mo,PE.imp (UM ha.pe hb.pe) fun Y H Q hu=>?_];let#[L,S,r1,r2,h]:=hu;exact zJ.go ha.mo r1 r2 h λ x S1 v H1 h1 q1 e1 p1=>?_;cases x with
 | bl k=>
  simp![ze] at q1;exact#[k,q1,wy (λ z=>?_) (λ z=>?_) h1]
  .show zJ.go hb.mo (r1.ext e1) p1 z λ y S2 w H2 h2 q2 e2 p2=>h2 w H2 q2 (e1.trans e2) p2
  .show z _ H1 (by simp![ze]) e1 p1
 | _=>show h1.elim
theorem So (ha:PD X a ta):PD X (.UnaryOp .Not a pos) (nW ta):=by
 exact#[nW.mo ha.mo,PE.imp (U7 ha.pe) fun Y H Q hu=>?_];let#[L,S,r1,r2,h]:=hu;exact zJ.go ha.mo r1 r2 h λ x S1 v H1 h1 q1 e1 p1=>?_;cases x with
 | bl k=>
  simp![ze] at q1;show#[k,q1,h1 _ H1 (by simp![ze]) e1 p1]
 | _=>show h1.elim
def nQ (t u:yx):yx:=fun L S Q=>t L S λ k S1=>if k=true then u L S1 Q else Q false S1
def nN (t u:yx):yx:=fun L S Q=>t L S λ k S1=>if k=true then Q true S1 else u L S1 Q
def nP (t:yx):yx:=fun L S Q=>t L S λ k S1=>Q (!k) S1
variable {t u:yx}
def nQ.mo (h:wU t) (h':wU u):wU (nQ t u):=fun L S _ _ hq z=>h L S _ _ (λ k S1 z=>wy (h' L S1 _ _ hq) (hq _ _) z) z
def nN.mo (h:wU t) (h':wU u):wU (nN t u):=fun L S _ _ hq z=>h L S _ _ (λ k S1 z=>wy (hq _ _) (h' L S1 _ _ hq) z) z
def nP.mo (h:wU t):wU (nP t):=fun L S _ _ hq z=>h L S _ _ (λ k S1 z=>hq _ _ z) z
structure sk (X:Cx) (e:Expr) (t:yx):Prop where
 mo:wU t
 pw:PW X e (xV X.K t)
def PW.imp {e:Expr}{t t':TT}(h:PW X e t) (hi:∀ Y H Q,t' Y H Q->t Y H Q):PW X e t':=λ whole E6 s Y H Q I q=>h whole E6 s Y H Q I (hi Y H Q q)
theorem sk.pt {e:Expr}{t:yx}(h:sk X e t):xb X e t:=#[h.mo,PW.pt h.pw]
def UX (h:xb X a t):sk X (.BoolOp .And [a] pos) t:=#[h.mo,VG h.pt]
def UW (h:xb X a t):sk X (.BoolOp .Or [a] pos) t:=#[h.mo,VE h.pt]
def cE (ha:xb X a t) (hb:sk X (.BoolOp .And (b::E9) pos) u):sk X (.BoolOp .And (a::b::E9) pos) (nQ t u):=by
 exact#[nQ.mo ha.mo hb.mo,PW.imp (VH ha.pt hb.pw) fun Y H Q hu=>?_];let#[L,S,r1,r2,h]:=hu;exact xV.go ha.mo r1 r2 h λ k S1 H1 h1 e1 p1=>wy (λ z=>?_) (λ z=>z H1 e1 p1) h1;show xV.go hb.mo (r1.ext e1) p1 z λ y S2 H2 h2 e2 p2=>h2 H2 (e1.trans e2) p2
def cC (ha:xb X a t) (hb:sk X (.BoolOp .Or (b::E9) pos) u):sk X (.BoolOp .Or (a::b::E9) pos) (nN t u):=by
 exact#[nN.mo ha.mo hb.mo,PW.imp (VF ha.pt hb.pw) fun Y H Q hu=>?_];let#[L,S,r1,r2,h]:=hu;exact xV.go ha.mo r1 r2 h λ k S1 H1 h1 e1 p1=>wy (λ z=>z H1 e1 p1) (λ z=>?_) h1;show xV.go hb.mo (r1.ext e1) p1 z λ y S2 H2 h2 e2 p2=>h2 H2 (e1.trans e2) p2
def UZ (ha:xb X a t):xb X (.UnaryOp .Not a pos) (nP t):=by
 exact#[nP.mo ha.mo,PT.imp (VM ha.pt) fun Y H Q hu=>?_];let#[L,S,r1,r2,h]:=hu;show xV.go ha.mo r1 r2 h λ k S1 H1 h1 e1 p1=>h1 H1 e1 p1
def nY (t:yx) (ta tb:zr):zr:=fun L S Q=>t L S λ k S1=>if k=true then ta L S1 Q else tb L S1 Q
def nY.mo (h:wU t) (ha:yi ta) (hb:yi tb):yi (nY t ta tb):=fun L S _ _ hq z=>h L S _ _ (λ k S1 z=>wy (ha L S1 _ _ hq) (hb L S1 _ _ hq) z) z
def SY (hc:xb X c t) (ha:PD X a ta) (hb:PD X b tb):PD X (.IfExp c a b pos) (nY t ta tb):=by
 exact#[nY.mo hc.mo ha.mo hb.mo,PE.imp (UD hc.pt ha.pe hb.pe) fun Y H Q hu=>?_];let#[L,S,r1,r2,h]:=hu;exact xV.go hc.mo r1 r2 h λ k S1 H1 h1 e1 p1=>wy (λ z=>?_) (λ z=>?_) h1
 .show zJ.go ha.mo (r1.ext e1) p1 z λ y S2 w H2 h2 q2 e2 p2=>h2 w H2 q2 (e1.trans e2) p2
 .show zJ.go hb.mo (r1.ext e1) p1 z λ y S2 w H2 h2 q2 e2 p2=>h2 w H2 q2 (e1.trans e2) p2
def vz (d:D) (S:SS) (Q:Bool->SS->Prop):Prop:=match d with
 | .zh=>Q false S
 | .bl k=>Q k S
 | .int i=>Q (i != 0) S
 | .str x=>x.length<=sizeLine/\Q ((x.length:Int) != 0) S
 | .tup ds=>Q (!ds.isEmpty) S
 | .xI ds=>Q (!ds.isEmpty) S
 | .ref p=>match S p with
  | some (.lst ds)=>Q (!ds.isEmpty) S
  | some (.zD Ab)=>Q (!Ab.isEmpty) S
  | none=>False
 | .err _ _ _=>False
def a_ (ta:zr):yx:=fun L S Q=>ta L S λ x S1=>vz x S1 Q
def vz.mo {d:D}{S:SS}{Q Q':Bool->SS->Prop}(hq:∀ k S',Q k S'->Q' k S') (h:vz d S Q):vz d S Q':=by
 cases d with
 | str x=>show#[h.1,hq _ _ h.2]
 | err _ _ _=>show h.elim
 | ref p=>
  unfold vz at h ⊢;dsimp only at h ⊢;split at h
  .show hq _ _ h
  .show hq _ _ h
  .show h
 | _=>show hq _ _ h
theorem zk.isEmpty {H:Hp}{ds:List D}{xs:List V}(h:zk K H ds xs):ds.isEmpty=xs.isEmpty:=by
 have:=h.length;cases ds <;> cases xs <;> simp_all
def Kj {α β:Type}{F:α->β->Prop}{xs:List α}{ys:List β}(h:Paired F xs ys):xs.isEmpty=ys.isEmpty:=by cases h <;> rfl
def vz.fits {H:Hp}{d:D}{v:V}{S:SS}{Q:Bool->Hp->Prop}(r:ze K H d v) (p:zE K H S) (h:vz d S (nS K H Q)):∃ k,fu K v H k/\Q k H:=by
 cases d with
 | zh=>simp![ze] at r;subst r;show#[false,rfl,h H (.refl H) p]
 | bl k=>simp![ze] at r;subst r;show#[k,rfl,h H (.refl H) p]
 | int i=>simp![ze] at r;subst r;show#[_,rfl,h H (.refl H) p]
 | str x=>simp![ze] at r;subst r;show#[_,#[h.1,rfl],h.2 H (.refl H) p]
 | err _ _ _=>show h.elim
 | tup ds=>
  simp![ze] at r;let#[a,xs,rfl,r1,r2]:=r;show#[_,.inr (.inl #[xs,r1,by rw[r2.isEmpty]]),h H (.refl H) p]
 | xI ds=>
  simp![ze] at r;let#[a,xs,rfl,r1,r2]:=r;show#[_,.inl #[xs,r1.sq,by rw[r2.isEmpty]],h H (.refl H) p]
 | ref a=>
  simp![ze] at r;subst r;unfold vz at h;dsimp only at h;split at h
  .rename_i ds e;let#[xs,e1,r2]:=p a _ e;show#[_,.inl #[xs,zO.of e1,by rw[r2.isEmpty]],h H (.refl H) p]
  .rename_i Ab e;let#[xs,e1,r2]:=p a _ e;show#[_,.inr (.inr #[xs,e1,by rw[Kj r2]]),h H (.refl H) p]
  .show h.elim
def UY (ha:PD X a ta) (he:∀ whole,isTrue a X.env whole=(do let v <- whole;standAt a.pos;holding [v] (truthy v))):xb X a (a_ ta):=by
 exact#[fun L S Q Q' hq h=>ha.mo L S _ _ (λ x S1 z=>vz.mo hq z) h,PT.imp (VL ha.pe he) fun Y H Q hu=>?_];let#[L,S,r1,r2,h]:=hu;exact zJ.go ha.mo r1 r2 h λ x S1 v H1 h1 q1 e1 p1=>?_;show vz.fits q1 p1 (vz.mo (λ k S' z=>z.ext e1) h1)
def k6:yh:=λ _ S Q=>Q [] S
def qy (te:zr) (tr:yh):yh:=fun L S Q=>te L S λ x S1=>tr L S1 λ xs S2=>Q (x::xs) S2
variable {e:Expr}{es:List Expr}{te:zr}{tA:yh}
def qy.mo (h:yi te) (h':sr tA):sr (qy te tA):=fun L S _ _ hq z=>h L S _ _ (λ x S1 z=>h' L S1 _ _ (λ xs S2 z=>hq _ _ z) z) z
def TV:xh X [] k6:=#[λ _ _ _ _ hq h=>hq _ _ h,PA.imp uW fun Y H Q #[_,_,_,r2,h]=>h [] H .nil (.refl H) r2]
def TX (ha:PD X e te) (hr:xh X es tA) (hs:Ay X e es):xh X (e::es) (qy te tA):=by
 exact#[qy.mo ha.mo hr.mo,PA.imp (v9 ha.pe hr.pa hs) fun Y H Q hu=>?_];let#[L,S,r1,r2,h]:=hu;exact zJ.go ha.mo r1 r2 h λ x S1 v H1 h1 q1 e1 p1=>?_;exact wq.go hr.mo (r1.ext e1) p1 h1 λ xs S2 w H2 h2 q2 e2 p2=>?_;show h2 (v::w) H2 (.cons (ze.ext e2 x q1) q2) (e1.trans e2) p2
def Zi (t:yh):zr:=fun L S Q=>t L S λ ds S1=>ds.length<=sizeLine/\Q (.tup ds) S1
def Zl (t:yh):zr:=fun L S Q=>t L S λ ds S1=>ds.length<=sizeLine/\∀ p,S1 p=none->Q (.ref p) (ups S1 p (.lst ds))
def T_ {k} (h:xh X es tA):PD X (.Tuple es k pos) (Zi tA):=by
 exact#[fun L S _ _ hq z=>h.mo L S _ _ (λ ds S1 z=>#[z.1,hq _ _ z.2]) z,PE.imp (c9 h.pa) fun Y H Q hu=>?_];let#[L,S,r1,r2,h']:=hu;exact wq.go h.mo r1 r2 h' λ ds S1 xs H1 h1 q1 e1 p1=>#[by rw[<- q1.length];show h1.1,λ p hp=>?_];exact h1.2 _ _ ?_ (e1.trans (.new hp _)) (p1.new hp);simp![ze];show#[p,xs,rfl,zW.of zZ,zk.ext (.new hp _) ds q1]
theorem SD (h:xh X es tA):PD X (.List es pos) (Zl tA):=by
 exact#[fun L S _ _ hq z=>h.mo L S _ _ (λ ds S1 z=>#[z.1,λ p hp=>hq _ _ (z.2 p hp)]) z,PE.imp (U9 h.pa) fun Y H Q hu=>?_];let#[L,S,r1,r2,h']:=hu;exact wq.go h.mo r1 r2 h' λ ds S1 xs H1 h1 q1 e1 p1=>#[by rw[<- q1.length];show h1.1,λ p hp=>?_];exact h1.2 p (p1.none hp) _ _ (by simp![ze]) (e1.trans (.new hp _)) ?_;show p1.ups (.new hp _) #[xs,zZ,zk.ext (.new hp _) ds q1]
def w6:yF:=λ x y S Q=>match x,y with
 | .tup ds,.int i=>match zQ ds i with
  | some d=>Q d S
  | none=>False
 | .xI ds,.int i=>match zQ ds i with
  | some d=>Q d S
  | none=>False
 | .ref p,.int i=>match S p with
  | some (.lst ds)=>match zQ ds i with
   | some d=>Q d S
   | none=>False
  | _=>False
 | _,_=>False
def w6.mo:xw w6:=λ x y S Q Q' hq h=>by
 unfold w6 at h ⊢;split at h
 .skip
  split at h
  .show hq _ _ h
  .show h
 .skip
  split at h
  .show hq _ _ h
  .show h
 .skip
  split at h
  .skip
   split at h
   .show hq _ _ h
   .show h
  .show h.elim
 .show h.elim
theorem zk.zQ {H:Hp}{ds:List D}{xs:List V}{i:Int}{d:D}(h:zk K H ds xs) (e:L2.zQ ds i=↑d):∃ x,L2.zQ xs i=↑x/\ze K H d x:=by
 unfold L2.zQ at e ⊢;rw[h.length] at e;cases q:vd xs.length i with
 | none=>rw[q] at e;cases e
 | some j=>
  rw[q] at e;show h.get e
def w6.fits:xi K w6 (dZ K):=λ x y d e H S Q h1 h2 h3 h=>by
 unfold w6 at h;split at h
 .split at h
  .rename_i q;simp![ze] at h1 h2;let#[a,xs,rfl,r1,r2]:=h1;let#[x',e1,e2]:=r2.zQ q;show .inr (.inl #[a,xs,_,x',rfl,h2,r1,e1,h x' H e2 (.refl H) h3])
  .show h.elim
 .split at h
  .rename_i q;simp![ze] at h1 h2;let#[a,xs,rfl,r1,r2]:=h1;let#[x',e1,e2]:=r2.zQ q;show .inl #[a,xs,_,x',rfl,h2,r1.sq,e1,h x' H e2 (.refl H) h3]
  .show h.elim
 .split at h
  .rename_i q0;split at h
   .rename_i q;simp![ze] at h1 h2;subst h1;let#[xs,r1,r2]:=h3 _ _ q0;let#[x',e1,e2]:=r2.zQ q;show .inl #[_,xs,_,x',rfl,h2,zO.of r1,e1,h x' H e2 (.refl H) h3]
   .show h.elim
  .show h.elim
 .show h.elim
def SJ (ha:PD X a ta) (hb:PD X b tb) (hs:Yh b):PD X (.Subscript a b pos) (yr w6 ta tb):=
 #[yr.mo w6.mo ha.mo hb.mo,PE.imp (UB Nm ha.pe hb.pe hs) λ _ _ _ h=>m_ w6.fits w6.mo ha.mo hb.mo h]
abbrev xF:=List D->SS->DK->Prop
def vR (f:xF):Prop:=∀ ds S (Q Q':DK),(∀ d S',Q d S'->Q' d S')->f ds S Q->f ds S Q'
def uN (K:Ac) (f:xF) (r:List V->Hp->VK->Prop):Prop:=∀ xs ds H S Q,zk K H ds xs->zE K H S->f ds S (xS K H Q)->r xs H Q
def xE (f:xF) (t:yh):zr:=fun L S Q=>t L S λ ds S1=>f ds S1 Q
def xE.mo {f:xF}(hf:vR f) (h:sr tA):yi (xE f tA):=fun L S _ _ hq z=>h L S _ _ (λ ds S1 z=>hf ds S1 _ _ hq z) z
def eU {f:xF}{r:List V->Hp->VK->Prop}(hf:vR f) (hr:uN K f r) (h:sr tA) {Y:St}{H:Hp}{Q:VK}(hu:zJ K (xE f tA) Y H Q):lq r (wq K tA) Y H Q:=by
 let#[L,S,r1,r2,h']:=hu;exact wq.go h r1 r2 h' λ ds S1 xs H1 h1 q1 e1 p1=>?_;show hr xs ds H1 S1 Q q1 p1 (hf ds S1 _ _ (λ d S' z=>z.ext e1) h1)
def uV {f:xF}{r:List V->Hp->VK->Prop}{e:Expr}(h:PE X e (lq r (wq X.K tA))) (hf:vR f) (hr:uN X.K f r) (ha:sr tA):PD X e (xE f tA):=
 #[xE.mo hf ha,PE.imp h λ _ _ _ hu=>eU hf hr ha hu]
def zM (d:D) (S:SS):Option (List D):=match d with
 | .tup ds=>↑ds
 | .xI ds=>↑ds
 | .ref p=>match S p with
  | some (.lst ds)=>↑ds
  | _=>none
 | _=>none
theorem zM.sq {H:Hp}{S:SS}{d:D}{v:V}{ds:List D}(r:ze K H d v) (p:zE K H S) (e:zM d S=↑ds):∃ a xs,v=.ref a/\(zO K H a xs\/zW K H a xs)/\zk K H ds xs:=by
 unfold zM at e;split at e
 .cases e;simp![ze] at r;let#[a,xs,h1,h2,h3]:=r;show#[a,xs,h1,.inr h2,h3]
 .cases e;simp![ze] at r;let#[a,xs,h1,h2,h3]:=r;show#[a,xs,h1,.inl h2.sq,h3]
 .split at e
  .rename_i q;cases e;simp![ze] at r;subst r;let#[xs,h1,h2]:=p _ _ q;show#[_,xs,rfl,.inl (zO.of h1),h2]
  .cases e
 .cases e
def zk.one {H:Hp}{d:D}{xs:List V}(h:zk K H [d] xs):∃ x,xs=[x]/\ze K H d x:=by
 simp![zk] at h;let#[x,r,rfl,h2,rfl]:=h;show#[x,rfl,h2]
def zk.two {H:Hp}{d d':D}{xs:List V}(h:zk K H [d,d'] xs):∃ x y,xs=[x,y]/\ze K H d x/\ze K H d' y:=by
 simp![zk] at h;let#[x,r,rfl,h2,y,r',rfl,h3,rfl]:=h;show#[x,y,rfl,h2,h3]
def uo:xF:=λ ds S Q=>match ds with
 | [d]=>match zM d S with
  | some ds=>Q (.int ds.length) S
  | none=>match d with
   | .str z=>z.length<=sizeLine/\Q (.int z.length) S
   | _=>False
 | _=>False
def uo.mo:vR uo:=λ ds S Q Q' hq h=>by
 unfold uo at h ⊢;split at h
 .skip
  split at h
  .show hq _ _ h
  .split at h
   .show#[h.1,hq _ _ h.2]
   .show h.elim
 .show h.elim
abbrev VD (K:Ac):List V->Hp->VK->Prop:=λ xs H Q=>(∃ p ys,xs=[.ref p]/\(zO K H p ys\/zW K H p ys)/\Q (.int ys.length) H)\/(∃ z,xs=[.str z]/\z.length<=sizeLine/\Q (.int z.length) H)
def uo.fits:uN K uo (VD K):=λ xs ds H S Q h0 h2 h=>by
 unfold uo at h;split at h
 .let#[x,hx,h1]:=h0.one;subst hx;split at h
  .rename_i e;let#[a,ys,rfl,q,r]:=zM.sq h1 h2 e;exact .inl #[a,ys,rfl,q,?_];rw[<- r.length];show h _ H (by simp![ze]) (.refl H) h2
  .split at h
   .simp![ze] at h1;subst h1;show .inr #[_,rfl,h.1,h.2 _ H (by simp![ze]) (.refl H) h2]
   .show h.elim
 .show h.elim
def um:xF:=λ ds S Q=>match ds with
 | [d]=>match zM d S with
  | some ds=>∀ p,S p=none->Q (.ref p) (ups S p (.lst ds))
  | none=>False
 | _=>False
def um.mo:vR um:=λ ds S Q Q' hq h=>by
 unfold um at h ⊢;split at h
 .skip
  split at h
  .show λ p hp=>hq _ _ (h p hp)
  .show h.elim
 .show h.elim
def um.fits:uN K um (λ xs H Q=>∃ p ys,xs=[.ref p]/\(zO K H p ys\/zW K H p ys)/\∀ l,H l=none->Q (.ref l) (upd H l (.lst ys))):=λ xs ds H S Q h0 h2 h=>by
 unfold um at h;split at h
 .let#[x,hx,h1]:=h0.one;subst hx;split at h
  .rename_i e;let#[a,ys,rfl,q,r]:=zM.sq h1 h2 e;exact#[a,ys,rfl,q,λ l hl=>?_];show h l (h2.none hl) _ _ (by simp![ze]) (.new hl _) (h2.ups (.new hl _) #[ys,zZ,zk.ext (.new hl _) _ r])
  .show h.elim
 .show h.elim
def uk:xF:=λ ds S Q=>match ds with
 | [.tup ds]=>Q (.tup ds) S
 | [.xI ds]=>Q (.tup ds) S
 | [.ref p]=>match S p with
  | some (.lst ds)=>Q (.tup ds) S
  | _=>False
 | _=>False
def uk.mo:vR uk:=λ ds S Q Q' hq h=>by
 unfold uk at h ⊢;split at h
 .show hq _ _ h
 .show hq _ _ h
 .skip
  split at h
  .show hq _ _ h
  .show h.elim
 .show h.elim
def uk.fits:uN K uk (λ xs H Q=>∃ p ys,xs=[.ref p]/\((zO K H p ys/\∀ l,H l=none->Q (.ref l) (upd H l (.tup ys)))\/(zW K H p ys/\Q (.ref p) H))):=λ xs ds H S Q h0 h2 h=>by
 unfold uk at h;split at h
 .let#[x,hx,h1]:=h0.one;subst hx;have Hu:=h1;simp![ze] at h1;let#[a,xs,rfl,r1,r2]:=h1;show#[a,xs,rfl,.inr #[r1,h _ H Hu (.refl H) h2]]
 .let#[x,hx,h1]:=h0.one;subst hx;simp![ze] at h1;let#[a,xs,rfl,r1,r2]:=h1;exact#[a,xs,rfl,.inl #[r1.sq,λ l hl=>h _ _ ?_ (.new hl _) (h2.new hl)]];simp![ze];show#[l,xs,rfl,zW.of zZ,zk.ext (.new hl _) _ r2]
 .let#[x,hx,h1]:=h0.one;subst hx;split at h
  .rename_i e;simp![ze] at h1;subst h1;let#[xs,r1,r2]:=h2 _ _ e;exact#[_,xs,rfl,.inl #[zO.of r1,λ l hl=>h _ _ ?_ (.new hl _) (h2.new hl)]];simp![ze];show#[l,xs,rfl,zW.of zZ,zk.ext (.new hl _) _ r2]
  .show h.elim
 .show h.elim
def vJ (g:Int->Int->D):xF:=λ ds S Q=>match ds with
 | [.int i,.int j]=>Q (g i j) S
 | _=>False
def vJ.mo {g:Int->Int->D}:vR (vJ g):=λ ds S Q Q' hq h=>by
 unfold vJ at h ⊢;split at h
 .show hq _ _ h
 .show h.elim
def vJ.fits {g:Int->Int->D}{g':Int->Int->V}(hg:∀ i j H,ze K H (g i j) (g' i j)):uN K (vJ g) (λ xs H Q=>∃ i j,xs=[.int i,.int j]/\Q (g' i j) H):=λ xs ds H S Q h0 h2 h=>by
 unfold vJ at h;split at h
 .let#[x,y,hx,h1,h3]:=h0.two;subst hx;simp![ze] at h1 h3;subst h1 h3;show#[_,_,rfl,h _ H (hg _ _ H) (.refl H) h2]
 .show h.elim
def zal:yF:=λ x y S Q=>match x,y with
 | .ref p,.ref q=>match S p,S q with
  | some (.lst ds),↑(.lst es)=>ds.length+es.length<=sizeLine/\∀ r,S r=none->Q (.ref r) (ups S r (.lst (ds++es)))
  | _,_=>False
 | _,_=>False
def rn (to te:zr):zr:=fun L S Q=>to L S λ x S1=>match x with
 | .ref p=>(∃ ds,S1 p=↑(.lst ds))/\te L S1 λ y S2=>match S2 p with
  | some (.lst ds)=>ds.length<sizeLine/\Q .zh (ups S2 p (.lst (ds++[y])))
  | _=>False
 | _=>False
def rn.mo {to te:zr}(h:yi to) (h':yi te):yi (rn to te):=fun L S Q Q' hq z=>h L S _ _ (λ x S1 z=>by
 cases x with
 | ref p=>
  exact#[z.1,h' L S1 _ _ (λ y S2 w=>?_) z.2];split at w
  .show#[w.1,hq _ _ w.2]
  .show w.elim
 | _=>show z) z
theorem Rr {o e:Expr}{to te:zr}{e0:Expr}(EC:PE X e0 (jE X.K "list" cm (zJ X.K to) (oH (zJ X.K te) oG))) (h:yi to) (h':yi te):PD X e0 (rn to te):=by
 exact#[rn.mo h h',PE.imp EC fun Y H Q hu=>?_];let#[L,S,r1,r2,z]:=hu;exact zJ.go h r1 r2 z λ x S1 v H1 h1 q1 e1 p1=>?_;cases x with
 | ref p=>
  let#[#[ds,hd],h1]:=h1;simp![ze] at q1;subst q1;let#[xs,g1,g2]:=p1 _ _ hd;exact#[.inl #[rfl,xs,zO.of g1],?_];exact zJ.go h' (r1.ext e1) p1 h1 λ y S2 w H2 h2 q2 e2 p2=>?_;split at h2
  .rename_i HN e3;let#[Fu,g3,g4]:=p2 _ _ e3;exact#[p,Fu,w,rfl,rfl,g3,by rw[<- g4.length];show h2.1,?_];have e4:Ext H2 (upd H2 p (.lst (Fu++[w]))):=.lst g3 _;show h2.2 _ _ (by simp![ze]) ((e1.trans e2).trans e4) (p2.ups e4 #[_,zZ,zk.ext e4 _ (g4.snoc q2)])
  .show h2.elim
 | _=>show h1.elim
end
structure tG where
 nx:z_->SS->Prop
 rt:DK
 bk:z_->SS->Prop:=λ _ _=>False
 ct:z_->SS->Prop:=λ _ _=>False
abbrev yf:=tG->z_->SS->Prop
structure tG.Le (E E':tG):Prop where
 nx:∀ L S,E.nx L S->E'.nx L S
 rt:∀ d S,E.rt d S->E'.rt d S
 bk:∀ L S,E.bk L S->E'.bk L S
 ct:∀ L S,E.ct L S->E'.ct L S
def u6 (t:yf):Prop:=∀ E E' L S,tG.Le E E'->t E L S->t E' L S
def vM (K:Ac) (H:Hp) (D:Ends):tG:=#[xM K H D.nx,xS K H D.rt,xM K H D.bk,xM K H D.ct]
theorem vM.ext {K:Ac}{H H':Hp}{D:Ends}(e:Ext H H'):(vM K H D).Le (vM K H' D):=#[λ _ _ h=>xM.ext e h,λ _ _ h=>xS.ext e h,λ _ _ h=>xM.ext e h,λ _ _ h=>xM.ext e h]
def eO (K:Ac) (t:yf):TS:=λ D Y H=>∃ L S,yu K H L Y/\zE K H S/\t (vM K H D) L S
structure wD (X:Cx) (st:Stmt) (t:yf):Prop where
 mo:u6 t
 ps:PS X st (eO X.K t)
structure vh (X:Cx) (st:List Stmt) (t:yf):Prop where
 mo:u6 t
 ps:xU X st (eO X.K t)
section
variable {X:Cx}{K:Ac}{st:Stmt}{E9:List Stmt}{t u:yf}{pos:Pos}{e:Expr}{te:zr}
def gJ:yf:=λ E L S=>E.nx L S
def qx (t u:yf):yf:=λ E L S=>t { E with nx:=u E } L S
def qx.mo (h:u6 t) (h':u6 u):u6 (qx t u):=λ E E' L S hE z=>h { E with nx:=u E } { E' with nx:=u E' } L S #[fun L S q=>h' E E' L S hE q,hE.rt,hE.bk,hE.ct] z
def Tn:vh X [] gJ:=#[λ _ _ _ _ hE h=>hE.nx _ _ h,xU.imp VP λ D Y H #[L,S,r1,r2,h]=>h Y H r1 (.refl H) r2]
def Tj (h:wD X st t):vh X [st] t:=#[h.mo,jW h.ps]
def Tq (h:wD X st t) (h':vh X E9 u):vh X (st::E9) (qx t u):=by
 exact#[qx.mo h.mo h'.mo,xU.imp (VQ h.ps h'.ps) λ D Y H hu=>?_];let#[L,S,r1,r2,z]:=hu;exact#[L,S,r1,r2,h.mo { vM X.K H D with nx:=u (vM X.K H D) } _ L S #[fun L' S' q Y' H' q1 q2 q3=>?_,λ _ _ q=>q,λ _ _ q=>q,λ _ _ q=>q] z];show#[L',S',q1,q3,h'.mo _ _ L' S' (vM.ext q2) q]
def k8 (te:zr):yf:=λ E L S=>te L S λ _ S1=>E.nx L S1
def T4 (he:PD X e te) (hs:swapsWith e none pos.line X.env=pure false):wD X (.Expr e pos) (k8 te):=by
 exact#[λ E E' L S hE z=>he.mo L S _ _ (λ _ _ q=>hE.nx _ _ q) z,PS.imp (VY he.pe hs) λ D Y H hu=>?_];let#[L,S,r1,r2,z]:=hu;show zJ.go he.mo r1 r2 z λ x S1 v H1 h1 q1 e1 p1=>h1 Y H1 (r1.ext e1) e1 p1
def gH (te:zr):yf:=λ E L S=>te L S E.rt
def Tw (he:PD X e te):wD X (.Return ↑e pos) (gH te):=by
 exact#[λ E E' L S hE z=>he.mo L S _ _ (λ _ _ q=>hE.rt _ _ q) z,PS.imp (VV he.pe) λ D Y H hu=>?_];let#[L,S,r1,r2,z]:=hu;show zJ.go he.mo r1 r2 z λ x S1 v H1 h1 q1 e1 p1=>h1 v H1 q1 e1 p1
def k7 (c:yx) (t u:yf):yf:=λ E L S=>c L S λ k S1=>if k=true then t E L S1 else u E L S1
def T2 {c:Expr}{p q:List Stmt}{tc:yx}(hc:xb X c tc) (h:vh X p t) (h':vh X q u):wD X (.If c p q pos) (k7 tc t u):=by
 exact#[λ E E' L S hE z=>hc.mo L S _ _ (λ k S1 z=>wy (h.mo _ _ L S1 hE) (h'.mo _ _ L S1 hE) z) z,PS.imp (VW hc.pt h.ps h'.ps) λ D Y H hu=>?_];let#[L,S,r1,r2,z]:=hu;exact xV.go hc.mo r1 r2 z λ k S1 H1 h1 e1 p1=>wy (λ z=>?_) (λ z=>?_) h1
 .show#[L,S1,r1.ext e1,p1,h.mo _ _ L S1 (vM.ext e1) z]
 .show#[L,S1,r1.ext e1,p1,h'.mo _ _ L S1 (vM.ext e1) z]
abbrev xB:=D->z_->SS->(z_->SS->Prop)->Prop
abbrev wc:=List D->z_->SS->(z_->SS->Prop)->Prop
def jc (t:xB):Prop:=∀ d L S (Q Q':z_->SS->Prop),(∀ L S,Q L S->Q' L S)->t d L S Q->t d L S Q'
def Yn (t:wc):Prop:=∀ d L S (Q Q':z_->SS->Prop),(∀ L S,Q L S->Q' L S)->t d L S Q->t d L S Q'
def lb (K:Ac) (t:xB):TG:=λ v Y H Q=>∃ d L S,ze K H d v/\yu K H L Y/\zE K H S/\t d L S (xM K H Q)
def eS (K:Ac) (t:wc):sj:=λ v Y H Q=>∃ d L S,zk K H d v/\yu K H L Y/\zE K H S/\t d L S (xM K H Q)
structure u5 (X:Cx) (e:Expr) (t:xB):Prop where
 mo:jc t
 pg:PG X e (lb X.K t)
structure og (X:Cx) (es:List Expr) (t:wc):Prop where
 mo:Yn t
 pg:tD X es (eS X.K t)
def PG.imp {e:Expr}{t t':TG}(h:PG X e t) (hi:∀ v Y H Q,t' v Y H Q->t v Y H Q):PG X e t':=λ E6 s Y H v w Q I r q=>h E6 s Y H v w Q I r (hi v Y H Q q)
def tD.imp {e:List Expr}{t t':sj}(h:tD X e t) (hi:∀ v Y H Q,t' v Y H Q->t v Y H Q):tD X e t':=λ E6 s Y H v w Q I r q=>h E6 s Y H v w Q I r (hi v Y H Q q)
def hName (i:Nat):xB:=λ d L S Q=>Q (L.set i ↑d) S
def TQ {e:Expr}{i:Nat}(h:PG X e (pS i)):u5 X e (hName i):=
 #[λ _ _ _ _ _ hq z=>hq _ _ z,PG.imp h λ v Y H Q #[d,L,S,r1,r2,r3,z]=>z _ H (r2.set i r1) (.refl H) r3]
def iR:wc:=λ ds L S Q=>ds=[]/\Q L S
def iT (t:xB) (u:wc):wc:=λ ds L S Q=>match ds with
 | d::r=>t d L S fun L' S'=>u r L' S' Q
 | []=>False
def TJ:og X [] iR:=by
 exact#[λ _ _ _ _ _ hq z=>#[z.1,hq _ _ z.2],tD.imp Uq λ v Y H Q hu=>?_];let#[d,L,S,r1,r2,r3,z1,z2]:=hu;subst z1;simp![zk] at r1;show#[r1,z2 Y H r2 (.refl H) r3]
def TK {e:Expr}{es:List Expr}{t:xB}{u:wc}(h:u5 X e t) (h':og X es u) (hs:(assignEach (e::es) X.env).map (·.2)=assign e X.env::(assignEach es X.env).map (·.2)):og X (e::es) (iT t u):=by
 exact#[λ ds L S Q Q' hq z=>?_,tD.imp (Ur h.pg h'.pg hs) λ v Y H Q hu=>?_]
 .cases ds with
  | nil=>show z
  | cons d r=>show h.mo d L S _ _ (fun L' S' z=>h'.mo r L' S' _ _ hq z) z
 .let#[ds,L,S,r1,r2,r3,z]:=hu;cases ds with
  | nil=>show z.elim
  | cons d r=>
   simp![zk] at r1;let#[x,xs,rfl,q1,q2]:=r1;exact#[x,xs,rfl,d,L,S,q1,r2,r3,h.mo d L S _ _ (fun L' S' z Y' H' g1 g2 g3=>?_) z];show#[r,L',S',zk.ext g2 r q2,g1,g3,h'.mo r L' S' _ _ (fun L2 S2 z2=>xM.ext g2 z2) z]
def pP (n:Nat) (t:wc):xB:=λ d L S Q=>match d with
 | .tup ds=>ds.length=n/\t ds L S Q
 | _=>False
def TL {e:Expr}{n:Nat}{t:wc}(h:PG X e (az X.K n (eS X.K t))) (hm:Yn t):u5 X e (pP n t):=by
 exact#[λ d L S Q Q' hq z=>?_,PG.imp h λ v Y H Q hu=>?_]
 .cases d with
  | tup ds=>show#[z.1,hm ds L S _ _ hq z.2]
  | _=>show z
 .let#[d,L,S,r1,r2,r3,z]:=hu;cases d with
  | tup ds=>
   simp![ze] at r1;let#[a,xs,rfl,q1,q2]:=r1;show#[a,xs,rfl,q1,by rw[<- q2.length];show z.1,ds,L,S,q2,r2,r3,z.2]
  | _=>show z.elim
def uI (te:zr) (g:xB):yf:=λ E L S=>te L S λ x S1=>g x L S1 E.nx
def uI.mo {g:xB}(h:yi te) (h':jc g):u6 (uI te g):=λ E E' L S hE z=>h L S _ _ (λ x S1 q=>h' x L S1 _ _ (fun L S q=>hE.nx _ _ q) q) z
def Tv {e0:Stmt}{i:Nat}(h:PS X e0 (lu (zJ X.K te) (pS i))) (hm:yi te):wD X e0 (uI te (hName i)):=by
 exact#[uI.mo hm λ _ _ _ _ _ hq z=>hq _ _ z,PS.imp h λ D Y H hu=>?_];let#[L,S,r1,r2,z]:=hu;exact zJ.go hm r1 r2 z λ x S1 v H1 h1 q1 e1 p1=>?_;show h1 _ H1 ((r1.ext e1).set i q1) e1 p1
end
structure mT where
 items:List D
 keep:SS->Prop
abbrev wC:=z_->SS->(mT->SS->Prop)->Prop
def jb (t:wC):Prop:=∀ L S (Q Q':mT->SS->Prop),(∀ I S',Q I S'->Q' I S')->t L S Q->t L S Q'
def fD (K:Ac) (H1:Hp) (J:It) (I:mT):Prop:=∀ (i:Nat) (H:Hp) (S:SS),Ext H1 H->zE K H S->I.keep S->
 (∀ d,I.items[i]?=↑d->J.go i H/\∀ x H',J.qS i H x H'->Ext H H'/\zE K H' S/\ze K H' d x)/\(I.items.length<=i->J.stop i H)
def MF (K:Ac) (H:Hp) (R:It->Hp->Prop):mT->SS->Prop:=λ I S1=>∀ J H1,Ext H H1->zE K H1 S1->fD K H1 J I->R J H1
def wG (K:Ac) (t:wC):TI:=fun Y H R=>∃ L S,yu K H L Y/\zE K H S/\t L S (MF K H R)
structure uM (X:Cx) (tg iter:Expr) (t:wC):Prop where
 mo:jb t
 pi:PI X tg iter (wG X.K t)
def PI.imp {X:Cx}{tg e:Expr}{t t':TI}(h:PI X tg e t) (hi:∀ Y H Q,t' Y H Q->t Y H Q):PI X tg e t':=λ E6 s Y H Q I q=>h E6 s Y H Q I (hi Y H Q q)
section
variable {X:Cx}{K:Ac}{tg e:Expr}{pos:Pos}
theorem zk.at {H:Hp}{ds:List D}{xs:List V}{i:Nat}{d:D}{x:V}(r:zk K H ds xs) (h1:ds[i]?=↑d) (h2:xs[i]?=↑x):ze K H d x:=by
 let#[y,e1,e2]:=r.get h1;rw[h2] at e1;cases e1;show e2
def v7 (lo:Int) (n:Nat):List D:=(List.range n).map λ(k:Nat)=>D.int (lo+(k:Int))
def VA {lo:Int}{n i:Nat}{d:D}(h:(v7 lo n)[i]?=↑d):i<n/\d=.int (lo+(i:Int)):=by
 unfold v7 at h;rw[AJ] at h;cases q:(List.range n)[i]? with
 | none=>rw[q] at h;cases h
 | some j=>
  rw[q] at h;let#[h1,h2]:=AX.mp q;rw[Cz] at h1;rw[Ee] at h2;subst h2;cases h;show#[h1,rfl]
def V9 (lo:Int) (n:Nat):(v7 lo n).length=n:=by unfold v7;rw[AN,Cz]
def fD.range {H1:Hp}{lo:Int}{n:Nat}:fD K H1 (je lo n) #[v7 lo n,λ _=>True]:=λ i H S _ x2 _=>by
 exact#[λ d hd=>?_,λ hl=>by rw[show (mT.mk (v7 lo n) λ _=>True).items=v7 lo n from rfl,V9] at hl;show hl];let#[h1,rfl]:=VA hd;exact#[h1,λ x H' q=>?_];let#[rfl,rfl]:=q;show#[.refl _,x2,by simp![ze]]
def iI (t:yh):wC:=fun L S R=>t L S λ ds S1=>match ds with
 | [.int j]=>(-(2 ^ 62)<=j/\j<2 ^ 62)/\R #[v7 0 j.toNat,λ _=>True] S1
 | _=>False
variable {tA:yh}
def TF (h:PI X tg e (ao (wq X.K tA))) (hm:sr tA):uM X tg e (iI tA):=by
 exact#[fun L S Q Q' hq z=>hm L S _ _ (λ ds S1 z=>?_) z,PI.imp h fun Y H R hu=>?_]
 .split at z
  .show#[z.1,hq _ _ z.2]
  .show z.elim
 .let#[L,S,r1,r2,z]:=hu;exact wq.go hm r1 r2 z λ ds S1 xs H1 h1 q1 e1 p1=>?_;split at h1
  .let#[x,rfl,q]:=q1.one;simp![ze] at q;subst q;show#[_,rfl,h1.1.1,h1.1.2,h1.2 _ H1 e1 p1 .range]
  .show h1.elim
def nZ (ti:wC) (g:xB) (tb:yf):yf:=λ E L S=>ti L S λ I S1=>∃ W:Nat->z_->SS->Prop,W 0 L S1/\(∀ i L S,W i L S->I.keep S)/\
 (∀ i d L S,I.items[i]?=↑d->W i L S->g d L S fun L2 S2=>tb { E with nx:=W (i+1),ct:=W (i+1),bk:=E.nx } L2 S2)/\∀ L S,W I.items.length L S->E.nx L S
def nZ.mo {ti:wC}{g:xB}{tb:yf}(hi:jb ti) (hg:jc g) (hb:u6 tb):u6 (nZ ti g tb):=λ E E' L S hE z=>hi L S _ _ (λ I S1 #[W,w0,wk,ws,wd]=>by
 exact#[W,w0,wk,λ i d L S hd hw=>hg d L S _ _ (fun L2 S2 z=>hb { E with nx:=W (i+1),ct:=W (i+1),bk:=E.nx } { E' with nx:=W (i+1),ct:=W (i+1),bk:=E'.nx } L2 S2 #[λ _ _ q=>q,hE.rt,hE.nx,λ _ _ q=>q] z) (ws i d L S hd hw),fun L S q=>hE.nx _ _ (wd L S q)]) z
def T3 {iter:Expr}{body:List Stmt}{ti:wC}{g:xB}{tb:yf}(hp:PassesOwn (model X.prog X.w) X.A X.env X.xe) (hc:X.calm=true) (hi:uM X tg iter ti) (hg:u5 X tg g) (hb:vh X body tb)
  (hs:∀ x,foldedSetIterable iter X.env x=pure x):wD X (.For tg iter body [] pos) (nZ ti g tb):=by
 exact#[nZ.mo hi.mo hg.mo hb.mo,PS.imp (VX hp hc hi.pi hg.pg hb.ps hs) λ D Y H hu=>?_];let#[L,S,r1,r2,z]:=hu;exact#[L,S,r1,r2,hi.mo L S _ _ (λ I S1 hW J H1 e1 p1 rep=>?_) z];let#[W,w0,wk,ws,wd]:=hW;exact#[λ i m Y H2=>m=I.items.length-i/\i<=I.items.length/\Ext H1 H2/\∃ L S,yu X.K H2 L Y/\zE X.K H2 S/\W i L S,#[_,rfl,A0 _,.refl _,L,S1,r1.ext e1,p1,w0],?_];rintro i m Y2 H2 ⟨rfl,Hh,x2,L2,S2,q1,q2,w2⟩;let#[g1,g2]:=rep i H2 S2 x2 q2 (wk i L2 S2 w2);by_cases hl:i<I.items.length
 .have hd:I.items[i]?=↑I.items[i]:=by simp[hl]
  let#[go,yl]:=g1 _ hd;exact .inr #[go,fun Y' H'=>Ext H1 H'/\∃ L S,yu X.K H' L Y'/\zE X.K H' S/\W (i+1) L S,fun Y' H' q=>#[_,⋯,rfl,hl,q],λ x H3 hy=>?_];let#[x3,p3,d3]:=yl x H3 hy;exact#[_,L2,S2,d3,q1.ext x3,p3,hg.mo _ L2 S2 _ _ (fun L4 S4 z4 Y4 H4 a1 a2 a3=>?_) (ws i _ L2 S2 hd w2)];exact#[L4,S4,a1,a3,hb.mo _ _ L4 S4 #[fun L5 S5 w5 Y5 H5 b1 b2 b3=>#[((x2.trans x3).trans a2).trans b2,L5,S5,b1,b3,w5],λ _ _ q=>xS.ext (((e1.trans x2).trans x3).trans a2) q,λ _ _ q=>xM.ext (((e1.trans x2).trans x3).trans a2) q,fun L5 S5 w5 Y5 H5 b1 b2 b3=>#[((x2.trans x3).trans a2).trans b2,L5,S5,b1,b3,w5]] z4]
 .have e:i=I.items.length:=⋯;subst e;show .inl #[g2 (Ak _),wd L2 S2 w2 Y2 H2 q1 (e1.trans x2) q2]
abbrev wg:=List D->SS->DK->Prop
def oj (sp:wg):Prop:=∀ ds S (Q Q':DK),(∀ d S',Q d S'->Q' d S')->sp ds S Q->sp ds S Q'
def uR (K:Ac) (sp:wg):Sp:=λ vs H Q _=>∃ ds S,zk K H ds vs/\zE K H S/\sp ds S (xS K H Q)
def k9 (sp:wg) (t:yh):zr:=fun L S Q=>t L S λ ds S1=>sp ds S1 Q
def Rp {sp:wg}{E:XK}{e:Expr}(h:PE X e (e_ (uR X.K sp) [] E (wq X.K tA))) (hs:oj sp) (hm:sr tA):PD X e (k9 sp tA):=by
 exact#[fun L S Q Q' hq z=>hm L S _ _ (λ ds S1 z=>hs ds S1 _ _ hq z) z,PE.imp h fun Y H Q hu=>?_];let#[L,S,r1,r2,z]:=hu;exact wq.go hm r1 r2 z λ ds S1 xs H1 h1 q1 e1 p1=>?_;rw[Co];show#[ds,S1,q1,p1,hs ds S1 _ _ (λ d S' q=>xS.ext e1 q) h1]
def u9 (N:List Str) (ds:List D):z_:=ds.map some++List.replicate (N.length-ds.length) none
theorem yu.init {H:Hp}{N:List Str}{ds:List D}{vs:List V}(r:zk K H ds vs):yu K H (u9 N ds) (start N vs):=by
 have hl:=r.length;exact#[by unfold u9 L2.start;simp[hl],λ i d h=>?_];unfold u9 at h;have hi:i<ds.length:=by
  rcases BF i ds.length with q | q
  .show q
  .rw[Di (by exists q),Dh] at h;split at h <;> cases h
 rw[Ct (by exists hi),AJ] at h;cases q:ds[i]? with
 | none=>rw[q] at h;cases h
 | some d'=>
  rw[q] at h;cases h;let#[x,e1,e2]:=r.get q;exact#[x,?_,e2];unfold L2.start;rw[Ct (by exists by lia),AJ,e1];rfl
def Mf {P:Program}{w:World}{K:Ac}{mg:Ar}{base:Heap}{x qual:Str}{st:Stmt}{f:Addr}{fd:FuncData}{N ps:List Str}{k:Nat}{sp:wg}(F:wV K x qual st f fd) (Sc:vw N ps (zL st))
  (len:∀ ds S Q,sp ds S Q->ds.length=ps.length)
  (Fm:∀ (Ag:Value) (A:Around) (outer:List Env) (s:Shared) (H:Hp) (E:XK),zX k (A.deeper (envOfC qual (zL st) s.heap.objs.size f Ag))->
   ∃ t,vh (y_ yG P w K mg base N qual (zL st) f Ag A outer s H E).xx (yZ st) t/\∀ ds S Q,sp ds S Q->t { nx:=λ _ S'=>Q .zh S',rt:=Q } (u9 N ds) S):xl P w K mg base yG (k+1) f fd ps (uR K sp):=by
 exact F.ok Sc (λ vs H Q E h=>?_) λ Ag A outer s H vs Q E hr h=>?_
 .let#[ds,S,r1,_,z]:=h;rw[<- r1.length];show len _ _ _ z
 .let#[ds,S,r1,r2,z]:=h;let#[t,ht,hq]:=Fm Ag A outer s H E hr;exact#[_,ht.ps,u9 N ds,S,.init r1,r2,ht.mo { nx:=λ _ S'=>xS K H Q .zh S',rt:=xS K H Q } _ _ _ #[fun L S' q Y' H' _ b c=>q .zh H' (by simp![ze]) b c,λ _ _ q=>q,λ _ _ q=>False.elim q,λ _ _ q=>False.elim q] (hq ds S _ z)]
def uc (pick:List (Option Nat)) (L:z_):z_:=pick.map λ o=>o.bind λ i=>(L[i]?).join
theorem yu.pick {H:Hp}{L:z_}{Y:St}(r:yu K H L Y) (pick:List (Option Nat)):yu K H (uc pick L) (v_ pick Y):=by
 exact#[by unfold uc v_;simp,λ i d h=>?_];unfold uc at h;rw[AJ] at h;cases q:pick[i]? with
 | none=>rw[q] at h;cases h
 | some o=>
  rw[q] at h;cases o with
  | none=>simp at h
  | some j=>
   simp![Option.map_some,BL,Option.some.injEq] at h;have hj:L[j]?=↑↑d:=by
    cases q2:L[j]? with
    | none=>rw[q2] at h;cases h
    | some o2=>rw[q2] at h;simp![Option.join_some] at h;rw[h]
   let#[v,e1,e2]:=r.2 j d hj;exact#[v,?_,e2];unfold v_;rw[AJ,q];simp[e1]
def qE (L L':z_):Prop:=L.length=L'.length/\∀ (i:Nat) d,L[i]?=↑↑d->L'[i]?=↑↑d
def qE.rep {H:Hp}{L L':z_}{Y:St}(h:qE L L') (r:yu K H L' Y):yu K H L Y:=#[h.1.trans r.1,λ i d q=>r.2 i d (h.2 i d q)]
structure oh (X:Cx) (ifs:List Expr) (t:yx):Prop where
 mo:wU t
 pf:PF X ifs (xV X.K t)
def PF.imp {ifs:List Expr}{t t':TT}(h:PF X ifs t) (hi:∀ Y H Q,t' Y H Q->t Y H Q):PF X ifs t':=λ E6 s Y H Q I q=>h E6 s Y H Q I (hi Y H Q q)
def aZ:yx:=λ _ S Q=>Q true S
def TU:oh X [] aZ:=#[λ _ _ _ _ hq z=>hq _ _ z,PF.imp Uy λ _ H _ #[_,_,_,r2,z]=>z H (.refl H) r2]
def TR {c:Expr}{t:yx}(h:xb X c t):oh X [c] t:=#[h.mo,Ux h.pt]
end
end L3
namespace L2
open PySem PySem.Spec PyProof.Rows
def N9 (K:Ac) (tl:TE):TI:=fun Y H R=>tl Y H λ x H1=>∃ a,x=.ref a/\(((∃ xs,zO K H1 a xs)/\R (Yq K a) H1)\/((∃ xs,zW K H1 a xs)/\R (Yp K a) H1))
def Ul {X:Cx}{tg l:Expr}{tl:TE}(hl:PE X l tl):PI X tg l (N9 X.K tl):=by
 intro E6 s Y H R I h;exact zu (hl E6 s Y H _ I h) λ v s1 #[x,H1,I1,r1,a,hx,q1]=>?_;subst hx;cases r1;have new:∀ b∈[s1.heap.objs.size],vT X E6 H1 b:=λ b hb=>by
  obtain rfl:b=s1.heap.objs.size:=A2.mp hb;show I1.kg (Ak _) (I1.zp.fresh (Ak _))
 rcases q1 with ⟨⟨xs,hq⟩,q⟩ | ⟨⟨xs,hq⟩,q⟩
 .let#[Aa,_,pl,_]:=I1.list hq;show zaO pl.isList #[_,_,_,_,H1,rfl,I1.kept (t':=s1.toks) λ b o eo=>gV _ eo,Wu a _,#[_,AM _ rfl,rfl,rfl],new,q]
 .let#[Aa,_,pt,_]:=I1.tuple hq;show wpAny_pyIter_tuple (show s1.heap.IsTuple a Aa.toArray from pt) #[_,_,_,_,H1,rfl,I1.kept (t':=s1.toks) λ b o eo=>gV _ eo,Ws a _,#[_,AM _ rfl,rfl,rfl],new,q]
def range_all (bs:List Bool):(List.range bs.length).all (λ i=>bs.getD i true)=bs.all id:=by
 rw[Bh,Bj,Bj];constructor
 .intro h b hb;let#[i,hi,rfl]:=B8.mp hb;have:=h i (AL.mpr hi);simpa [hi] using this
 .intro h i hi;have Hh:=AL.mp hi;have:=h bs[i] (Bp Hh);simpa [Hh] using this
def range_any (bs:List Bool):(List.range bs.length).any (λ i=>bs.getD i true)=bs.any id:=by
 rw[Bh,A8,A8];constructor
 .rintro⟨i,hi,h⟩;have Hh:=AL.mp hi;show#[bs[i],Bp Hh,by simpa [Hh] using h]
 .rintro⟨b,hb,h⟩;let#[i,hi,rfl]:=B8.mp hb;show#[i,AL.mpr hi,by simpa [hi] using h]
theorem ZK {bs:List Bool}{Aa:Ae}(r:Vals (bs.map V.bl) Aa) {i:Nat}{v:Value}(h:Aa.toArray[i]?=↑v):v=.bool (bs.getD i true):=by
 have hl:=r.length;rw[AN] at hl;have h':Aa[i]?=↑v:=by exists h
 have hi:i<bs.length:=by
  rw[hl];rcases BF i Aa.length with q | q
  .show q
  .rw[Df q] at h';cases h'
 let#[u,e1,e2]:=r.get (i:=i) (x:=.bl bs[i]) (by simp[hi]);rw[h'] at e1;cases e1;have:v=.bool bs[i]:=e2;rw[this];simp[hi]
section
variable {X:Cx}
theorem LH (hc:X.calm=true):yD X (.builtin "all") (λ xs H Q=>∃ p,∃ bs:List Bool,xs=[.ref p]/\zO X.K H p (bs.map V.bl)/\Q (.bl (bs.all id)) H):=by
 intro E6 s Y H xs us Q I r h;let#[p,bs,rfl,hq,q]:=h;let#[u,rfl,ru]:=vals1 r;cases ru;let#[Aa,rv,pl,hz]:=I.list hq;have hl:=rv.length;rw[AN] at hl;have AD:p<s.heap.objs.size:=by let#[o,n,e,_]:=pl;show Ap e
 exact call_all_walk (zaO pl.isList ?_);exact#[s.heap.objs.size,_,_,_,_,_,λ i=>bs.getD i true,rfl,Walks.list (A:=X.A.in1) (I.ok.hd hc) s.heap.objs.size p (AB AD) Aa.toArray,#[#[_,AM _ rfl,rfl,rfl],pl.isList.push _],λ i v s' Q' E' hv IC=>?_,λ h' tk hk=>?_]
 .rw[ZK rv hv];show zaG IC
 .have e:(List.range Aa.toArray.size).all (λ i=>bs.getD i true)=bs.all id:=by rw[AE,<- hl,range_all]
  rw[e];show#[.bl _,H,I.kept (t':=tk) λ b o eo=>hk b o (by exists AB (Ap eo)) (gV _ eo),rfl,q]
theorem LG (hc:X.calm=true):yD X (.builtin "any") (λ xs H Q=>∃ p,∃ bs:List Bool,xs=[.ref p]/\zO X.K H p (bs.map V.bl)/\Q (.bl (bs.any id)) H):=by
 intro E6 s Y H xs us Q I r h;let#[p,bs,rfl,hq,q]:=h;let#[u,rfl,ru]:=vals1 r;cases ru;let#[Aa,rv,pl,hz]:=I.list hq;have hl:=rv.length;rw[AN] at hl;have AD:p<s.heap.objs.size:=by let#[o,n,e,_]:=pl;show Ap e
 exact call_any_walk (zaO pl.isList ?_);exact#[s.heap.objs.size,_,_,_,_,_,λ i=>bs.getD i true,rfl,Walks.list (A:=X.A.in1) (I.ok.hd hc) s.heap.objs.size p (AB AD) Aa.toArray,#[#[_,AM _ rfl,rfl,rfl],pl.isList.push _],λ i v s' Q' E' hv IC=>?_,λ h' tk hk=>?_]
 .rw[ZK rv hv];show zaG IC
 .have e:(List.range Aa.toArray.size).any (λ i=>bs.getD i true)=bs.any id:=by rw[AE,<- hl,range_any]
  rw[e];show#[.bl _,H,I.kept (t':=tk) λ b o eo=>hk b o (by exists AB (Ap eo)) (gV _ eo),rfl,q]
end
end L2
namespace L3
open PySem PySem.Spec L2
open PyProof.Rows hiding St
structure Bt (mg:Ar):Prop where
 len:mg "len"=none
 range:mg "range"=none
 any:mg "any"=none
 all:mg "all"=none
 sorted:mg "sorted"=none
 isinstance:mg "isinstance"=none
 bool:mg "bool"=none
 int:mg "int"=none
 str:mg "str"=none
 list:mg "list"=none
 tuple:mg "tuple"=none
 max:mg "max"=none
 min:mg "min"=none
section
variable {X:Cx}{a e:Expr}{es:List Expr}{te:zr}{pos p:Pos}
def kA {N':List Str}{pick:List (Option Nat)}{scope Ja:Scope}{N:List Str}(hE:X.env.scope=Ja:=by rfl) (hN:X.N=N:=by rfl) (h1:scope.kind=.function:=by rfl) (h2:scope.names.all (λ y=>decide (y.2≠.cell))=true:=by decide +kernel)
  (h3:scope.names.all (λ y=>!decide (y.2=.local)||decide (scope.names.lookup y.1=↑.local))=true:=by decide +kernel)
  (h4:scope.names.all (λ y=>!decide (y.2=.free)||(decide (Ja.names.lookup y.1=↑.cell)||decide (Ja.names.lookup y.1=↑.free)))=true:=by decide +kernel)
  (h5:pick.length=N'.length:=by rfl) (h6:pz N N' pick scope=true:=by decide +kernel):sI X N' pick scope:=by
 exact#[h1,λ y hy=>?_,λ y hy hl=>?_,λ y hy hf=>?_,h5,by rw[hN];show h6]
 .show of_decide_eq_true (Bj.mp h2 y hy)
 .have:=Bj.mp h3 y hy;rw[zaA hl] at this;exists this
 .have:=Bj.mp h4 y hy;rw[zaA hf] at this;rw[hE];exists this
def TN (i:Nat) {x:Str}(hN:X.N.Nodup) (hi:X.N[i]?=↑x) (hx:Loc X.env.scope x) (hf:X.fn x=true\/X.env.scope.names.lookup x=↑.local):u5 X (.Name x pos) (hName i):=
 TQ (Uu hN hi hx hf)
def cF {k:Nat}{t:wc}{n:Nat}(h:og X es t) (hc:X.calm=true) (hn:(assignEach es X.env).length=n) (AH:(assignEach es X.env).findIdx? (·.1)=none):u5 X (.Tuple es k pos) (pP n t):=
 TL (Us hc h.pg hn AH) h.mo
def Tu (i:Nat) {x:Str}{pos':Pos}(hN:X.N.Nodup) (he:PD X e te) (hi:X.N[i]?=↑x) (hx:Loc X.env.scope x) (hs:swapsWith e ↑(.Name x pos') pos.line X.env=pure false)
  (hf:X.fn x=true\/X.env.scope.names.lookup x=↑.local):wD X (.Assign [.Name x pos'] e pos) (uI te (hName i)):=
 Tv (cw hN hi hx he.pe hs hf) he.mo
def iH (te:zr):wC:=fun L S R=>te L S λ x S1=>match x with
 | .tup ds=>R #[ds,λ _=>True] S1
 | .xI ds=>R #[ds,λ _=>True] S1
 | .ref p=>match S1 p with
  | some (.lst ds)=>R #[ds,λ S=>S p=↑(.lst ds)] S1
  | _=>False
 | _=>False
def TB {tg:Expr}(h:PD X e te):uM X tg e (iH te):=by
 exact#[fun L S Q Q' hq z=>h.mo L S _ _ (λ x S1 z=>?_) z,?_]
 .cases x with
  | ref p=>
   dsimp only at z ⊢;split at z
   .show hq _ _ z
   .show z.elim
  | xI ds=>show hq _ _ z
  | tup ds=>show hq _ _ z
  | _=>show z
 .exact PI.imp (Ul h.pe) fun Y H R hu=>?_
  let#[L,S,r1,r2,z]:=hu;exact zJ.go h.mo r1 r2 z λ x S1 v H1 h1 q1 e1 p1=>?_;cases x with
  | tup ds=>
   simp![ze] at q1;let#[a,xs,rfl,g1,g2]:=q1;exact#[a,rfl,.inr #[#[xs,g1],h1 _ H1 e1 p1 λ i H2 S2 x1 x2 _=>#[λ d hd=>?_,λ hl=>#[xs,x1.l4 g1,by rw[<- g2.length];show hl]]]];let#[y,hy,_]:=g2.get hd;exact#[#[xs,y,x1.l4 g1,hy],λ x H' q=>?_];let#[rfl,q]:=q;show#[.refl _,x2,(zk.ext x1 ds g2).at hd (q xs (x1.l4 g1))]
  | ref p=>
   dsimp only at h1;split at h1
   .rename_i ds e2;simp![ze] at q1;subst q1;let#[xs0,g1,_]:=p1 _ _ e2;exact#[p,rfl,.inl #[#[xs0,zO.of g1],h1 _ H1 e1 p1 λ i H2 S2 x1 x2 hk=>?_]];let#[xs,g3,g4]:=x2 _ _ hk;exact#[λ d hd=>?_,λ hl=>#[xs,zO.of g3,by rw[<- g4.length];show hl]];let#[y,hy,_]:=g4.get hd;exact#[#[xs,y,zO.of g3,hy],λ x H' q=>?_];let#[rfl,q]:=q;show#[.refl _,x2,g4.at hd (q xs (zO.of g3))]
   .show h1.elim
  | xI ds=>
   simp![ze] at q1;let#[a,xs,rfl,g1,g2]:=q1;exact#[a,rfl,.inl #[#[xs,g1.sq],h1 _ H1 e1 p1 λ i H2 S2 x1 x2 _=>#[λ d hd=>?_,λ hl=>#[xs,(x1.l6 g1).sq,by rw[<- g2.length];show hl]]]];let#[y,hy,_]:=g2.get hd;exact#[#[xs,y,(x1.l6 g1).sq,hy],λ x H' q=>?_];let#[rfl,q]:=q;show#[.refl _,x2,(zk.ext x1 ds g2).at hd (q xs (x1.l6 g1).sq)]
  | _=>show h1.elim
end
end L3
namespace L4
open PySem PySem.W PyProof.Rows
def y7 {α:Type}(n:Nat) (lt:Nat->Nat->Bool):KasT α->(α->Prop)->Prop
 | .ret a,Q=>Q a
 | .ask i j k,Q=>i<n/\j<n/\y7 n lt (k (lt i j)) Q
theorem y7.mono {α:Type}{n:Nat}{lt:Nat->Nat->Bool}{Q Q':α->Prop}(hq:∀ a,Q a->Q' a):∀ {t:KasT α},y7 n lt t Q->y7 n lt t Q'
 | .ret _,h=>hq _ h
 | .ask _ _ _,h=>#[h.1,h.2.1,y7.mono hq h.2.2]
theorem y7.bind {α β:Type}{n:Nat}{lt:Nat->Nat->Bool}{f:α->KasT β}{Q:β->Prop}:∀ {t:KasT α},y7 n lt t (λ a=>y7 n lt (f a) Q)->y7 n lt (t.bind f) Q
 | .ret _,h=>h
 | .ask _ _ _,h=>#[h.1,h.2.1,y7.bind h.2.2]
section
variable {n:Nat}{lt:Nat->Nat->Bool}
def Le (lt:Nat->Nat->Bool) (a b:Nat):Prop:=lt b a=false
structure Ord (lt:Nat->Nat->Bool):Prop where
 tr:∀ a b c,Le lt a b->Le lt b c->Le lt a c
 as:∀ a b,lt a b=true->Le lt a b
def Ord.refl (o:Ord lt) (a:Nat):Le lt a a:=by
 cases h:lt a a with
 | false=>show h
 | true=>show o.as a a h
def xv (n:Nat) (p:Array Nat):Prop:=p.Perm (List.range n).toArray
theorem xv.size {p:Array Nat}(h:xv n p):p.size=n:=by rw[Array.Perm.size_eq h];simp
theorem xv.below {p:Array Nat}(h:xv n p) {i:Nat}(hi:i<n):p.getD i 0<n:=by
 have hs:=h.size;have hm:p.getD i 0∈p:=by
  rw[DY,Bx ⋯];show Array.getElem_mem ⋯
 have:p.getD i 0∈(List.range n).toArray:=(Array.Perm.mem_iff h).mp hm;exists this
def nE {p q:Array Nat}{i j:Nat}(h:p[i]?=q[j]?):p.getD i 0=q.getD j 0:=by rw[DY,DY,h]
def vq (lt:Nat->Nat->Bool) (p:Array Nat) (k:Nat):Prop:=∀ i j,i<=j->j<k->Le lt (p.getD i 0) (p.getD j 0)
def tH (lt:Nat->Nat->Bool) (p:Array Nat) (k:Nat):Prop:=∀ i j,i<=j->j<k->Le lt (p.getD j 0) (p.getD i 0)
def vq.next (o:Ord lt) {p:Array Nat}{k:Nat}(h:vq lt p k) (hk:1<=k) (hl:Le lt (p.getD (k-1) 0) (p.getD k 0)):vq lt p (k+1):=λ i j A7 hj=>by
 by_cases EM:j<k
 .show h i j A7 EM
 .have e:j=k:=⋯;subst e;by_cases hi:i=j
  .subst hi;show o.refl _
  .show o.tr _ _ _ (h i (j-1) ⋯ ⋯) hl
def tH.next (o:Ord lt) {p:Array Nat}{k:Nat}(h:tH lt p k) (hk:1<=k) (hl:Le lt (p.getD k 0) (p.getD (k-1) 0)):tH lt p (k+1):=λ i j A7 hj=>by
 by_cases EM:j<k
 .show h i j A7 EM
 .have e:j=k:=⋯;subst e;by_cases hi:i=j
  .subst hi;show o.refl _
  .show o.tr _ _ _ hl (h i (j-1) ⋯ ⋯)
theorem fg (o:Ord lt) {p:Array Nat}(hp:xv n p):∀ (f a:Nat),1<=a->a+f<=n->vq lt p a->
  y7 n lt (kas_asc p f a) λ m=>a<=m/\m<=a+f/\vq lt p m/\(m=a+f\/lt (p.getD m 0) (p.getD (m-1) 0)=true)
 | 0,a,_,_,hs=>#[Ak _,Ak _,hs,.inl rfl]
 | f+1,a,h1,h2,hs=>by
  exact#[hp.below ⋯,hp.below ⋯,?_];cases c:lt (p.getD a 0) (p.getD (a-1) 0) with
  | true=>show#[Ak _,⋯,hs,.inr c]
  | false=>
   exact y7.mono ?_ (fg o hp f (a+1) ⋯ ⋯ (hs.next o h1 c));rintro m ⟨g1,g2,g3,g4⟩;show#[⋯,⋯,g3,g4.imp (λ e=>⋯) id]
def oO {p:Array Nat}(hp:xv n p) (i j:Nat):xv n (kas_rev p i j):=Array.Perm.trans (mirror_perm _ _ _ _) hp
theorem oP {p:Array Nat}(hp:xv n p) {i j:Nat}(hj:j<=n) (k:Nat):(kas_rev p i j).getD k 0=if i<=k/\k<j then p.getD (i+j-1-k) 0 else p.getD k 0:=by
 have e:=getElem?_mirror_all (xs:=p) (i:=i) (j:=j) (by rw[hp.size];show hj) k;split
 .rename_i h;rw[if_pos h] at e;show nE e
 .rename_i h;rw[if_neg h] at e;show nE e
def rev_eq (o:Ord lt) {p:Array Nat}(hp:xv n p) {i j:Nat}(hj:j<=n) (he:∀ a b,i<=a->a<j->i<=b->b<j->Le lt (p.getD a 0) (p.getD b 0)) (k:Nat):
  Le lt ((kas_rev p i j).getD k 0) (p.getD k 0)/\Le lt (p.getD k 0) ((kas_rev p i j).getD k 0):=by
 rw[oP hp hj];split
 .rename_i h;show#[he _ _ ⋯ ⋯ h.1 h.2,he _ _ h.1 h.2 ⋯ ⋯]
 .show#[o.refl _,o.refl _]
def tH.of_eq (o:Ord lt) {p q:Array Nat}{k:Nat}(h:tH lt p k) (e:∀ k,Le lt (q.getD k 0) (p.getD k 0)/\Le lt (p.getD k 0) (q.getD k 0)):tH lt q k:=λ i j A7 hj=>
 o.tr _ _ _ (e j).1 (o.tr _ _ _ (h i j A7 hj) (e i).2)
def fR (lt:Nat->Nat->Bool) (p:Array Nat) (m q:Nat):Prop:=∀ a b,m-(q+1)<=a->a<m->m-(q+1)<=b->b<m->Le lt (p.getD a 0) (p.getD b 0)
theorem ky (o:Ord lt):∀ (f:Nat) (p:Array Nat) (m q:Nat),xv n p->1<=m->m+f<=n->tH lt p m->q+1<=m->fR lt p m q->
  y7 n lt (kas_desc f p m q) λ r=>xv n r.1/\m<=r.2.1/\r.2.1<=m+f/\tH lt r.1 r.2.1/\r.2.2+1<=r.2.1/\fR lt r.1 r.2.1 r.2.2
 | 0,p,m,q,hp,_,_,hd,hq,hb=>#[hp,Ak _,Ak _,hd,hq,hb]
 | f+1,p,m,q,hp,h1,h2,hd,hq,hb=>by
  have one:∀ p':Array Nat,fR lt p' (m+1) 0:=λ p' a b a1 a2 b1 b2=>by
   have:a=b:=⋯;subst this;show o.refl _
  exact#[hp.below ⋯,hp.below ⋯,?_];cases c:lt (p.getD m 0) (p.getD (m-1) 0) with
  | true=>
   dsimp only;rw[if_pos rfl];have hl:=o.as _ _ c;by_cases h0:q>0
   .rw[if_pos h0];have e:=rev_eq o hp (i:=m-(q+1)) (j:=m) ⋯ hb;have Hv:=oO hp (m-(q+1)) m;exact y7.mono ?_ (ky o f _ (m+1) 0 Hv ⋯ ⋯ ((hd.of_eq o e).next o h1 (o.tr _ _ _ (e m).1 (o.tr _ _ _ hl (e (m-1)).2))) ⋯ (one _));rintro r ⟨a1,a2,a3,a4⟩;show#[a1,⋯,⋯,a4]
   .rw[if_neg h0];exact y7.mono ?_ (ky o f _ (m+1) 0 hp ⋯ ⋯ (hd.next o h1 hl) ⋯ (one _));rintro r ⟨a1,a2,a3,a4⟩;show#[a1,⋯,⋯,a4]
  | false=>
   dsimp only;rw[if_neg BX];exact#[hp.below ⋯,hp.below ⋯,?_];cases d:lt (p.getD (m-1) 0) (p.getD m 0) with
   | true=>show#[hp,Ak _,(by change m<=m+(f+1);lia),hd,hq,hb]
   | false=>
    dsimp only;rw[if_neg BX];exact y7.mono ?_ (ky o f _ (m+1) (q+1) hp ⋯ ⋯ (hd.next o h1 d) ⋯ λ a b a1 a2 b1 b2=>?_)
    .rintro r ⟨a1,a2,a3,a4⟩;show#[a1,⋯,⋯,a4]
    .by_cases ha:a=m
     .by_cases II:b=m
      .subst ha;subst II;show o.refl _
      .subst ha;show o.tr _ _ _ d (hb (a-1) b ⋯ ⋯ ⋯ ⋯)
     .by_cases II:b=m
      .subst II;show o.tr _ _ _ (hb a (b-1) ⋯ ⋯ ⋯ ⋯) c
      .show hb a b ⋯ ⋯ ⋯ ⋯
theorem eY (o:Ord lt) {p:Array Nat}{m:Nat}(hp:xv n p) (h1:1<=m) (h2:m<=n) (hd:tH lt p m):y7 n lt (kas_tail3 m n p) λ r=>xv n r.2/\r.1<=n/\vq lt r.2 r.1:=by
 exact y7.bind (y7.mono ?_ (fg o (oO hp 0 m) (n-m) m h1 ⋯ λ i j A7 hj=>?_))
 .rintro k ⟨a1,a2,a3,_⟩;show#[oO hp 0 m,⋯,a3]
 .rw[oP hp h2,oP hp h2,if_pos #[A0 _,⋯],if_pos #[A0 _,hj]];show hd _ _ ⋯ ⋯
theorem Zd (o:Ord lt) {p:Array Nat}{m:Nat}(hp:xv n p) (h1:1<=m) (h2:m<n) (hd:tH lt p m) (hl:lt (p.getD m 0) (p.getD (m-1) 0)=true):y7 n lt (kas_descPart m n p) λ r=>xv n r.2/\r.1<=n/\vq lt r.2 r.1:=by
 exact y7.bind (y7.mono ?_ (ky o (n-(m+1)) p (m+1) 0 hp ⋯ ⋯ (hd.next o h1 (o.as _ _ hl)) ⋯ λ a b a1 a2 b1 b2=>?_))
 .rintro⟨p',m',q'⟩ ⟨a1,a2,a3,a4,a5,a6⟩;dsimp only at a1 a2 a3 a4 a5 a6 ⊢;by_cases h0:q'>0
  .rw[if_pos h0];show eY o (oO a1 _ _) ⋯ ⋯ (a4.of_eq o (rev_eq o a1 (i:=m'-(q' + 1)) (j:=m') ⋯ a6))
  .rw[if_neg h0];show eY o a1 ⋯ ⋯ a4
 .have:a=b:=⋯;subst this;show o.refl _
theorem MY (o:Ord lt) {p:Array Nat}(hp:xv n p) (h1:1<=n):y7 n lt (kas_count n p) λ r=>xv n r.2/\r.1<=n/\vq lt r.2 r.1:=by
 exact y7.bind (y7.mono ?_ (fg o hp (n-1) 1 (Ak _) ⋯ λ i j A7 hj=>?_))
 .rintro m ⟨a1,a2,a3,a4⟩;by_cases hm:m=n
  .rw[if_pos (by simp[hm])];show#[hp,⋯,a3]
  .rw[if_neg (by simp[hm])];have hl:lt (p.getD m 0) (p.getD (m-1) 0)=true:=a4.resolve_left ⋯;by_cases h2:m>1
   .rw[if_pos h2];exact#[hp.below ⋯,hp.below ⋯,?_];cases c:lt (p.getD 0 0) (p.getD (m-1) 0) with
    | true=>show#[hp,⋯,a3]
    | false=>
     dsimp only;rw[if_neg BX];have all:∀ a b,0<=a->a<m->0<=b->b<m->Le lt (p.getD a 0) (p.getD b 0):=λ a b _ ha _ hb=>
      o.tr _ _ _ (a3 a (m-1) ⋯ ⋯) (o.tr _ _ _ c (a3 0 b ⋯ hb))
     have e:=rev_eq o hp (i:=0) (j:=m) ⋯ all;exact Zd o (oO hp 0 m) ⋯ ⋯ (λ i j A7 hj=>o.tr _ _ _ (e j).1 (o.tr _ _ _ (all _ _ (A0 _) hj (A0 _) ⋯) (e i).2)) ?_;rw[oP hp ⋯,oP hp ⋯,if_neg ⋯,if_pos ⋯];cases q:lt (p.getD m 0) (p.getD (0+m-1-(m-1)) 0) with
     | true=>rfl
     | false=>
      have:=o.tr _ _ _ (all (m-1) (0+m-1-(m-1)) (A0 _) ⋯ (A0 _) ⋯) q;unfold Le at this;rw[this] at hl;cases hl
   .rw[if_neg h2];have e:m=1:=⋯;subst e;exact Zd o hp (Ak _) ⋯ (λ i j A7 hj=>?_) hl;have:i=j:=⋯;subst this;show o.refl _
 .have:i=j:=⋯;subst this;show o.refl _
theorem jX {p:Array Nat}{k:Nat}(hp:xv n p) (hk:k<n) (hs:vq lt p k) (o:Ord lt):∀ (f l r:Nat),r-l<=f->l<=r->r<=k->(∀ i,i<l->Le lt (p.getD i 0) (p.getD k 0))->(∀ i,r<=i->i<k->lt (p.getD k 0) (p.getD i 0)=true)->
  y7 n lt (kas_place p k f l r) λ m=>m<=k/\(∀ i,i<m->Le lt (p.getD i 0) (p.getD k 0))/\(∀ i,m<=i->i<k->lt (p.getD k 0) (p.getD i 0)=true)
 | 0,l,r,h0,h1,h2,ha,hb=>by
  have:l=r:=⋯;subst this;show#[h2,ha,hb]
 | f+1,l,r,h0,h1,h2,ha,hb=>by
  unfold kas_place;by_cases Du:l≥r
  .rw[if_pos Du];have:l=r:=⋯;subst this;show#[h2,ha,hb]
  .rw[if_neg Du];exact#[hp.below hk,hp.below ⋯,?_];cases c:lt (p.getD k 0) (p.getD ((l+r)/2) 0) with
   | true=>
    dsimp only;rw[if_pos rfl];exact jX hp hk hs o f l ((l+r)/2) ⋯ ⋯ ⋯ ha λ i hi D2=>?_;cases q:lt (p.getD k 0) (p.getD i 0) with
    | true=>rfl
    | false=>
     have:=o.tr _ _ _ (hs ((l+r)/2) i hi D2) q;unfold Le at this;rw[this] at c;cases c
   | false=>
    dsimp only;rw[if_neg BX];exact jX hp hk hs o f ((l+r)/2+1) r ⋯ ⋯ h2 (λ i hi=>?_) hb;show o.tr _ _ _ (hs i ((l+r)/2) ⋯ ⋯) c
theorem ZV (o:Ord lt):∀ (f:Nat) (p:Array Nat) (k:Nat),xv n p->k+f=n->vq lt p k->y7 n lt (kas_bin f p k) λ r=>xv n r/\vq lt r n
 | 0,p,k,hp,h1,hs=>by
  have:k=n:=⋯;subst this;show#[hp,hs]
 | f+1,p,k,hp,h1,hs=>by
  exact y7.bind (y7.mono ?_ (jX hp ⋯ hs o k 0 k ⋯ (A0 _) (Ak _) (λ i hi=>absurd hi (Nat.not_lt_zero _)) λ i hi D2=>absurd D2 ⋯));rintro l ⟨a1,a2,a3⟩;exact ZV o f _ (k+1) (Array.Perm.trans (bubble_perm _ _ _) hp) ⋯ λ i j A7 hj=>?_;have ev:∀ x,(bubble p k (k-l)).getD x 0=if x=l then p.getD k 0 else if l<x/\x<=k then p.getD (x-1) 0 else p.getD x 0:=λ x=>by
   have e:=getElem?_bubble (xs:=p) (src:=k) (by rw[hp.size];lia) (k-l) ⋯ x;rw[show k-(k-l)=l by lia] at e;split
   .rename_i h;rw[if_pos h] at e;show nE e
   .rename_i h;rw[if_neg h] at e;split
    .rename_i h';rw[if_pos h'] at e;show nE e
    .rename_i h';rw[if_neg h'] at e;show nE e
  rw[ev i,ev j];by_cases hi:i=l
  .rw[if_pos hi];by_cases Hg:j=l
   .rw[if_pos Hg];show o.refl _
   .rw[if_neg Hg,if_pos #[⋯,⋯]];show o.as _ _ (a3 (j-1) ⋯ ⋯)
  .rw[if_neg hi];by_cases Hg:j=l
   .rw[if_pos Hg,if_neg ⋯];show a2 i ⋯
   .rw[if_neg Hg];by_cases hi2:l<i/\i<=k
    .rw[if_pos hi2,if_pos #[⋯,⋯]];show hs _ _ ⋯ ⋯
    .rw[if_neg hi2];by_cases hj2:l<j/\j<=k
     .rw[if_pos hj2];show hs _ _ ⋯ ⋯
     .rw[if_neg hj2];show hs _ _ A7 ⋯
theorem Vg (o:Ord lt) (h1:1<=n):y7 n lt (kas_sort n) λ r=>xv n r/\vq lt r n:=by
 have hp:xv n (List.range n).toArray:=Array.Perm.refl _;exact y7.bind (y7.mono ?_ (MY o hp h1));rintro⟨m,p⟩ ⟨a1,a2,a3⟩;dsimp only at a1 a2 a3 ⊢;by_cases hm:m<n
 .rw[if_pos hm];exact ZV o _ p (max m 1) a1 ⋯ ?_;by_cases h0:m=0
  .subst h0;intro i j A7 hj;have:i=j:=⋯;subst this;show o.refl _
  .rw[show max m 1=m by lia];show a3
 .rw[if_neg hm];have:m=n:=⋯;subst this;show#[a1,a3]
end
end L4
namespace L4
open PySem PySem.W PySem.Calls PyProof.Rows
section
variable {prog:Program}{w:World}{A:Around}{E:Af}{s:Shared}
def Core (prog:Program) (w:World) (A:Around) (E:Af) (vs:Ae) (Out:Array Value->Prop) (s6:Shared):Prop:=
 wpAny (model prog w) A (keyKind' vs.toArray) (fun κ s'=>s'=s6/\wpAny (model prog w) A ((sortRuns').run (SortSt.mk' κ (vs.toArray.zip vs.toArray) [].toArray 7 none))
  (λ r HQ=>HQ=s6/\failedOf r.2=none/\Out ((arrOf r.2).map (·.2))/\(arrOf r.2).size=vs.length) E s') E s6
def OB {a:Addr}{vs:Ae}{n:Nat}{P:PySem.Fin->Shared->Prop}{Out:Array Value->Prop}(ho:s.heap.get? a=↑(seqObj "list" vs.toArray n)) (hz:vs.length<=sizeLine)
  (core:2<=vs.length->∀ s6:Shared,(∀ b o,b≠a->s.heap.get? b=↑o->s6.heap.get? b=↑o)->Core prog w A E vs Out s6) (short:vs.length<2->Out vs.toArray)
  (fin:∀ out:Array Value,Out out->out.size=vs.length->P (.done (.ret .none)) { s with heap:=sortedHeap s.heap a vs out }):
  wpAny (model prog w) A (Builtin.«list.sort» #[[.ref a],[]]) P E s:=by
 have ha:a<s.heap.objs.size:=Ap ho;obtain⟨e1,g1⟩:∃ e1,(s.heap.update a (Obj.mapSeq λ _=>[].toArray)).get? a=↑(seqObj "list" [].toArray e1):=#[_,get?_update_seq ho (λ _=>[].toArray)];have J4:vs.toArray.size<=sizeLine:=by rw[AE];show hz
 have g6:(((s.heap.update a (Obj.mapSeq λ _=>[].toArray)).push (seqObj "tuple" vs.toArray 0)).push (seqObj "list" [].toArray 0)).get? a=↑(seqObj "list" [].toArray e1):=gV _ (gV _ g1);have keep:∀ b o,b≠a->s.heap.get? b=↑o->(((s.heap.update a (Obj.mapSeq λ _=>[].toArray)).push (seqObj "tuple" vs.toArray 0)).push (seqObj "list" [].toArray 0)).get? b=↑o:=
  λ b o hb e=>gV _ (gV _ (by rw[zaL _ _ _ _ hb];show e))
 rw[list_sort_plain];exact KW (listItems_at ho rfl (KW (listUpdate_at ho rfl (KW (seqEpoch_at g1 rfl (KW (wpAny_newTuple (KW (wpAny_newList (za6 ?_))) (by exists hz))))) J4 (A0 _))));by_cases h2:vs.toArray.size<2
 .rw[if_pos h2,if_pos h2];have e2:(arrOf (SortSt.mk' general' (vs.toArray.zip vs.toArray) [].toArray 7 none)).map (·.2)=vs.toArray:=by
   change (vs.toArray.zip vs.toArray).map (·.2)=vs.toArray;apply Array.ext #[];intro i h1 h2;simp
  exact KW (Ad ?_);dsimp only;rw[StateT.run_pure];exact KW (Ad ?_);dsimp only;exact KW (seqEpoch_at g6 rfl (KW (listUpdate_at g6 rfl ?_ (A0 _) ?_)))
  .simp![bne_self_eq_false,Br,if_false];have q:=fin _ (e2▸short (by exists h2)) (by rw[e2];simp);show Ad q
  .change (((arrOf (SortSt.mk' general' (vs.toArray.zip vs.toArray) [].toArray 7 none)).map (·.2))).size<=sizeLine+1;rw[e2];lia
 .rw[if_neg h2,if_neg h2];have I_:2<=vs.length:=by exists h2
  exact KW (za3 (core I_ _ keep) (fun κ s7 #[hs,h7]=>?_) λ _ _ z=>z);subst hs;exact KW (za3 h7 (λ r s8 #[hs,hf,ED,hsz]=>?_) λ _ _ z=>z);subst hs;obtain⟨⟨⟩,st⟩:=r;exact KW (seqEpoch_at g6 rfl (KW (listUpdate_at g6 rfl ?_ (A0 _) ?_)))
  .have Ho:failedOf st=none:=hf;rw[Ho];simp![bne_self_eq_false,Br,if_false];show Ad (fin _ ED (by rw[De];show hsz))
  .change ((arrOf st).map (·.2)).size<=sizeLine+1;rw[De];have:(arrOf st).size=vs.length:=hsz;lia
def Vf {h:Heap}{vs:Ae}(out:Aw):∃ e,(sortedHeap (h.push (seqObj "list" vs.toArray 0)) h.objs.size vs out).get? h.objs.size=↑(seqObj "list" out e):=by
 have there:(h.push (seqObj "list" vs.toArray 0)).get? h.objs.size=↑(seqObj "list" vs.toArray 0):=AM _ rfl;show#[_,get?_update_seq (gV _ (gV _ (get?_update_seq there λ _=>[].toArray))) λ _=>out]
def da {a:Addr}{vs:Ae}{Q:Af}{Out:Array Value->Prop}{N:Addr->Prop}
  (C:∀ Q':List Value->Shared->Prop,(∀ h1 tk,(∀ b o,¬ N b->s.heap.get? b=↑o->h1.get? b=↑o)->s.heap.objs.size<=h1.objs.size->Q' vs { s with heap:=h1,toks:=tk })->wpAny (model prog w) A.in1 (collect (.ref a)) Q' E s) (hz:vs.length<=sizeLine)
  (core:2<=vs.length->∀ s6:Shared,(∀ b o,¬ N b->s.heap.get? b=↑o->s6.heap.get? b=↑o)->Core prog w A.in1.in1 E vs Out s6) (short:vs.length<2->Out vs.toArray)
  (fin:∀ (out:Aw) (h':Heap) (tk l:Nat),Out out->out.size=vs.length->s.heap.objs.size<=l->(∀ b o,¬ N b->s.heap.get? b=↑o->h'.get? b=↑o)->(∃ e,h'.get? l=↑(seqObj "list" out e))->Q (.ref l) { s with heap:=h',toks:=tk }):
  wpAny (model prog w) A (call (.builtin "sorted") [.ref a]) Q E s:=by
 exact Calls.call_function_entry kind_sorted plain_sorted entry_sorted (args_sorted1 _) ?_;unfold Builtin.«sorted»;exact KW (m:=checkCount "sorted" 1 1 _) (Ad (KW (C _ λ h1 tk k1 k2=>KW (wpAny_newList ?_ hz))));have JB:(h1.push (seqObj "list" vs.toArray 0)).get? h1.objs.size=↑(seqObj "list" vs.toArray 0):=AM _ rfl;change wpAny _ _ _ _ _ { s with heap:=h1.push (seqObj "list" vs.toArray 0),toks:=tk };exact KW (za6 (zaB slot_list_sort #[_,JB,rfl] entry_list_sort (OB JB hz (λ h2 s6 k=>core h2 s6 λ b o n q=>k b o (AB (Ap (k1 b o n q))) (gV _ (k1 b o n q))) short λ out g1 g2=>#[_,rfl,?_]) (args_list_sort _)));exact Ad #[_,rfl,fin out _ tk h1.objs.size g1 g2 k2 (λ b o n q=>?_) (Vf out)];have q1:=k1 b o n q;have hb:=AB (Ap q1);unfold sortedHeap;rw[zaL _ _ _ _ hb];exact gV _ (gV _ ?_);rw[zaL _ _ _ _ hb];show gV _ q1
end
end L4
namespace L4
open PySem PySem.W PySem.Calls PyProof.Rows L2
theorem iE:∀ a b:List Int,HT.lexLt a b=true->HT.lexLt b a=false
 | [],[],h=>by cases h
 | [],_::_,_=>rfl
 | _::_,[],h=>by cases h
 | x::a,y::b,h=>by
  rw[HT.sU] at h ⊢;by_cases e:x=y
  .subst e;rw[if_pos rfl] at h ⊢;show iE a b h
  .rw[if_neg e] at h;rw[if_neg (Ne.symm e)];have:=of_decide_eq_true h;show za5 ⋯
theorem b7:∀ a b:List Int,HT.lexLt a b=false->HT.lexLt b a=false->a=b
 | [],[],_,_=>rfl
 | [],_::_,h,_=>by cases h
 | _::_,[],_,h=>by cases h
 | x::a,y::b,h,h'=>by
  rw[HT.sU] at h h';by_cases e:x=y
  .subst e;rw[if_pos rfl] at h h';rw[b7 a b h h']
  .rw[if_neg e] at h;rw[if_neg (Ne.symm e)] at h';have h1:=of_decide_eq_false h;have h2:=of_decide_eq_false h';lia
theorem iD:∀ a b c:List Int,HT.lexLt b a=false->HT.lexLt c b=false->HT.lexLt c a=false
 | [],[],[],_,_=>rfl
 | [],[],_::_,_,h=>h
 | [],_::_,[],_,h=>by cases h
 | [],_::_,_::_,_,_=>rfl
 | _::_,[],_,h,_=>by cases h
 | _::_,_::_,[],_,h=>by cases h
 | x::a,y::b,z::c,h,h'=>by
  rw[HT.sU] at h h' ⊢;by_cases e1:y=x
  .subst e1;rw[if_pos rfl] at h;by_cases e2:z=y
   .subst e2;rw[if_pos rfl] at h' ⊢;show iD a b c h h'
   .rw[if_neg e2] at h' ⊢;show h'
  .rw[if_neg e1] at h;have h1:=of_decide_eq_false h;by_cases e2:z=y
   .subst e2;rw[if_neg e1];show h
   .rw[if_neg e2] at h';have h2:=of_decide_eq_false h';rw[if_neg ⋯];show za5 ⋯
theorem j_ {α:Type}{r:α->α->Prop}(an:∀ a b,r a b->r b a->a=b):∀ {l₁ l₂:List α},l₁.Perm l₂->l₁.Pairwise r->l₂.Pairwise r->l₁=l₂
 | [],l₂,h,_,_=>(List.nil_perm.mp h).symm
 | a::l₁,[],h,_,_=>absurd (List.perm_nil.mp h) #[]
 | a::l₁,b::l₂,h,h1,h2=>by
  have C2:a=b:=by
   have ha:a∈b::l₂:=h.mem_iff.mp Av;have hb:b∈a::l₁:=h.mem_iff.mpr Av;rcases Am.mp ha with e | ha
   .show e
   .rcases Am.mp hb with e | hb
    .show e.symm
    .show an _ _ (List.rel_of_pairwise_cons h1 hb) (List.rel_of_pairwise_cons h2 ha)
  subst C2;rw[j_ an (List.Perm.cons_inv h) (BK.mp h1).2 (BK.mp h2).2]
def xH (rows:List (List Int)):List (List Int):=rows.mergeSort λ a b=>!HT.lexLt b a
def uA (rows:List (List Int)):(xH rows).Perm rows:=List.mergeSort_perm _ _
def jI (rows:List (List Int)):(xH rows).Pairwise λ a b=>HT.lexLt b a=false:=by
 have:=List.pairwise_mergeSort (le:=λ a b:List Int=>!HT.lexLt b a) (λ a b c h1 h2=>by simp at h1 h2 ⊢;show iD a b c h1 h2)
  (λ a b=>by
   cases h:HT.lexLt b a with
   | false=>simp
   | true=>simp[iE b a h]) rows
 show this.imp λ h=>by exists h
def de {rows out:List (List Int)}(hp:out.Perm rows) (hs:out.Pairwise λ a b=>HT.lexLt b a=false):out=xH rows:=
 j_ (λ a b h1 h2=>b7 a b h2 h1) (hp.trans (uA rows).symm) hs (jI rows)
def oM (rows:List (List Int)) (i j:Nat):Bool:=HT.lexLt (rows.getD i []) (rows.getD j [])
def V2 (rows:List (List Int)):Ord (oM rows):=#[λ _ _ _ h1 h2=>iD _ _ _ h1 h2,λ _ _ h=>iE _ _ h]
section
variable {prog:Program}{w:World}{A:Around}{E:Af}{s:Shared}{Q:Bool->Shared->Prop}
theorem bG {b:Bool}:∀ (ns ms:List Int) (us ws:Ae) (i:Nat),IntsAre us ns->IntsAre ws ms->Q (HT.lexLt ns ms) s->KatLex prog w A b (decide (ns.length<ms.length)) Q (us.zip ws) i s
 | [],[],_,_,_,.nil,.nil,h=>kat_nil (by simpa [HT.lexLt] using h)
 | [],_::_,_,_,_,.nil,.cons _ _ _,h=>kat_nil (by simpa [HT.lexLt] using h)
 | _::_,[],_,_,_,.cons _ _ _,.nil,h=>kat_nil (by simpa [HT.lexLt] using h)
 | n::ns,m::ms,_,_,i,.cons _ t hu,.cons _ u hw,h=>by
  rw[HT.sU] at h;exact kat_cons (SeqAt.EqAt.int_int n t m u prog w _ _ (kat_go (λ e=>kat_yes ?_) λ e=>kat_no ?_))
  .have e':n=m:=by exists e
   rw[if_pos e'] at h;rw[show decide ((n::ns).length<(m::ms).length)=decide (ns.length<ms.length) by simp];show bG ns ms _ _ (i+1) hu hw h
  .have e':¬ n=m:=by exists e
   rw[if_neg e'] at h;cases b&&i == 0 with
   | true=>show kat_lt_int h
   | false=>show kat_one _ _ (lt_int h)
def qH (h:Heap):List Value->List (List Int)->Prop:=Paired λ v r=>r≠[]/\∃ b o Aa n,v=.ref b/\h.get? b=↑o/\o.cls=.type "tuple"/\o.data=.seq Aa n/\IntsAre Aa.toList r
theorem qH.aK {h:Heap}:∀ {vs:Ae}{rows:List (List Int)},qH h vs rows->∃ fs,KatTups h vs fs/\fs.length=vs.length/\∀ v∈fs,∃ n t,v=Value.int n t
 | _,_,.nil=>#[[],KatTups.nil,rfl,λ _ hv=>absurd hv #[]]
 | _,_,.cons #[Aq,b,o,Aa,n,hv,ho,hc,hd,hi] r=>by
  let#[fs,h1,h2,h3]:=qH.aK r;subst hv;let#[Aa]:=Aa;cases hi with
  | nil=>show absurd rfl Aq
  | cons k t _=>show#[.int k t::fs,KatTups.cons ho hc hd rfl h1,by simp[h2],λ v hv=>(Am.mp hv).elim (λ e=>#[k,t,e]) (h3 v)]
theorem Paired.at' {α β:Type}{F:α->β->Prop}:∀ {l₁:List α}{l₂:List β}{i:Nat},Paired F l₁ l₂->i<l₁.length->∀ (d:α) (e:β),F (l₁.getD i d) (l₂.getD i e)
 | _,_,_,.nil,h,_,_=>absurd h #[]
 | _,_,0,.cons r _,_,_,_=>r
 | _,_,i+1,.cons _ t,h,d,e=>by exists Paired.at' (i:=i) t (by exists h) d e
def qH.ask {vs:Ae}{rows:List (List Int)}{b:Bool}(r:qH s.heap vs rows) {i j:Nat}(hi:i<vs.length) (hj:j<vs.length) {C:Bool->Shared->Prop}(h:C (oM rows i j) s):kas_ask prog w A (tuples' b) vs i j C s:=by
 let#[_,b1,o1,its1,n1,e1,g1,_,d1,q1]:=Paired.at' r hi Value.none [];let#[_,b2,o2,FP,n2,e2,g2,_,d2,q2]:=Paired.at' r hj Value.none [];unfold kas_ask;rw[e1,e2];exact kat_lt g1 d1 g2 d2 ?_;have l1:=q1.length;have l2:=q2.length;rw[BH] at l1 l2;rw[l1,l2];show bG _ _ _ _ 0 q1 q2 h
theorem eD {α:Type}{n:Nat}{lt:Nat->Nat->Bool}{cmp:Nat->Nat->(Bool->Shared->Prop)->Shared->Prop}{Q:α->Shared->Prop}(hc:∀ i j C,i<n->j<n->C (lt i j) s->cmp i j C s):∀ {t:KasT α},y7 n lt t (λ a=>Q a s)->t.kasWp cmp Q s
 | .ret _,h=>h
 | .ask i j _,h=>hc i j _ h.1 h.2.1 (eD hc h.2.2)
def f9 (vs:Ae) (rows:List (List Int)) (out:Aw):Prop:=
 ∃ ps:List (Value×List Int),ps.Perm (vs.zip rows)/\out.toList=ps.map (·.1)/\(ps.map (·.2)).Pairwise λ a b=>HT.lexLt b a=false
theorem X6 {α β:Type}{l:List α}{m:List β}(h:l.length=m.length) (a:α) (b:β):(List.range l.length).map (λ i=>(l.getD i a,m.getD i b))=l.zip m:=by
 exact Dd (by simp;lia) λ i h1 h2=>?_;have h3:i<l.length/\i<m.length:=by simp at h1;lia
 simp[h3.1,h3.2]
theorem Vc {rows:List (List Int)}{p:Array Nat}{n:Nat}(hn:p.size=n) (h:vq (oM rows) p n):(p.toList.map λ i=>rows.getD i []).Pairwise λ a b=>HT.lexLt b a=false:=by
 rw[Dc,C_];intro i j hi hj A7;have:=h i j (BS A7) (by rw[<- hn];exists hj);simp![BH] at hi hj;unfold Le oM at this;simpa [DY,hi,hj] using this
theorem MZ {vs:Ae}{rows:List (List Int)}(r:qH s.heap vs rows) (h2:2<=vs.length) (GG:vs.length<64):Core prog w A E vs (f9 vs rows) s:=by
 let#[fs,t,hl,hf]:=r.aK;unfold Core;exact kat_kind (T:=.type "int") t ⋯ (λ v hv=>?_) rfl #[rfl,?_]
 .let#[n,t,rfl]:=hf v hv;show Looks.of_pure rfl
 .exact kat_run (ks:=vs) (Q:=λ st HQ=>HQ=s/\failedOf st=none/\f9 vs rows ((arrOf st).map (·.2))/\(arrOf st).size=vs.length) (G:=λ p HQ=>HQ=s/\xv vs.length p/\vq (oM rows) p vs.length) rfl h2 GG (λ p st s' hs ha EU hg=>?_) ?_
  .let#[h1,h3,h4]:=hg;exact#[h1,EU,#[p.toList.map λ i=>(vs.getD i Value.none,rows.getD i []),?_,?_,?_],by rw[ha,De];show hs]
   .rw[<- X6 (Paired.length r) Value.none []];have:=Array.Perm.toList h3;show List.Perm.map _ (by exists this)
   .rw[kat_snds rfl ha,A5];rfl
   .rw[A5];show Vc hs h4
  .show eD (λ i j C hi hj hC=>r.ask hi hj hC) (y7.mono (λ p hp=>#[rfl,hp]) (Vg (V2 rows) ⋯))
end
section
variable {X:Cx}
def Paired.perm {α β:Type}{F:α->β->Prop}{l l':List α}(p:l'.Perm l):∀ {m:List β},Paired F l m->∃ m',m'.Perm m/\Paired F l' m':=by
 induction p with
 | nil=>intro m h;show#[m,.refl _,h]
 | cons x _ ih=>
  intro m h;cases h with
  | cons a h=>
   let#[m',h1,h2]:=ih h;show#[_,h1.cons _,.cons a h2]
 | swap x y l=>
  intro m h;cases h with
  | cons a h=>
   cases h with
   | cons b h=>show#[_,.swap _ _ _,.cons b (.cons a h)]
 | trans _ _ ih1 ih2=>
  intro m h;let#[m1,h1,h2]:=ih2 h;let#[m2,h3,h4]:=ih1 h2;show#[m2,h3.trans h1,h4]
abbrev Ye (K:Ac) (H:Hp) (v:V) (r:List Int):Prop:=r≠[]/\∃ b,v=V.ref b/\zW K H b (r.map V.int)
abbrev rD (K:Ac) (H:Hp) (ys:List V) (rows:List (List Int)):Prop:=Paired (Ye K H) ys rows
abbrev VR (K:Ac) (H:Hp):List Value->List (V×List Int)->Prop:=Paired λ u q=>RelV q.1 u/\Ye K H q.1 q.2
theorem VR.of {K:Ac}{H:Hp}:∀ {ys:List V}{vs:Ae}{rows:List (List Int)},Vals ys vs->rD K H ys rows->VR K H vs (ys.zip rows)
 | _,_,_,.nil,.nil=>.nil
 | _,_,_,.cons r t,.cons r' t'=>.cons #[r,r'] (VR.of t t')
abbrev m6 (qs:List (V×List Int)) (H:Hp) (Q:VK):Prop:=∀ p (ps:List (V×List Int)),H p=none->ps.Perm qs->(ps.map (·.2)).Pairwise (λ a b=>HT.lexLt b a=false)->Q (.ref p) (upd H p (.lst (ps.map (·.1))))
def jH {E6:Ai}{Y:L2.St}{H:Hp}{s:Shared}{a:Addr}{vs:Ae}{qs:List (V×List Int)}{Q:VK}(I:Inv X E6 Y H s)
  (C:∀ Q':List Value->Shared->Prop,(∀ h1 tk,(∀ b o,¬ False->s.heap.get? b=↑o->h1.get? b=↑o)->s.heap.objs.size<=h1.objs.size->Q' vs { s with heap:=h1,toks:=tk })->wpAny (model X.prog X.w) X.A.in1 (collect (.ref a)) Q' X.xe s)
  (hv:VR X.K H vs qs) (GG:qs.length<64) (q:m6 qs H Q):wpAny (model X.prog X.w) X.A (call (.builtin "sorted") [.ref a]) (EP X E6 Y Q) X.xe s:=by
 have hl:vs.length=qs.length:=Paired.length hv;have hz:qs.length<=sizeLine:=Bo (BS GG) ();have Hb:∀ h6:Heap,(∀ b o,¬ False->s.heap.get? b=↑o->h6.get? b=↑o)->qH h6 vs (qs.map (·.2)):=λ h6 k=>by
  clear q hl GG hz C
  induction hv with
  | nil=>show .nil
  | cons g t ih=>
   exact .cons ?_ ih;let#[r1,Aq,b,e1,hb]:=g;rw[e1] at r1;cases r1;let#[FP,Iu,#[o,e,hc,n,hd],_]:=I.tuple hb;show#[Aq,b,o,_,n,rfl,k _ _ id e,hc,hd,by exists intsAre_of Iu]
 exact da (Out:=f9 vs (qs.map (·.2))) C ⋯ (λ h2 s6 k=>MZ (Hb _ k) h2 ⋯) (λ h1=>#[vs.zip (qs.map (·.2)),.refl _,by rw[List.map_fst_zip (by simp;lia)],?_]) λ out h' tk p ho hs hp k DH=>?_
 .rw[List.map_snd_zip (by simp;lia),C_];intro i j hi hj A7;simp at hi hj;lia
 .let#[ps,g1,g2,g3]:=ho;let#[e,he]:=DH;have z:Paired (λ p q=>RelV q.1 p.1/\p.2=q.2) (vs.zip (qs.map (·.2))) qs:=by
   clear g1 hs hl GG hz C Hb q
   induction hv with
   | nil=>show .nil
   | cons a _ ih=>show .cons #[a.1,rfl] ih
  let#[HR,q1,q2]:=Paired.perm g1 z;have f:Vals (HR.map (·.1)) (ps.map (·.1))/\HR.map (·.2)=ps.map (·.2):=by
   clear q1 g1 g2 g3
   induction q2 with
   | nil=>show#[.nil,rfl]
   | cons a _ ih=>show#[.cons a.1 ih.1,by rw[Ax,Ax,ih.2,a.2]]
  exact#[.ref p,_,I.laid (t':=tk) (o:=.lst (HR.map (·.1))) (λ b o e=>k b o id e) hp #[?_,out.toList,e,by rw[g2];show f.1,by exists he],rfl,q p HR (I.zp.fresh hp) q1 (by rw[f.2];show g3)];rw[AN,q1.length_eq];show hz
end
end L4
namespace L2
open PySem PySem.Spec PyProof.Rows
def xR (ty T:String):Bool:=ty == T||(ty == "bool"&&T == "int")
def lh (ty T:String):Bool:=PySem.W.kitMeta T&&decide ((fastBuiltinMro ty).map (λ l=>l.contains (Value.type T))=↑(xR ty T))
def Wq:(["NoneType","bool","int","str","tuple","list","dict"].all λ ty=>["int","bool","tuple","list","str"].all λ T=>lh ty T)=true:=by decide +kernel
def O_ {K:Ac}{ty T:String}(h:lh ty T=true):PySem.W.kitOne K (.type ty) (.type T)=↑(xR ty T):=by
 unfold lh at h;rw[Bw] at h;unfold PySem.W.kitOne;split
 .rename_i e;have e':ty=T:=by have:=eq_of_beq e;injection this
  subst e';simp[xR]
 .change (if PySem.W.kitMeta T=true then PySem.W.subIn K (.type ty) (.type T) else none)=_;rw[if_pos h.1];show of_decide_eq_true h.2
def Yd (K:Ac) (H:Hp):V->String->Prop
 | .zh,t=>t="NoneType"
 | .bl _,t=>t="bool"
 | .int _,t=>t="int"
 | .str _,t=>t="str"
 | .ref a,t=>(t="tuple"/\∃ xs,zW K H a xs)\/(t="list"/\∃ xs,zO K H a xs)\/(t="dict"/\∃ Ab,H a=↑(.dK Ab))
 | _,_=>False
def LF {X:Cx}:yD X (.builtin "isinstance") (λ xs H Q=>∃ x T ty,xs=[x,.ty T]/\Yd X.K H x ty/\lh ty T=true/\Q (.bl (xR ty T)) H):=by
 intro E6 s Y H xs us Q I r h;let#[x,T,ty,rfl,hx,hT,q]:=h;let#[u,c,rfl,ru,rc]:=vals2 r;cases (show c=Value.type T from rc);have e:PySem.W.kitOne X.K (.type ty) (.type T)=↑(xR ty T):=O_ hT;have fin:∀ tk,EP X E6 Y Q (.bool (xR ty T)) { s with toks:=tk }:=λ tk=>#[.bl _,H,I.tok tk,rfl,q];cases x with
 | zh=>cases (show u=Value.none from ru);cases (show ty=_ from hx);show PySem.W.kia_one PySem.W.kitx_none I.yo True.intro e (λ z=>nomatch z) fin
 | bl y=>cases (show u=Value.bool y from ru);cases (show ty=_ from hx);show PySem.W.kia_one PySem.W.kitx_bool I.yo True.intro e (λ z=>nomatch z) fin
 | int i=>let#[t,rfl]:=(show ∃ t,u=Value.int i t from ru);cases (show ty=_ from hx);show PySem.W.kia_one PySem.W.kitx_int I.yo True.intro e (λ z=>nomatch z) fin
 | str y=>let#[t,rfl]:=(show ∃ t,u=Value.str y t from ru);cases (show ty=_ from hx);show PySem.W.kia_one PySem.W.kitx_str I.yo True.intro e (λ z=>nomatch z) fin
 | ref a=>
  cases (show u=Value.ref a from ru);rcases hx with ⟨rfl,ys,hq⟩ | ⟨rfl,ys,hq⟩ | ⟨rfl,Ab,hq⟩
  .let#[Aa,_,#[o,h1,h2,_],_]:=I.tuple hq;show PySem.W.kia_one PySem.W.kitx_tuple I.yo #[o,h1,h2] e (λ z=>nomatch z) fin
  .let#[Aa,_,#[o,n,h1,h2,_],_]:=I.list hq;show PySem.W.kia_one PySem.W.kitx_list I.yo #[o,h1,h2] e (λ z=>nomatch z) fin
  .let#[_,_,vs,_,p]:=(show yW X.prog X.w H s.heap a (.dK Ab) from I.zp a _ hq)
   let#[o,es,ep,h1,h2,_]:=p;show PySem.W.kia_one PySem.W.kitx_dict I.yo #[o,h1,h2.1] e (λ z=>nomatch z) fin
 | _=>show hx.elim
end L2
namespace L3
open PySem PySem.Spec L2
open PyProof.Rows hiding St
section
variable {X:Cx}{K:Ac}{a e:Expr}{es:List Expr}{te:zr}{tA:yh}{pos p q:Pos}
def SH (hm:X.mg "len"=none) (ha:xh X (e::es) tA) (hg:Gl X "len") (he:Ay X e es) (Ao:AG X pos es):PD X (.Call (.Name "len" p) (e::es) [] pos) (xE uo tA):=
 uV (uB (L9.or L8) hg hm PySem.boot_len ha.pa () () he Ao) uo.mo uo.fits ha.mo
def SG (hm:X.mg "list"=none) (ha:xh X (e::es) tA) (hg:Gl X "list") (he:Ay X e es) (Ao:AG X pos es):PD X (.Call (.Name "list" p) (e::es) [] pos) (xE um tA):=
 uV (p7 L6 hg hm PyProof.Rows.boot_list ha.pa () () he Ao) um.mo um.fits ha.mo
def TZ (hm:X.mg "tuple"=none) (ha:xh X (e::es) tA) (hg:Gl X "tuple") (he:Ay X e es) (Ao:AG X pos es):PD X (.Call (.Name "tuple" p) (e::es) [] pos) (xE uk tA):=
 uV (p7 Lm hg hm PyProof.Rows.boot_tuple ha.pa () () he Ao) uk.mo uk.fits ha.mo
abbrev aN:xF:=vJ λ i j=>.int (if j>i then j else i)
abbrev aM:xF:=vJ λ i j=>.int (if j<i then j else i)
def Sz (hm:X.mg "max"=none) (ha:xh X (e::es) tA) (hc:X.calm=true) (hg:Gl X "max") (he:Ay X e es) (Ao:AG X pos es):PD X (.Call (.Name "max" p) (e::es) [] pos) (xE aN tA):=
 uV (uB (Lz hc) hg hm boot_max ha.pa () () he Ao) vJ.mo (vJ.fits λ _ _ _=>by simp![ze]) ha.mo
def Sy (hm:X.mg "min"=none) (ha:xh X (e::es) tA) (hc:X.calm=true) (hg:Gl X "min") (he:Ay X e es) (Ao:AG X pos es):PD X (.Call (.Name "min" p) (e::es) [] pos) (xE aM tA):=
 uV (uB (Ly hc) hg hm boot_min ha.pa () () he Ao) vJ.mo (vJ.fits λ _ _ _=>by simp![ze]) ha.mo
def wZ (r:List Int):D:=.tup (r.map D.int)
theorem zk.lF {H:Hp}:∀ {ps:List (V×List Int)},(∀ q∈ps,ze K H (wZ q.2) q.1)->zk K H ((ps.map (·.2)).map wZ) (ps.map (·.1))
 | [],_=>.nil
 | q::ps,h=>.cons (h q Av) (zk.lF λ q hq=>h q (AA _ hq))
theorem zk.mW {H:Hp}:∀ {rows:List (List Int)}{ys:List V},zk K H (rows.map wZ) ys->∀ q∈ys.zip rows,ze K H (wZ q.2) q.1
 | [],ys,_,q,hq=>by simp at hq
 | r::rows,ys,h,q,hq=>by
  rw[Ax] at h;simp![zk] at h;let#[x,Jb,rfl,h1,h3]:=h;rcases Am.mp hq with e | hq
  .subst e;show h1
  .show zk.mW h3 q hq
theorem lA {H:Hp}:∀ {rows:List (List Int)}{ys:List V},zk K H (rows.map wZ) ys->(∀ r∈rows,r≠[])->L4.rD K H ys rows
 | [],ys,h,_=>by simp![Bi,zk] at h;subst h;show .nil
 | r::rows,ys,h,hn=>by
  rw[Ax] at h;simp![zk,wZ,ze] at h;let#[x,Jb,rfl,#[a,xs,rfl,g1,g2],h3]:=h;rw[g2.ints] at g1;show .cons #[hn r Av,a,rfl,g1] (lA h3 λ r' hr=>hn r' (AA _ hr))
def TC {tg:Expr}(hm:X.mg "range"=none) (ha:xh X [a] tA) (hg:Gl X "range") (hs:starEach [a] X.env=[(false,eval a X.env)]):uM X tg (.Call (.Name "range" p) [a] [] pos) (iI tA):=TF (Um hg hm ha.pa hs) ha.mo
def sO (d:D) (S:SS):Option String:=match d with
 | .zh=>↑"NoneType"
 | .bl _=>↑"bool"
 | .int _=>↑"int"
 | .str _=>↑"str"
 | .tup _=>↑"tuple"
 | .xI _=>↑"list"
 | .ref p=>match S p with
  | some (.lst _)=>↑"list"
  | some (.zD _)=>↑"dict"
  | none=>none
 | .err _ _ _=>none
def nX (T:String) (te:zr):zr:=fun L S Q=>te L S λ x S1=>match sO x S1 with
 | some ty=>Q (.bl (xR ty T)) S1
 | none=>False
theorem sO.ok {H:Hp}{d:D}{v:V}{S:SS}{ty:String}(r:ze K H d v) (p:zE K H S) (h:sO d S=↑ty):Yd K H v ty/\ty∈["NoneType","bool","int","str","tuple","list","dict"]:=by
 cases d with
 | err _ _ _=>cases h
 | tup ds=>
  simp![ze] at r;let#[a,xs,rfl,g1,_]:=r;cases h;show#[.inl #[rfl,xs,g1],#[]]
 | xI ds=>
  simp![ze] at r;let#[a,xs,rfl,g1,_]:=r;cases h;show#[.inr (.inl #[rfl,xs,g1.sq]),#[]]
 | ref a=>
  simp![ze] at r;subst r;unfold sO at h;dsimp only at h;split at h
  .rename_i e;cases h;let#[xs,g1,_]:=p _ _ e;show#[.inr (.inl #[rfl,xs,zO.of g1]),#[]]
  .rename_i e;cases h;let#[xs,g1,_]:=p _ _ e;show#[.inr (.inr #[rfl,xs,g1]),#[]]
  .cases h
 | _=>simp![ze] at r;subst r;cases h;show#[rfl,#[]]
def ic {T:String}{x:Str}(hT:T∈["int","bool","tuple","list","str"]) (hm:X.mg "isinstance"=none) (IG:X.mg x=none) (hv:bootBuiltins x=↑(.type T)) (G8:Gl X x) (hn:x≠"__name__") (hd:(x == ("__debug__":Str))=false) (he:PD X e te) (hg:Gl X "isinstance")
  (h1:Ay X e [.Name x q]) (h2:AG X pos [.Name x q]) (h3:Ay X (.Name x q) []):
  PD X (.Call (.Name "isinstance" p) [e,.Name x q] [] pos) (nX T te):=by
 exact#[fun L S Q Q' hq z=>he.mo L S _ _ (λ y S1 z=>?_) z,PE.imp (uB LF hg hm boot_isinstance (v9 he.pe (v9 (cB (v:=.ty T) G8 IG hv rfl hn hd) uW h3) h1) () () h1 h2) fun Y H Q hu=>?_]
 .split at z
  .show hq _ _ z
  .show z
 .let#[L,S,r1,r2,z]:=hu;exact zJ.go he.mo r1 r2 z λ y S1 v H1 z1 q1 e1 p1=>?_;split at z1
  .rename_i ty ht;let#[g1,g2]:=sO.ok q1 p1 ht;exact#[v,T,ty,rfl,g1,?_,z1 _ H1 (by simp![ze]) e1 p1];show Bj.mp (Bj.mp Wq ty g2) T hT
  .show z1.elim
def SO (T:Bt X.mg) (he:PD X e te) (hg:Gl X "isinstance") (G8:Gl X "bool") (h1:Ay X e [.Name "bool" q]) (h2:AG X pos [.Name "bool" q]) (h3:Ay X (.Name "bool" q) []):
  PD X (.Call (.Name "isinstance" p) [e,.Name "bool" q] [] pos) (nX "bool" te):=ic #[] T.isinstance T.bool PyProof.Rows.boot_bool G8 () () he hg h1 h2 h3
def SN (T:Bt X.mg) (he:PD X e te) (hg:Gl X "isinstance") (G8:Gl X "int") (h1:Ay X e [.Name "int" q]) (h2:AG X pos [.Name "int" q]) (h3:Ay X (.Name "int" q) []):
  PD X (.Call (.Name "isinstance" p) [e,.Name "int" q] [] pos) (nX "int" te):=ic #[] T.isinstance T.int PyProof.Rows.boot_int G8 () () he hg h1 h2 h3
def SM (T:Bt X.mg) (he:PD X e te) (hg:Gl X "isinstance") (G8:Gl X "tuple") (h1:Ay X e [.Name "tuple" q]) (h2:AG X pos [.Name "tuple" q]) (h3:Ay X (.Name "tuple" q) []):
  PD X (.Call (.Name "isinstance" p) [e,.Name "tuple" q] [] pos) (nX "tuple" te):=ic #[] T.isinstance T.tuple PyProof.Rows.boot_tuple G8 () () he hg h1 h2 h3
def S8 {o:Expr}{to:zr}{apos Aj:Pos}(ho:PD X o to) (he:PD X e te)
  (FT:attributeBase o "append" X.env (eval o X.env)=eval o X.env)
  (AU:((backTo Aj (starEach [e] X.env)).all (λ x=>!x.1)&&(backToKw Aj (keywordEach [] X.env)).all (λ x=>x.1.isSome)
   && decide ([e].length+([]:List Keyword).length+(if ([]:List Keyword).isEmpty then 0 else 1)<30))=true)
  (G0:(apos.endLine == Aj.line)=true) (hs:Ay X e []) (GA:AG X Aj []):
  PD X (.Call (.Attribute o "append" apos) [e] [] Aj) (rn to te):=
 Rr (o:=o) (e:=e) (cA PySem.F.plainAttrs_list PySem.F.slot_list_append PySem.F.type_list_append br ho.pe (v9 he.pe uW hs) FT AU G0 hs GA) ho.mo he.mo
structure FD (P:Program) (w:World) (K:Ac) (mg:Ar) (base:Heap) (x:Str) (k:Nat) (ps:List Str) (sp:wg):Prop where
 ex:∃ (f:Addr) (fd:FuncData),xl P w K mg base yG k f fd ps (uR K sp)/\mg x=↑(.ref f)/\PySem.W.keepIn K (.ref f)=true/\Binds K fd ps []
 mo:oj sp
def Ro {x:Str}{k:Nat}{ps:List Str}{sp:wg}(F:FD X.prog X.w X.K X.mg X.base x k ps sp) (hr:zX k X.A) (ha:xh X (e::es) tA) (hg:Gl X x) (A_:(x == ("__debug__":Str))=false)
  (he:Ay X e es) (Ao:AG X pos es):PD X (.Call (.Name x p) (e::es) [] pos) (k9 sp tA):=by
 let#[#[f,fd,h1,h2,h3,h4],hm]:=F;show Rp (E:=E0) (UK h1 hr hg h2 h3 h4 .nil Rx ha.pa A_ he Ao) hm ha.mo
end
def Mt {S:SS}{p:Addr}{ds:List D}{Q:DK}(e:S p=↑(.lst ds)) (h:Q (.tup ds) S):uk [.ref p] S Q:=by
 unfold uk;dsimp only;rw[e];show h
def Mu {S:SS}{d:D}{ds:List D}{Q:DK}(e:zM d S=↑ds) (h:∀ p,S p=none->Q (.ref p) (ups S p (.lst ds))):um [d] S Q:=by
 unfold um;dsimp only;rw[e];show h
def Mv {S:SS}{d:D}{ds:List D}{Q:DK}(e:zM d S=↑ds) (h:Q (.int ds.length) S):uo [d] S Q:=by
 unfold uo;dsimp only;rw[e];show h
def Wx {S:SS}{p:Addr}{ds:List D}{Q:Bool->SS->Prop}(e:S p=↑(.lst ds)) (h:Q (!ds.isEmpty) S):vz (.ref p) S Q:=by
 unfold vz;dsimp only;rw[e];show h
def My {S:SS}{p:Addr}{ds:List D}{i:Int}{d:D}{Q:DK}(e:S p=↑(.lst ds)) (e2:L2.zQ ds i=↑d) (h:Q d S):w6 (.ref p) (.int i) S Q:=by
 unfold w6;dsimp only;rw[e];dsimp only;rw[e2];show h
def Mw {S:SS}{ds:List D}{i:Int}{d:D}{Q:DK}(e2:L2.zQ ds i=↑d) (h:Q d S):w6 (.tup ds) (.int i) S Q:=by
 unfold w6;dsimp only;rw[e2];show h
def Mx {S:SS}{ds:List D}{i:Int}{d:D}{Q:DK}(e2:L2.zQ ds i=↑d) (h:Q d S):w6 (.xI ds) (.int i) S Q:=by
 unfold w6;dsimp only;rw[e2];show h
inductive T where
 | zh | bl (b:Bool) | int (i:Int) | str (x:Str) | tup (ts:List T) | lst (ts:List T) | yQ | err (c f:Str) (t:T)
mutual
def eqT:T->T->Bool
 | .zh,.zh=>true
 | .bl a,.bl b=>a == b
 | .bl a,.int b=>(if a then 1 else 0) == b
 | .int a,.bl b=>a == (if b then 1 else 0)
 | .int a,.int b=>a == b
 | .str a,.str b=>a == b
 | .tup a,.tup b=>x9 a b
 | .lst a,.lst b=>x9 a b
 | .yQ,.yQ=>true
 | .err a b t,.err c d u=>a == c&&(b == d&&eqT t u)
 | _,_=>false
def x9:List T->List T->Bool
 | [],[]=>true
 | a::as,b::bs=>eqT a b&&x9 as bs
 | _,_=>false
end
mutual
def dep:T->Nat
 | .tup ts=>1+xA ts
 | .lst ts=>1+xA ts
 | .yQ=>cLine
 | .err _ _ _=>cLine
 | _=>0
def xA:List T->Nat
 | []=>0
 | t::ts=>max (dep t) (xA ts)
end
def ij:List T->Bool
 | []=>true
 | .int _::ts=>ij ts
 | _=>false
def RJ (ns:List Int):ij (ns.map T.int)=true:=by
 induction ns with
 | nil=>rfl
 | cons n ns ih=>show ih
mutual
def Sn (S:SS):T->D->Prop
 | .zh,d=>d=.zh
 | .bl b,d=>d=.bl b
 | .int i,d=>d=.int i
 | .str x,d=>d=.str x
 | .tup ts,d=>∃ ds,d=.tup ds/\zi S ts ds
 | .lst ts,d=>∃ ds,((d=.xI ds/\ij ts=true)\/∃ a,d=.ref a/\S a=↑(.lst ds))/\zi S ts ds
 | .yQ,d=>∃ a Ab,(d=.ref a/\Ab=[])/\S a=↑(.zD Ab)
 | .err c f t,d=>∃ x,d=.err c f x/\Sn S t x
def zi (S:SS):List T->List D->Prop
 | [],ds=>ds=[]
 | t::ts,ds=>∃ c cs,ds=c::cs/\Sn S t c/\zi S ts cs
end
mutual
theorem ku:∀ t:T,eqT t t=true
 | .zh=>by simp[eqT]
 | .bl b=>by simp[eqT]
 | .int i=>by simp[eqT]
 | .str x=>by simp[eqT]
 | .tup ts=>by simp![eqT];show kr ts
 | .lst ts=>by simp![eqT];show kr ts
 | .yQ=>by simp[eqT]
 | .err _ _ t=>by simp[eqT,ku t]
theorem kr:∀ ts:List T,x9 ts ts=true
 | []=>by simp[x9]
 | t::ts=>by simp![x9,ku t,kr ts,DX]
end
theorem gw:∀ ts us:List T,x9 ts us=((List.range (min ts.length us.length)).all (λ j=>eqT (ts.getD j .zh) (us.getD j .zh))&&ts.length == us.length)
 | [],[]=>by simp[x9]
 | [],_::_=>by simp[x9]
 | _::_,[]=>by simp[x9]
 | t::ts,u::us=>by
  simp![x9,gw ts us,A9];rw[show min (ts.length+1) (us.length+1)=min ts.length us.length+1 by lia,List.range_succ_eq_map,List.all_cons,List.all_map];have:(ts.length+1 == us.length+1)=(ts.length == us.length):=by rw[Bh];simp
  rw[this,Bool.and_assoc];rfl
theorem zi.length {S:SS}:∀ {ts:List T}{ds:List D},zi S ts ds->ts.length=ds.length
 | [],ds,h=>by simp![zi] at h;subst h;rfl
 | t::ts,ds,h=>by
  simp![zi] at h;let#[c,cs,rfl,_,h2]:=h;simp[zi.length h2]
section
variable {X:Cx}{E6:Ai}{Y:St}{H:Hp}{s:Shared}{S:SS}
theorem bQ (I:Inv X E6 Y H s) {a:Addr}{xs ys:List V}(h1:zW X.K H a xs) (h2:zO X.K H a ys):False:=by
 let#[_,_,#[o,e,c,_],_]:=I.tuple h1;let#[_,_,#[o',n,e',c',_],_]:=I.list h2;rw[e] at e';cases e';rw[c] at c'
 injection c' with q
 show absurd q ()
def Sn.uY (p:zE X.K H S) {ts:List T}{d:D}{x:V}(h:Sn S (.lst ts) d) (r:ze X.K H d x):∃ a xs ds,x=.ref a/\zO X.K H a xs/\zk X.K H ds xs/\zi S ts ds:=by
 simp![Sn] at h;obtain⟨ds,⟨h,_⟩ | ⟨a,h,e⟩,h2⟩:=h
 .subst h;simp![ze] at r;let#[a,xs,rfl,g1,g2]:=r;show#[a,xs,ds,rfl,g1.sq,g2,h2]
 .subst h;simp![ze] at r;let#[xs,g1,g2]:=p _ _ e;show#[a,xs,ds,r,zO.of g1,g2,h2]
def Sn.uS {ts:List T}{d:D}{x:V}(h:Sn S (.tup ts) d) (r:ze X.K H d x):∃ a xs ds,x=.ref a/\zW X.K H a xs/\zk X.K H ds xs/\zi S ts ds:=by
 simp![Sn] at h;let#[ds,rfl,h2]:=h;simp![ze] at r;let#[a,xs,rfl,g1,g2]:=r;show#[a,xs,ds,rfl,g1,g2,h2]
def Sn.rh (p:zE X.K H S) {d:D}{x:V}(h:Sn S .yQ d) (r:ze X.K H d x):∃ a vs,x=.ref a/\H a=↑(.dK vs):=by
 simp![Sn] at h;let#[a,Ab,#[rfl,_],e]:=h;simp![ze] at r;let#[xs,g1,g2]:=p _ _ e;show#[a,xs,r,g1]
def b_ (I:Inv X E6 Y H s) {a:Addr}{vs:List (Key×V)}(h:H a=↑(.dK vs)):∃ o,s.heap.get? a=↑o/\o.cls=.type "dict":=by
 let#[_,_,_,_,o,_,_,e,c]:=(show yW X.prog X.w H s.heap a (.dK vs) from I.zp a _ h)
 show#[o,e,c.1.1]
theorem bU (I:Inv X E6 Y H s) {a:Addr}{xs:List V}{vs:List (Key×V)}(h1:zW X.K H a xs) (h2:H a=↑(.dK vs)):False:=by
 let#[_,_,#[o,e,c,_],_]:=I.tuple h1;let#[o',e',c']:=b_ I h2;rw[e] at e';cases e';rw[c] at c'
 injection c' with q
 show absurd q ()
theorem bZ (I:Inv X E6 Y H s) {a:Addr}{xs:List V}{vs:List (Key×V)}(h1:zO X.K H a xs) (h2:H a=↑(.dK vs)):False:=by
 let#[_,_,#[o,n,e,c,_],_]:=I.list h1;let#[o',e',c']:=b_ I h2;rw[e] at e';cases e';rw[c] at c'
 injection c' with q
 show absurd q ()
theorem Sn.flat {t:T}{d:D}{x:V}(h:Sn S t d) (r:ze X.K H d x):match t with
  | .zh=>x=.zh
  | .bl b=>x=.bl b
  | .int i=>x=.int i
  | .str y=>x=.str y
  | _=>True:=by
 cases t <;> first
  | trivial
  | (simp![Sn] at h;subst h;simpa only [ze] using r)
def Sn.tY {c f:Str}{t:T}{d:D}{x:V}(h:Sn S (.err c f t) d) (r:ze X.K H d x):∃ e C dx w y,x=.ref e/\(vU X.K c C/\H e=↑(wF e C dx)/\H dx=↑(.xd [(f,w)]))/\Sn S t y/\ze X.K H y w:=by
 simp![Sn] at h;let#[y,rfl,h]:=h;simp![ze] at r;let#[e,C,dx,w,r1,r2,r3]:=r;show#[e,C,dx,w,y,r1,r2,h,r3]
def lZ (I:Inv X E6 Y H s) {e C dx:Addr}(h:H e=↑(wF e C dx)):∃ oe vs,s.heap.get? e=↑oe/\oe.cls=.ref C/\oe.dict=↑dx/\oe.data=.fields vs:=(show yW X.prog X.w H s.heap e (wF e C dx) from I.zp e _ h).1
def bR (I:Inv X E6 Y H s) {a C dx:Addr}{xs:List V}(h1:zW X.K H a xs) (h2:H a=↑(wF a C dx)):False:=by
 let#[_,_,#[o,e,c,_],_]:=I.tuple h1;let#[o',_,e',c',_]:=lZ I h2;rw[e] at e';cases e';rw[c] at c';cases c'
def bX (I:Inv X E6 Y H s) {a C dx:Addr}{xs:List V}(h1:zO X.K H a xs) (h2:H a=↑(wF a C dx)):False:=by
 let#[_,_,#[o,n,e,c,_],_]:=I.list h1;let#[o',_,e',c',_]:=lZ I h2;rw[e] at e';cases e';rw[c] at c';cases c'
def aa (I:Inv X E6 Y H s) {a C dx:Addr}{vs:List (Key×V)}(h1:H a=↑(.dK vs)) (h2:H a=↑(wF a C dx)):False:=by
 rw[h1] at h2;cases h2
def N0 (I:Inv X E6 Y H s) {e C dx C' dx':Addr}(h1:H e=↑(wF e C dx)) (h2:H e=↑(wF e C' dx')):C=C'/\dx=dx':=by
 let#[o,_,e1,c1,d1,_]:=lZ I h1;let#[o',_,e2,c2,d2,_]:=lZ I h2;rw[e1] at e2;cases e2;rw[c1] at c2;rw[d1] at d2;cases c2;cases d2;show#[rfl,rfl]
def vU.inj {K:Ac}{c c':Str}{C:Addr}(h1:vU K c C) (h2:vU K c' C):c=c':=by
 let#[_,_,_,#[#[#[_,_,_,_,_,_,_,_,_,_,_,_,a],_],_,_,_,_]]:=h1;let#[_,_,_,#[#[#[_,_,_,_,_,_,_,_,_,_,_,_,b],_],_,_,_,_]]:=h2;rw[a] at b;cases b;rfl
mutual
theorem lg (I:Inv X E6 Y H s) (p:zE X.K H S):∀ (t u:T) {d e:D}{x:V},Sn S t d->Sn S u e->ze X.K H d x->ze X.K H e x->t=u
 | .tup ts,u,d,e,x,h1,h2,r1,r2=>by
  let#[a,xs,ds,rfl,g1,g2,g3]:=h1.uS r1;cases u with
  | yQ=>let#[_,_,q,g]:=h2.rh p r2;cases q;show (bU I g1 g).elim
  | err _ _ _=>let#[_,_,_,_,_,q,g,_]:=h2.tY r2;cases q;show (bR I g1 g.2.1).elim
  | tup us=>
   let#[a',Fu,HN,q,k1,k2,k3]:=h2.uS r2;cases q;have:=I.j9 g1 k1;subst this;rw[j7 I p ts us g3 k3 g2 k2]
  | lst us=>
   let#[a',Fu,HN,q,k1,k2,k3]:=h2.uY p r2;cases q;show (bQ I g1 k1).elim
  | _=>show nomatch h2.flat r2
 | .lst ts,u,d,e,x,h1,h2,r1,r2=>by
  let#[a,xs,ds,rfl,g1,g2,g3]:=h1.uY p r1;cases u with
  | yQ=>let#[_,_,q,g]:=h2.rh p r2;cases q;show (bZ I g1 g).elim
  | err _ _ _=>let#[_,_,_,_,_,q,g,_]:=h2.tY r2;cases q;show (bX I g1 g.2.1).elim
  | lst us=>
   let#[a',Fu,HN,q,k1,k2,k3]:=h2.uY p r2;cases q;have:=I.iC g1 k1;subst this;rw[j7 I p ts us g3 k3 g2 k2]
  | tup us=>
   let#[a',Fu,HN,q,k1,k2,k3]:=h2.uS r2;cases q;show (bQ I k1 g1).elim
  | _=>show nomatch h2.flat r2
 | .zh,u,d,e,x,h1,h2,r1,r2=>by
  have q:=h1.flat r1;subst q;cases u with
  | yQ=>let#[_,_,q,g]:=h2.rh p r2;cases q
  | err _ _ _=>let#[_,_,_,_,_,q,_]:=h2.tY r2;cases q
  | zh=>rfl
  | tup us=>let#[_,_,_,q,_]:=h2.uS r2;cases q
  | lst us=>let#[_,_,_,q,_]:=h2.uY p r2;cases q
  | _=>show nomatch h2.flat r2
 | .bl b,u,d,e,x,h1,h2,r1,r2=>by
  have q:=h1.flat r1;subst q;cases u with
  | yQ=>let#[_,_,q,g]:=h2.rh p r2;cases q
  | err _ _ _=>let#[_,_,_,_,_,q,_]:=h2.tY r2;cases q
  | bl _=>have q:=h2.flat r2;cases q;rfl
  | tup us=>let#[_,_,_,q,_]:=h2.uS r2;cases q
  | lst us=>let#[_,_,_,q,_]:=h2.uY p r2;cases q
  | _=>show nomatch h2.flat r2
 | .int b,u,d,e,x,h1,h2,r1,r2=>by
  have q:=h1.flat r1;subst q;cases u with
  | yQ=>let#[_,_,q,g]:=h2.rh p r2;cases q
  | err _ _ _=>let#[_,_,_,_,_,q,_]:=h2.tY r2;cases q
  | int _=>have q:=h2.flat r2;cases q;rfl
  | tup us=>let#[_,_,_,q,_]:=h2.uS r2;cases q
  | lst us=>let#[_,_,_,q,_]:=h2.uY p r2;cases q
  | _=>show nomatch h2.flat r2
 | .str b,u,d,e,x,h1,h2,r1,r2=>by
  have q:=h1.flat r1;subst q;cases u with
  | yQ=>let#[_,_,q,g]:=h2.rh p r2;cases q
  | err _ _ _=>let#[_,_,_,_,_,q,_]:=h2.tY r2;cases q
  | str _=>have q:=h2.flat r2;cases q;rfl
  | tup us=>let#[_,_,_,q,_]:=h2.uS r2;cases q
  | lst us=>let#[_,_,_,q,_]:=h2.uY p r2;cases q
  | _=>show nomatch h2.flat r2
 | .err c f t,u,d,e,x,h1,h2,r1,r2=>by
  let#[a,C,dx,w,y,rfl,#[g1,g2,g3],g4,g5]:=h1.tY r1;cases u with
  | err c' f' t'=>
   let#[a',C',dx',w',y',q,#[k1,k2,k3],k4,k5]:=h2.tY r2;cases q;let#[rfl,rfl]:=N0 I g2 k2;rw[g3] at k3;cases k3;cases g1.inj k1;rw[lg I p t t' g4 k4 g5 k5]
  | yQ=>let#[_,_,q,g]:=h2.rh p r2;cases q;show (aa I g g2).elim
  | tup us=>let#[_,_,_,q,k1,_]:=h2.uS r2;cases q;show (bR I k1 g2).elim
  | lst us=>let#[_,_,_,q,k1,_]:=h2.uY p r2;cases q;show (bX I k1 g2).elim
  | _=>show nomatch h2.flat r2
 | .yQ,u,d,e,x,h1,h2,r1,r2=>by
  let#[a,vs,rfl,g]:=h1.rh p r1;cases u with
  | yQ=>rfl
  | err _ _ _=>let#[_,_,_,_,_,q,g',_]:=h2.tY r2;cases q;show (aa I g g'.2.1).elim
  | tup us=>let#[_,_,_,q,g1,_]:=h2.uS r2;cases q;show (bU I g1 g).elim
  | lst us=>let#[_,_,_,q,g1,_]:=h2.uY p r2;cases q;show (bZ I g1 g).elim
  | _=>show nomatch h2.flat r2
theorem j7 (I:Inv X E6 Y H s) (p:zE X.K H S):∀ (ts us:List T) {ds es:List D}{xs:List V},zi S ts ds->zi S us es->zk X.K H ds xs->zk X.K H es xs->ts=us
 | [],us,ds,es,xs,h1,h2,r1,r2=>by
  have e:=h1.length.trans (r1.length.trans (r2.length.symm.trans h2.length.symm));cases us with
  | nil=>rfl
  | cons _ _=>simp at e
 | t::ts,[],ds,es,xs,h1,h2,r1,r2=>by
  have e:=h1.length.trans (r1.length.trans (r2.length.symm.trans h2.length.symm));simp at e
 | t::ts,u::us,ds,es,xs,h1,h2,r1,r2=>by
  simp![zi] at h1 h2;let#[c,cs,rfl,a1,a2]:=h1;let#[c',cs',rfl,b1,b2]:=h2;simp![zk] at r1 r2;let#[y,ys,rfl,g1,g2]:=r1;let#[y',Jb,q,k1,k2]:=r2;cases q;rw[lg I p t u a1 b1 g1 k1,j7 I p ts us a2 b2 g2 k2]
end
theorem zi.get {ts:List T}{ds:List D}(h:zi S ts ds):∀ {j:Nat},j<ts.length->∃ c,ds[j]?=↑c/\Sn S (ts.getD j .zh) c:=by
 induction ts generalizing ds with
 | nil=>intro j hj;simp at hj
 | cons t ts ih=>
  intro j hj;simp![zi] at h;let#[c,cs,rfl,h1,h2]:=h;cases j with
  | zero=>show#[c,rfl,h1]
  | succ j=>
   let#[c',e,h3]:=ih h2 (j:=j) (by exists hj);show#[c',by simpa using e,by exists h3]
theorem kz:∀ {ts:List T}{j:Nat},j<ts.length->dep (ts.getD j .zh)<=xA ts
 | [],j,h=>by simp at h
 | t::ts,0,_=>by simp![xA,List.getD_cons_zero];lia
 | t::ts,j+1,h=>by
  have:=kz (ts:=ts) (j:=j) (by exists h);simp![xA,List.getD_cons_succ];lia
inductive qF (K:Ac) (H:Hp) (S:SS) (s:Shared):T->Value->Prop
 | zh:qF K H S s .zh .none
 | bl {b:Bool}:qF K H S s (.bl b) (.bool b)
 | int {i:Int}{k:Tok}:qF K H S s (.int i) (.int i k)
 | str {i:Str}{k:Tok}:qF K H S s (.str i) (.str i k)
 | tup {ts:List T}{ds:List D}{xs:List V}{us:Ae}{l:Addr}(g:zi S ts ds) (r:zk K H ds xs) (v:Vals xs us) (h:s.heap.IsTuple l us.toArray):qF K H S s (.tup ts) (.ref l)
 | lst {ts:List T}{ds:List D}{xs:List V}{us:Ae}{l:Addr}(g:zi S ts ds) (r:zk K H ds xs) (v:Vals xs us) (h:s.heap.IsList l us.toArray):qF K H S s (.lst ts) (.ref l)
def d9 (I:Inv X E6 Y H s) (p:zE X.K H S) {t:T}{d:D}{x:V}{a:Value}(h:Sn S t d) (r:ze X.K H d x) (v:RelV x a) (z:dep t<cLine):qF X.K H S s t a:=by
 cases t with
 | zh=>have q:=h.flat r;subst q;cases v;show .zh
 | bl _=>have q:=h.flat r;subst q;cases v;show .bl
 | int _=>have q:=h.flat r;subst q;let#[_,rfl]:=v;show .int
 | str _=>have q:=h.flat r;subst q;let#[_,rfl]:=v;show .str
 | tup _=>let#[l,xs,ds,rfl,g,r,q]:=h.uS r;cases v;let#[_,w,i,_]:=I.tuple g;show .tup q r w i
 | lst _=>let#[l,xs,ds,rfl,g,r,q]:=h.uY p r;cases v;let#[_,w,i,_]:=I.list g;show .lst q r w i.isList
 | _=>simp![dep] at z;lia
abbrev J3 (A:Around) (s:Shared) (a b:Value) (k:Bool):Prop:=SeqAt.EqAt A s a b k/\SeqAt.RcAt A s a b k/\SeqAt.RcNeAt A s a b (!k)
theorem L_ (I:Inv X E6 Y H s) (p:zE X.K H S):∀ (n:Nat) (t u:T) {A:Around}{d e:D}{x y:V}{a b:Value},dep t<n->A.units+dep t<cLine->A.units+dep u<cLine->Sn S t d->Sn S u e->ze X.K H d x->ze X.K H e y->RelV x a->RelV y b->J3 A s a b (eqT t u):=by
 intro n
 induction n with
 | zero=>intros;lia
 | succ n ih=>
  intro t u A d e x y a b hn hu Ib h1 h2 r1 r2 v1 v2;have hq:a=b->t=u:=λ z=>by subst z;have:=v1.inj v2;subst this;show lg I p t u h1 h2 r1 r2
  have c1:=d9 I p h1 r1 v1 ⋯;have c2:=d9 I p h2 r2 v2 ⋯;clear h1 h2 r1 r2 v1 v2;have hA:A.units<cLine:=⋯;have el:∀ {ts us:List T}{ds HN:List D}{xs Fu:List V}{is IT:Ae},1+xA ts<n+1->A.units+(1+xA ts)<cLine->A.units+(1+xA us)<cLine->zi S ts ds->zi S us HN->zk X.K H ds xs->zk X.K H HN Fu->Vals xs is->Vals Fu IT->is.toArray.size=ts.length/\IT.toArray.size=us.length/\
    ∀ (j:Nat) (h1:j<is.toArray.size) (h2:j<IT.toArray.size),SeqAt.EqAt A.in1 s is.toArray[j] IT.toArray[j] (eqT (ts.getD j .zh) (us.getD j .zh)):=by
   intro ts us ds HN xs Fu is IT a1 a2 a3 g1 g2 r1 r2 v1 v2;have e1:is.toArray.size=ts.length:=by rw[AE,<- v1.length,<- r1.length,<- g1.length]
   have e2:IT.toArray.size=us.length:=by rw[AE,<- v2.length,<- r2.length,<- g2.length]
   exact#[e1,e2,λ j h1 h2=>?_];let#[_,k1,s1]:=g1.get (e1▸h1);let#[_,k2,s2]:=g2.get (e2▸h2);let#[_,f1,q1]:=r1.get k1;let#[_,f2,q2]:=r2.get k2;let#[w1,o1,m1]:=v1.get f1;let#[w2,o2,m2]:=v2.get f2;have y1:=kz (e1▸h1);have y2:=kz (e2▸h2);let#[_,z1]:=AX.mp o1;let#[_,z2]:=AX.mp o2;rw[List.getElem_toArray,List.getElem_toArray,z1,z2];show (ih _ _ (A:=A.in1) ⋯ (by change A.units+1+_<_;lia) (by change A.units+1+_<_;lia) s1 s2 q1 q2 m1 m2).1
  have en:∀ {l l':Addr}{ts us:List T},(Value.ref l=.ref l'->ts=us)->SeqAt.RcAt A s (.ref l) (.ref l') (x9 ts us)/\SeqAt.RcNeAt A s (.ref l) (.ref l') (!x9 ts us)->J3 A s (.ref l) (.ref l') (x9 ts us):=λ{l l' ts us} h q=>by
   exact#[?_,q];by_cases z:l=l'
   .subst z;rw[h rfl,kr];show .same _
   .show .of_refs z q.1
  cases c1 <;> cases c2 <;> simp![eqT,CU,CA]
  .show#[.same _,.none_none,.none_none]
  .show#[.none_bool _,.none_bool _,.none_bool _]
  .show#[.none_int _ _,.none_int _ _,.none_int _ _]
  .show#[.none_str _ _,.none_str _ _,.none_str _ _]
  .show#[.none_tuple ‹_› hA,.none_tuple ‹_› hA,.none_tuple ‹_› hA]
  .show#[.none_list ‹_› hA,.none_list ‹_› hA,.none_list ‹_› hA]
  .show#[.bool_none _,.bool_none _,.bool_none _]
  .show#[.bool_bool _ _,.bool_bool _ _,.bool_bool _ _]
  .show#[.bool_int _ _ _,.bool_int _ _ _,.bool_int _ _ _]
  .show#[.bool_str _ _ _,.bool_str _ _ _,.bool_str _ _ _]
  .show#[.bool_tuple _ ‹_› hA,.bool_tuple _ ‹_› hA,.bool_tuple _ ‹_› hA]
  .show#[.bool_list _ ‹_› hA,.bool_list _ ‹_› hA,.bool_list _ ‹_› hA]
  .show#[.int_none _ _,.int_none _ _,.int_none _ _]
  .show#[.int_bool _ _ _,.int_bool _ _ _,.int_bool _ _ _]
  .show#[.int_int _ _ _ _,.int_int _ _ _ _,.int_int _ _ _ _]
  .show#[.int_str _ _ _ _,.int_str _ _ _ _,.int_str _ _ _ _]
  .show#[.int_tuple _ _ ‹_› hA,.int_tuple _ _ ‹_› hA,.int_tuple _ _ ‹_› hA]
  .show#[.int_list _ _ ‹_› hA,.int_list _ _ ‹_› hA,.int_list _ _ ‹_› hA]
  .show#[.str_none _ _,.str_none _ _,.str_none _ _]
  .show#[.str_bool _ _ _,.str_bool _ _ _,.str_bool _ _ _]
  .show#[.str_int _ _ _ _,.str_int _ _ _ _,.str_int _ _ _ _]
  .show#[.str_str _ _ _ _,.str_str _ _ _ _,.str_str _ _ _ _]
  .show#[.str_tuple _ _ ‹_› hA,.str_tuple _ _ ‹_› hA,.str_tuple _ _ ‹_› hA]
  .show#[.str_list _ _ ‹_› hA,.str_list _ _ ‹_› hA,.str_list _ _ ‹_› hA]
  .show#[.tuple_none ‹_› hA,.tuple_none ‹_› hA,.tuple_none ‹_› hA]
  .show#[.tuple_bool _ ‹_› hA,.tuple_bool _ ‹_› hA,.tuple_bool _ ‹_› hA]
  .show#[.tuple_int _ _ ‹_› hA,.tuple_int _ _ ‹_› hA,.tuple_int _ _ ‹_› hA]
  .show#[.tuple_str _ _ ‹_› hA,.tuple_str _ _ ‹_› hA,.tuple_str _ _ ‹_› hA]
  .rename_i g1 r1 v1 k1 _ _ _ _ _ g2 r2 v2 k2;simp![dep] at hn hu Ib;let#[e1,e2,q]:=el hn hu Ib g1 g2 r1 r2 v1 v2;exact en (λ z=>by cases hq z;rfl) ?_;rw[gw,<- e1,<- e2];show#[.tuples k1 k2 hA q,.tuples k1 k2 hA q]
  .show#[.tuple_list ‹_› ‹_› hA,.tuple_list ‹_› ‹_› hA,.tuple_list ‹_› ‹_› hA]
  .show#[.list_none ‹_› hA,.list_none ‹_› hA,.list_none ‹_› hA]
  .show#[.list_bool _ ‹_› hA,.list_bool _ ‹_› hA,.list_bool _ ‹_› hA]
  .show#[.list_int _ _ ‹_› hA,.list_int _ _ ‹_› hA,.list_int _ _ ‹_› hA]
  .show#[.list_str _ _ ‹_› hA,.list_str _ _ ‹_› hA,.list_str _ _ ‹_› hA]
  .show#[.list_tuple ‹_› ‹_› hA,.list_tuple ‹_› ‹_› hA,.list_tuple ‹_› ‹_› hA]
  .rename_i i1 _ g1 r1 v1 k1 _ _ _ i2 _ g2 r2 v2 k2;simp![dep] at hn hu Ib;let#[e1,e2,q]:=el hn hu Ib g1 g2 r1 r2 v1 v2;exact en (λ z=>by cases hq z;rfl) ?_;rw[gw,<- e1,<- e2];by_cases z:i1.toArray.size=i2.toArray.size
   .rw[<- z,Nat.min_self,beq_self_eq_true,Bool.and_true];show#[.lists k1 k2 z hA q,.lists k1 k2 z hA q]
   .rw[beq_eq_false_iff_ne.mpr z,CQ];have z':=bne_iff_ne.mpr z;show#[.lists_lengths k1 k2 z' hA,.lists_lengths k1 k2 z' hA]
def fj (I:Inv X E6 Y H s) (p:zE X.K H S) (t u:T) {A:Around}{d e:D}{x y:V}{a b:Value}(hu:A.units+dep t<cLine) (Ib:A.units+dep u<cLine) (h1:Sn S t d) (h2:Sn S u e) (r1:ze X.K H d x) (r2:ze X.K H e y) (v1:RelV x a) (v2:RelV y b):J3 A s a b (eqT t u):=L_ I p _ t u (Cy _) hu Ib h1 h2 r1 r2 v1 v2
end
def jV (K:Ac) (neg:Bool):R2:=λ x y H Q=>∃ S d e t u,ze K H d x/\ze K H e y/\zE K H S/\Sn S t d/\Sn S u e/\dep t<=60/\dep u<=60/\Q (.bl (cond neg (!eqT t u) (eqT t u))) H
def vp (neg:Bool):yF:=λ x y S Q=>∃ t u,Sn S t x/\Sn S u y/\dep t<=60/\dep u<=60/\Q (.bl (cond neg (!eqT t u) (eqT t u))) S
def vp.mo {neg:Bool}:xw (vp neg):=λ _ _ _ _ _ hq #[t,u,a,b,c,d,h]=>#[t,u,a,b,c,d,hq _ _ h]
def vp.fits {K:Ac}{neg:Bool}:xi K (vp neg) (jV K neg):=λ x y d e H S Q h1 h2 h3 #[t,u,a,b,c,c',h]=>#[S,d,e,t,u,h1,h2,h3,a,b,c,c',h _ H (by simp![ze]) (.refl H) h3]
section
variable {X:Cx}{a b:Expr}{ta tb:zr}{pos:Pos}
theorem cT (hu:X.A.units+64<cLine):zY X (compareOp .Eq) (jV X.K false):=by
 intro E6 s Y H x y v u Q I rx ry h;let#[S,d,e,t,u',a1,a2,a3,a4,a5,a6,a7,q]:=h;show (fj I a3 t u' (A:=X.A) ⋯ ⋯ a4 a5 a1 a2 rx ry).2.1 X.prog X.w X.xe _ #[.bl _,H,I,rfl,q]
theorem R4 (hu:X.A.units+64<cLine):zY X (compareOp .NotEq) (jV X.K true):=by
 intro E6 s Y H x y v u Q I rx ry h;let#[S,d,e,t,u',a1,a2,a3,a4,a5,a6,a7,q]:=h;show (fj I a3 t u' (A:=X.A) ⋯ ⋯ a4 a5 a1 a2 rx ry).2.2 X.prog X.w X.xe _ #[.bl _,H,I,rfl,q]
def Rh {k:Nat}(hr:zX k X.A) (ha:PD X a ta) (hb:PD X b tb):PD X (.Compare a [.Eq] [b] pos) (yr (vp false) ta tb):=oY (cT hr.units) vp.fits vp.mo ha hb (vA _)
def Th {k:Nat}(hr:zX k X.A) (ha:PD X a ta) (hb:PD X b tb):xb X (.Compare a [.Eq] [b] pos) (wO (yr (vp false) ta tb)):=tN (cT hr.units) vp.fits vp.mo ha hb (vA _)
def U_ {k:Nat}(hr:zX k X.A) (ha:PD X a ta) (hb:PD X b tb):xb X (.Compare a [.NotEq] [b] pos) (wO (yr (vp true) ta tb)):=tN (R4 hr.units) vp.fits vp.mo ha hb (vA _)
def d_ (K:Ac) (neg:Bool):R2:=λ x y H Q=>∃ S d e u ts ds,ze K H d x/\ze K H e y/\zE K H S/\Sn S u d/\zM e S=↑ds/\zi S ts ds/\dep u<=60/\xA ts<=60/\Q (.bl (cond neg (!(ts.any λ t=>eqT t u)) (ts.any λ t=>eqT t u))) H
def sZ (neg:Bool):yF:=λ x y S Q=>∃ u ts ds,Sn S u x/\zM y S=↑ds/\zi S ts ds/\dep u<=60/\xA ts<=60/\Q (.bl (cond neg (!(ts.any λ t=>eqT t u)) (ts.any λ t=>eqT t u))) S
def sZ.mo {neg:Bool}:xw (sZ neg):=λ _ _ _ _ _ hq #[u,ts,ds,a,b,c,d,e,h]=>#[u,ts,ds,a,b,c,d,e,hq _ _ h]
def sZ.fits {K:Ac}{neg:Bool}:xi K (sZ neg) (d_ K neg):=λ x y d e H S Q h1 h2 h3 #[u,ts,ds,a,b,c,c',c2,h]=>#[S,d,e,u,ts,ds,h1,h2,h3,a,b,c,c',c2,h _ H (by simp![ze]) (.refl H) h3]
open Classical in
def t9 (Aa:Ae) (ts:List T) (u:T) (v:Value):Bool:=if h:∃ j,Aa[j]?=↑v then eqT (ts.getD (Classical.choose h) .zh) u else false
def fh {E6:Ai}{Y:St}{H:Hp}{s:Shared}{S:SS}(I:Inv X E6 Y H s) (p:zE X.K H S) {ts:List T}{ds:List D}{xs:List V}{Aa:Ae}(h1:zi S ts ds) (h2:zk X.K H ds xs) (h3:Vals xs Aa) (u:T) {j:Nat}{v:Value}(hj:Aa[j]?=↑v):
  t9 Aa ts u v=eqT (ts.getD j .zh) u:=by
 have h:∃ j,Aa[j]?=↑v:=#[j,hj];unfold t9;rw[dif_pos h];have hc:=Classical.choose_spec h;have lt:∀ i,Aa[i]?=↑v->i<ts.length:=λ i hi=>by
  rw[h1.length,h2.length,h3.length];show (AX.mp hi).1
 let#[c1,e1,s1]:=h1.get (lt _ hc);let#[c2,e2,s2]:=h1.get (lt _ hj);let#[x1,f1,r1]:=h2.get e1;let#[x2,f2,r2]:=h2.get e2;let#[v1,g1,q1]:=h3.get f1;let#[v2,g2,q2]:=h3.get f2;rw[hc] at g1;cases g1;rw[hj] at g2;cases g2;have hx:=q1.inj q2;subst hx;rw[lg I p _ _ s1 s2 r1 r2]
theorem Ya {E6:Ai}{Y:St}{H:Hp}{s:Shared}{S:SS}(I:Inv X E6 Y H s) (p:zE X.K H S) {ts:List T}{ds:List D}{xs:List V}{Aa:Ae}(h1:zi S ts ds) (h2:zk X.K H ds xs) (h3:Vals xs Aa) (u:T):Aa.any (t9 Aa ts u)=ts.any λ t=>eqT t u:=by
 have hl:ts.length=Aa.length:=by rw[h1.length,h2.length,h3.length]
 rw[Bh,A8,A8];constructor
 .rintro⟨v,hv,h⟩;let#[j,hj,rfl]:=B8.mp hv;rw[fh I p h1 h2 h3 u (j:=j) (by simp[hj])] at h;have Hg:j<ts.length:=⋯;show#[ts[j],Bp Hg,by simpa [Hg] using h]
 .rintro⟨t,ht,h⟩;let#[j,hj,rfl]:=B8.mp ht;have Hg:j<Aa.length:=⋯;show#[Aa[j],Bp Hg,by rw[fh I p h1 h2 h3 u (j:=j) (by simp[Hg])];simpa [hj] using h]
def Yb {E6:Ai}{Y:St}{H:Hp}{s:Shared}{S:SS}(I:Inv X E6 Y H s) (p:zE X.K H S) {ts:List T}{ds:List D}{xs:List V}{Aa:Ae}(h1:zi S ts ds) (h2:zk X.K H ds xs) (h3:Vals xs Aa) {u:T}{d:D}{x:V}{v:Value}(hu:Sn S u d) (hd:ze X.K H d x) (hx:RelV x v) {A:Around}(b1:A.units+xA ts<cLine) (b2:A.units+dep u<cLine) {y:Value}(hy:y∈Aa):
  SeqAt.EqAt A s y v (t9 Aa ts u y):=by
 let#[j,hj,rfl]:=B8.mp hy;have hjt:j<ts.length:=by rw[h1.length,h2.length,h3.length];show hj
 rw[fh I p h1 h2 h3 u (j:=j) (by simp[hj])];let#[c1,e1,s1]:=h1.get hjt;let#[x1,f1,r1]:=h2.get e1;let#[v1,g1,q1]:=h3.get f1;have:Aa[j]=v1:=by
  have:=AX.mp g1;show this.2
 rw[this];have:=kz hjt;show (fj I p _ u (A:=A) ⋯ b2 s1 hu r1 hd q1 hx).1
theorem RB (hu:X.A.units+64<cLine):zY X (compareOp .In) (d_ X.K false):=by
 intro E6 s Y H x y v w Q I rx ry h;let#[S,d,e,u,ts,ds,a1,a2,a3,a4,a5,a6,a7,a8,q]:=h;let#[l,xs,rfl,g1,g2]:=zM.sq a2 a3 a5;cases ry;rcases g1 with g1 | g1
 .let#[Aa,w1,pl,_]:=I.list g1;exact SeqAt.in_listAt (t9 Aa ts u) pl.isList (λ y hy=>Yb I a3 a6 g2 w1 a4 a1 rx (A:=X.A.in1) (by change X.A.units+1+_<_;lia) (by change X.A.units+1+_<_;lia) (by exists hy)) #[.bl _,H,I,rfl,?_];rw[show Aa.toArray.any (t9 Aa ts u)=Aa.any (t9 Aa ts u) by simp,Ya I a3 a6 g2 w1];show q
 .let#[Aa,w1,pt,_]:=I.tuple g1;exact SeqAt.in_tupleAt (t9 Aa ts u) pt (λ y hy=>Yb I a3 a6 g2 w1 a4 a1 rx (A:=X.A.in1) (by change X.A.units+1+_<_;lia) (by change X.A.units+1+_<_;lia) (by exists hy)) #[.bl _,H,I,rfl,?_];rw[show Aa.toArray.any (t9 Aa ts u)=Aa.any (t9 Aa ts u) by simp,Ya I a3 a6 g2 w1];show q
def Te {k:Nat}(hr:zX k X.A) (ha:PD X a ta) (hb:PD X b tb) (hm:behindInMarks .In b=false):xb X (.Compare a [.In] [b] pos) (wO (yr (sZ false) ta tb)):=tN (RB hr.units) sZ.fits sZ.mo ha hb hm
end
end L3
namespace L2
open PySem PySem.Spec PyProof.Rows
section
variable {κ:Type}[DecidableEq κ]
def wo (Ab:List (κ × V)) (k:κ):Option V:=(Ab.find? λ kv=>decide (kv.1=k)).map (·.2)
def putK (Ab:List (κ × V)) (k:κ) (v:V):List (κ × V):=
 if (Ab.any λ kv=>decide (kv.1=k))=true then Ab.map (λ kv=>if kv.1=k then (kv.1,v) else kv) else Ab++[(k,v)]
def j5 {p:κ × V}{r:List (κ × V)}{k:κ}(e:p.1=k):wo (p::r) k=↑p.2:=by simp[wo,Cs,e]
def j6 {p:κ × V}{r:List (κ × V)}{k:κ}(e:¬ p.1=k):wo (p::r) k=wo r k:=by simp[wo,Cs,e]
theorem eK (k:κ):∀ Ab:List (κ × V),(Ab.any λ kv=>decide (kv.1=k))=(wo Ab k).isSome
 | []=>rfl
 | p::r=>by
  rw[BE];by_cases e:p.1=k
  .simp![j5 e,zaA e,Bool.true_or,Option.isSome_some]
  .rw[j6 e,za5 e,Bool.false_or];show eK k r
def b8 (Ab:List (κ × V)) (k:κ) (v:V):(putK Ab k v).length<=Ab.length+1:=by
 unfold putK;split
 .rw[AN];lia
 .rw[Cb,A9,B9];lia
def vQ.Nt {o:Option V}{u:Option Value}(r:vQ o u):o.isSome=u.isSome:=by
 cases o with
 | none=>cases u with
  | none=>rfl
  | some _=>show (show False from r).elim
 | some _=>cases u with
  | none=>show (show False from r).elim
  | some _=>rfl
theorem vQ.getD {o:Option V}{u:Option Value}{d:V}{d':Value}(r:vQ o u) (rd:RelV d d'):RelV (o.getD d) (u.getD d'):=by
 cases o with
 | none=>cases u with
  | none=>show rd
  | some _=>show (show False from r).elim
 | some _=>cases u with
  | none=>show (show False from r).elim
  | some _=>show r
def KV.val {Ab:List (κ × V)}{vs:List (κ × Value)}(r:KV Ab vs) (k:κ):vQ (wo Ab k) (valueAt vs k):=by
 unfold KV at r
 induction r with
 | nil=>show True.intro
 | @cons p q ps qs h t ih=>
  let#[h1,h2]:=h;by_cases e:p.1=k
  .have e':q.1=k:=h1.symm.trans e;have b:valueAt (q::qs) k=↑q.2:=by simp[valueAt,Cs,e']
   rw[j5 e,b];show h2
  .have e':¬ q.1=k:=λ z=>e (h1.trans z);have b:valueAt (q::qs) k=valueAt qs k:=by simp[valueAt,Cs,e']
   rw[j6 e,b];show ih
theorem KV.any {Ab:List (κ × V)}{vs:List (κ × Value)}(r:KV Ab vs) (k:κ):(Ab.any λ kv=>decide (kv.1=k))=vs.any λ kv=>decide (kv.1=k):=by
 unfold KV at r
 induction r with
 | nil=>rfl
 | cons h t ih=>rw[BE,BE,ih,h.1]
def KV.uU {Ab:List (κ × V)}{vs:List (κ × Value)}(r:KV Ab vs) (k:κ) {y:V}{u:Value}(ry:RelV y u):
  KV (Ab.map λ kv=>if kv.1=k then (kv.1,y) else kv) (vs.map λ kv=>if kv.1=k then (kv.1,u) else kv):=by
 unfold KV at r ⊢
 induction r with
 | nil=>show .nil
 | @cons p q ps qs h t ih=>
  rw[Ax,Ax];exact .cons ?_ ih;let#[h1,h2]:=h;by_cases e:p.1=k
  .rw[if_pos e,if_pos (h1.symm.trans e)];show#[h1,ry]
  .rw[if_neg e,if_neg (λ z=>e (h1.trans z))];show#[h1,h2]
def KV.put {Ab:List (κ × V)}{vs:List (κ × Value)}(r:KV Ab vs) (k:κ) {y:V}{u:Value}(ry:RelV y u):KV (putK Ab k y) (stored vs k u):=by
 unfold putK stored;rw[r.any k];by_cases e:(vs.any λ kv=>decide (kv.1=k))=true
 .rw[if_pos e,if_pos e];show r.uU k ry
 .rw[if_neg e,if_neg e];show Paired.snoc r #[rfl,ry]
theorem KV.length {Ab:List (κ × V)}{vs:List (κ × Value)}(r:KV Ab vs):Ab.length=vs.length:=Paired.length r
end
def lX {P:Program}{w:World}{k:Key}{u:Value}(r:RelV (kV k) u):(wK P w).is k u=true:=by
 cases k with
 | inl i=>let#[t,e]:=(show ∃ t,u=Value.int i t from r);subst e;show O1 P w i t
 | inr x=>let#[t,e]:=(show ∃ t,u=Value.str x t from r);subst e;show O0 P w x t
theorem bK {P:Program}{w:World}:∀ {ks:List Key}{us:Ae},Vals (ks.map kV) us->ItemsAre (wK P w) ks us
 | [],_,r=>by rw[Bi] at r;cases r;show .nil
 | k::ks,_,r=>by
  rw[Ax] at r;cases r with
  | cons h t=>show .cons (lX h) (bK t)
abbrev KT (H:Hp):List (List Key×V)->List (List Key×Addr×Value)->Prop:=Paired λ p q=>p.1=q.1/\H q.2.1=↑(.tup (p.1.map kV))/\RelV p.2 q.2.2
def KT.val {H:Hp}{Ab:List (List Key×V)}{xs:List (List Key×Addr×Value)}(r:KT H Ab xs) (k:List Key):vQ (wo Ab k) ((atKey xs k).map (·.2)):=by
 induction r with
 | nil=>show True.intro
 | @cons p q ps qs h t ih=>
  let#[h1,_,h2]:=h;by_cases e:p.1=k
  .have e':q.1=k:=h1.symm.trans e;have b:atKey (q::qs) k=↑q.2:=by simp[atKey,Cs,e']
   rw[j5 e,b];show h2
  .have e':¬ q.1=k:=λ z=>e (h1.trans z);have b:atKey (q::qs) k=atKey qs k:=by simp[atKey,Cs,e']
   rw[j6 e,b];show ih
def KT.uU {H:Hp}{Ab:List (List Key×V)}{xs:List (List Key×Addr×Value)}(r:KT H Ab xs) (k:List Key) {y:V}{u:Value}(ry:RelV y u):
  KT H (Ab.map λ kv=>if kv.1=k then (kv.1,y) else kv) (xs.map (putAt k u)):=by
 induction r with
 | nil=>show .nil
 | @cons p q ps qs h t ih=>
  rw[Ax,Ax];exact .cons ?_ ih;let#[h1,h2,h3]:=h;unfold putAt;by_cases e:p.1=k
  .rw[if_pos e,if_pos (h1.symm.trans e)];show#[h1,h2,ry]
  .rw[if_neg e,if_neg (λ z=>e (h1.trans z))];show#[h1,h2,h3]
def KT.put {H:Hp}{Ab:List (List Key×V)}{xs:List (List Key×Addr×Value)}(r:KT H Ab xs) (k:List Key) {b:Addr}{y:V}{u:Value}(hb:H b=↑(.tup (k.map kV))) (ry:RelV y u):
  KT H (putK Ab k y) (storedH xs k b u):=by
 have e:(Ab.any λ kv=>decide (kv.1=k))=(atKey xs k).isSome:=by
  rw[eK,(r.val k).Nt,Option.isSome_map]
 unfold putK storedH;rw[e];by_cases q:(atKey xs k).isSome=true
 .rw[if_pos q,if_pos q];show r.uU k ry
 .rw[if_neg q,if_neg q];show Paired.snoc r #[rfl,hb,ry]
def KT.keeps {H H':Hp}{Ab:List (List Key×V)}{xs:List (List Key×Addr×Value)}(r:KT H Ab xs) (ht:∀ b ys,H b=↑(.tup ys)->H' b=↑(.tup ys)):KT H' Ab xs:=
 Paired.lS r λ _ _ z=>#[z.1,ht _ _ z.2.1,z.2.2]
section
variable {P:Program}{w:World}{H:Hp}{h:Heap}{a:Addr}
def dQ {u:HO}(ok:yd P w H h) (e:Rd H a u):yW P w H h a u:=e.ok ok
def pT {Ab:List (Key×V)}(ok:yd P w H h) (e:Rd H a (.dK Ab)):Ab.length<=sizeLine/\(a == sysModules)=false/\∃ vs,KV Ab vs/\h.DictOf (wK P w) a vs:=
 show yW P w H h a (.dK Ab) from dQ ok e
def MG {Ab:List (Key×V)}(ok:yd P w H h) (e:H a=↑(.dK Ab)):Ab.length<=sizeLine/\(a == sysModules)=false/\∃ vs,KV Ab vs/\h.DictOf (wK P w) a vs:=pT ok (.inl e)
def lV {ks:List Key}(ok:yd P w H h) (e:H a=↑(.tup (ks.map kV))):(tupleKind (wK P w)).is h ks a:=by
 let#[_,Aa,r,o,h1,h2,n,h3]:=(show yW P w H h a (.tup (ks.map kV)) from ok a _ e)
 show#[o,Aa.toArray,n,h1,h2,h3,by exists bK r]
def nR {Ab:List (List Key×V)}(ok:yd P w H h) (e:Rd H a (.dT Ab)):Ab.length<=sizeLine/\(a == sysModules)=false/\
  ∃ xs,KT H Ab xs/\h.DictOfH (tupleKind (wK P w)) a xs:=by
 let#[z,y,xs,r,o,es,ep,h1,h2,h3,h4,h5]:=(show yW P w H h a (.dT Ab) from dQ ok e)
 exact#[z,y,xs,r,o,es,ep,h1,h2,h3,h4,λ x hx=>?_,h5];have all:∀ {l:List (List Key×V)}{m:List (List Key×Addr×Value)},KT H l m->∀ x∈m,(tupleKind (wK P w)).is h x.1 x.2.1:=by
  intro l m q
  induction q with
  | nil=>intro x hx;show nomatch hx
  | @cons p q ps qs hq t ih=>
   intro x hx;rcases Am.mp hx with e | hx
   .subst e;show lV ok (by rw[<- hq.1];show hq.2.1)
   .show ih x hx
 show all r x hx
def MB {Ab:List (List Key×V)}(ok:yd P w H h) (e:H a=↑(.dT Ab)):Ab.length<=sizeLine/\(a == sysModules)=false/\
  ∃ xs,KT H Ab xs/\h.DictOfH (tupleKind (wK P w)) a xs:=nR ok (.inl e)
end
def sH (H:Hp) (a:Addr) (y:V) (r:Option V):Prop:=
 (∃ Ab k,Rd H a (.dK Ab)/\y=kV k/\r=wo Ab k)\/∃ Ab k b,Rd H a (.dT Ab)/\y=.ref b/\H b=↑(.tup (k.map kV))/\r=wo Ab k
def mS (H:Hp) (a:Addr) (y v:V) (H':Hp):Prop:=
 (∃ Ab k,H a=↑(.dK Ab)/\y=kV k/\Ab.length<sizeLine/\H'=upd H a (.dK (putK Ab k v)))\/
 ∃ Ab k b,H a=↑(.dT Ab)/\y=.ref b/\H b=↑(.tup (k.map kV))/\Ab.length<sizeLine/\H'=upd H a (.dT (putK Ab k v))
theorem sH.k {H:Hp}{a:Addr}{Ab:List (Key×V)}{k:Key}(e:H a=↑(.dK Ab)):sH H a (kV k) (wo Ab k):=.inl #[Ab,k,.inl e,rfl,rfl]
theorem mS.k {H:Hp}{a:Addr}{Ab:List (Key×V)}{k:Key}{v:V}(e:H a=↑(.dK Ab)) (hl:Ab.length<sizeLine):mS H a (kV k) v (upd H a (.dK (putK Ab k v))):=.inl #[Ab,k,e,rfl,hl,rfl]
section
variable {X:Cx}{E6:Ai}{Y:St}{H:Hp}{s:Shared}{a:Addr}{y v:V}{u r:Value}{o:Option V}{A:Around}{E:Af}
theorem Inv.big (I:Inv X E6 Y H s):sysModules<s.heap.objs.size:=by
 have h:mainGlobals<s.heap.objs.size:=(I.mod.glob.keeps I.bk).lt;show Dg () h
def MQ {Q:Af}(hu:A.units+1<cLine) (I:Inv X E6 Y H s) (g:sH H a y ↑v) (ry:RelV y u) (h:∀ w' s',Inv X E6 Y H s'->RelV v w'->Q w' s'):
  wpAny (model X.prog X.w) A (getItem (.ref a) u) Q E s:=by
 rcases g with ⟨Ab,k,e,ey,l⟩ | ⟨Ab,k,b,e,ey,eb,l⟩
 .subst ey;let#[z,hd,vs,rel,dd]:=pT I.zp e;let#[w',hw,Hz]:=vQ.some_of (v:=v) (o:=valueAt vs k) (by rw[l];show rel.val k);show wpAny_getItem_of (lX ry) dd.mapOf hw (h w' _ (I.tok _) Hz)
 .subst ey;cases (show u=Value.ref b from ry);let#[z,hd,xs,rel,dd]:=nR I.zp e;let#[w',hw,Hz]:=vQ.some_of (v:=v) (o:=(atKey xs k).map (·.2)) (by rw[l];show rel.val k);let#[p,hp,pN]:=AK.mp hw;exact wpAny_getItem_heap (tupleKind_room_in1 hu) (lV I.zp eb) dd hp ?_;rw[pN];show h w' _ (I.tok _) Hz
def Zg {h':Heap}{t':Nat}{ob:HO}(I:Inv X E6 Y H s) (mu:m9 (H a)) (hs:Heap.SameBut a s.heap h') (he:∃ q,h'.get? a=↑q) (new:yW X.prog X.w (upd H a ob) h' a ob):
  Inv X E6 Y (upd H a ob) { s with heap:=h',toks:=t' }:=
 I.write (x:=a) (e:=a) mu (.inl rfl) (λ b q hb z=>(hs.2 b hb).trans z) he new
def MH {P:Program}{w:World}{H':Hp}{h':Heap}{Ab:List (Key×V)}{vs:List (Key×Value)}(z:Ab.length<=sizeLine) (hd:(a == sysModules)=false) (rel:KV Ab vs) (dd:h'.DictOf (wK P w) a vs):
  yW P w H' h' a (.dK Ab):=#[z,hd,vs,rel,dd]
def MO {H':Hp}{Q:Unit->Shared->Prop}(hu:A.units+1<cLine) (I:Inv X E6 Y H s) (g:mS H a y v H') (ry:RelV y u) (rv:RelV v r) (h:∀ s',Inv X E6 Y H' s'->Q Unit.unit s'):
  wpAny (model X.prog X.w) A (setItem (.ref a) u r) Q E s:=by
 rcases g with ⟨Ab,k,e,ey,l,eH⟩ | ⟨Ab,k,b,e,ey,eb,l,eH⟩
 .subst ey eH;let#[z,hd,vs,rel,dd]:=MG I.zp e;have hz:vs.length<=sizeLine:=by rw[<- rel.length];show z
  have hl:(putK Ab k v).length<=sizeLine:=by have:=b8 Ab k v;lia
  exact wpAny_setItem_pairs (hsz:=hz) (lX ry) dd λ h' Hw hs=>h _ ?_;have he:∃ q,h'.get? a=↑q:=let #[q,_,_,hq,_]:=Hw;#[q,hq]
  show Zg I (by rw[e];show True.intro) hs he (MH hl hd (rel.put k rv) Hw)
 .subst ey eH;cases (show u=Value.ref b from ry);let#[z,hd,xs,rel,dd]:=MB I.zp e;have hz:xs.length<=sizeLine:=by rw[<- Paired.length rel];show z
  have hl:(putK Ab k v).length<=sizeLine:=by have:=b8 Ab k v;lia
  exact wpAny_setItem_heap (hsz:=hz) (tupleKind_room_in1 hu) (lV I.zp eb) dd λ h' Hw hs=>h _ ?_;let#[q,es,ep,hq,h2,h3,h4,_,h5]:=Hw;exact Zg I (by rw[e];show True.intro) hs #[q,hq] #[hl,hd,_,(rel.put k eb rv).keeps λ c ys ec=>?_,q,es,ep,hq,h2,h3,h4,h5];rw[zI (uf ec e (λ z=>nomatch z))];show ec
end
section
variable {X:Cx}{E6:Ai}{Y:St}{H:Hp}{s:Shared}{a:Addr}{Ab:List (Key×V)}{A:Around}{E:Af}
theorem MP {Q:Af}(I:Inv X E6 Y H s) (e:Rd H a (.dK Ab)) (h:∀ t s',Inv X E6 Y H s'->Q (.int Ab.length t) s'):wpAny (model X.prog X.w) A (call (.builtin "len") [.ref a]) Q E s:=by
 let#[z,hd,vs,rel,dd]:=pT I.zp e;exact call_len_dict hd dd (by rw[<- rel.length];rw[sizeLine_eq] at z;lia) ?_;rw[<- rel.length];show h _ _ (I.tok _)
end
def fA (i:Expr):Prop:=∀ ov iv,subscripted i false ov iv=operate [ov,iv] (getItem ov iv)
def WY {prog:Program}{w:World}{A:Around}{E:Af}{s:Shared}{env:Env}{value slice:Expr}{pos:Pos}{T id:String}{Q:Af}
  (hl:typeLookup (.type T) "__getitem__"=pure ↑(.builtin id)) (hs:fA slice)
  (h:wpAny (model prog w) A (eval value env) (λ o s₁=>wpAny (model prog w) A (eval slice env) (λ i s₂=>s₂.TypeIs o T/\wpAny (model prog w) A (getItem o i) Q E s₂) E s₁) E s):
  wpAny (model prog w) A (eval (.Subscript value slice pos) env) Q E s:=by
 exact Subscript_ (za3 h (λ o s₁ h₁=>za3 h₁ (λ i s₂ h₂=>?_) λ _ _ x=>x) λ _ _ x=>x);let#[hT,h₂]:=h₂;unfold subscriptTail;exact KW ?_;rw[getitemInPython_of_ne hT.not_modules];exact KW (wpAny_specialOf hT hl ?_);have fin:wpAny (model prog w) A (subscripted slice false o i) (λ r s₃=>wpAny (model prog w) A (letTemporaryGo value o r >>= λ _=>pure r) Q E s₃) E s₂:=by
  rw[hs o i];show wpAny_operating (za3 h₂ (λ r s₃ h₃=>KW (wpAny_letTemporaryGo (Ad h₃))) λ _ _ x=>x)
 first
  | show Ad (KW fin)
  | show KW (Ad (KW fin))
  | show KW fin
def MJ {X:Cx}{E6:Ai}{Y:St}{H:Hp}{s:Shared}{a:Addr}{y:V}{o:Option V}(I:Inv X E6 Y H s) (g:sH H a y o):s.TypeIs (.ref a) "dict":=by
 rcases g with ⟨Ab,k,e,_,_⟩ | ⟨Ab,k,b,e,_,_,_⟩
 .let#[_,_,vs,_,dd]:=pT I.zp e;show dd.typeIs
 .let#[_,_,xs,_,dd]:=nR I.zp e;show dd.typeIs
def WT (td ty:TE):TE:=fun Y H Q=>td Y H λ x H1=>ty Y H1 λ y H2=>∃ a v,x=.ref a/\sH H2 a y ↑v/\Q v H2
def Vv (td ty tv:TE):TS:=λ D Y H=>tv Y H λ v H1=>td Y H1 λ x H2=>ty Y H2 λ y H3=>∃ a H4,x=.ref a/\mS H3 a y v H4/\D.nx Y H4
section
variable {X:Cx}{o i value:Expr}{pos pos':Pos}{td ty tv:TE}
def UH (hu:X.A.units+1<cLine) (ho:PE X o td) (hi:PE X i ty) (hs:fA i):PE X (.Subscript o i pos) (WT td ty):=by
 intro E6 s Y H Q I h;exact WY PySem.F.slot_dict_getitem.lookup hs (zu (ho E6 s Y H _ I h) λ u s1 #[x,H1,I1,rx,q1]=>zu (hi E6 s1 Y H1 _ I1 q1) λ iv s2 #[y,H2,I2,ry,a,v,ex,g,q2]=>?_);subst ex;obtain rfl:u=Value.ref a:=rx;show#[MJ I2 g,MQ hu I2 g ry λ w' s3 I3 Hz=>#[v,H2,I3,Hz,q2]]
def VZ (hu:X.A.units+1<cLine) (ho:PE X o td) (hi:PE X i ty) (hv:PE X value tv) (hs:swapsWith value ↑(.Subscript o i pos') pos.line X.env=pure false):
  PS X (.Assign [.Subscript o i pos'] value pos) (Vv td ty tv):=by
 intro E6 s Y H D I h;exact wpAny_Assign_Subscript (zu (hv E6 s Y H _ I h) λ r s1 #[v,H1,I1,rv,q1]=>zu (ho E6 s1 Y H1 _ I1 q1) λ u s2 #[x,H2,I2,rx,q2]=>zu (hi E6 s2 Y H2 _ I2 q2) λ iv s3 #[y,H3,I3,ry,a,H4,ex,g,q3]=>?_) hs;subst ex;obtain rfl:u=Value.ref a:=rx;show MO hu I3 g ry rv λ s4 I4=>#[Y,H4,I4,q3]
end
def MI {P:Program}{w:World}{H:Hp}(h:Heap) (hb:sysModules<h.objs.size):yW P w H (h.push { cls:=.type "dict",data:=.dict [].toArray }) h.objs.size (.dK []):=
 #[A0 _,beq_eq_false_iff_ne.mpr (Ne.symm (AB hb)),[],.nil,Heap.DictOf.new h]
def WQ:TE:=λ _ H Q=>∀ p,H p=none->Q (.ref p) (upd H p (.dK []))
section
variable {X:Cx}{pos:Pos}
def UE:PE X (.Dict [] [] pos) WQ:=λ E6 s Y H Q I h=>
 wpAny_Dict_empty #[.ref s.heap.objs.size,_,I.laid (a:=s.heap.objs.size) (o:=.dK []) (t':=s.toks) (λ _ _ q=>gV _ q) (Ak _) (MI s.heap I.big),rfl,h _ (I.zp.fresh (Ak _))]
end
structure M2 (X:Cx) (o:Expr) (m:Str) (apos:Pos) (e f:Expr) (Aj:Pos):Prop where
 base:attributeBase o m X.env (eval o X.env)=eval o X.env
 nI:((backTo Aj (starEach [e,f] X.env)).all (λ x=>!x.1)&&(backToKw Aj (keywordEach [] X.env)).all (λ x=>x.1.isSome)
  && decide (([e,f]:List Expr).length+([]:List Keyword).length+(if ([]:List Keyword).isEmpty then 0 else 1)<30))=true
 line:(apos.endLine == Aj.line)=true
 trees:backTo Aj (starEach [e,f] X.env)=[(false,eval e X.env),(false,eval f X.env)]
def Ys (H:Hp) (a:Addr):Prop:=(∃ Ab,Rd H a (.dK Ab))\/∃ Ab,Rd H a (.dT Ab)
def Nw {X:Cx}{E6:Ai}{Y:St}{H:Hp}{s:Shared}{a:Addr}(I:Inv X E6 Y H s) (d:Ys H a):
  s.TypeIs (.ref a) "dict"/\(∀ b,Value.ref a=.ref b->∃ ob,s.heap.get? b=↑ob/\ob.dict=none)/\(a == sysModules)=false:=by
 rcases d with ⟨Ab,e⟩ | ⟨Ab,e⟩
 .let#[_,hd,vs,_,dd]:=pT I.zp e;exact#[dd.typeIs,λ b q=>?_,hd];cases q;let#[ob,_,_,h1,h2,_]:=dd;show#[ob,h1,h2.2.1]
 .let#[_,hd,xs,_,dd]:=nR I.zp e;exact#[dd.typeIs,λ b q=>?_,hd];cases q;let#[ob,_,_,h1,h2,_]:=dd;show#[ob,h1,h2.2.1]
section
variable {X:Cx}{E6:Ai}{Y:St}{H:Hp}{s:Shared}{a:Addr}{y d:V}{u r:Value}{o:Option V}{A:Around}{E:Af}
def MR {Q:Af}(hu:A.units+1<cLine) (I:Inv X E6 Y H s) (g:sH H a y o) (ry:RelV y u) (rd:RelV d r) (h:∀ w' s',Inv X E6 Y H s'->RelV (o.getD d) w'->Q w' s'):
  wpAny (model X.prog X.w) A (call (.builtin "dict.get") [.ref a,u,r]) Q E s:=by
 rcases g with ⟨Ab,k,e,ey,l⟩ | ⟨Ab,k,b,e,ey,eb,l⟩
 .subst ey;let#[z,hd,vs,rel,dd]:=pT I.zp e;exact call_meetsIn PySem.F.slot_dict_get dd.typeIs PySem.F.entry_dict_get (PySem.F.args_dict_get_3 _ _ _) (meets_dict_get_default (wK X.prog X.w) a (lX ry) hd r) #[_,dd.mapOf,h _ _ (I.tok _) ?_];rw[l];show (rel.val k).getD rd
 .subst ey;cases (show u=Value.ref b from ry);let#[z,hd,xs,rel,dd]:=nR I.zp e;exact call_meetsIn PySem.F.slot_dict_get dd.typeIs PySem.F.entry_dict_get (PySem.F.args_dict_get_3 _ _ _) (meetsH_dict_get_default (tupleKind (wK X.prog X.w)) a b hd r) #[tupleKind_room_in1 hu,k,xs,lV I.zp eb,dd,h _ _ (I.tok _) ?_];rw[l];show (rel.val k).getD rd
end
def WR (td ty tx:TE):TE:=fun Y H Q=>td Y H λ x H1=>∃ a,x=.ref a/\Ys H1 a/\ty Y H1 λ y H2=>tx Y H2 λ z H3=>∃ o,sH H3 a y o/\Q (o.getD z) H3
section
variable {X:Cx}{o e f:Expr}{apos Aj:Pos}{td ty tx:TE}
def UG (hu:X.A.units+1<cLine) (ho:PE X o td) (he:PE X e ty) (hf:PE X f tx) (m:M2 X o "get" apos e f Aj):PE X (.Call (.Attribute o "get" apos) [e,f] [] Aj) (WR td ty tx):=by
 intro E6 s Y H Q I h;exact wpAny_Call_method m.base m.nI m.line PySem.F.plainAttrs_dict PySem.F.slot_dict_get PySem.F.type_dict_get (zu (ho E6 s Y H _ I h) λ u s1 #[x,H1,I1,rx,a,ex,d,q1]=>?_);subst ex;obtain rfl:u=Value.ref a:=rx;let#[t1,t2,_]:=Nw I1 d;exact#[t1,t2,?_];rw[m.trees];exact Calls.callWith_builtin rfl (Calls.evalArgs_plain (Calls.spliced_cons (zu (he E6 s1 Y H1 _ I1 q1) λ iv s2 #[y,H2,I2,ry,q2]=>
  Calls.spliced_cons (zu (hf E6 s2 Y H2 _ I2 q2) λ fv s3 #[z,H3,I3,rz,ov,g,q3]=>Calls.spliced_nil ?_))))
 show MR hu I3 g ry rz λ w' s4 I4 Hz=>#[_,H3,I4,Hz,q3]
end
end L2
namespace L3
open PySem PySem.Spec L2
open PyProof.Rows hiding St
def vW (Ab:List (Key×D)) (k:Key):Option D:=(Ab.find? λ kv=>decide (kv.1=k)).map (·.2)
def putD (Ab:List (Key×D)) (k:Key) (v:D):List (Key×D):=
 if (Ab.any λ kv=>decide (kv.1=k))=true then Ab.map (λ kv=>if kv.1=k then (kv.1,v) else kv) else Ab++[(k,v)]
section
variable {K:Ac}{H:Hp}
theorem yV.val:∀ {Ab:List (Key×D)}{vs:List (Key×V)},yV K H Ab vs->∀ k,(vW Ab k=none/\wo vs k=none)\/∃ d v,vW Ab k=↑d/\wo vs k=↑v/\ze K H d v
 | _,_,.nil,k=>.inl #[rfl,rfl]
 | (a,d)::Ab,(b,v)::vs,.cons #[e,r] t,k=>by
  have e':a=b:=e;subst e';by_cases h:a=k
  .subst h;show .inr #[d,v,by simp[vW],by simp[wo],r]
  .rcases yV.val t k with ⟨h1,h2⟩ | ⟨d',v',h1,h2,h3⟩
   .show .inl #[by simpa [vW,h] using h1,by simpa [wo,h] using h2]
   .show .inr #[d',v',by simpa [vW,h] using h1,by simpa [wo,h] using h2,h3]
theorem yV.any {Ab:List (Key×D)}{vs:List (Key×V)}(h:yV K H Ab vs) (k:Key):(Ab.any λ kv=>decide (kv.1=k))=vs.any λ kv=>decide (kv.1=k):=by
 induction h with
 | nil=>rfl
 | cons r _ ih=>rw[BE,BE,ih,r.1]
def yV.len {Ab:List (Key×D)}{vs:List (Key×V)}(h:yV K H Ab vs):Ab.length=vs.length:=Paired.length h
theorem yV.uU {k:Key}{d:D}{v:V}(r:ze K H d v):∀ {Ab:List (Key×D)}{vs:List (Key×V)},yV K H Ab vs->yV K H (Ab.map λ kv=>if kv.1=k then (kv.1,d) else kv) (vs.map λ kv=>if kv.1=k then (kv.1,v) else kv)
 | _,_,.nil=>.nil
 | (a1,a2)::_,(b1,b2)::_,.cons #[e,q] t=>by
  have e':a1=b1:=e;subst e';exact .cons ?_ (yV.uU r t);by_cases hk:a1=k
  .simp[hk,r]
  .simpa [hk] using q
theorem yV.snoc {k:Key}{d:D}{v:V}(r:ze K H d v):∀ {Ab:List (Key×D)}{vs:List (Key×V)},yV K H Ab vs->yV K H (Ab++[(k,d)]) (vs++[(k,v)])
 | _,_,.nil=>.cons #[rfl,r] .nil
 | _,_,.cons q t=>.cons q (yV.snoc r t)
def yV.put {Ab:List (Key×D)}{vs:List (Key×V)}(h:yV K H Ab vs) (k:Key) {d:D}{v:V}(r:ze K H d v):yV K H (putD Ab k d) (putK vs k v):=by
 unfold putD putK;rw[h.any k];split
 .show yV.uU r h
 .show yV.snoc r h
end
section
variable {X:Cx}{o i e f v:Expr}{td ty tx tv:zr}{pos pos' apos Aj:Pos}
def Zo:zr:=λ _ S Q=>∀ p,S p=none->Q (.ref p) (ups S p (.zD []))
theorem Rl:PD X (.Dict [] [] pos) Zo:=by
 exact#[λ _ _ _ _ hq z p hp=>hq _ _ (z p hp),PE.imp UE fun Y H Q hu p hp=>?_];let#[L,S,r1,r2,z]:=hu;show z p (r2.none hp) _ _ (by simp![ze]) (.new hp _) (r2.ups (.new hp _) #[[],zZ,.nil])
def Zr (td ty:zr):zr:=fun L S Q=>td L S λ x S1=>ty L S1 λ y S2=>∃ p Ab k d,x=.ref p/\y=.int k/\S2 p=↑(.zD Ab)/\vW Ab (.inl k)=↑d/\Q d S2
def Rj {k:Nat}(hr:zX k X.A) (ho:PD X o td) (hi:PD X i ty) (hs:fA i):PD X (.Subscript o i pos) (Zr td ty):=by
 exact#[fun L S Q Q' hq z=>ho.mo L S _ _ (λ x S1 z=>hi.mo L S1 _ _ (λ y S2 #[p,Ab,k,d,a,b,c,e,h]=>#[p,Ab,k,d,a,b,c,e,hq _ _ h]) z) z,PE.imp (UH (iP hr) ho.pe hi.pe hs) fun Y H Q hu=>?_];let#[L,S,r1,r2,z]:=hu;exact zJ.go ho.mo r1 r2 z λ x S1 w H1 h1 q1 e1 p1=>?_;exact zJ.go hi.mo (r1.ext e1) p1 h1 λ y S2 w2 H2 h2 q2 e2 p2=>?_;let#[p,Ab,k,d,rfl,rfl,c1,c2,h]:=h2;simp![ze] at q1 q2;subst q1 q2;let#[vs,g1,g2]:=p2 _ _ c1;rcases yV.val g2 (.inl k) with ⟨n1,_⟩ | ⟨d',v',n1,n2,n3⟩
 .rw[c2] at n1;cases n1
 .rw[c2] at n1;cases n1;show#[p,v',rfl,n2▸sH.k (k:=Sum.inl k) g1,h v' H2 n3 (e1.trans e2) p2]
def Zq (td ty tx:zr):zr:=fun L S Q=>td L S λ x S1=>∃ p,x=.ref p/\(∃ Ab,S1 p=↑(.zD Ab))/\ty L S1 λ y S2=>tx L S2 λ z S3=>∃ k Ab,y=.int k/\S3 p=↑(.zD Ab)/\Q ((vW Ab (.inl k)).getD z) S3
def Rm {k:Nat}(hr:zX k X.A) (ho:PD X o td) (he:PD X e ty) (hf:PD X f tx) (m:M2 X o "get" apos e f Aj):PD X (.Call (.Attribute o "get" apos) [e,f] [] Aj) (Zq td ty tx):=by
 exact#[fun L S Q Q' hq z=>ho.mo L S _ _ (λ x S1 #[p,a,b,z]=>#[p,a,b,he.mo L S1 _ _ (λ y S2 z=>hf.mo L S2 _ _ (λ w S3 #[k,Ab,a,b,h]=>#[k,Ab,a,b,hq _ _ h]) z) z]) z,PE.imp (UG (iP hr) ho.pe he.pe hf.pe m) fun Y H Q hu=>?_];let#[L,S,r1,r2,z]:=hu;exact zJ.go ho.mo r1 r2 z λ x S1 w H1 h1 q1 e1 p1=>?_;let#[p,rfl,#[kvs0,c0],h1]:=h1;simp![ze] at q1;subst q1;let#[vs0,g0,_]:=p1 _ _ c0;exact#[p,rfl,.inl #[vs0,.inl g0],?_];exact zJ.go he.mo (r1.ext e1) p1 h1 λ y S2 w2 H2 h2 q2 e2 p2=>?_;exact zJ.go hf.mo ((r1.ext e1).ext e2) p2 h2 λ y3 S3 w3 H3 h3 q3 e3 p3=>?_;let#[k,Ab,rfl,c1,h]:=h3;simp![ze] at q2;subst q2;let#[vs,g1,g2]:=p3 _ _ c1;exact#[wo vs (.inl k),sH.k (k:=Sum.inl k) g1,?_];rcases yV.val g2 (.inl k) with ⟨n1,n2⟩ | ⟨d',v',n1,n2,n3⟩
 .rw[n1] at h;rw[n2];show h _ H3 q3 ((e1.trans e2).trans e3) p3
 .rw[n1] at h;rw[n2];show h _ H3 n3 ((e1.trans e2).trans e3) p3
def Zp (td ty tv:zr):yf:=λ E L S=>tv L S λ v S1=>td L S1 λ x S2=>ty L S2 λ y S3=>∃ p Ab k,x=.ref p/\y=.int k/\S3 p=↑(.zD Ab)/\Ab.length<sizeLine/\E.nx L (ups S3 p (.zD (putD Ab (.inl k) v)))
theorem Ext.dK {H:Hp}{p:Addr}{Ab:List (Key×V)}(h:H p=↑(.dK Ab)) (o:HO):Ext H (upd H p o):=
 #[λ b ys q=>by rw[zI (uf q h (by intro z;cases z))];show q,λ b ob u q=>by rw[zI (uf q h (by intro z;cases z))];show q,λ b u q=>by rw[zI (uf q h (by intro z;cases z))];show q,λ b u q=>by rw[zI (uf q h (by intro z;cases z))];show q]
theorem T5 {k:Nat}(hr:zX k X.A) (ho:PD X o td) (hi:PD X i ty) (hv:PD X v tv) (hs:swapsWith v ↑(.Subscript o i pos') pos.line X.env=pure false):wD X (.Assign [.Subscript o i pos'] v pos) (Zp td ty tv):=by
 exact#[λ E E' L S hE z=>hv.mo L S _ _ (λ w S1 z=>ho.mo L S1 _ _ (λ x S2 z=>hi.mo L S2 _ _ (λ y S3 #[p,Ab,k,a,b,c,d,h]=>#[p,Ab,k,a,b,c,d,hE.nx _ _ h]) z) z) z,PS.imp (VZ (iP hr) ho.pe hi.pe hv.pe hs) λ D Y H hu=>?_];let#[L,S,r1,r2,z]:=hu;exact zJ.go hv.mo r1 r2 z λ w S1 w1 H1 h1 q1 e1 p1=>?_;exact zJ.go ho.mo (r1.ext e1) p1 h1 λ x S2 w2 H2 h2 q2 e2 p2=>?_;exact zJ.go hi.mo ((r1.ext e1).ext e2) p2 h2 λ y S3 w3 H3 h3 q3 e3 p3=>?_;let#[p,Ab,k,rfl,rfl,c1,c2,h]:=h3;simp![ze] at q2 q3;subst q2 q3;let#[vs,g1,g2]:=p3 _ _ c1;have e4:Ext H3 (upd H3 p (.dK (putK vs (.inl k) w1))):=.dK g1 _;exact#[p,_,rfl,mS.k (k:=Sum.inl k) g1 (by rw[<- g2.len];show c2),?_];show h Y _ ((((r1.ext e1).ext e2).ext e3).ext e4) (((e1.trans e2).trans e3).trans e4) (p3.ups e4 #[_,zZ,(yV.put g2 _ (ze.ext (e2.trans e3) w q1)).ext e4])
def LA:yD X (.builtin "len") (λ xs H Q=>∃ p Ab,xs=[.ref p]/\H p=↑(.dK Ab)/\Q (.int Ab.length) H):=by
 intro E6 s Y H xs us Q I r h;let#[p,Ab,rfl,e,q]:=h;let#[u,rfl,ru]:=vals1 r;cases ru;show MP I (.inl e) λ t s' I'=>#[.int _,H,I',#[_,rfl],q]
def aO:xF:=λ ds S Q=>∃ p Ab,ds=[.ref p]/\S p=↑(.zD Ab)/\Q (.int Ab.length) S
def Ri {es:List Expr}{tA:yh}{p:Pos}(hm:X.mg "len"=none) (ha:xh X (e::es) tA) (hg:Gl X "len") (he:Ay X e es) (Ao:AG X pos es):PD X (.Call (.Name "len" p) (e::es) [] pos) (xE aO tA):=
 uV (uB LA hg hm PySem.boot_len ha.pa () () he Ao) (λ _ _ _ _ hq #[p,Ab,a,b,h]=>#[p,Ab,a,b,hq _ _ h]) (λ xs ds H S Q h0 h2 #[p,Ab,a,b,h]=>by
  subst a;let#[x,rfl,h1]:=h0.one;simp![ze] at h1;subst h1;let#[vs,g1,g2]:=h2 _ _ b;exact#[p,vs,rfl,g1,?_];rw[<- g2.len];show h _ H (by simp![ze]) (.refl H) h2) ha.mo
end
end L3
namespace L3
open PySem L2
section
variable {S S':SS}
mutual
theorem Sn.sx (h:Sx S S'):∀ (t:T) {d:D},Sn S t d->Sn S' t d
 | .zh,d,q=>by simpa only [Sn] using q
 | .bl b,d,q=>by simpa only [Sn] using q
 | .int i,d,q=>by simpa only [Sn] using q
 | .str x,d,q=>by simpa only [Sn] using q
 | .tup ts,d,q=>by
  simp![Sn] at q ⊢;let#[ds,q1,q2]:=q;show#[ds,q1,zi.sx h ts q2]
 | .lst ts,d,q=>by
  simp![Sn] at q ⊢;let#[ds,q1,q2]:=q;exact#[ds,?_,zi.sx h ts q2];rcases q1 with q1 | ⟨a,q1,q3⟩
  .show .inl q1
  .show .inr #[a,q1,h _ _ q3]
 | .err _ _ t,d,q=>by
  simp![Sn] at q ⊢;let#[x,q1,q2]:=q;show#[x,q1,Sn.sx h t q2]
 | .yQ,d,q=>by
  simp![Sn] at q ⊢;let#[a,Ab,q1,q2]:=q;show#[a,Ab,q1,h _ _ q2]
theorem zi.sx (h:Sx S S'):∀ (ts:List T) {ds:List D},zi S ts ds->zi S' ts ds
 | [],ds,q=>by simpa only [zi] using q
 | t::ts,ds,q=>by
  simp![zi] at q ⊢;let#[c,cs,q1,q2,q3]:=q;show#[c,cs,q1,Sn.sx h t q2,zi.sx h ts q3]
end
def zi.nil:zi S [] []:=by simp![zi]
def zi.cons {t:T}{ts:List T}{d:D}{ds:List D}(h:Sn S t d) (h':zi S ts ds):zi S (t::ts) (d::ds):=by
 simp![zi];show#[d,ds,rfl,h,h']
theorem zi.append:∀ {ts us:List T}{ds es:List D},zi S ts ds->zi S us es->zi S (ts++us) (ds++es)
 | [],us,ds,es,h,h'=>by simp![zi] at h;subst h;exists h'
 | t::ts,us,ds,es,h,h'=>by
  simp![zi] at h;let#[c,cs,rfl,h1,h2]:=h;show zi.cons h1 (zi.append h2 h')
theorem zi.hV:∀ {ts:List T}{ds:List D}{i:Nat}{t:T},zi S ts ds->ts[i]?=↑t->∃ d,ds[i]?=↑d/\Sn S t d
 | [],_,i,t,_,e=>by simp at e
 | u::ts,ds,i,t,h,e=>by
  simp![zi] at h;let#[c,cs,rfl,h1,h2]:=h;cases i with
  | zero=>simp at e;subst e;show#[c,rfl,h1]
  | succ i=>
   let#[y,e1,e2]:=zi.hV (i:=i) h2 (by exists e);show#[y,by simpa using e1,e2]
theorem zi.hZ:∀ {ts:List T}{ds:List D}{i:Nat}{d:D},zi S ts ds->ds[i]?=↑d->∃ t,ts[i]?=↑t/\Sn S t d
 | [],ds,i,t,h,e=>by simp![zi] at h;subst h;simp at e
 | u::ts,ds,i,t,h,e=>by
  simp![zi] at h;let#[c,cs,rfl,h1,h2]:=h;cases i with
  | zero=>simp at e;subst e;show#[u,rfl,h1]
  | succ i=>
   let#[y,e1,e2]:=zi.hZ (i:=i) h2 (by exists e);show#[y,by simpa using e1,e2]
def zi.len {ts:List T}{ds:List D}(h:zi S ts ds):ds.length=ts.length:=(L3.zi.length h).symm
theorem zi.at {ts:List T}{ds:List D}{i:Int}{t:T}(h:zi S ts ds) (e:L2.zQ ts i=↑t):∃ d,L2.zQ ds i=↑d/\Sn S t d:=by
 unfold L2.zQ at e ⊢;rw[h.len];cases q:L2.vd ts.length i with
 | none=>rw[q] at e;cases e
 | some j=>
  rw[q] at e;show h.hV e
theorem zi.dB:∀ {ts:List T}{ds:List D}{t:T}{d:D}(i:Nat),zi S ts ds->Sn S t d->zi S (ts.set i t) (ds.set i d)
 | [],ds,t,d,i,h,_=>by simp![zi] at h;subst h;exists zi.nil
 | u::ts,ds,t,d,0,h,hd=>by
  simp![zi] at h;let#[c,cs,rfl,h1,h2]:=h;show zi.cons hd h2
 | u::ts,ds,t,d,i+1,h,hd=>by
  simp![zi] at h;let#[c,cs,rfl,h1,h2]:=h;show zi.cons h1 (zi.dB i h2 hd)
theorem zi.take':∀ {ts:List T}{ds:List D}(n:Nat),zi S ts ds->zi S (ts.take n) (ds.take n)
 | ts,ds,0,h=>by exists zi.nil
 | [],ds,n+1,h=>by simp![zi] at h;subst h;exists zi.nil
 | t::ts,ds,n+1,h=>by
  simp![zi] at h;let#[c,cs,rfl,h1,h2]:=h;show zi.cons h1 (zi.take' n h2)
theorem zi.drop':∀ {ts:List T}{ds:List D}(n:Nat),zi S ts ds->zi S (ts.drop n) (ds.drop n)
 | ts,ds,0,h=>h
 | [],ds,n+1,h=>by simp![zi] at h;subst h;exists zi.nil
 | t::ts,ds,n+1,h=>by
  simp![zi] at h;let#[c,cs,rfl,h1,h2]:=h;show zi.drop' n h2
def zi.empty {ts:List T}{ds:List D}(h:zi S ts ds):ds.isEmpty=ts.isEmpty:=by
 have:=h.len;cases ds <;> cases ts <;> simp_all
theorem zi.ZQ:∀ {bs:List Bool}{ds:List D},zi S (bs.map T.bl) ds->ds=bs.map D.bl
 | [],ds,h=>by simpa only [Bi,zi] using h
 | b::bs,ds,h=>by
  rw[Ax] at h;simp![zi,Sn] at h;let#[c,cs,rfl,rfl,h3]:=h;rw[zi.ZQ h3];rfl
end
end L3
namespace L5
open PySem L2 L3
def zN (S:SS) (Z:Addr->Prop):SS:=open Classical in λ a=>if Z a then none else S a
section
variable {S S':SS}{Z Z':Addr->Prop}{a p:Addr}
def ui (h:¬ Z a):zN S Z a=S a:=if_neg h
def iQ (h:Z a):zN S Z a=none:=if_pos h
def tf {o:O}(h:zN S Z a=↑o):¬ Z a/\S a=↑o:=by
 by_cases z:Z a
 .rw[iQ z] at h;cases h
 .rw[ui z] at h;show#[z,h]
def nC (S:SS) (Z:Addr->Prop):Sx (zN S Z) S:=λ _ _ h=>(tf h).2
def wL (h:Sx S S'):Sx (zN S Z) (zN S' Z):=λ b o q=>by
 let#[q1,q2]:=tf q;rw[ui q1];show h _ _ q2
def uj (h:∀ a,Z' a->Z a):Sx (zN S Z) (zN S Z'):=λ b o q=>by
 let#[q1,q2]:=tf q;rw[ui (λ z=>q1 (h _ z))];show q2
def pO (h:Sx S S') (hp:S p=none):Sx (zN S Z) (zN S' λ a=>Z a\/a=p):=λ b o q=>by
 let#[q1,q2]:=tf q;rw[ui]
 .show h _ _ q2
 .rintro (z | z)
  .show q1 z
  .subst z;rw[hp] at q2;cases q2
theorem NB {o:O}(h:Z p):zN (ups S p o) Z=zN S Z:=by
 funext b;by_cases z:Z b
 .rw[iQ z,iQ z]
 .rw[ui z,ui z,tJ (λ e=>z (by rw[e];show h))]
end
inductive C where
 | lst (ts:List T) | zD (Ab:List (Key×T))
def y8 (S:SS):List (Key×T)->List (Key×D)->Prop
 | [],l=>l=[]
 | (k,t)::r,l=>∃ d m,l=(k,d)::m/\Sn S t d/\y8 S r m
theorem y8.sx {S S':SS}(h:Sx S S'):∀ {a:List (Key×T)}{b:List (Key×D)},y8 S a b->y8 S' a b
 | [],_,q=>q
 | (k,t)::r,_,q=>by
  let#[d,m,q1,q2,q3]:=q;show#[d,m,q1,Sn.sx h t q2,y8.sx h q3]
def tB (S:SS):C->O->Prop
 | .lst ts,.lst ds=>zi S ts ds
 | .zD a,.zD b=>y8 S a b
 | _,_=>False
theorem tB.sx {S S':SS}(h:Sx S S'):∀ {c:C}{o:O},tB S c o->tB S' c o
 | .lst ts,.lst ds,q=>zi.sx h ts q
 | .zD a,.zD b,q=>y8.sx h q
inductive W where
 | im (t:T) | own (c:C)
abbrev Ev:=List (Option W)
abbrev Ah:=Ev->Option T
abbrev Al:=List T->Option T
structure ER (S:SS) (Z:Addr->Prop) (L:z_) (J:Ev):Prop where
 zd:∀ a,Z a->S a≠none
 im:∀ (i:Nat) t,J[i]?=↑↑(.im t)->∃ d,L[i]?=↑↑d/\Sn (zN S Z) t d
 ow:∀ (i:Nat) c,J[i]?=↑↑(.own c)->∃ p o,L[i]?=↑↑(.ref p)/\S p=↑o/\tB (zN S Z) c o/\Z p
def Vw (S:SS) (Z:Addr->Prop) (y:T) (d:D):Prop:=Sn (zN S Z) y d\/∃ ts p ds,y=.lst ts/\d=.ref p/\S p=↑(.lst ds)/\zi (zN S Z) ts ds/\Z p
abbrev Rk:=SS->SS->(Addr->Prop)->T->D->Prop
def Yf:Rk:=λ _ S' Z y d=>Vw S' Z y d
def xt:Rk:=λ _ S' Z y d=>Sn (zN S' Z) y d
def zx:Rk:=λ S S' Z y d=>Sn (zN S' Z) y d/\∀ ts,y=.lst ts->∃ p ds,d=.ref p/\S p=none/\S' p=↑(.lst ds)/\zi (zN S' λ a=>Z a\/a=p) ts ds
class Cl (R:Rk):Prop where
 cl:∀ {S S1 S':SS}{Z:Addr->Prop}{y:T}{d:D},Sx S S1->R S1 S' Z y d->R S S' Z y d
 of:∀ {S S':SS}{Z:Addr->Prop}{y:T}{d:D},(∀ ts,y≠.lst ts)->Sn (zN S' Z) y d->R S S' Z y d
instance:Cl Yf:=#[λ _ h=>h,λ _ h=>.inl h]
instance:Cl xt:=#[λ _ h=>h,λ _ h=>h]
instance:Cl zx:=#[λ s h=>#[h.1,λ ts e=>by
 let#[p,ds,h1,h2,h3]:=h.2 ts e;show#[p,ds,h1,s.none h2,h3]],λ n h=>#[h,λ ts e=>absurd e (n ts)]]
section
variable {S S':SS}{Z:Addr->Prop}{L:z_}{J:Ev}{y:T}{d:D}
def ER.grow (h:ER S Z L J) (s:Sx S S'):ER S' Z L J:=
 #[λ a z q=>h.zd a z (s.none q),λ i t e=>by
  let#[d,h1,h2]:=h.im i t e;show#[d,h1,Sn.sx (wL s) t h2],λ i ts e=>by
  let#[p,ds,h1,h2,h3,h4]:=h.ow i ts e;show#[p,ds,h1,s _ _ h2,tB.sx (wL s) h3,h4]]
def Vw.grow (h:Vw S Z y d) (s:Sx S S'):Vw S' Z y d:=by
 rcases h with h | ⟨ts,p,ds,h1,h2,h3,h4,h5⟩
 .show .inl (Sn.sx (wL s) y h)
 .show .inr #[ts,p,ds,h1,h2,s _ _ h3,zi.sx (wL s) ts h4,h5]
def Vw.sn (h:Vw S Z y d):Sn S y d:=by
 rcases h with h | ⟨ts,p,ds,rfl,rfl,h3,h4,_⟩
 .show Sn.sx (nC S Z) y h
 .simp![Sn];show#[ds,.inr #[p,rfl,h3],zi.sx (nC S Z) ts h4]
theorem Vw.zh (h:Vw S Z .zh d):d=.zh:=by
 rcases h with h | ⟨_,_,_,h,_⟩
 .simpa only [Sn] using h
 .cases h
theorem Vw.bl {b:Bool}(h:Vw S Z (.bl b) d):d=.bl b:=by
 rcases h with h | ⟨_,_,_,h,_⟩
 .simpa only [Sn] using h
 .cases h
theorem Vw.int {b:Int}(h:Vw S Z (.int b) d):d=.int b:=by
 rcases h with h | ⟨_,_,_,h,_⟩
 .simpa only [Sn] using h
 .cases h
theorem Vw.str {b:Str}(h:Vw S Z (.str b) d):d=.str b:=by
 rcases h with h | ⟨_,_,_,h,_⟩
 .simpa only [Sn] using h
 .cases h
theorem Vw.tup {ts:List T}(h:Vw S Z (.tup ts) d):∃ ds,d=.tup ds/\zi (zN S Z) ts ds:=by
 rcases h with h | ⟨_,_,_,h,_⟩
 .simpa only [Sn] using h
 .cases h
theorem Vw.lst {ts:List T}(h:Vw S Z (.lst ts) d):∃ ds,(d=.xI ds\/∃ a,d=.ref a/\S a=↑(.lst ds))/\zi (zN S Z) ts ds:=by
 rcases h with h | ⟨us,p,ds,h1,h2,h3,h4,_⟩
 .simp![Sn] at h;let#[ds,h1,h2]:=h;exact#[ds,?_,h2];rcases h1 with h1 | ⟨a,h1,h3⟩
  .show .inl h1.1
  .show .inr #[a,h1,(tf h3).2]
 .cases h1;show#[ds,.inr #[p,h2,h3],h4]
def xX:T->Option (List T)
 | .tup ts=>↑ts
 | .lst ts=>↑ts
 | _=>none
@[simp] theorem zab (ts:List T):xX (.tup ts)=↑ts:=rfl
@[simp] theorem zac (ts:List T):xX (.lst ts)=↑ts:=rfl
def Vw.seq {ts:List T}(h:Vw S Z y d) (e:xX y=↑ts):∃ ds,zM d S=↑ds/\zi (zN S Z) ts ds:=by
 cases y with
 | tup us=>cases e;let#[ds,rfl,h2]:=h.tup;show#[ds,rfl,h2]
 | lst us=>
  cases e;obtain⟨ds,h1 | ⟨a,rfl,h1⟩,h2⟩:=h.lst
  .subst h1;show#[ds,rfl,h2]
  .show#[ds,by unfold zM;dsimp only;rw[h1],h2]
 | _=>cases e
theorem Vw.yQ (h:Vw S Z .yQ d):∃ a Ab,(d=.ref a/\Ab=[])/\S a=↑(.zD Ab):=by
 rcases h with h | ⟨_,_,_,h,_⟩
 .simp![Sn] at h;let#[a,Ab,h1,h2]:=h;show#[a,Ab,h1,(tf h2).2]
 .cases h
def dm:Sn S .zh .zh:=by simp![Sn]
def wH {b:Bool}:Sn S (.bl b) (.bl b):=by simp![Sn]
def wY {i:Int}:Sn S (.int i) (.int i):=by simp![Sn]
def dk {x:Str}:Sn S (.str x) (.str x):=by simp![Sn]
def qe {ts:List T}{ds:List D}(h:zi S ts ds):Sn S (.tup ts) (.tup ds):=by simp![Sn];show#[ds,rfl,h]
def tM {ts:List T}{ds:List D}{p:Addr}(hz:∀ a,Z a->S a≠none) (hp:S p=none) (h:zi (zN S Z) ts ds):zx S (ups S p (.lst ds)) Z (.lst ts) (.ref p):=by
 have nz:¬ Z p:=λ z=>hz p z hp;have s:Sx S (ups S p (.lst ds)):=.new hp _;exact#[?_,λ us e=>?_]
 .simp![Sn];show#[ds,.inr #[p,rfl,by rw[ui nz,sN]],zi.sx (wL s) ts h]
 .cases e;show#[p,ds,rfl,hp,sN,zi.sx (pO s hp) ts h]
end
def xu (R:Rk) (f:Ah) (t:zr):Prop:=∀ S Z L J y Q,ER S Z L J->f J=↑y->(∀ d S',Sx S S'->R S S' Z y d->Q d S')->t L S Q
abbrev vi:=xu xt
abbrev y9:=xu Yf
abbrev xG:=xu zx
def xu.imp {R R':Rk}{f:Ah}{t:zr}(h:xu R f t) (i:∀ S S' Z y d,R S S' Z y d->R' S S' Z y d):xu R' f t:=λ S Z L J y Q hE e hq=>h S Z L J y Q hE e λ d S' s r=>hq d S' s (i _ _ _ _ _ r)
def xu.er {f:Ah}{t:zr}(h:vi f t):y9 f t:=h.imp λ _ _ _ _ _ r=>.inl r
def xu.fe {f:Ah}{t:zr}(h:xG f t):vi f t:=h.imp λ _ _ _ _ _ r=>r.1
def xu.fr {f:Ah}{t:zr}(h:xG f t):y9 f t:=h.fe.er
@[simp] def zg (i:Nat):Ah:=fun J=>match J[i]? with
 | some ↑(.im t)=>↑t
 | _=>none
@[simp] def zc (i:Nat):Ah:=fun J=>match J[i]? with
 | some ↑(.im t)=>↑t
 | some ↑(.own (.lst ts))=>↑(.lst ts)
 | _=>none
@[simp] def cS (t:T):Ah:=λ _=>↑t
@[simp] abbrev cI (i:Int):Ah:=cS (.int i)
def cX (i:Nat):vi (zg i) (yq i):=λ S Z L J y Q hE e hq=>by
 unfold zg at e;split at e
 .rename_i t h;cases e;let#[d,h1,h2]:=hE.im i _ h;unfold yq;rw[h1];show hq d S (.refl S) h2
 .cases e
def Q2 (i:Nat):y9 (zc i) (yq i):=λ S Z L J y Q hE e hq=>by
 unfold zc at e;split at e
 .rename_i t h;cases e;let#[d,h1,h2]:=hE.im i _ h;unfold yq;rw[h1];show hq d S (.refl S) (.inl h2)
 .rename_i ts h;cases e;let#[p,o,h1,h2,h3,h4]:=hE.ow i _ h;unfold yq;rw[h1];cases o with
  | zD _=>show h3.elim
  | lst ds=>show hq _ S (.refl S) (.inr #[ts,p,ds,rfl,rfl,h2,h3,h4])
 .cases e
def Pk (i:Int):xG (cS (.int i)) (dC (.int i)):=λ S Z L J y Q hE e hq=>by cases e;show hq _ S (.refl S) (Cl.of (λ _=>nofun) wY)
def PU (i:Bool):xG (cS (.bl i)) (dC (.bl i)):=λ S Z L J y Q hE e hq=>by cases e;show hq _ S (.refl S) (Cl.of (λ _=>nofun) wH)
def Q9 (i:Str):xG (cS (.str i)) (dC (.str i)):=λ S Z L J y Q hE e hq=>by cases e;show hq _ S (.refl S) (Cl.of (λ _=>nofun) dk)
def QI:xG (cS .zh) (dC .zh):=λ S Z L J y Q hE e hq=>by cases e;show hq _ S (.refl S) (Cl.of (λ _=>nofun) dm)
@[simp] def zb (f:T->T->Option T) (fa fb:Ah):Ah:=fun J=>(fa J).bind λ x=>(fb J).bind λ y=>f x y
def Good2 (R:Rk) (f:T->T->Option T) (g:yF):Prop:=∀ S Z x y z d e Q,(∀ a,Z a->S a≠none)->Vw S Z x d->Vw S Z y e->f x y=↑z->(∀ c S',Sx S S'->R S S' Z z c->Q c S')->g d e S Q
def qk {R:Rk} [Cl R] {f:T->T->Option T}{g:yF}{fa fb:Ah}{ta tb:zr}(hg:Good2 R f g) (ha:y9 fa ta) (hb:y9 fb tb):xu R (zb f fa fb) (yr g ta tb):=λ S Z L J y Q hE e hq=>by
 unfold zb at e;let#[x,e1,e]:=An.mp e;let#[z,e2,e]:=An.mp e;exact ha S Z L J x _ hE e1 λ d S1 s1 r1=>?_;exact hb S1 Z L J z _ (hE.grow s1) e2 λ d2 S2 s2 r2=>?_;show hg S2 Z x z y d d2 Q ((hE.grow (s1.trans s2)).zd) (Vw.grow r1 s2) r2 e λ c S' s r=>hq c S' ((s1.trans s2).trans s) (Cl.cl (s1.trans s2) r)
@[simp] def i2 (g:Int->Int->T):T->T->Option T
 | .int i,.int j=>↑(g i j)
 | _,_=>none
instance {i j:Int}:Decidable (wj i j):=by unfold wj;infer_instance
instance {i j:Int}:Decidable (xj i j):=by unfold xj;infer_instance
instance {i j:Int}:Decidable (sJ i j):=by unfold sJ;infer_instance
@[simp] def nB (C:Int->Int->Prop) [∀ i j,Decidable (C i j)] (g:Int->Int->T):T->T->Option T
 | .int i,.int j=>if C i j then ↑(g i j) else none
 | _,_=>none
def ke {g:Int->Int->T}{g':Int->Int->D}(h:∀ i j S,Sn S (g i j) (g' i j)) (n:∀ i j ts,g i j≠.lst ts):Good2 zx (i2 g) (xf g'):=λ S Z x y z d e Q hz hx hy ef hq=>by
 unfold i2 at ef;split at ef
 .cases ef;cases hx.int;cases hy.int;show hq _ S (.refl S) (Cl.of (n _ _) (h _ _ _))
 .cases ef
def iY {C:Int->Int->Prop} [∀ i j,Decidable (C i j)] {g:Int->Int->T}{g':Int->Int->D}(h:∀ i j S,Sn S (g i j) (g' i j)) (n:∀ i j ts,g i j≠.lst ts):Good2 zx (nB C g) (fI C g'):=λ S Z x y z d e Q hz hx hy ef hq=>by
 unfold nB at ef;split at ef
 .split at ef
  .rename_i hh;cases ef;cases hx.int;cases hy.int;show#[hh,hq _ S (.refl S) (Cl.of (n _ _) (h _ _ _))]
  .cases ef
 .cases ef
@[simp] def xP:T->T->Option T:=i2 λ i j=>.int (i-j)
@[simp] def zR:T->T->Option T:=nB (λ _ j=>0<j) λ i j=>.int (i%j)
@[simp] def yt:T->T->Option T:=nB xj λ i j=>.int (i/j)
@[simp] def lG:T->T->Option T:=nB sJ λ i j=>.int (i ^ j.toNat)
@[simp] def ug:T->T->Option T:=i2 λ i j=>.bl (decide (i<=j))
@[simp] def pQ:T->T->Option T:=i2 λ i j=>.bl (decide (j<i))
@[simp] def nG:T->T->Option T:=i2 λ i j=>.bl (decide (j<=i))
section
variable {fa fb:Ah}{ta tb:zr}
def Q8 (ha:y9 fa ta) (hb:y9 fb tb):xG (zb xP fa fb) (yr (xf λ i j=>.int (i-j)) ta tb):=qk (ke (λ _ _ _=>wY) λ _ _ _=>nofun) ha hb
def QM (ha:y9 fa ta) (hb:y9 fb tb):xG (zb zR fa fb) (yr (fI (λ _ j=>0<j) λ i j=>.int (i%j)) ta tb):=qk (iY (λ _ _ _=>wY) λ _ _ _=>nofun) ha hb
def Pp (ha:y9 fa ta) (hb:y9 fb tb):xG (zb yt fa fb) (yr (fI xj λ i j=>.int (i/j)) ta tb):=qk (iY (λ _ _ _=>wY) λ _ _ _=>nofun) ha hb
def QE (ha:y9 fa ta) (hb:y9 fb tb):xG (zb lG fa fb) (yr (fI sJ λ i j=>.int (i ^ j.toNat)) ta tb):=qk (iY (λ _ _ _=>wY) λ _ _ _=>nofun) ha hb
end
def zw (neg:Bool):T->T->Option T:=λ x y=>if dep x<=60/\dep y<=60 then ↑(.bl (cond neg (!eqT x y) (eqT x y))) else none
def pL (neg:Bool):T->T->Option T:=λ x y=>match xX y with
 | some ts=>if dep x<=60/\xA ts<=60 then ↑(.bl (cond neg (!(ts.any λ t=>eqT t x)) (ts.any λ t=>eqT t x))) else none
 | none=>none
def NZ {neg:Bool}:Good2 zx (zw neg) (vp neg):=λ S Z x y z d e Q hz hx hy ef hq=>by
 unfold zw at ef;split at ef
 .rename_i h;cases ef;show#[x,y,hx.sn,hy.sn,h.1,h.2,hq _ S (.refl S) (Cl.of (λ _=>nofun) wH)]
 .cases ef
def NY {neg:Bool}:Good2 zx (pL neg) (sZ neg):=λ S Z x y z d e Q hz hx hy ef hq=>by
 unfold pL at ef;split at ef
 .rename_i ts ht;split at ef
  .rename_i h;cases ef;let#[ds,h1,h2]:=hy.seq ht;show#[x,ts,ds,hx.sn,h1,zi.sx (nC S Z) ts h2,h.1,h.2,hq _ S (.refl S) (Cl.of (λ _=>nofun) wH)]
  .cases ef
 .cases ef
@[simp] def zj:T->T->Option T:=λ x y=>match xX x,y with
 | some ts,.int i=>L2.zQ ts i
 | _,_=>none
def ar:Good2 xt zj w6:=λ S Z x y z d e Q hz hx hy ef hq=>by
 unfold zj at ef;split at ef
 .rename_i ts i ht;cases hy.int;let#[ds,h1,h2]:=hx.seq ht;let#[c,h3,h4]:=h2.at ef;unfold zM at h1;split at h1
  .cases h1;show Mw h3 (hq c S (.refl S) h4)
  .cases h1;show Mx h3 (hq c S (.refl S) h4)
  .split at h1
   .rename_i q;cases h1;show My q h3 (hq c S (.refl S) h4)
   .cases h1
  .cases h1
 .cases ef
@[simp] def yj:T->T->Option T
 | .int i,.int j=>↑(.int (i+j))
 | .str i,.str j=>if i.length+j.length<=sizeLine then ↑(.str (i++j)) else none
 | .lst ts,.lst us=>if ts.length+us.length<=sizeLine then ↑(.lst (ts++us)) else none
 | .tup ts,.tup us=>if ts.length+us.length<=sizeLine then ↑(.tup (ts++us)) else none
 | _,_=>none
def uq:yF:=λ x y S Q=>match x,y with
 | .int i,.int j=>Q (.int (i+j)) S
 | .str i,.str j=>i.length+j.length<=sizeLine/\Q (.str (i++j)) S
 | .tup ds,.tup es=>ds.length+es.length<=sizeLine/\Q (.tup (ds++es)) S
 | .zh,_=>False
 | .bl _,_=>False
 | .int _,_=>False
 | .str _,_=>False
 | .tup _,_=>False
 | x,y=>match zM x S,zM y S with
  | some ds,↑es=>(∀ ts,y≠.tup ts)/\ds.length+es.length<=sizeLine/\∀ r,S r=none->Q (.ref r) (ups S r (.lst (ds++es)))
  | _,_=>False
def good_add:Good2 zx yj uq:=λ S Z x y z d e Q hz hx hy ef hq=>by
 unfold yj at ef;split at ef
 .cases ef;cases hx.int;cases hy.int;show hq _ S (.refl S) (Cl.of (λ _=>nofun) wY)
 .split at ef
  .rename_i h;cases ef;cases hx.str;cases hy.str;show#[h,hq _ S (.refl S) (Cl.of (λ _=>nofun) dk)]
  .cases ef
 .split at ef
  .rename_i h;cases ef;let#[ds,h1,h2]:=hx.seq rfl;let#[es,h3,h4]:=hy.seq rfl;have nt:∀ ts,e≠.tup ts:=by
    obtain⟨_,q | ⟨_,q,_⟩,_⟩:=hy.lst <;> subst q <;> show λ _=>nofun
   have key:(∀ ts,e≠.tup ts)/\ds.length+es.length<=sizeLine/\∀ r,S r=none->Q (.ref r) (ups S r (.lst (ds++es))):=
    #[nt,by rw[h2.len,h4.len];show h,λ r hr=>hq _ _ (.new hr _) (tM hz hr (h2.append h4))]
   obtain⟨_,q | ⟨a,q,_⟩,_⟩:=hx.lst
   .subst q;unfold uq;dsimp only;rw[h1,h3];show key
   .subst q;unfold uq;dsimp only;rw[h1,h3];show key
  .cases ef
 .split at ef
  .rename_i h;cases ef;let#[ds,rfl,h2]:=hx.tup;let#[es,rfl,h4]:=hy.tup;show#[by rw[h2.len,h4.len];show h,hq _ S (.refl S) (Cl.of (λ _=>nofun) (qe (h2.append h4)))]
  .cases ef
 .cases ef
def wR (f:Ev->Option Bool) (t:yx):Prop:=∀ S Z L J y Q,ER S Z L J->f J=↑y->(∀ S',Sx S S'->Q y S')->t L S Q
@[simp] def zy (f:Ah):Ev->Option Bool:=fun J=>(f J).bind λ x=>match x with
 | .bl b=>↑b
 | _=>none
@[simp] def sP:T->Option Bool
 | .zh=>↑false
 | .bl b=>↑b
 | .int i=>↑(i != 0)
 | .str x=>if x.length<=sizeLine then ↑((x.length:Int) != 0) else none
 | .tup ts=>↑(!ts.isEmpty)
 | .lst ts=>↑(!ts.isEmpty)
 | .yQ=>none
 | .err _ _ _=>none
@[simp] def yE (f:Ah):Ev->Option Bool:=fun J=>(f J).bind sP
@[simp] def tu (f g:Ev->Option Bool):Ev->Option Bool:=fun J=>(f J).bind λ b=>if b=true then g J else ↑false
@[simp] def w9 (f g:Ev->Option Bool):Ev->Option Bool:=fun J=>(f J).bind λ b=>if b=true then ↑true else g J
@[simp] def wA (f:Ev->Option Bool):Ev->Option Bool:=fun J=>(f J).map (!·)
section
variable {f g:Ah}{t u:zr}{fb gb:Ev->Option Bool}{tb ub:yx}{R:Rk}
def Q4 (h:y9 f t):wR (zy f) (wO t):=λ S Z L J y Q hE e hq=>by
 let#[x,e1,e2]:=An.mp e;exact h S Z L J x _ hE e1 λ d S1 s1 r1=>?_;split at e2
 .cases e2;cases Vw.bl r1;show hq S1 s1
 .cases e2
def Q6 (h:y9 f t):wR (yE f) (a_ t):=λ S Z L J y Q hE e hq=>by
 let#[x,e1,e2]:=An.mp e;exact h S Z L J x _ hE e1 λ d S1 s1 r1=>?_;cases x with
 | zh=>cases Vw.zh r1;cases e2;show hq S1 s1
 | bl b=>cases Vw.bl r1;cases e2;show hq S1 s1
 | int b=>cases Vw.int r1;cases e2;show hq S1 s1
 | str b=>
  cases Vw.str r1;simp![sP] at e2;split at e2
  .rename_i hh;cases e2;show#[hh,hq S1 s1]
  .cases e2
 | tup ts=>
  let#[ds,rfl,h2]:=Vw.tup r1;cases e2;change Q (!ds.isEmpty) S1;rw[h2.empty];show hq S1 s1
 | lst ts=>
  obtain⟨ds,rfl | ⟨a,rfl,h1⟩,h2⟩:=Vw.lst r1
  .cases e2;change Q (!ds.isEmpty) S1;rw[h2.empty];show hq S1 s1
  .cases e2;exact Wx h1 ?_;rw[h2.empty];show hq S1 s1
 | _=>cases e2
def Pw (h:wR fb tb) (h':wR gb ub):wR (tu fb gb) (nQ tb ub):=λ S Z L J y Q hE e hq=>by
 let#[b,e1,e2]:=An.mp e;exact h S Z L J b _ hE e1 λ S1 s1=>?_;split at e2
 .rename_i hb;rw[if_pos hb];show h' S1 Z L J y _ (hE.grow s1) e2 λ S2 s2=>hq S2 (s1.trans s2)
 .rename_i hb;rw[if_neg hb];cases e2;show hq S1 s1
def Pq (h:wR fb tb) (h':wR gb ub):wR (w9 fb gb) (nN tb ub):=λ S Z L J y Q hE e hq=>by
 let#[b,e1,e2]:=An.mp e;exact h S Z L J b _ hE e1 λ S1 s1=>?_;split at e2
 .rename_i hb;rw[if_pos hb];cases e2;show hq S1 s1
 .rename_i hb;rw[if_neg hb];show h' S1 Z L J y _ (hE.grow s1) e2 λ S2 s2=>hq S2 (s1.trans s2)
def Pt (h:wR fb tb):wR (wA fb) (nP tb):=λ S Z L J y Q hE e hq=>by
 unfold wA at e;let#[b,e1,rfl]:=AK.mp e;show h S Z L J b _ hE e1 λ S1 s1=>hq S1 s1
@[simp] def r9 (f g:Ah):Ah:=fun J=>(f J).bind λ x=>match x with
 | .bl k=>if k=true then g J else ↑(.bl false)
 | _=>none
@[simp] def iu (f:Ah):Ah:=fun J=>(f J).bind λ x=>match x with
 | .bl k=>↑(.bl (!k))
 | _=>none
@[simp] def aj (c:Ev->Option Bool) (f g:Ah):Ah:=fun J=>(c J).bind λ b=>if b=true then f J else g J
def PX [Cl R] (h:y9 f t) (h':xu R g u):xu R (r9 f g) (n_ t u):=λ S Z L J y Q hE e hq=>by
 let#[x,e1,e2]:=An.mp e;exact h S Z L J x _ hE e1 λ d S1 s1 r1=>?_;split at e2
 .cases Vw.bl r1;split at e2
  .rename_i hb;dsimp only;rw[if_pos hb];show h' S1 Z L J y _ (hE.grow s1) e2 λ d S2 s2 r2=>hq d S2 (s1.trans s2) (Cl.cl s1 r2)
  .rename_i hb;dsimp only;rw[if_neg hb];cases e2;show hq _ S1 s1 (Cl.of (λ _=>nofun) wH)
 .cases e2
def QH [Cl R] (h:y9 f t):xu R (iu f) (nW t):=λ S Z L J y Q hE e hq=>by
 let#[x,e1,e2]:=An.mp e;exact h S Z L J x _ hE e1 λ d S1 s1 r1=>?_;split at e2
 .cases Vw.bl r1;cases e2;show hq _ S1 s1 (Cl.of (λ _=>nofun) wH)
 .cases e2
def Pm [Cl R] (hc:wR fb tb) (h:xu R f t) (h':xu R g u):xu R (aj fb f g) (nY tb t u):=λ S Z L J y Q hE e hq=>by
 let#[b,e1,e2]:=An.mp e;exact hc S Z L J b _ hE e1 λ S1 s1=>?_;split at e2
 .rename_i hb;rw[if_pos hb];show h S1 Z L J y _ (hE.grow s1) e2 λ d S2 s2 r2=>hq d S2 (s1.trans s2) (Cl.cl s1 r2)
 .rename_i hb;rw[if_neg hb];show h' S1 Z L J y _ (hE.grow s1) e2 λ d S2 s2 r2=>hq d S2 (s1.trans s2) (Cl.cl s1 r2)
end
def mz (S:SS) (Z:Addr->Prop):List T->List D->Prop
 | [],ds=>ds=[]
 | t::ts,ds=>∃ c cs,ds=c::cs/\Vw S Z t c/\mz S Z ts cs
def qJ (f:Ev->Option (List T)) (t:yh):Prop:=∀ S Z L J ys Q,ER S Z L J->f J=↑ys->(∀ ds S',Sx S S'->mz S' Z ys ds->Q ds S')->t L S Q
def rK (f:Ev->Option (List T)) (t:yh):Prop:=∀ S Z L J ys Q,ER S Z L J->f J=↑ys->(∀ ds S',Sx S S'->zi (zN S' Z) ys ds->Q ds S')->t L S Q
@[simp] def zf:Ev->Option (List T):=λ _=>↑[]
@[simp] def za (f:Ah) (g:Ev->Option (List T)):Ev->Option (List T):=fun J=>(f J).bind λ x=>(g J).bind λ xs=>↑(x::xs)
section
variable {f:Ah}{g:Ev->Option (List T)}{t:zr}{u:yh}
def Qy:qJ zf k6:=λ S Z L J y Q hE e hq=>by cases e;show hq [] S (.refl S) rfl
def Qv:rK zf k6:=λ S Z L J y Q hE e hq=>by cases e;show hq [] S (.refl S) .nil
def Qz (h:y9 f t) (h':qJ g u):qJ (za f g) (qy t u):=λ S Z L J y Q hE e hq=>by
 let#[x,e1,e0]:=An.mp e;let#[xs,e2,e3]:=An.mp e0;cases e3;exact h S Z L J x _ hE e1 λ d S1 s1 r1=>?_;exact h' S1 Z L J xs _ (hE.grow s1) e2 λ ds S2 s2 r2=>?_;show hq _ S2 (s1.trans s2) #[d,ds,rfl,Vw.grow r1 s2,r2]
def Qw (h:vi f t) (h':rK g u):rK (za f g) (qy t u):=λ S Z L J y Q hE e hq=>by
 let#[x,e1,e0]:=An.mp e;let#[xs,e2,e3]:=An.mp e0;cases e3;exact h S Z L J x _ hE e1 λ d S1 s1 r1=>?_;exact h' S1 Z L J xs _ (hE.grow s1) e2 λ ds S2 s2 r2=>?_;show hq _ S2 (s1.trans s2) (.cons (Sn.sx (wL s2) x r1) r2)
@[simp] def tupS (g:Ev->Option (List T)):Ah:=fun J=>(g J).bind λ xs=>if xs.length<=sizeLine then ↑(.tup xs) else none
@[simp] def yO (g:Ev->Option (List T)):Ah:=fun J=>(g J).bind λ xs=>if xs.length<=sizeLine then ↑(.lst xs) else none
def Q3 (h:rK g u):xG (tupS g) (Zi u):=λ S Z L J y Q hE e hq=>by
 let#[xs,e1,e2]:=An.mp e;split at e2
 .rename_i hl;cases e2;exact h S Z L J xs _ hE e1 λ ds S1 s1 r1=>#[by rw[r1.len];show hl,hq _ S1 s1 (Cl.of (λ _=>nofun) (qe r1))]
 .cases e2
def QN (h:rK g u):xG (yO g) (Zl u):=λ S Z L J y Q hE e hq=>by
 let#[xs,e1,e2]:=An.mp e;split at e2
 .rename_i hl;cases e2;exact h S Z L J xs _ hE e1 λ ds S1 s1 r1=>#[by rw[r1.len];show hl,λ p hp=>hq _ _ (s1.trans (.new hp _)) (Cl.cl s1 (tM (hE.grow s1).zd hp r1))]
 .cases e2
end
@[simp] def zq (F:Al) (g:Ev->Option (List T)):Ah:=fun J=>(g J).bind F
def vS (R:Rk) (F:Al) (f:xF):Prop:=∀ S Z ys z ds Q,(∀ a,Z a->S a≠none)->mz S Z ys ds->F ys=↑z->(∀ c S',Sx S S'->R S S' Z z c->Q c S')->f ds S Q
def PJ {R:Rk} [Cl R] {F:Al}{f:xF}{g:Ev->Option (List T)}{u:yh}(hf:vS R F f) (h:qJ g u):xu R (zq F g) (xE f u):=λ S Z L J y Q hE e hq=>by
 let#[xs,e1,e2]:=An.mp e;exact h S Z L J xs _ hE e1 λ ds S1 s1 r1=>?_;show hf S1 Z xs y ds Q (hE.grow s1).zd r1 e2 λ c S' s r=>hq c S' (s1.trans s) (Cl.cl s1 r)
@[simp] def xZ:Al
 | [.str z]=>if z.length<=sizeLine then ↑(.int z.length) else none
 | [y]=>(xX y).map λ ts=>.int ts.length
 | _=>none
def vy {S:SS}{Z:Addr->Prop}{y:T}{ds:List D}(h:mz S Z [y] ds):∃ d,ds=[d]/\Vw S Z y d:=by
 let#[c,cs,rfl,h1,h2]:=h;cases h2;show#[c,rfl,h1]
def eF {S:SS}{Z:Addr->Prop}{y z:T}{ds:List D}(h:mz S Z [y,z] ds):∃ d e,ds=[d,e]/\Vw S Z y d/\Vw S Z z e:=by
 let#[c,cs,rfl,h1,c2,cs2,rfl,h2,h3]:=h;cases h3;show#[c,c2,rfl,h1,h2]
def NW:vS zx xZ uo:=λ S Z ys z ds Q hz hv e hq=>by
 unfold xZ at e;split at e
 .let#[d,rfl,h1]:=vy hv;split at e
  .rename_i hl;cases e;cases h1.str;show#[hl,hq _ S (.refl S) (Cl.of (λ _=>nofun) wY)]
  .cases e
 .let#[d,rfl,h1]:=vy hv;let#[ts,e1,rfl]:=AK.mp e;let#[es,h2,h3]:=h1.seq e1;exact Mv h2 ?_;rw[h3.len];show hq _ S (.refl S) (Cl.of (λ _=>nofun) wY)
 .cases e
@[simp] def listS:Al
 | [y]=>(xX y).map .lst
 | _=>none
def NV:vS zx listS um:=λ S Z ys z ds Q hz hv e hq=>by
 unfold listS at e;split at e
 .let#[d,rfl,h1]:=vy hv;let#[ts,e1,rfl]:=AK.mp e;let#[es,h2,h3]:=h1.seq e1;show Mu h2 λ p hp=>hq _ _ (.new hp _) (tM hz hp h3)
 .cases e
@[simp] def rZ:Al
 | [y]=>(xX y).map .tup
 | _=>none
def NL:vS zx rZ uk:=λ S Z ys z ds Q hz hv e hq=>by
 unfold rZ at e;split at e
 .rename_i y;let#[d,rfl,h1]:=vy hv;let#[ts,e1,rfl]:=AK.mp e;let#[es,h2,h3]:=h1.seq e1;have k:Q (.tup es) S:=hq _ S (.refl S) (Cl.of (λ _=>nofun) (qe h3));unfold zM at h2;split at h2
  .cases h2;show k
  .cases h2;show k
  .split at h2
   .rename_i q;cases h2;show Mt q k
   .cases h2
  .cases h2
 .cases e
@[simp] def qu (g:Int->Int->Int):Al
 | [.int i,.int j]=>↑(.int (g i j))
 | _=>none
def au {g:Int->Int->Int}:vS zx (qu g) (vJ λ i j=>.int (g i j)):=λ S Z ys z ds Q hz hv e hq=>by
 unfold qu at e;split at e
 .let#[d,d',rfl,h1,h2]:=eF hv;cases e;cases h1.int;cases h2.int;show hq _ S (.refl S) (Cl.of (λ _=>nofun) wY)
 .cases e
@[simp] def qm:Al:=qu λ i j=>if j>i then j else i
@[simp] def uC:Al:=qu λ i j=>if j<i then j else i
def sf:List T->Option (List Bool)
 | []=>↑[]
 | .bl b::ts=>(sf ts).map (b::·)
 | _::_=>none
theorem ZN:∀ {ts:List T}{bs:List Bool},sf ts=↑bs->ts=bs.map T.bl
 | [],bs,h=>by cases h;rfl
 | .bl b::ts,bs,h=>by
  unfold sf at h;let#[cs,h1,rfl]:=AK.mp h;rw[Ax,<- ZN h1]
 | .zh::ts,bs,h=>by cases h
 | .int _::ts,bs,h=>by cases h
 | .str _::ts,bs,h=>by cases h
 | .tup _::ts,bs,h=>by cases h
 | .lst _::ts,bs,h=>by cases h
def ZO (bs:List Bool):sf (bs.map T.bl)=↑bs:=by
 induction bs with
 | nil=>rfl
 | cons b bs ih=>rw[Ax];unfold sf;rw[ih];rfl
@[simp] def ml (g:List Bool->Bool):Al
 | [.lst ts]=>(sf ts).map λ bs=>.bl (g bs)
 | _=>none
def vK (g:List Bool->Bool):xF:=λ ds S Q=>match ds with
 | [.tup _]=>False
 | [d]=>∃ bs:List Bool,zM d S=↑(bs.map D.bl)/\Q (.bl (g bs)) S
 | _=>False
def N_ {g:List Bool->Bool}:vS zx (ml g) (vK g):=λ S Z ys z ds Q hz hv e hq=>by
 unfold ml at e;split at e
 .let#[d,rfl,h1]:=vy hv;let#[bs,e1,rfl]:=AK.mp e;cases ZN e1;let#[es,h2,h3]:=h1.seq rfl;cases h3.ZQ;have key:∃ bs:List Bool,zM d S=↑(bs.map D.bl)/\Q (.bl (g bs)) S:=#[bs,h2,hq _ S (.refl S) (Cl.of (λ _=>nofun) wH)];obtain⟨_,q | ⟨a,q,_⟩,_⟩:=h1.lst
  .subst q;show key
  .subst q;show key
 .cases e
structure FR (S0:SS) (Z0:Addr->Prop) (S:SS) (Z:Addr->Prop) (L:z_) (J:Ev):Prop where
 er:ER S Z L J
 len:L.length=J.length
 sx:Sx S0 S
 z0:∀ a,Z0 a->S0 a≠none
 zz:∀ a,Z0 a->Z a
 zn:∀ a,Z a->Z0 a\/S0 a=none
 fr:∀ (i:Nat) ts p,J[i]?=↑↑(.own ts)->L[i]?=↑↑(.ref p)->S0 p=none
 dj:∀ (i j:Nat) ts us p,i≠j->J[i]?=↑↑(.own ts)->J[j]?=↑↑(.own us)->L[i]?=↑↑(.ref p)->L[j]?=↑↑(.ref p)->False
def yy {α:Type}{l:List α}{i j:Nat}{a b:α}(h:(l.set i a)[j]?=↑b):(i=j/\i<l.length/\b=a)\/(i≠j/\l[j]?=↑b):=by
 rw[CP] at h;by_cases e:i=j
 .subst e;rw[if_pos rfl] at h;by_cases hl:i<l.length
  .rw[if_pos hl] at h;cases h;show .inl #[rfl,hl,rfl]
  .rw[if_neg hl] at h;cases h
 .rw[if_neg e] at h;show .inr #[e,h]
def xK {α:Type}{l:List α}{i j:Nat}{a:α}(h:i≠j):(l.set i a)[j]?=l[j]?:=by rw[CP,if_neg h]
def pR {α:Type}{l:List α}{i:Nat}{a:α}(h:i<l.length):(l.set i a)[i]?=↑a:=by rw[CP,if_pos rfl,if_pos h]
section
variable {S0 S S':SS}{Z0 Z:Addr->Prop}{L:z_}{J:Ev}{y:T}{d:D}
theorem FR.grow (h:FR S0 Z0 S Z L J) (s:Sx S S'):FR S0 Z0 S' Z L J:=#[h.er.grow s,h.len,h.sx.trans s,h.z0,h.zz,h.zn,h.fr,h.dj]
theorem FR.q_ (h:FR S0 Z0 S Z L J) (i:Nat) (r:Sn (zN S Z) y d):FR S0 Z0 S Z (L.set i ↑d) (J.set i ↑(.im y)):=by
 exact#[#[h.er.zd,λ j t e=>?_,λ j ts e=>?_],by simp[h.len],h.sx,h.z0,h.zz,h.zn,λ j ts p e e'=>?_,λ j k ts us p n e1 e2 e3 e4=>?_]
 .rcases yy e with ⟨rfl,hl,e⟩ | ⟨n,e⟩
  .cases e;show#[d,pR (by rw[h.len];show hl),r]
  .rw[xK n];show h.er.im j t e
 .rcases yy e with ⟨rfl,hl,e⟩ | ⟨n,e⟩
  .cases e
  .rw[xK n];show h.er.ow j ts e
 .rcases yy e with ⟨rfl,hl,e⟩ | ⟨n,e⟩
  .cases e
  .rw[xK n] at e';show h.fr j ts p e e'
 .rcases yy e1 with ⟨rfl,hl,e⟩ | ⟨n1,e1⟩
  .cases e
  rcases yy e2 with ⟨rfl,hl,e⟩ | ⟨n2,e2⟩
  .cases e
  rw[xK n1] at e3;rw[xK n2] at e4;show h.dj j k ts us p n e1 e2 e3 e4
def FR.dA {ts:C}{ds:O}{p:Addr}(h:FR S0 Z0 S Z L J) (s:Sx S S') (i:Nat) (hp:S p=none) (hd:S' p=↑ds) (r:tB (zN S' λ a=>Z a\/a=p) ts ds):
  FR S0 Z0 S' (λ a=>Z a\/a=p) (L.set i ↑(.ref p)) (J.set i ↑(.own ts)):=by
 have np:∀ (j:Nat) us q,J[j]?=↑↑(.own us)->L[j]?=↑↑(.ref q)->q≠p:=λ j us q e e' z=>by
  subst z;let#[p',HN,h1,h2,_]:=h.er.ow j us e;rw[e'] at h1;cases h1;rw[hp] at h2;cases h2
 exact#[#[λ a z=>?_,λ j t e=>?_,λ j us e=>?_],by simp[h.len],h.sx.trans s,h.z0,λ a z=>.inl (h.zz a z),λ a z=>z.elim (h.zn a) (λ q=>.inr (by subst q;show h.sx.none hp)),λ j us q e e'=>?_,λ j k us vs q n e1 e2 e3 e4=>?_]
 .rcases z with z | rfl
  .show λ q=>h.er.zd a z (s.none q)
  .rw[hd];nofun
 .rcases yy e with ⟨rfl,hl,e⟩ | ⟨n,e⟩
  .cases e
  .rw[xK n];let#[d,h1,h2]:=h.er.im j t e;show#[d,h1,Sn.sx (pO s hp) t h2]
 .rcases yy e with ⟨rfl,hl,e⟩ | ⟨n,e⟩
  .cases e;show#[p,ds,pR (by rw[h.len];show hl),hd,r,.inr rfl]
  .rw[xK n];let#[q,es,h1,h2,h3,h4]:=h.er.ow j us e;show#[q,es,h1,s _ _ h2,tB.sx (pO s hp) h3,.inl h4]
 .rcases yy e with ⟨rfl,hl,e⟩ | ⟨n,e⟩
  .rw[pR (by rw[h.len];show hl)] at e';cases e';show h.sx.none hp
  .rw[xK n] at e';show h.fr j us q e e'
 .rcases yy e1 with ⟨rfl,hl,e⟩ | ⟨n1,e1⟩
  .rcases yy e2 with ⟨rfl,_,_⟩ | ⟨n2,e2⟩
   .show n rfl
   .rw[pR (by rw[h.len];show hl)] at e3;cases e3;rw[xK n2] at e4;show np k vs p e2 e4 rfl
  .rcases yy e2 with ⟨rfl,hl,_⟩ | ⟨n2,e2⟩
   .rw[pR (by rw[h.len];show hl)] at e4;cases e4;rw[xK n1] at e3;show np j us p e1 e3 rfl
   .rw[xK n1] at e3;rw[xK n2] at e4;show h.dj j k us vs q n e1 e2 e3 e4
def FR.forget (h:FR S0 Z0 S Z L J) (i:Nat):FR S0 Z0 S Z L (J.set i none):=by
 exact#[#[h.er.zd,λ j t e=>?_,λ j ts e=>?_],by simp[h.len],h.sx,h.z0,h.zz,h.zn,λ j ts p e e'=>?_,λ j k ts us p n e1 e2 e3 e4=>?_]
 .rcases yy e with ⟨rfl,hl,e⟩ | ⟨n,e⟩
  .cases e
  .show h.er.im j t e
 .rcases yy e with ⟨rfl,hl,e⟩ | ⟨n,e⟩
  .cases e
  .show h.er.ow j ts e
 .rcases yy e with ⟨rfl,hl,e⟩ | ⟨n,e⟩
  .cases e
  .show h.fr j ts p e e'
 .rcases yy e1 with ⟨rfl,hl,e⟩ | ⟨n1,e1⟩
  .cases e
  rcases yy e2 with ⟨rfl,hl,e⟩ | ⟨n2,e2⟩
  .cases e
  show h.dj j k ts us p n e1 e2 e3 e4
@[simp] def yC (is:List Nat) (J:Ev):Ev:=is.foldl (fun J i=>J.set i none) J
theorem FR.yC:∀ (is:List Nat) {J:Ev},FR S0 Z0 S Z L J->FR S0 Z0 S Z L (yC is J)
 | [],_,h=>h
 | i::is,_,h=>FR.yC is (h.forget i)
def FR.freeze {ts:List T}{p:Addr}(h:FR S0 Z0 S Z L J) (i:Nat) (e:J[i]?=↑↑(.own (.lst ts))) (ed:L[i]?=↑↑(.ref p)):
  FR S0 Z0 S (λ a=>Z a/\a≠p) L (J.set i ↑(.im (.lst ts)))/\Sn (zN S λ a=>Z a/\a≠p) (.lst ts) (.ref p):=by
 let#[p',o,h1,h2,h3,h4]:=h.er.ow i _ e;rw[ed] at h1;cases h1;obtain⟨ds,rfl⟩:∃ ds,o=.lst ds:=by
  cases o with
  | lst ds=>show#[ds,rfl]
  | zD _=>show h3.elim
 replace h3:zi (zN S Z) ts ds:=h3;have hS:Sn (zN S λ a=>Z a/\a≠p) (.lst ts) (.ref p):=by
  simp![Sn];show#[ds,.inr #[p,rfl,by rw[ui (λ z=>z.2 rfl)];show h2],zi.sx (uj λ a z=>z.1) ts h3]
 exact#[?_,hS];exact#[#[λ a z=>h.er.zd a z.1,λ j t e'=>?_,λ j us e'=>?_],by simp[h.len],h.sx,h.z0,λ a z=>#[h.zz a z,λ q=>?_],λ a z=>h.zn a z.1,λ j us q e' JP=>?_,λ j k us vs q n e1 e2 e3 e4=>?_]
 .rcases yy e' with ⟨rfl,hl,e'⟩ | ⟨n,e'⟩
  .cases e';show#[_,ed,hS]
  .let#[d,g1,g2]:=h.er.im j t e';show#[d,g1,Sn.sx (uj λ a z=>z.1) t g2]
 .rcases yy e' with ⟨rfl,hl,e'⟩ | ⟨n,e'⟩
  .cases e'
  .let#[q,es,g1,g2,g3,g4]:=h.er.ow j us e';show#[q,es,g1,g2,tB.sx (uj λ a z=>z.1) g3,g4,λ z=>by subst z;show h.dj i j _ us q n e e' ed g1]
 .subst q;show h.z0 a z (h.fr i _ a e ed)
 .rcases yy e' with ⟨rfl,hl,e'⟩ | ⟨n,e'⟩
  .cases e'
  .show h.fr j us q e' JP
 .rcases yy e1 with ⟨rfl,hl,e⟩ | ⟨n1,e1⟩
  .cases e
  rcases yy e2 with ⟨rfl,hl,e⟩ | ⟨n2,e2⟩
  .cases e
  show h.dj j k us vs q n e1 e2 e3 e4
def FR.mut {ts us:C}{es:O}{p:Addr}(h:FR S0 Z0 S Z L J) (i:Nat) (e:J[i]?=↑↑(.own ts)) (ed:L[i]?=↑↑(.ref p)) (r:tB (zN S Z) us es):
  FR S0 Z0 (ups S p es) Z L (J.set i ↑(.own us)):=by
 let#[p',ds,h1,h2,h3,h4]:=h.er.ow i ts e;rw[ed] at h1;cases h1;have hh:zN (ups S p es) Z=zN S Z:=NB h4;have hpn:=h.fr i ts p e ed;exact#[#[λ a z=>?_,λ j t e'=>?_,λ j vs e'=>?_],by simp[h.len],λ b o q=>?_,h.z0,h.zz,h.zn,λ j vs q e' JP=>?_,λ j k vs ws q n e1 e2 e3 e4=>?_]
 .by_cases hp:a=p
  .subst hp;rw[sN];nofun
  .rw[tJ hp];show h.er.zd a z
 .rw[hh];rcases yy e' with ⟨rfl,hl,e'⟩ | ⟨n,e'⟩
  .cases e'
  .show h.er.im j t e'
 .rw[hh];rcases yy e' with ⟨rfl,hl,e'⟩ | ⟨n,e'⟩
  .cases e';show#[p,es,ed,sN,r,h4]
  .let#[q,Gi,g1,g2,g3,g4]:=h.er.ow j vs e';exact#[q,Gi,g1,?_,g3,g4];rw[tJ (λ z=>by subst z;show h.dj i j ts vs q n e e' ed g1)];show g2
 .rw[tJ (λ z=>by subst z;rw[hpn] at q;cases q)];show h.sx b o q
 .rcases yy e' with ⟨rfl,hl,_⟩ | ⟨n,e'⟩
  .rw[ed] at JP;cases JP;show hpn
  .show h.fr j vs q e' JP
 .rcases yy e1 with ⟨rfl,hl,_⟩ | ⟨n1,e1⟩
  .rcases yy e2 with ⟨rfl,hl,_⟩ | ⟨n2,e2⟩
   .show n rfl
   .show h.dj _ k ts ws q n e e2 e3 e4
  .rcases yy e2 with ⟨rfl,hl,_⟩ | ⟨n2,e2⟩
   .show h.dj j _ vs ts q n e1 e e3 e4
   .show h.dj j k vs ws q n e1 e2 e3 e4
def jR (S0 S:SS) (Z:Addr->Prop):SS:=open Classical in λ a=>if S0 a=none/\Z a then none else S a
def lB {a:Addr}(h:¬ (S0 a=none/\Z a)):jR S0 S Z a=S a:=if_neg h
def jQ {a:Addr}(h:S0 a=none/\Z a):jR S0 S Z a=none:=if_pos h
def FR.rebase (h:FR S0 Z0 S Z L J):∃ S1,Sx S0 S1/\FR S1 Z0 S Z L J/\Sx (zN S Z) S1:=by
 exact#[jR S0 S Z,λ b o q=>?_,#[h.er,h.len,λ b o q=>?_,λ a z=>?_,h.zz,λ a z=>?_,λ i ts p e ed=>?_,h.dj],λ b o q=>?_]
 .rw[lB (λ z=>by rw[z.1] at q;cases q)];show h.sx _ _ q
 .by_cases w:S0 b=none/\Z b
  .rw[jQ w] at q;cases q
  .rw[lB w] at q;show q
 .rw[lB (λ q=>h.z0 a z q.1)];show h.er.zd a (h.zz a z)
 .rcases h.zn a z with w | w
  .show .inl w
  .show .inr (jQ #[w,z])
 .let#[p',ds,h1,h2,h3,h4]:=h.er.ow i ts e;rw[ed] at h1;cases h1;show jQ #[h.fr i ts p e ed,h4]
 .let#[q1,q2]:=tf q;rw[lB (λ z=>q1 z.2)];show q2
def FR.back {S1:SS}(h:FR S1 Z0 S Z L J) (s:Sx S0 S1) (z0:∀ a,Z0 a->S0 a≠none):FR S0 Z0 S Z L J:=#[h.er,h.len,s.trans h.sx,z0,h.zz,λ a z=>(h.zn a z).imp id s.none,λ i ts p e ed=>s.none (h.fr i ts p e ed),h.dj]
def FR.Vs {S1:SS}{Z1:Addr->Prop}(h:FR S0 Z0 S Z L J) (b:Sx (zN S1 Z1) S0) (zz:∀ a,Z0 a->Z1 a):Sx (zN S1 Z1) (zN S Z):=λ a o q=>by
 have q0:=b _ _ q;let#[q1,q2]:=tf q;rw[ui]
 .show h.sx _ _ q0
 .intro z;rcases h.zn a z with w | w
  .show q1 (zz a w)
  .rw[w] at q0;cases q0
end
inductive Out where
 | nx (J:Ev) | rt (t:T) | bk (J:Ev) | ct (J:Ev)
abbrev Sm:=Ev->Option Out
def Ki (R:Rk) (S0:SS) (Z0:Addr->Prop) (o:Out) (E:tG):Prop:=match o with
 | .nx J=>∀ S Z L,FR S0 Z0 S Z L J->E.nx L S
 | .bk J=>∀ S Z L,FR S0 Z0 S Z L J->E.bk L S
 | .ct J=>∀ S Z L,FR S0 Z0 S Z L J->E.ct L S
 | .rt y=>∀ d S,Sx S0 S->R S0 S Z0 y d->E.rt d S
def yc (R:Rk) (g:Sm) (t:yf):Prop:=∀ S0 Z0 S Z L J o E,FR S0 Z0 S Z L J->g J=↑o->Ki R S0 Z0 o E->t E L S
class Lo (R:Rk):Prop extends Cl R where
 lo:∀ {S0 S S':SS}{Z0 Z:Addr->Prop}{y:T}{d:D},Sx S0 S->(∀ a,Z0 a->Z a)->R S S' Z y d->R S0 S' Z0 y d
instance:Lo xt:=#[λ _ z h=>Sn.sx (uj z) _ h]
instance:Lo zx:=#[λ s z h=>#[Sn.sx (uj z) _ h.1,λ ts e=>by
 let#[p,ds,h1,h2,h3,h4]:=h.2 ts e;show#[p,ds,h1,s.none h2,h3,zi.sx (uj λ a q=>q.imp (z a) id) ts h4]]]
@[simp] def zo (g h:Sm):Sm:=fun J=>(g J).bind λ o=>match o with
 | .nx J'=>h J'
 | o=>↑o
@[simp] def zU:Sm:=fun J=>↑(.nx J)
@[simp] def zv (i:Nat) (f:Ah):Sm:=fun J=>(f J).map λ y=>.nx (J.set i ↑(.im y))
@[simp] def t8 (i:Nat) (f:Ah):Sm:=fun J=>(f J).bind λ y=>match y with
 | .lst ts=>↑(.nx (J.set i ↑(.own (.lst ts))))
 | y=>↑(.nx (J.set i ↑(.im y)))
@[simp] def gB (f:Ah):Sm:=fun J=>(f J).map λ _=>.nx J
@[simp] def retS (f:Ah):Sm:=fun J=>(f J).map .rt
@[simp] def qg (i:Nat):Sm:=fun J=>match J[i]? with
 | some ↑(.own (.lst ts))=>↑(.rt (.lst ts))
 | _=>none
@[simp] def zT (c:Ev->Option Bool) (g h:Sm):Sm:=fun J=>(c J).bind λ b=>if b=true then g J else h J
@[simp] def gf (i:Nat) (J:Ev):Ev:=match J[i]? with
 | some ↑(.own (.lst ts))=>J.set i ↑(.im (.lst ts))
 | _=>J
@[simp] def h_ (i:Nat) (g:Sm):Sm:=fun J=>g (gf i J)
section
variable {R:Rk}{g h:Sm}{t u:yf}{f:Ah}{te:zr}
def RO (hg:yc R g t) (hh:yc R h u):yc R (zo g h) (qx t u):=λ S0 Z0 S Z L J o E F e P=>by
 let#[o1,e1,e2]:=An.mp e;exact hg S0 Z0 S Z L J o1 { E with nx:=u E } F e1 ?_;cases o1 with
 | nx J1=>show λ S1 Z1 L1 F1=>hh S0 Z0 S1 Z1 L1 J1 o E F1 e2 P
 | rt y=>cases e2;show P
 | bk y=>cases e2;show P
 | ct y=>cases e2;show P
def RM:yc R zU gJ:=λ S0 Z0 S Z L J o E F e P=>by cases e;show P S Z L F
def Qc (i:Nat) (hf:vi f te):yc R (zv i f) (uI te (hName i)):=λ S0 Z0 S Z L J o E F e P=>by
 let#[y,e1,rfl]:=AK.mp e;show hf S Z L J y _ F.er e1 λ d S1 s1 r1=>P S1 Z _ ((F.grow s1).q_ i r1)
def Qb (i:Nat) (hf:xG f te):yc R (t8 i f) (uI te (hName i)):=λ S0 Z0 S Z L J o E F e P=>by
 let#[y,e1,e2]:=An.mp e;exact hf S Z L J y _ F.er e1 λ d S1 s1 r1=>?_;cases y with
 | lst ts=>
  cases e2;let#[p,ds,rfl,h1,h2,h3]:=r1.2 ts rfl;show P S1 _ _ (F.dA (ts:=.lst ts) (ds:=.lst ds) s1 i h1 h2 h3)
 | _=>cases e2;show P S1 Z _ ((F.grow s1).q_ i r1.1)
def RZ (hf:y9 f te):yc R (gB f) (k8 te):=λ S0 Z0 S Z L J o E F e P=>by
 let#[y,e1,rfl]:=AK.mp e;show hf S Z L J y _ F.er e1 λ d S1 s1 r1=>P S1 Z _ (F.grow s1)
def RS [Lo R] (hf:xu R f te):yc R (retS f) (gH te):=λ S0 Z0 S Z L J o E F e P=>by
 let#[y,e1,rfl]:=AK.mp e;show hf S Z L J y _ F.er e1 λ d S1 s1 r1=>P d S1 (F.sx.trans s1) (Lo.lo F.sx F.zz r1)
def ik (i:Nat):yc zx (qg i) (gH (yq i)):=λ S0 Z0 S Z L J o E F e P=>by
 unfold qg at e;split at e
 .rename_i ts h;cases e;let#[p,ob,h1,h2,h3,h4]:=F.er.ow i _ h;obtain⟨ds,rfl⟩:∃ ds,ob=.lst ds:=by
   cases ob with
   | lst ds=>show#[ds,rfl]
   | zD _=>show h3.elim
  replace h3:zi (zN S Z) ts ds:=h3;have hn:=F.fr i _ p h h1;have nz:¬ Z0 p:=λ z=>F.z0 p z hn;change yq i L S E.rt;unfold yq;rw[h1];exact P _ S F.sx #[?_,λ us e=>?_]
  .simp![Sn];show#[ds,.inr #[p,rfl,by rw[ui nz];show h2],zi.sx (uj F.zz) ts h3]
  .cases e;show#[p,ds,rfl,hn,h2,zi.sx (uj λ a q=>q.elim (F.zz a) λ q=>q▸h4) ts h3]
 .cases e
def yc.fv (h:yc zx g t):yc xt g t:=λ S0 Z0 S Z L J o E F e P=>by
 exact h S0 Z0 S Z L J o E F e ?_;cases o with
 | rt y=>show λ d S s r=>P d S s r.1
 | _=>show P
def RU {c:Ev->Option Bool}{tc:yx}(hc:wR c tc) (hg:yc R g t) (hh:yc R h u):yc R (zT c g h) (k7 tc t u):=λ S0 Z0 S Z L J o E F e P=>by
 let#[b,e1,e2]:=An.mp e;exact hc S Z L J b _ F.er e1 λ S1 s1=>?_;split at e2
 .rename_i hb;rw[if_pos hb];show hg S0 Z0 S1 Z L J o E (F.grow s1) e2 P
 .rename_i hb;rw[if_neg hb];show hh S0 Z0 S1 Z L J o E (F.grow s1) e2 P
def FR.fz {S0 S:SS}{Z0 Z:Addr->Prop}{L:z_}{J:Ev}(F:FR S0 Z0 S Z L J) (i:Nat):∃ Z',FR S0 Z0 S Z' L (gf i J):=by
 unfold gf;split
 .rename_i ts h;let#[p,ds,h1,_]:=F.er.ow i _ h;show#[_,(F.freeze i h h1).1]
 .show#[Z,F]
def RW (i:Nat) (hg:yc R g t):yc R (h_ i g) t:=λ S0 Z0 S Z L J o E F e P=>by
 let#[Z',F']:=F.fz i;show hg S0 Z0 S Z' L _ o E F' e P
def kY (g:T->Ev->Option Ev) (t:xB):Prop:=∀ S0 Z0 S Z L J J' y d Q,FR S0 Z0 S Z L J->Sn (zN S Z) y d->g y J=↑J'->(∀ L',FR S0 Z0 S Z L' J'->Q L' S)->t d L S Q
def kX (g:List T->Ev->Option Ev) (t:wc):Prop:=∀ S0 Z0 S Z L J J' ys ds Q,FR S0 Z0 S Z L J->zi (zN S Z) ys ds->g ys J=↑J'->(∀ L',FR S0 Z0 S Z L' J'->Q L' S)->t ds L S Q
@[simp] def zB (i:Nat):T->Ev->Option Ev:=λ y J=>↑(J.set i ↑(.im y))
@[simp] def ud:List T->Ev->Option Ev
 | [],J=>↑J
 | _::_,_=>none
@[simp] def xg (g:T->Ev->Option Ev) (h:List T->Ev->Option Ev):List T->Ev->Option Ev
 | y::ys,J=>(g y J).bind fun J'=>h ys J'
 | [],_=>none
@[simp] def vk (n:Nat) (g:List T->Ev->Option Ev):T->Ev->Option Ev
 | .tup ys,J=>if ys.length=n then g ys J else none
 | _,_=>none
def Qn (i:Nat):kY (zB i) (hName i):=λ S0 Z0 S Z L J J' y d Q F r e hq=>by cases e;show hq _ (F.q_ i r)
def Qk:kX ud iR:=λ S0 Z0 S Z L J J' ys ds Q F r e hq=>by
 cases ys with
 | nil=>simp![zi] at r;subst r;cases e;show#[rfl,hq _ F]
 | cons _ _=>cases e
def Ql {g:T->Ev->Option Ev}{h:List T->Ev->Option Ev}{t:xB}{u:wc}(hg:kY g t) (hh:kX h u):kX (xg g h) (iT t u):=λ S0 Z0 S Z L J J' ys ds Q F r e hq=>by
 cases ys with
 | nil=>cases e
 | cons y ys=>
  simp![zi] at r;let#[c,cs,rfl,r1,r2]:=r;let#[J1,e1,e2]:=An.mp e;show hg S0 Z0 S Z L J J1 y c _ F r1 e1 fun L1 F1=>hh S0 Z0 S Z L1 J1 J' ys cs Q F1 r2 e2 hq
def Qm {n:Nat}{g:List T->Ev->Option Ev}{t:wc}(hg:kX g t):kY (vk n g) (pP n t):=λ S0 Z0 S Z L J J' y d Q F r e hq=>by
 cases y with
 | tup ys=>
  simp![Sn] at r;let#[ds,rfl,r]:=r;simp![vk] at e;split at e
  .rename_i hl;show#[by rw[r.len];show hl,hg S0 Z0 S Z L J J' ys ds Q F r e hq]
  .cases e
 | _=>cases e
def rH (free:Bool) (f:Ev->Option (List T)) (ti:wC):Prop:=∀ S Z L J ts Q,ER S Z L J->f J=↑ts->(∀ I S',Sx S S'->zi (zN S' Z) ts I.items->(∀ Ip,Sx (if free=true then zN S' Z else S') Ip->I.keep Ip)->Q I S')->ti L S Q
@[simp] def xy (f:Ah):Ev->Option (List T):=fun J=>(f J).bind xX
def Qf {f:Ah}{te:zr}(hf:y9 f te):rH false (xy f) (iH te):=λ S Z L J ts Q hE e hq=>by
 let#[y,e1,e2]:=An.mp e;exact hf S Z L J y _ hE e1 λ d S1 s1 r1=>?_;cases y with
 | tup us=>
  cases e2;let#[ds,rfl,h2]:=Vw.tup r1;show hq _ S1 s1 h2 λ _ _=>trivial
 | lst us=>
  cases e2;obtain⟨ds,rfl | ⟨a,rfl,h1⟩,h2⟩:=Vw.lst r1
  .show hq _ S1 s1 h2 λ _ _=>trivial
  .dsimp only;rw[h1];show hq #[ds,_] S1 s1 h2 λ Ip s=>s _ _ h1
 | _=>cases e2
def Qg {f:Ah}{te:zr}(hf:vi f te):rH true (xy f) (iH te):=λ S Z L J ts Q hE e hq=>by
 let#[y,e1,e2]:=An.mp e;exact hf S Z L J y _ hE e1 λ d S1 s1 r1=>?_;cases y with
 | tup us=>
  cases e2;let#[ds,rfl,h2]:=Vw.tup (.inl r1);show hq _ S1 s1 h2 λ _ _=>trivial
 | lst us=>
  cases e2;have r2:=r1;unfold xt at r2;simp![Sn] at r2;obtain⟨ds,⟨rfl,_⟩ | ⟨a,rfl,h1⟩,h2⟩:=r2
  .show hq _ S1 s1 h2 λ _ _=>trivial
  .dsimp only;rw[(tf h1).2];show hq #[ds,_] S1 s1 h2 λ Ip s=>s _ _ h1
 | _=>cases e2
def rangeT (lo:Int) (n:Nat):List T:=(List.range n).map λ(k:Nat)=>T.int (lo+(k:Int))
def di {S:SS}(lo:Int) (n:Nat):zi S (rangeT lo n) (v7 lo n):=by
 unfold rangeT v7
 induction List.range n with
 | nil=>show .nil
 | cons k l ih=>show .cons wY ih
def inR (j:Int):Bool:=decide (-100000000<=j)&&decide (j<=100000000)
def ai {j:Int}:inR j=true↔-100000000<=j/\j<=100000000:=by simp[inR]
def N7 {j:Int}(h:inR j=true):-(2 ^ 62)<=j/\j<2 ^ 62:=by have:=ai.mp h;lia
def uT:List T->Option (List T)
 | [.int j]=>if inR j=true then ↑(rangeT 0 j.toNat) else none
 | _=>none
@[simp] def wz (F:List T->Option (List T)) (g:Ev->Option (List T)):Ev->Option (List T):=fun J=>(g J).bind F
def Qh {b:Bool}{g:Ev->Option (List T)}{tA:yh}(h:qJ g tA):rH b (wz uT g) (iI tA):=λ S Z L J ts Q hE e hq=>by
 let#[ys,e1,e2]:=An.mp e;exact h S Z L J ys _ hE e1 λ ds S1 s1 r1=>?_;unfold uT at e2;split at e2
 .split at e2
  .rename_i hc;cases e2;let#[d,rfl,h1]:=vy r1;cases h1.int;show#[N7 hc,hq _ S1 s1 (di _ _) λ _ _=>trivial]
  .cases e2
 .cases e2
def xY (is:List Nat) (g:T->Ev->Option Ev) (b:Sm):List T->Ev->Option Out
 | [],J=>↑(.nx (yC is J))
 | y::ys,J=>(g y (yC is J)).bind fun J1=>(b J1).bind λ o=>match o with
  | .nx J2=>xY is g b ys J2
  | .ct J2=>xY is g b ys J2
  | .bk J2=>↑(.nx (yC is J2))
  | .rt t=>↑(.rt t)
@[simp] def wN (is:List Nat) (f:Ev->Option (List T)) (g:T->Ev->Option Ev) (b:Sm):Sm:=fun J=>(f J).bind λ ts=>xY is g b ts J
def RX {is:List Nat}{fi:Ev->Option (List T)}{ti:wC}{g:T->Ev->Option Ev}{tg:xB}{b:Sm}{tb:yf} [Lo R] (hi:rH true fi ti) (hg:kY g tg) (hb:yc R b tb):yc R (wN is fi g b) (nZ ti tg tb):=λ S0 Z0 S Z L J o E F e P=>by
 let#[ts,e1,e2]:=An.mp e;exact hi S Z L J ts _ F.er e1 λ I S1 s1 r1 hk=>?_;rw[if_pos rfl] at hk;let#[SB,b1,FB,b2]:=(F.grow s1).rebase;have lo:∀ S' d y,R SB S' Z0 y d->R S0 S' Z0 y d:=λ S' d y r=>Lo.lo b1 (λ _ z=>z) r;have zz:=F.zz;exact#[λ i L' S'=>∃ Z' J',FR SB Z0 S' Z' L' J'/\xY is g b (ts.drop i) J'=↑o,#[Z,J,FB,e2],λ i L' S' #[Z',J',F',_]=>hk S' (b2.trans F'.sx),λ i d L' S' hd #[Z',J',F',e']=>?_,fun L' S' #[Z',J',F',e']=>?_]
 .let#[y,hy,r2]:=r1.hZ hd;have AD:=(AX.mp hy).1;have CI:ts.drop i=y::ts.drop (i+1):=by
   rw[List.drop_eq_getElem_cons AD,(AX.mp hy).2]
  rw[CI] at e';unfold xY at e';let#[J1,g1,e']:=An.mp e';let#[o1,g2,e']:=An.mp e';exact hg SB Z0 S' Z' L' _ J1 y d _ (F'.yC is) (Sn.sx (F'.Vs b2 zz) y r2) g1 fun L2 F2=>?_
  exact hb SB Z0 S' Z' L2 J1 o1 _ F2 g2 ?_;cases o1 with
  | nx J2=>show λ S3 Z3 L3 F3=>#[Z3,J2,F3,e']
  | ct J2=>show λ S3 Z3 L3 F3=>#[Z3,J2,F3,e']
  | bk J2=>cases e';show λ S3 Z3 L3 F3=>P S3 Z3 L3 ((F3.yC is).back b1 F.z0)
  | rt y=>cases e';show λ d S3 s3 r3=>P d S3 (b1.trans s3) (lo _ _ _ r3)
 .rw[show I.items.length=ts.length from r1.len,List.drop_length] at e';unfold xY at e';cases e';show P S' Z' L' ((F'.yC is).back b1 F.z0)
end
@[simp] def uv (i:Nat) (f:Ah):Sm:=fun J=>match J[i]? with
 | some ↑(.own (.lst ts))=>(f J).bind λ y=>if ts.length<sizeLine then ↑(.nx (J.set i ↑(.own (.lst (ts++[y]))))) else none
 | _=>none
section
variable {R:Rk}{f:Ah}{te:zr}
def Qd (i:Nat) (hf:vi f te):yc R (uv i f) (k8 (rn (yq i) te)):=λ S0 Z0 S Z L J o E F e P=>by
 unfold uv at e;split at e
 .rename_i ts h;let#[y,e1,e2]:=An.mp e;split at e2
  .rename_i hl;cases e2;let#[p,ob,h1,h2,h3,h4]:=F.er.ow i _ h;obtain⟨ds,rfl⟩:∃ ds,ob=.lst ds:=by
    cases ob with
    | lst ds=>show#[ds,rfl]
    | zD _=>show h3.elim
   replace h3:zi (zN S Z) ts ds:=h3;change rn (yq i) te L S _;unfold rn yq;rw[h1];exact#[#[ds,h2],hf S Z L J y _ F.er e1 λ d S1 s1 r1=>?_];dsimp only;rw[s1 _ _ h2];have F1:=F.grow s1;exact#[by rw[h3.len];show hl,P _ Z L (F1.mut (us:=.lst (ts++[y])) (es:=.lst (ds++[d])) i h h1 ((zi.sx (wL s1) ts h3).append (.cons r1 .nil)))]
  .cases e2
 .cases e
end
def uG (pick:List (Option Nat)) (ti:wC) (g:xB) (tc:yx) (te:zr):zr:=fun L S Q=>ti L S λ I S1=>I.items.length<=sizeLine/\(∀ S,Sx S1 S->I.keep S)/\∀ p,S1 p=none->∃ W:Nat->SS->List D->Prop,W 0 S1 []/\
 (∀ i S S' acc,(∀ b o,b≠p->S b=↑o->S' b=↑o)->W i S acc->W i S' acc)/\
 (∀ i d S acc,I.items[i]?=↑d->Sx S1 S->S p=↑(.lst acc)->W i S acc->g d (uc pick L) S fun L2 S2=>qE (uc pick L) L2/\tc L2 S2 λ b S3=>if b=true then te L2 S3 λ y S4=>Sx S S4/\W (i+1) S4 (acc++[y]) else Sx S S3/\W (i+1) S3 acc)/\
 ∀ S2 acc,Sx S1 S2->S2 p=↑(.lst acc)->W I.items.length S2 acc->Q (.ref p) S2
@[simp] def oW (pick:List (Option Nat)) (J:Ev):Ev:=pick.map λ o=>o.bind λ i=>(J[i]?).join
def qz (h:T->Option (Option T)):List T->Option (List T)
 | []=>↑[]
 | y::ys=>(h y).bind λ o=>(qz h ys).map λ zs=>match o with
  | some z=>z::zs
  | none=>zs
@[simp] def qq (pick:List (Option Nat)) (g:T->Ev->Option Ev) (c:Ev->Option Bool) (f:Ah) (J:Ev) (y:T):Option (Option T):=
 (g y (oW pick J)).bind fun J2=>(c J2).bind λ b=>if b=true then (f J2).map some else ↑none
def x_ (pick:List (Option Nat)) (it:Ev->Option (List T)) (g:T->Ev->Option Ev) (c:Ev->Option Bool) (f:Ah):Ah:=fun J=>(it J).bind λ ts=>if ts.length<=sizeLine then (qz (qq pick g c f J) ts).map .lst else none
@[simp] def se:Ev->Option Bool:=λ _=>↑true
def Q5:wR se aZ:=λ S Z L J y Q hE e hq=>by cases e;show hq S (.refl S)
def k_ (pick:List (Option Nat)) (g:T->Ev->Option Ev) (t:xB):Prop:=∀ B S Z L J J' y d Q,(∀ i:Nat,pick[i]?=↑none->B[i]?=↑none)->qE B L->L.length=J.length->ER S Z L J->Sn (zN S Z) y d->g y J=↑J'->
 (∀ L',ER S Z L' J'->qE B L'->L'.length=J'.length->Q L' S)->t d L S Q
def kZ (pick:List (Option Nat)) (g:List T->Ev->Option Ev) (t:wc):Prop:=∀ B S Z L J J' y d Q,(∀ i:Nat,pick[i]?=↑none->B[i]?=↑none)->qE B L->L.length=J.length->ER S Z L J->zi (zN S Z) y d->g y J=↑J'->
 (∀ L',ER S Z L' J'->qE B L'->L'.length=J'.length->Q L' S)->t d L S Q
theorem ER.q_ {S:SS}{Z:Addr->Prop}{L:z_}{J:Ev}{y:T}{d:D}(h:ER S Z L J) (hl:L.length=J.length) (i:Nat) (r:Sn (zN S Z) y d):ER S Z (L.set i ↑d) (J.set i ↑(.im y)):=by
 exact#[h.zd,λ j t e=>?_,λ j ts e=>?_]
 .rcases yy e with ⟨rfl,GV,e⟩ | ⟨n,e⟩
  .cases e;show#[d,pR (by rw[hl];show GV),r]
  .rw[xK n];show h.im j t e
 .rcases yy e with ⟨rfl,GV,e⟩ | ⟨n,e⟩
  .cases e
  .rw[xK n];show h.ow j ts e
variable {pick:List (Option Nat)}
theorem Qs (i:Nat) (hi:pick[i]?=↑none:=by rfl):k_ pick (zB i) (hName i):=λ B S Z L J J' y d Q hB hs hl hE r e hq=>by
 cases e;exact hq _ (hE.q_ hl i r) #[by rw[CS];show hs.1,λ j c q=>?_] (by simp[hl]);by_cases hj:i=j
 .subst hj;rw[hB i hi] at q;cases q
 .rw[xK hj];show hs.2 j c q
def Qp:kZ pick ud iR:=λ B S Z L J J' y d Q hB hs hl hE r e hq=>by
 cases y with
 | nil=>simp![zi] at r;subst r;cases e;show#[rfl,hq _ hE hs hl]
 | cons _ _=>cases e
def Qq {g:T->Ev->Option Ev}{h:List T->Ev->Option Ev}{t:xB}{u:wc}(hg:k_ pick g t) (hh:kZ pick h u):kZ pick (xg g h) (iT t u):=λ B S Z L J J' y d Q hB hs hl hE r e hq=>by
 cases y with
 | nil=>cases e
 | cons y ys=>
  simp![zi] at r;let#[c,cs,rfl,r1,r2]:=r;let#[J1,e1,e2]:=An.mp e;show hg B S Z L J J1 y c _ hB hs hl hE r1 e1 fun L1 E1 s1 l1=>hh B S Z L1 J1 J' ys cs Q hB s1 l1 E1 r2 e2 hq
def Qr {n:Nat}{g:List T->Ev->Option Ev}{t:wc}(hg:kZ pick g t):k_ pick (vk n g) (pP n t):=λ B S Z L J J' y d Q hB hs hl hE r e hq=>by
 cases y with
 | tup ys=>
  simp![Sn] at r;let#[ds,rfl,r]:=r;simp![vk] at e;split at e
  .rename_i hn;show#[by rw[r.len];show hn,hg B S Z L J J' ys ds Q hB hs hl hE r e hq]
  .cases e
 | _=>cases e
def c6 {J:Ev}{i:Nat}{w:W}(h:(oW pick J)[i]?=↑↑w):∃ j:Nat,pick[i]?=↑↑j/\J[j]?=↑↑w:=by
 unfold oW at h;rw[AJ] at h;cases q:pick[i]? with
 | none=>rw[q] at h;cases h
 | some o=>
  rw[q] at h;cases o with
  | none=>simp at h
  | some j=>
   simp![Option.map_some,BL,Option.some.injEq] at h;exact#[j,rfl,?_];cases q2:J[j]? with
   | none=>rw[q2] at h;cases h
   | some o2=>rw[q2] at h;simp![Option.join_some] at h;rw[h]
def c7 {L:z_}{i j:Nat}{d:D}(h:pick[i]?=↑↑j) (h':L[j]?=↑↑d):(uc pick L)[i]?=↑↑d:=by
 unfold uc;rw[AJ,h];simp[h']
def ER.Uj {S:SS}{Z:Addr->Prop}{L:z_}{J:Ev}(h:ER S Z L J):ER S Z (uc pick L) (oW pick J):=by
 exact#[h.zd,λ i t e=>?_,λ i ts e=>?_]
 .let#[j,h1,h2]:=c6 e;let#[d,h3,h4]:=h.im j t h2;show#[d,c7 h1 h3,h4]
 .let#[j,h1,h2]:=c6 e;let#[p,ds,h3,h4]:=h.ow j ts h2;show#[p,ds,c7 h1 h3,h4]
def ER.hide {S S':SS}{Z:Addr->Prop}{L:z_}{J:Ev}{p:Addr}(h:ER S Z L J) (s:Sx S S') (hp:S p=none) (Hv:S' p≠none):ER S' (λ a=>Z a\/a=p) L J:=by
 exact#[λ a z q=>?_,λ i t e=>?_,λ i ts e=>?_]
 .rcases z with z | rfl
  .show h.zd a z (s.none q)
  .show Hv q
 .let#[d,h1,h2]:=h.im i t e;show#[d,h1,Sn.sx (pO s hp) t h2]
 .let#[q,ds,h1,h2,h3,h4]:=h.ow i ts e;show#[q,ds,h1,s _ _ h2,tB.sx (pO s hp) h3,.inl h4]
def QQ {it:Ev->Option (List T)}{ti:wC}{g:T->Ev->Option Ev}{tg:xB}{c:Ev->Option Bool}{tc:yx}{f:Ah}{te:zr}{b:Bool}(hi:rH b it ti) (hg:k_ pick g tg) (hc:wR c tc) (hf:vi f te):
  xG (x_ pick it g c f) (uG pick ti tg tc te):=λ S Z L J y Q hE e hq=>by
 let#[ts,e1,e2]:=An.mp e;split at e2
 case isFalse=>cases e2
 rename_i hlen;let#[zs,e3,rfl]:=AK.mp e2;exact hi S Z L J ts _ hE e1 λ I S1 s1 r1 hk=>#[by rw[r1.len];show hlen,λ S' s'=>hk S' ?_,λ p hp=>?_]
 .cases b
  .show s'
  .show (nC _ _).trans s'
 have E1:=hE.grow s1;have nz:¬ Z p:=λ z=>E1.zd p z hp;exact#[λ i S' acc=>∃ us ws,zi (zN S' λ a=>Z a\/a=p) us acc/\qz (qq pick g c f J) (ts.drop i)=↑ws/\zs=us++ws,#[[],zs,.nil,e3,rfl],λ i S' Ip acc hh #[us,ws,h1,h2]=>#[us,ws,zi.sx (λ a o q=>?_) us h1,h2],λ i d S2 acc hd s2 AY #[us,ws,h1,h2,h3]=>?_,λ S2 acc s2 AY #[us,ws,h1,h2,h3]=>?_]
 .let#[q1,q2]:=tf q;rw[ui q1];show hh a o (λ z=>q1 (.inr z)) q2
 .let#[x,hx,rx]:=r1.hZ hd;have AD:=(AX.mp hx).1;have CI:ts.drop i=x::ts.drop (i+1):=by rw[List.drop_eq_getElem_cons AD,(AX.mp hx).2]
  rw[CI] at h2;unfold qz at h2;let#[o,o1,h2]:=An.mp h2;let#[ws',o2,rfl]:=AK.mp h2;have E2:=(E1.hide s2 hp (by rw[AY];nofun)).Uj (pick:=pick);unfold qq at o1;let#[J2,g1,o1]:=An.mp o1;let#[bb,g2,o1]:=An.mp o1;exact hg (uc pick L) S2 _ _ _ J2 x d _ (λ j hj=>?_) #[rfl,λ _ _ q=>q] (by unfold uc oW;simp) E2 (Sn.sx (pO s2 hp) x rx) g1 fun L2 E3 l3 _=>#[l3,?_]
  .unfold uc;rw[AJ,hj];rfl
  exact hc S2 _ L2 J2 bb _ E3 g2 λ S3 s3=>?_;split at o1
  .rename_i hb;rw[if_pos hb];let#[z,g3,rfl]:=AK.mp o1;exact hf S3 _ L2 J2 z _ (E3.grow s3) g3 λ dz S4 s4 r4=>#[s3.trans s4,us++[z],ws',?_,o2,by rw[h3];simp];show (zi.sx (wL (s3.trans s4)) us h1).append (.cons r4 .nil)
  .rename_i hb;rw[if_neg hb];cases o1;show#[s3,us,ws',zi.sx (wL s3) us h1,o2,h3]
 .rw[show I.items.length=ts.length from r1.len,List.drop_length] at h2;cases h2;rw[Co] at h3;subst h3;exact hq _ S2 (s1.trans s2) #[?_,λ vs e=>?_]
  .simp![Sn];show#[acc,.inr #[p,rfl,by rw[ui nz];show AY],zi.sx (uj λ a z=>.inl z) zs h1]
  .cases e;show#[p,acc,rfl,s1.none hp,AY,h1]
class Sr (R:Rk):Prop extends Lo R where
 sn:∀ {S S':SS}{Z:Addr->Prop}{y:T}{d:D},R S S' Z y d->Sn (zN S' Z) y d
instance:Sr xt:=#[λ h=>h]
instance:Sr zx:=#[λ h=>h.1]
def zA (R:Rk) (F:Al):wg:=λ ds S Q=>∃ Z ys y,(∀ a,Z a->S a≠none)/\zi (zN S Z) ys ds/\F ys=↑y/\∀ d S',Sx S S'->R S S' Z y d->Q d S'
def zA.mo {R:Rk}{F:Al}:oj (zA R F):=λ _ _ _ _ hq #[Z,ys,y,h1,h2,h3,h4]=>#[Z,ys,y,h1,h2,h3,λ d S' s r=>hq _ _ (h4 d S' s r)]
def il {R:Rk} [Lo R] {F:Al}{g:Ev->Option (List T)}{u:yh}(h:rK g u):xu R (zq F g) (k9 (zA R F) u):=λ S Z L J y Q hE e hq=>by
 let#[xs,e1,e2]:=An.mp e;exact h S Z L J xs _ hE e1 λ ds S1 s1 r1=>?_;show#[Z,xs,y,(hE.grow s1).zd,r1,e2,λ d S' s r=>hq d S' (s1.trans s) (Cl.cl s1 r)]
@[simp] def qW (N:List Str) (ys:List T):Ev:=ys.map (λ y=>↑(.im y))++List.replicate (N.length-ys.length) none
@[simp] def lI:Option Out->Option T
 | some (.rt y)=>↑y
 | some (.nx _)=>↑.zh
 | _=>none
@[simp] def zH (N:List Str) (n:Nat) (g:Sm):Al:=λ ys=>if ys.length=n then lI (g (qW N ys)) else none
theorem zA.len {R:Rk}{N:List Str}{n:Nat}{g:Sm}{ds:List D}{S:SS}{Q:DK}(hs:zA R (zH N n g) ds S Q):ds.length=n:=by
 let#[Z,ys,y,hz,r,e,hq]:=hs;unfold zH at e;split at e
 .rename_i h;rw[r.len];show h
 .cases e
theorem Va {N:List Str}{ds:List D}{i:Nat}{d:D}(h:ds[i]?=↑d):(u9 N ds)[i]?=↑↑d:=by
 have hi:=(AX.mp h).1;unfold u9;rw[Ct (by exists hi),AJ,h];rfl
theorem ly {N:List Str}{ys:List T}{i:Nat}{w:W}(h:(qW N ys)[i]?=↑↑w):∃ y,ys[i]?=↑y/\w=.im y:=by
 unfold qW at h;have hi:i<ys.length:=by
  rcases BF i ys.length with q | q
  .show q
  .rw[Di (by exists q),Dh] at h;split at h <;> cases h
 rw[Ct (by exists hi),AJ] at h;cases q:ys[i]? with
 | none=>rw[q] at h;cases h
 | some y=>rw[q] at h;cases h;show#[y,rfl,rfl]
def ZL {R:Rk} [Lo R] {N:List Str}{n:Nat}{g:Sm}{t:yf}(h:yc R g t) {ds:List D}{S:SS}{Q:DK}(hs:zA R (zH N n g) ds S Q):t { nx:=λ _ S'=>Q .zh S',rt:=Q } (u9 N ds) S:=by
 let#[Z,ys,y,hz,r,e,hq]:=hs;unfold zH at e;split at e
 case isFalse=>cases e
 obtain⟨o,e1,e2⟩:∃ o,g (qW N ys)=↑o/\lI ↑o=↑y:=by
  cases q:g (qW N ys) with
  | none=>rw[q] at e;cases e
  | some o=>show#[o,rfl,by rw[<- q];show e]
 exact h S Z S Z _ _ o _ #[#[hz,λ i t e=>?_,λ i ts e=>?_],?_,.refl S,hz,λ _ z=>z,λ _ z=>.inl z,λ i ts p e _=>?_,λ i j ts us p _ e _ _ _=>?_] e1 ?_
 .let#[y',h1,h2]:=ly e;cases h2;let#[d,h3,h4]:=r.hV h1;show#[d,Va h3,h4]
 .let#[y',h1,h2]:=ly e;cases h2
 .unfold u9 qW;have:=r.len;simp[this]
 .let#[y',h1,h2]:=ly e;cases h2
 .let#[y',h1,h2]:=ly e;cases h2
 .cases o with
  | rt y'=>cases e2;show λ d S' s r=>hq d S' s r
  | nx J'=>
   cases e2;show λ S' Z' L' F=>hq .zh S' F.sx (Cl.of (λ _=>nofun) dm)
  | _=>cases e2
def yS (Ab:List (Key×T)) (k:Key):Option T:=(Ab.find? λ kv=>decide (kv.1=k)).map (·.2)
def vb (Ab:List (Key×T)) (k:Key) (v:T):List (Key×T):=
 if (Ab.any λ kv=>decide (kv.1=k))=true then Ab.map (λ kv=>if kv.1=k then (kv.1,v) else kv) else Ab++[(k,v)]
section
variable {S:SS}
theorem y8.len:∀ {a:List (Key×T)}{b:List (Key×D)},y8 S a b->b.length=a.length
 | [],_,h=>by cases h;rfl
 | (k,t)::r,_,h=>by
  let#[d,m,rfl,_,h2]:=h;simp[y8.len h2]
theorem y8.val:∀ {a:List (Key×T)}{b:List (Key×D)}(k:Key),y8 S a b->(yS a k=none/\vW b k=none)\/∃ t d,yS a k=↑t/\vW b k=↑d/\Sn S t d
 | [],_,k,h=>by cases h;show .inl #[rfl,rfl]
 | (j,t)::r,_,k,h=>by
  let#[d,m,rfl,h1,h2]:=h;by_cases e:j=k
  .subst e;show .inr #[t,d,by simp[yS],by simp[vW],h1]
  .rcases y8.val k h2 with ⟨g1,g2⟩ | ⟨t',d',g1,g2,g3⟩
   .show .inl #[by simpa [yS,e] using g1,by simpa [vW,e] using g2]
   .show .inr #[t',d',by simpa [yS,e] using g1,by simpa [vW,e] using g2,g3]
theorem y8.any:∀ {a:List (Key×T)}{b:List (Key×D)}(k:Key),y8 S a b->(b.any λ kv=>decide (kv.1=k))=a.any λ kv=>decide (kv.1=k)
 | [],_,k,h=>by cases h;rfl
 | (j,t)::r,_,k,h=>by
  let#[d,m,rfl,h1,h2]:=h;rw[BE,BE,y8.any k h2]
theorem y8.uU {k:Key}{t:T}{d:D}(r:Sn S t d):∀ {a:List (Key×T)}{b:List (Key×D)},y8 S a b->y8 S (a.map λ kv=>if kv.1=k then (kv.1,t) else kv) (b.map λ kv=>if kv.1=k then (kv.1,d) else kv)
 | [],_,h=>by cases h;rfl
 | (j,u)::a,_,h=>by
  let#[e,m,rfl,h1,h2]:=h;rw[Ax,Ax];by_cases q:j=k
  .rw[if_pos q,if_pos q];show#[d,_,rfl,r,y8.uU r h2]
  .rw[if_neg q,if_neg q];show#[e,_,rfl,h1,y8.uU r h2]
theorem y8.snoc {k:Key}{t:T}{d:D}(r:Sn S t d):∀ {a:List (Key×T)}{b:List (Key×D)},y8 S a b->y8 S (a++[(k,t)]) (b++[(k,d)])
 | [],_,h=>by cases h;show#[d,[],rfl,r,rfl]
 | (j,u)::a,_,h=>by
  let#[e,m,rfl,h1,h2]:=h;show#[e,_,rfl,h1,y8.snoc r h2]
def y8.put {a:List (Key×T)}{b:List (Key×D)}(h:y8 S a b) (k:Key) {t:T}{d:D}(r:Sn S t d):y8 S (vb a k t) (putD b k d):=by
 unfold vb putD;rw[h.any k];split
 .show y8.uU r h
 .show y8.snoc r h
end
@[simp] def Zb (i:Nat):Sm:=fun J=>↑(.nx (J.set i ↑(.own (.zD []))))
@[simp] def qw (i:Nat) (f:Ah):Ah:=fun J=>(f J).bind λ y=>match J[i]?,y with
 | some ↑(.own (.zD Ab)),.int k=>yS Ab (.inl k)
 | _,_=>none
@[simp] def gD (i:Nat) (f g:Ah):Ah:=fun J=>(f J).bind λ y=>(g J).bind λ z=>match J[i]?,y with
 | some ↑(.own (.zD Ab)),.int k=>↑((yS Ab (.inl k)).getD z)
 | _,_=>none
@[simp] def gC (i:Nat) (f v:Ah):Sm:=fun J=>(v J).bind λ z=>(f J).bind λ y=>match J[i]?,y with
 | some ↑(.own (.zD Ab)),.int k=>if Ab.length<sizeLine then ↑(.nx (J.set i ↑(.own (.zD (vb Ab (.inl k) z))))) else none
 | _,_=>none
@[simp] def nU (i:Nat):Ah:=fun J=>match J[i]? with
 | some ↑(.own (.zD Ab))=>↑(.int Ab.length)
 | _=>none
def lH {S:SS}{Z:Addr->Prop}{L:z_}{J:Ev}(hE:ER S Z L J) {i:Nat}{Ab:List (Key×T)}(h:J[i]?=↑↑(.own (.zD Ab))):∃ p b,L[i]?=↑↑(.ref p)/\S p=↑(.zD b)/\y8 (zN S Z) Ab b:=by
 let#[p,o,h1,h2,h3,_]:=hE.ow i _ h;cases o with
 | zD b=>show#[p,b,h1,h2,h3]
 | lst _=>show h3.elim
section
variable {R:Rk}{f g v:Ah}{ty tx tv:zr}
def Qa (i:Nat):yc R (Zb i) (uI Zo (hName i)):=λ S0 Z0 S Z L J o E F e P=>by
 cases e;intro p hp;show P _ _ _ (F.dA (ts:=.zD []) (ds:=.zD []) (.new hp _) i hp sN rfl)
def cZ (i:Nat) (hf:y9 f ty):vi (qw i f) (Zr (yq i) ty):=λ S Z L J y Q hE e hq=>by
 let#[x,e1,e2]:=An.mp e;split at e2
 .rename_i Ab k h;let#[p,b,h1,h2,h3]:=lH hE h;change yq i L S _;unfold yq;rw[h1];exact hf S Z L J _ _ hE e1 λ d S1 s1 r1=>?_;cases Vw.int r1;rcases (y8.sx (wL s1) h3).val (.inl k) with ⟨g1,_⟩ | ⟨t,d,g1,g2,g3⟩
  .rw[g1] at e2;cases e2
  .rw[g1] at e2;cases e2;show#[p,b,k,d,rfl,rfl,s1 _ _ h2,g2,hq d S1 s1 g3]
 .cases e2
def c_ (i:Nat) (hf:y9 f ty) (hg:vi g tx):vi (gD i f g) (Zq (yq i) ty tx):=λ S Z L J y Q hE e hq=>by
 let#[x,e1,e]:=An.mp e;let#[z,e2,e3]:=An.mp e;split at e3
 .rename_i Ab k h;cases e3;let#[p,b,h1,h2,h3]:=lH hE h;change yq i L S _;unfold yq;rw[h1];exact#[p,rfl,#[b,h2],hf S Z L J _ _ hE e1 λ d S1 s1 r1=>?_];cases Vw.int r1;exact hg S1 Z L J z _ (hE.grow s1) e2 λ dz S2 s2 r2=>#[k,b,rfl,(s1.trans s2) _ _ h2,?_];rcases (y8.sx (wL (s1.trans s2)) h3).val (.inl k) with ⟨g1,g2⟩ | ⟨t,d,g1,g2,g3⟩
  .rw[g2];rw[g1] at hq;show hq _ S2 (s1.trans s2) r2
  .rw[g2];rw[g1] at hq;show hq _ S2 (s1.trans s2) g3
 .cases e3
def R_ (i:Nat) (hf:y9 f ty) (hv:vi v tv):yc R (gC i f v) (Zp (yq i) ty tv):=λ S0 Z0 S Z L J o E F e P=>by
 let#[z,e1,e]:=An.mp e;let#[x,e2,e3]:=An.mp e;split at e3
 .rename_i Ab k h;split at e3
  .rename_i hl;cases e3;exact hv S Z L J z _ F.er e1 λ dz S1 s1 r1=>?_;have F1:=F.grow s1;let#[p,b,h1,h2,h3]:=lH F1.er h;change yq i L S1 _;unfold yq;rw[h1];exact hf S1 Z L J _ _ F1.er e2 λ d S2 s2 r2=>?_;cases Vw.int r2;have h4:=y8.sx (wL s2) h3;show#[p,b,k,rfl,rfl,s2 _ _ h2,by rw[h4.len];show hl,P _ Z L ((F1.grow s2).mut (us:=.zD (vb Ab (.inl k) z)) (es:=.zD (putD b (.inl k) dz)) i h h1 (h4.put _ (Sn.sx (wL s2) z r1)))]
  .cases e3
 .cases e3
def Px (i:Nat):xG (nU i) (xE aO (qy (yq i) k6)):=λ S Z L J y Q hE e hq=>by
 unfold nU at e;split at e
 .rename_i Ab h;cases e;let#[p,b,h1,h2,h3]:=lH hE h;change yq i L S _;unfold yq;rw[h1];exact#[p,b,rfl,h2,?_];rw[h3.len];show hq _ S (.refl S) (Cl.of (λ _=>nofun) wY)
 .cases e
end
@[simp] def lN (f:Ah):Ah:=fun J=>(f J).bind λ x=>match x with
 | .int i=>↑(.int (-i))
 | _=>none
def Zk (ta:zr):zr:=fun L S Q=>ta L S λ x S1=>match x with
 | .int i=>Q (.int (-i)) S1
 | _=>False
def QL {f:Ah}{te:zr}(h:y9 f te):xG (lN f) (Zk te):=λ S Z L J y Q hE e hq=>by
 let#[x,e1,e2]:=An.mp e;exact h S Z L J x _ hE e1 λ d S1 s1 r1=>?_;split at e2
 .cases Vw.int r1;cases e2;show hq _ S1 s1 (Cl.of (λ _=>nofun) wY)
 .cases e2
def NT:vS zx qm aN:=au
def NS:vS zx uC aM:=au
def uh:List T->Option (List Int)
 | []=>↑[]
 | .int i::ts=>(uh ts).map (i::·)
 | _::_=>none
def vY:List T->Option (List (List Int))
 | []=>↑[]
 | .tup r::ts=>(uh r).bind λ x=>(vY ts).map (x::·)
 | _::_=>none
def yn (r:List Int):T:=.tup (r.map T.int)
theorem nA:∀ {ts:List T}{is:List Int},uh ts=↑is->ts=is.map T.int
 | [],is,h=>by cases h;rfl
 | .int b::ts,is,h=>by
  unfold uh at h;let#[cs,h1,rfl]:=AK.mp h;rw[Ax,<- nA h1]
 | .zh::ts,bs,h=>by cases h
 | .bl _::ts,bs,h=>by cases h
 | .str _::ts,bs,h=>by cases h
 | .tup _::ts,bs,h=>by cases h
 | .lst _::ts,bs,h=>by cases h
theorem jN:∀ {ts:List T}{rs:List (List Int)},vY ts=↑rs->ts=rs.map yn
 | [],is,h=>by cases h;rfl
 | .tup r::ts,is,h=>by
  unfold vY at h;let#[x,h1,h]:=An.mp h;let#[cs,h2,rfl]:=AK.mp h;rw[Ax,<- jN h2,nA h1];rfl
 | .zh::ts,bs,h=>by cases h
 | .bl _::ts,bs,h=>by cases h
 | .str _::ts,bs,h=>by cases h
 | .int _::ts,bs,h=>by cases h
 | .lst _::ts,bs,h=>by cases h
def af (is:List Int):uh (is.map T.int)=↑is:=by
 induction is with
 | nil=>rfl
 | cons b bs ih=>rw[Ax];unfold uh;rw[ih];rfl
def jO (rs:List (List Int)):vY (rs.map yn)=↑rs:=by
 induction rs with
 | nil=>rfl
 | cons b bs ih=>
  change vY (.tup (b.map T.int)::bs.map yn)=_;unfold vY;rw[af,ih];rfl
theorem tL {S:SS}:∀ {is:List Int}{ds:List D},zi S (is.map T.int) ds↔ds=is.map D.int
 | [],ds=>by simp![Bi,zi]
 | i::is,ds=>by
  rw[Ax];simp![zi,Sn];constructor
  .rintro⟨c,cs,rfl,rfl,h⟩;rw[tL.mp h];rfl
  .rintro rfl;show#[.int i,_,rfl,rfl,tL.mpr rfl]
theorem qY {S:SS}:∀ {rs:List (List Int)}{ds:List D},zi S (rs.map yn) ds↔ds=rs.map wZ
 | [],ds=>by simp![Bi,zi]
 | r::rs,ds=>by
  rw[Ax];simp![zi,yn,Sn];constructor
  .rintro⟨c,cs,rfl,⟨es,rfl,h1⟩,h⟩;rw[qY.mp h,tL.mp h1];rfl
  .rintro rfl;show#[wZ r,_,rfl,#[_,rfl,tL.mpr rfl],qY.mpr rfl]
@[simp] def j8:T->Option String
 | .zh=>↑"NoneType"
 | .bl _=>↑"bool"
 | .int _=>↑"int"
 | .str _=>↑"str"
 | .tup _=>↑"tuple"
 | .lst _=>↑"list"
 | .yQ=>↑"dict"
 | .err _ _ _=>none
@[simp] def Fw (ty:String) (f:Ah):Ah:=fun J=>(f J).bind λ x=>(j8 x).map λ t=>.bl (xR t ty)
theorem Vw.err {S:SS}{Z:Addr->Prop}{c f:Str}{t:T}{d:D}(h:Vw S Z (.err c f t) d):∃ x,d=.err c f x/\Sn (zN S Z) t x:=by
 rcases h with h | ⟨_,_,_,h,_⟩
 .simpa only [Sn] using h
 .cases h
def Pl {ty:String}{f:Ah}{te:zr}(hf:y9 f te):xG (Fw ty f) (nX ty te):=λ S Z L J y Q hE e hq=>by
 let#[x,e1,e2]:=An.mp e;let#[n,e3,rfl]:=AK.mp e2;exact hf S Z L J x _ hE e1 λ d S1 s1 r1=>?_;have key:sO d S1=↑n:=by
  rw[<- e3];cases x with
  | zh=>cases Vw.zh r1;rfl
  | bl _=>cases Vw.bl r1;rfl
  | int _=>cases Vw.int r1;rfl
  | str _=>cases Vw.str r1;rfl
  | tup _=>let#[ds,rfl,_]:=Vw.tup r1;rfl
  | lst _=>
   obtain⟨ds,rfl | ⟨a,rfl,h1⟩,h2⟩:=Vw.lst r1
   .rfl
   .unfold sO;dsimp only;rw[h1];rfl
  | yQ=>
   let#[a,Ab,#[rfl,_],h1]:=Vw.yQ r1;unfold sO;dsimp only;rw[h1];rfl
  | err _ _ _=>cases e3
 rw[key];show hq _ S1 s1 (Cl.of (λ _=>nofun) wH)
@[simp] def isNone:T->Bool
 | .zh=>true
 | _=>false
def pK:D->Bool
 | .zh=>true
 | _=>false
def zl (p:Int×Int):T:=.tup [.int p.1,.int p.2]
def zK (ns:List Int):T:=.lst (ns.map .int)
@[simp] theorem zaa:sizeLine=16777216:=rfl
def OC {n:Nat}(h:n<=10000):n<=sizeLine:=Bo h ()
theorem wB {α:Type}{xs:List α}{k:Nat}{x:α}(h:xs[k]?=↑x):L2.zQ xs (k:Int)=↑x:=by
 unfold L2.zQ L2.vd;have hk:=(AX.mp h).1;rw[if_pos ⋯,if_pos ⋯];exists h
@[simp] theorem gX {α:Type}{xs:List α}{x:α}:L2.zQ (xs++[x]) (-1)=↑x:=by
 unfold L2.zQ L2.vd;rw[if_neg ⋯,if_pos (by simp;lia)];have:(-1+((xs++[x]).length:Int)).toNat=xs.length:=by simp;lia
 rw[BL,this];simp
@[simp] theorem zap {α:Type}{x:α}{xs:List α}:L2.zQ (x::xs) 0=↑x:=wB (k:=0) rfl
@[simp] theorem zao {α:Type}{x y:α}{xs:List α}:L2.zQ (x::y::xs) 1=↑y:=wB (k:=1) rfl
@[simp] theorem zan {α:Type}{x y z:α}{xs:List α}:L2.zQ (x::y::z::xs) 2=↑z:=wB (k:=2) rfl
@[simp] theorem zam {α:Type}{x y z w:α}{xs:List α}:L2.zQ (x::y::z::w::xs) 3=↑w:=wB (k:=3) rfl
theorem gK {α:Type}(enc:α->T) (g:α->Option T) (h:T->Option (Option T)):∀ (xs:List α),(∀ x∈xs,h (enc x)=↑(g x))->qz h (xs.map enc)=↑(xs.filterMap g)
 | [],_=>rfl
 | x::xs,hh=>by
  rw[Ax];unfold qz;rw[hh x Av,gK enc g h xs λ y hy=>hh y (AA _ hy)];cases q:g x <;> simp[q]
def La {α:Type}(enc:α->T) (g:α->T) (h:T->Option (Option T)) (xs:List α) (hh:∀ x∈xs,h (enc x)=↑↑(g x)):qz h (xs.map enc)=↑(xs.map g):=by
 rw[gK enc (λ x=>↑(g x)) h xs hh];simp
def sV {α:Type}(enc:α->T) (h:α->T) {pick:List (Option Nat)}{it:Ev->Option (List T)}{g:T->Ev->Option Ev}{c:Ev->Option Bool}{f:Ah}{J:Ev}(xs:List α) (hi:it J=↑(xs.map enc)) (hl:xs.length<=16777216)
  (hh:∀ x∈xs,qq pick g c f J (enc x)=↑↑(h x)):x_ pick it g c f J=↑(.lst (xs.map h)):=by
 unfold x_;rw[hi,BL,if_pos (by rw[AN];show hl),La enc h _ xs hh];rfl
def nq {α:Type}(enc:α->T) (h:α->Option T) {pick:List (Option Nat)}{it:Ev->Option (List T)}{g:T->Ev->Option Ev}{c:Ev->Option Bool}{f:Ah}{J:Ev}(xs:List α) (hi:it J=↑(xs.map enc)) (hl:xs.length<=16777216)
  (hh:∀ x∈xs,qq pick g c f J (enc x)=↑(h x)):x_ pick it g c f J=↑(.lst (xs.filterMap h)):=by
 unfold x_;rw[hi,BL,if_pos (by rw[AN];show hl),gK enc h _ xs hh];rfl
section
variable {α:Type}{is:List Nat}{g:T->Ev->Option Ev}{b:Sm}
def turn (g:T->Ev->Option Ev) (b:Sm) (y:T) (J:Ev):Option Out:=(g y J).bind b
theorem iB (y:T) (ys:List T) (J:Ev):xY is g b (y::ys) J=(turn g b y (yC is J)).bind λ o=>match o with
  | .nx J2=>xY is g b ys J2
  | .ct J2=>xY is g b ys J2
  | .bk J2=>↑(.nx (yC is J2))
  | .rt t=>↑(.rt t):=by
 unfold turn;rw[xY];cases g y (yC is J) <;> rfl
theorem nj (enc:α->T) (test:α->Bool) (v:T) (J0:Ev):∀ (xs:List α) (J:Ev),yC is J=J0->(∀ x∈xs,∃ J',yC is J'=J0/\turn g b (enc x) J0=↑(if test x=true then .rt v else .nx J'))->xY is g b (xs.map enc) J=↑(if xs.any test=true then .rt v else .nx J0)
 | [],J,h,_=>by rw[Bi,xY,h];rfl
 | x::xs,J,h,hs=>by
  let#[J',h1,h2]:=hs x Av;rw[Ax,iB,h,h2,BE];cases q:test x with
  | true=>simp
  | false=>
   have ih:=nj enc test v J0 xs J' h1 λ y hy=>hs y (AA _ hy);exists ih
theorem bx (enc:α->T) (I:List α->Ev->Prop):∀ (xs:List α) (pre:List α) (J:Ev),I pre (yC is J)->
  (∀ p x q,pre++xs=p++x::q->∀ J,I p J->∃ J',turn g b (enc x) J=↑(.nx J')/\I (p++[x]) (yC is J'))->∃ J',xY is g b (xs.map enc) J=↑(.nx J')/\I (pre++xs) J'
 | [],pre,J,h,_=>#[yC is J,by rw[Bi,xY],by exists h]
 | x::xs,pre,J,h,hs=>by
  let#[J',h1,h2]:=hs pre x xs rfl _ h;rw[Ax,iB,h1];have ih:=bx enc I xs (pre++[x]) J' h2 λ p y q e=>hs p y q (by rw[<- e];simp);exists ih
def uZ (enc:α->T) (I:List α->Ev->Prop) (xs:List α) (J:Ev) (h:I [] (yC is J))
  (hs:∀ p x q,xs=p++x::q->∀ J,I p J->∃ J',turn g b (enc x) J=↑(.nx J')/\I (p++[x]) (yC is J')):∃ J',xY is g b (xs.map enc) J=↑(.nx J')/\I xs J':=bx enc I xs [] J h hs
end
theorem qf (n:Nat) (h:n<=100000):uT [.int (n:Int)]=↑((List.range n).map λ(k:Nat)=>T.int (0+(k:Int))):=by
 change (if inR (n:Int)=true then ↑(rangeT 0 (n:Int).toNat) else none)=_;rw[if_pos (ai.mpr #[⋯,⋯])];rfl
def rY (a:Key) (b:T) (Ab:List (Key×T)) (j:Key):yS ((a,b)::Ab) j=if a=j then ↑b else yS Ab j:=by
 by_cases h:a=j <;> simp[yS,h]
theorem eM (k j:Key) (d:T):∀ Ab:List (Key×T),yS (Ab.map λ kv=>if kv.1=k then (kv.1,d) else kv) j=(yS Ab j).map λ x=>if j=k then d else x
 | []=>rfl
 | (a,b)::Ab=>by
  have ih:=eM k j d Ab;rw[Ax];by_cases hk:a=k
  .rw[if_pos hk,rY,rY,ih];by_cases hj:a=j
   .subst hj;subst hk;simp
   .rw[if_neg hj,if_neg hj]
  .rw[if_neg hk,rY,rY,ih];by_cases hj:a=j
   .subst hj;simp[hk]
   .rw[if_neg hj,if_neg hj]
theorem eL (k j:Key) (d:T):∀ Ab:List (Key×T),(∀ kv∈Ab,¬ kv.1=k)->yS (Ab++[(k,d)]) j=if j=k then ↑d else yS Ab j
 | [],_=>by
  change yS [(k,d)] j=_;rw[rY];by_cases h:j=k
  .subst h;simp
  .rw[if_neg h,if_neg (λ z=>h z.symm)]
 | (a,b)::Ab,hn=>by
  have ih:=eL k j d Ab λ kv EK=>hn kv (AA _ EK);have ha:¬ a=k:=hn (a,b) Av;change yS ((a,b)::(Ab++[(k,d)])) j=_;rw[rY,rY,ih];by_cases hj:a=j
  .subst hj;simp[ha]
  .rw[if_neg hj,if_neg hj]
def Z_ (Ab:List (Key×T)) (k:Key):(Ab.any λ kv=>decide (kv.1=k))=(yS Ab k).isSome:=by
 unfold yS;rw[Option.isSome_map,Bh,A8,List.find?_isSome]
def mZ (Ab:List (Key×T)) (k j:Key) (d:T):yS (vb Ab k d) j=if j=k then ↑d else yS Ab j:=by
 unfold vb;split
 .rename_i h;rw[Z_] at h;rw[eM];by_cases hj:j=k
  .subst hj;let#[x,hx]:=D0.mp h;simp[hx]
  .simp[hj]
 .rename_i h;show eL k j d Ab λ kv EK z=>h (A8.mpr #[kv,EK,zaA z])
def b9 (Ab:List (Key×T)) (k:Key) (d:T):(vb Ab k d).length=if (yS Ab k).isSome=true then Ab.length else Ab.length+1:=by
 have e:=Z_ Ab k;unfold vb;rw[e];split <;> simp
def v5 (p:Int×Int):List Int:=[p.1,p.2]
def tK (ps:List (Int×Int)):List (Int×Int):=(L4.xH (ps.map v5)).map λ r=>(r.getD 0 0,r.getD 1 0)
def dg (ps:List (Int×Int)):(tK ps).map v5=L4.xH (ps.map v5):=by
 unfold tK;rw[A5]
 conv=>rhs;rw[<- List.map_id (L4.xH (ps.map v5))]
 exact DW λ r hr=>?_;let#[p,_,rfl]:=Au.mp ((L4.uA _).mem_iff.mp hr);rfl
def jJ (ps:List (Int×Int)):(tK ps).Perm ps:=by
 have h:=L4.uA (ps.map v5);have:(tK ps).Perm ((ps.map v5).map λ r=>(r.getD 0 0,r.getD 1 0)):=h.map _
 rwa [A5,show ((λ r:List Int=>(r.getD 0 0,r.getD 1 0)) ∘ v5)=id from rfl,List.map_id] at this
def pE (p q:Int×Int):Prop:=p.1<q.1\/(p.1=q.1/\p.2<=q.2)
def df (ps:List (Int×Int)):(tK ps).Pairwise pE:=by
 have h:=L4.jI (ps.map v5);rw[<- dg,Dc] at h;exact h.imp λ{p q} CD=>?_;unfold v5 at CD;rw[HT.sU,HT.sU] at CD;unfold pE;by_cases e:q.1=p.1
 .rw[if_pos e] at CD;by_cases e2:q.2=p.2
  .lia
  .rw[if_neg e2] at CD;have:=of_decide_eq_false CD;lia
 .rw[if_neg e] at CD;have:=of_decide_eq_false CD;lia
def Vz (ps:List (Int×Int)):vY (ps.map zl)=↑(ps.map v5):=by
 have:=jO (ps.map v5)
 rwa [A5,show yn ∘ v5=zl from rfl] at this
def wM (q p:Int×Int):Bool:=decide (p.1<=q.1)&&decide (p.2<=q.2)
def zG (ps:List (Int×Int)) (q:Int×Int):Bool:=ps.any (wM q)
def y6 {ps:List (Int×Int)}{q:Int×Int}:zG ps q=true↔∃ p∈ps,p.1<=q.1/\p.2<=q.2:=by
 unfold zG wM;simp[A8]
def MV {ps qs:List (Int×Int)}(h:ps.Perm qs) (q:Int×Int):zG ps q=zG qs q:=by
 rw[Bh,y6,y6];show#[λ#[p,h1,h2]=>#[p,h.mem_iff.mp h1,h2],λ#[p,h1,h2]=>#[p,h.mem_iff.mpr h1,h2]]
def MX (ps qs:List (Int×Int)) (q:Int×Int):zG (ps++qs) q=(zG ps q||zG qs q):=by
 unfold zG;rw[List.any_append]
def vv (ps:List (Int×Int)):Prop:=ps.Pairwise λ p q=>p.1<q.1/\q.2<p.2
theorem vv.eq:∀ {ps qs:List (Int×Int)},vv ps->vv qs->(∀ q,zG ps q=zG qs q)->ps=qs
 | [],[],_,_,_=>rfl
 | [],q::qs,_,_,h=>by
  have:=h q;rw[show zG [] q=false from rfl] at this;have h2:zG (q::qs) q=true:=y6.mpr #[q,Av,AW _,AW _];rw[h2] at this;cases this
 | p::ps,[],_,_,h=>by
  have:=h p;rw[show zG [] p=false from rfl] at this;have h2:zG (p::ps) p=true:=y6.mpr #[p,Av,AW _,AW _];rw[h2] at this;cases this
 | p::ps,q::qs,hp,hq,h=>by
  have J5:=BK.mp hp;have HM:=BK.mp hq;have a1:∃ r∈q::qs,r.1<=p.1/\r.2<=p.2:=y6.mp (by rw[<- h];show y6.mpr #[p,Av,AW _,AW _]);have a2:∃ r∈p::ps,r.1<=q.1/\r.2<=q.2:=y6.mp (by rw[h];show y6.mpr #[q,Av,AW _,AW _]);let#[r,hr,r1,r2]:=a1;let#[u,hu,u1,u2]:=a2;have qr:q.1<=r.1:=by
   rcases Am.mp hr with e | e
   .subst e;show AW _
   .show Int.le_of_lt (HM.1 r e).1
  have pu:p.1<=u.1:=by
   rcases Am.mp hu with e | e
   .subst e;show AW _
   .show Int.le_of_lt (J5.1 u e).1
  have e1:p.1=q.1:=⋯;have er:r=q:=by
   rcases Am.mp hr with e | e
   .show e
   .have:=(HM.1 r e).1;lia
  have eu:u=p:=by
   rcases Am.mp hu with e | e
   .show e
   .have:=(J5.1 u e).1;lia
  subst er eu;have e2:u.2=r.2:=⋯;have epq:u=r:=Prod.ext e1 e2;subst epq;rw[vv.eq J5.2 HM.2 λ x=>?_];have hx:=h x;unfold zG at hx ⊢;rw[BE,BE] at hx;cases g:wM x u with
  | false=>rw[g] at hx;exists hx
  | true=>
   have gx:u.1<=x.1/\u.2<=x.2:=by simpa [wM] using g
   have key:∀ {l:List (Int×Int)},(∀ v∈l,u.1<v.1/\v.2<u.2)->l.any (wM x)=l.any (wM (x.1,u.2-1)):=by
    intro l hl;rw[Bh,A8,A8];constructor
    .rintro⟨v,hv,hg⟩;have:=hl v hv;have hg':v.1<=x.1/\v.2<=x.2:=by simpa [wM] using hg
     show#[v,hv,by simp[wM];lia]
    .rintro⟨v,hv,hg⟩;have:=hl v hv;have hg':v.1<=x.1/\v.2<=u.2-1:=by simpa [wM] using hg
     show#[v,hv,by simp[wM];lia]
   rw[key J5.1,key HM.1];have hy:=h (x.1,u.2-1);unfold zG at hy;rw[BE,BE] at hy;have gn:wM (x.1,u.2-1) u=false:=by
    unfold wM;rw[show decide (u.2<=(x.1,u.2-1).2)=false from za5 (by change ¬ u.2<=u.2-1;lia),CQ]
   rw[gn] at hy;exists hy
def t6 (l:Option Int) (x:Int):Bool:=match l with
 | none=>true
 | some m=>decide (x<m)
def yJ:List (Int×Int)->Option Int->List (Int×Int)
 | [],_=>[]
 | p::ps,l=>if t6 l p.2=true then p::yJ ps ↑p.2 else yJ ps l
def vc (ps:List (Int×Int)):List (Int×Int):=yJ (tK ps) none
theorem nD:∀ (ps:List (Int×Int)) (l:Option Int) (q:Int×Int),q∈yJ ps l->q∈ps/\∀ m,l=↑m->q.2<m
 | [],l,q,h=>by simp[yJ] at h
 | p::ps,l,q,h=>by
  unfold yJ at h;split at h
  .rename_i c;have hm:∀ m,l=↑m->p.2<m:=λ m e=>by subst e;simpa [t6] using c
   rcases Am.mp h with e | e
   .subst e;show#[Av,hm]
   .let#[h1,h2]:=nD ps _ q e;show#[AA _ h1,λ m e=>by have:=h2 _ rfl;have:=hm m e;lia]
  .let#[h1,h2]:=nD ps _ q h;show#[AA _ h1,h2]
theorem iU:∀ (ps:List (Int×Int)) (l:Option Int),ps.Pairwise pE->vv (yJ ps l)
 | [],l,_=>by simp[yJ,vv]
 | p::ps,l,h=>by
  have h1:=BK.mp h;unfold yJ;split
  .exact BK.mpr #[λ q hq=>?_,iU ps _ h1.2];let#[g1,g2]:=nD ps _ q hq;have:=h1.1 q g1;have:=g2 _ rfl;unfold pE at *;lia
  .show iU ps _ h1.2
theorem iV:∀ (ps:List (Int×Int)) (l:Option Int),ps.Pairwise pE->∀ p∈ps,(∃ q∈yJ ps l,q.1<=p.1/\q.2<=p.2)\/∃ m,l=↑m/\m<=p.2
 | [],l,_,p,hp=>by cases hp
 | r::ps,l,h,p,hp=>by
  have h1:=BK.mp h;unfold yJ;split
  .rename_i c;rcases Am.mp hp with e | e
   .subst e;show .inl #[p,Av,AW _,AW _]
   .rcases iV ps ↑r.2 h1.2 p e with ⟨q,q1,q2⟩ | ⟨m,e1,e2⟩
    .show .inl #[q,AA _ q1,q2]
    .cases e1;have:=h1.1 p e;unfold pE at this;show .inl #[r,Av,⋯,e2]
  .rename_i c;rcases Am.mp hp with e | e
   .subst e;cases l with
    | none=>simp[t6] at c
    | some m=>show .inr #[m,rfl,by simpa [t6] using c]
   .show iV ps l h1.2 p e
def iG (ps:List (Int×Int)):vv (vc ps):=iU _ _ (df ps)
def OJ {ps:List (Int×Int)}{q:Int×Int}(h:q∈vc ps):q∈ps:=(jJ ps).mem_iff.mp (nD _ _ q h).1
theorem pD (ps:List (Int×Int)) (q:Int×Int):zG (vc ps) q=zG ps q:=by
 rw[<- MV (jJ ps) q,Bh,y6,y6];constructor
 .rintro⟨p,h1,h2⟩;show#[p,(nD _ _ p h1).1,h2]
 .rintro⟨p,h1,h2⟩;rcases iV (tK ps) none (df ps) p h1 with ⟨r,r1,r2⟩ | ⟨m,e,_⟩
  .show#[r,r1,⋯,⋯]
  .cases e
end L5
namespace L2
open PySem PySem.Spec PyProof.Rows
section
variable {X:Cx}
def ck (K:Ac):R2:=λ x y H Q=>∃ l b xs zs,x=.ref l/\y=.ref b/\zO K H l xs/\zO K H b zs/\xs.length+zs.length<=sizeLine/\∀ p,H p=none->Q (.ref p) (upd H p (.lst (xs++zs)))
theorem RG:zY X (binaryOp .Add) (ck X.K):=by
 intro E6 s Y H x y v u Q I rx ry h;let#[l,b,xs,zs,rfl,rfl,hH,hB,hz,q]:=h;cases rx;cases ry;let#[Aa,r,p1,_]:=I.list hH;let#[FP,r2,p2,_]:=I.list hB;let#[#[cls,dd,data,sl],ho,hc,n,hd]:=p1.isList;let#[#[IK,HP,data2,HL],Hn,GZ,n2,hd2]:=p2.isList;simp only at hc hd GZ hd2;subst hc hd GZ hd2;have e:Aa.toArray++FP.toArray=(Aa++FP).toArray:=#[];exact concat_meets #[_,ho,rfl] #[_,Hn,rfl] noFill_list_add seq_list_add PySem.F.slot_list_add PySem.F.entry_list_add (PySem.F.args_list_add_2 _ _) (list_addW l b Aa.toArray FP.toArray n n2 dd HP sl HL (by rw[AE,AE,<- r.length,<- r2.length];show hz)) #[ho,Hn,?_];rw[e];show#[.ref _,_,I.O9 (t':=s.toks) (r.append r2) (by rw[Cb];lia),rfl,q _ I.fresh]
def cg (K:Ac):R2:=λ x y H Q=>∃ a b ys,x=.ref a/\y=.ref b/\zW K H a []/\zW K H b ys/\Q (.ref b) H
theorem RE:zY X (binaryOp .Add) (cg X.K):=by
 intro E6 s Y H x y v u Q I rx ry h;let#[l,b,ys,rfl,rfl,hH,hB,q]:=h;cases rx;cases ry;let#[Aa,r,p1,_]:=I.tuple hH;let#[FP,r2,p2,_]:=I.tuple hB;let#[#[cls,dd,data,sl],ho,hc,n,hd]:=id p1;let#[#[IK,HP,data2,HL],Hn,GZ,n2,hd2]:=id p2;simp only at hc hd GZ hd2;subst hc hd GZ hd2;show concat_meets #[_,ho,rfl] #[_,Hn,rfl] noFill_tuple_add seq_tuple_add PySem.F.slot_tuple_add PySem.F.entry_tuple_add (PySem.F.args_tuple_add_2 _ _)
   (tuple_addW0 l b Aa.toArray FP.toArray n n2 dd HP sl HL (by cases r;rfl)) #[ho,Hn,#[.ref b,H,I,rfl,q]]
end
end L2
namespace L5
open PySem PySem.Spec L2 L3
open PyProof.Rows hiding St
section
variable {X:Cx}{K:Ac}{a b c e:Expr}{es:List Expr}{ta tb tc te:zr}{tA:yh}{pos p:Pos}
def uq.mo:xw uq:=λ x y S Q Q' hq h=>by
 cases x with
 | int i=>cases y <;> first | show hq _ _ h | show h
 | str i=>cases y <;> first | show#[h.1,hq _ _ h.2] | show h
 | tup i=>cases y <;> first | show#[h.1,hq _ _ h.2] | show h
 | xI ds=>
  unfold uq at h ⊢;dsimp only at h ⊢;split at h
  .show#[h.1,h.2.1,λ r hr=>hq _ _ (h.2.2 r hr)]
  .show h.elim
 | ref q=>
  unfold uq at h ⊢;dsimp only at h ⊢;split at h
  .show#[h.1,h.2.1,λ r hr=>hq _ _ (h.2.2 r hr)]
  .show h.elim
 | _=>show h
def sQ {H:Hp}{S:SS}{d:D}{v:V}{ds:List D}(r:ze K H d v) (p:zE K H S) (e:zM d S=↑ds) (n:∀ ts,d≠.tup ts):∃ a xs,v=.ref a/\zO K H a xs/\zk K H ds xs:=by
 unfold zM at e;split at e
 .show absurd rfl (n _)
 .cases e;simp![ze] at r;let#[a,xs,h1,h2,h3]:=r;show#[a,xs,h1,h2.sq,h3]
 .split at e
  .rename_i q;cases e;simp![ze] at r;subst r;let#[xs,h1,h2]:=p _ _ q;show#[_,xs,rfl,zO.of h1,h2]
  .cases e
 .cases e
abbrev cp (K:Ac):R2:=λ x y H Q=>w_ (λ i j=>.int (i+j)) x y H Q\/((∃ i j,x=.str i/\y=.str j/\i.length+j.length<=sizeLine/\Q (.str (i++j)) H)\/(ck K x y H Q\/(cg K x y H Q\/cj K x y H Q)))
def uq.fits:xi K uq (cp K):=λ x y d e H S Q h1 h2 h3 h=>by
 have lst:(∀ ts,d≠.tup ts)->(match zM d S,zM e S with
  | some ds,↑es=>(∀ ts,e≠.tup ts)/\ds.length+es.length<=sizeLine/\∀ r,S r=none->xS K H Q (.ref r) (ups S r (.lst (ds++es)))
  | _,_=>False)->cp K x y H Q:=λ n h=>by
  split at h
  .rename_i ds es q1 q2;let#[a,xs,rfl,g1,g2]:=sQ h1 h3 q1 n;let#[b,ys,rfl,g3,g4]:=sQ h2 h3 q2 h.1;exact .inr (.inr (.inl #[a,b,xs,ys,rfl,rfl,g1,g3,by rw[<- g2.length,<- g4.length];show h.2.1,λ p hp=>?_]));show h.2.2 p (h3.none hp) _ _ (by simp![ze]) (.new hp _) (h3.ups (.new hp _) #[_,zZ,zk.ext (.new hp _) _ (g2.append g4)])
  .show h.elim
 cases d with
 | int i=>
  cases e with
  | int j=>
   simp![ze] at h1 h2;show .inl #[_,_,h1,h2,h _ H (by simp![ze]) (.refl H) h3]
  | _=>show h.elim
 | str i=>
  cases e with
  | str j=>
   simp![ze] at h1 h2;show .inr (.inl #[_,_,h1,h2,h.1,h.2 _ H (by simp![ze]) (.refl H) h3])
  | _=>show h.elim
 | tup ds=>
  cases e with
  | tup es=>
   have Hu:=h1;have I_:=h2;simp![ze] at h1 h2;let#[a,xs,rfl,g1,g2]:=h1;let#[b,ys,rfl,g3,g4]:=h2;have hl:=g2.length;have GV:=g4.length;by_cases hx:xs=[]
   .subst hx;have:ds=[]:=by cases ds <;> simp_all
    subst this;show .inr (.inr (.inr (.inl #[a,b,ys,rfl,rfl,g1,g3,h.2 _ H I_ (.refl H) h3])))
   .exact .inr (.inr (.inr (.inr #[a,b,xs,ys,rfl,rfl,g1,g3,hx,by rw[<- hl,<- GV];show h.1,λ hy=>?_,λ hy p hp=>?_])))
    .subst hy;have:es=[]:=by cases es <;> simp_all
     subst this;exact h.2 _ H ?_ (.refl H) h3;rw[Co];show Hu
    .exact h.2 _ _ ?_ (.new hp _) (h3.new hp);simp![ze];show#[p,_,rfl,zW.of zZ,zk.ext (.new hp _) _ (g2.append g4)]
  | _=>show h.elim
 | xI ds=>show lst (λ _=>nofun) h
 | ref q=>show lst (λ _=>nofun) h
 | _=>show h.elim
def Rw (ha:PD X a ta) (hb:PD X b tb):PD X (.BinOp a .Add b pos) (yr uq ta tb):=p8 (RI.or (RH.or (RG.or (RE.or RF)))) uq.fits uq.mo ha hb
def vK.mo {g:List Bool->Bool}:vR (vK g):=λ ds S Q Q' hq h=>by
 unfold vK at h ⊢;split at h
 .show h.elim
 .let#[bs,h1,h2]:=h;show#[bs,h1,hq _ _ h2]
 .show h.elim
def vK.fits {g:List Bool->Bool}:uN K (vK g) (λ xs H Q=>∃ p,∃ bs:List Bool,xs=[.ref p]/\zO K H p (bs.map V.bl)/\Q (.bl (g bs)) H):=λ xs ds H S Q h0 h2 h=>by
 unfold vK at h;split at h
 .show h.elim
 .rename_i d hn;let#[x,hx,h1]:=h0.one;subst hx;let#[bs,e,h]:=h;let#[a,ys,rfl,g1,g2]:=sQ h1 h2 e (λ ts z=>hn ts z);rw[g2.bools] at g1;show#[a,bs,rfl,g1,h _ H (by simp![ze]) (.refl H) h2]
 .show h.elim
def Rv (hm:X.mg "all"=none) (ha:xh X (e::es) tA) (hc:X.calm=true) (hg:Gl X "all") (he:Ay X e es) (Ao:AG X pos es):PD X (.Call (.Name "all" p) (e::es) [] pos) (xE (vK λ bs=>bs.all id) tA):=
 uV (uB (LH hc) hg hm boot_all ha.pa () () he Ao) vK.mo vK.fits ha.mo
def Rt (hm:X.mg "any"=none) (ha:xh X (e::es) tA) (hc:X.calm=true) (hg:Gl X "any") (he:Ay X e es) (Ao:AG X pos es):PD X (.Call (.Name "any" p) (e::es) [] pos) (xE (vK λ bs=>bs.any id) tA):=
 uV (uB (LG hc) hg hm boot_any ha.pa () () he Ao) vK.mo vK.fits ha.mo
def bL {H:Hp}{d:D}{v:V}(r:ze K H d v):decide (v=.zh)=pK d:=by
 cases d with
 | tup _=>simp![ze] at r;let#[a,xs,rfl,_]:=r;rfl
 | xI _=>simp![ze] at r;let#[a,xs,rfl,_]:=r;rfl
 | err _ _ _=>simp![ze] at r;let#[a,_,_,_,rfl,_]:=r;rfl
 | _=>simp![ze] at r;subst r;rfl
theorem Ss (ha:PD X a ta):PD X (.UnaryOp .USub a pos) (Zk ta):=by
 exact#[fun L S Q Q' hq h=>ha.mo L S _ _ (λ x S1 z=>by
  cases x <;> first
   | show hq _ _ z
   | show z) h,PE.imp (U1 Wl ha.pe) fun Y H Q hu=>?_]
 let#[L,S,r1,r2,h]:=hu;exact zJ.go ha.mo r1 r2 h λ x S1 v H1 h1 q1 e1 p1=>?_;cases x with
 | int i=>simp![ze] at q1;show#[i,q1,h1 _ H1 (by simp![ze]) e1 p1]
 | _=>show h1.elim
section
variable {N':List Str}{pick:List (Option Nat)}{scope:Scope}{tg elt iter:Expr}{ifs:List Expr}{ti:wC}{g:xB}{G4:yx}
def uG.mo (hi:jb ti):yi (uG pick ti g G4 te):=fun L S Q Q' hq z=>hi L S _ _ (λ I S1 #[h1,h2,h3]=>#[h1,h2,λ p hp=>by
 let#[W,w0,w1,w2,w3]:=h3 p hp;show#[W,w0,w1,w2,λ S2 acc a b c=>hq _ _ (w3 S2 acc a b c)]]) z
theorem eQ (hi:jb ti) (hg:jc g) (hc:wU G4) (he:yi te) {Y:St}{H:Hp}{Q:VK}(hu:zJ K (uG pick ti g G4 te) Y H Q):jC pick (wG K ti) (lb K g) (xV K G4) (zJ K te) Y H Q:=by
 let#[L,S,r1,r2,z]:=hu;exact#[L,S,r1,r2,hi L S _ _ (λ I S1 hF J H1 e1 p1 rep D hD=>?_) z];let#[hlen,hk,hF]:=hF;have hS1:S1 D=none:=p1.none hD;let#[W,w0,wm,Jc,KS]:=hF D hS1;exact#[λ i m Y H2=>m=I.items.length-i/\i<=I.items.length/\Ext H1 H2/\yu K H2 (uc pick L) Y/\∃ S2 acc,zE K H2 S2/\Sx S1 S2/\S2 D=↑(.lst acc)/\acc.length<=i/\W i S2 acc,#[_,rfl,A0 _,.new hD _,((r1.ext e1).pick pick).ext (.new hD _),ups S1 D (.lst []),[],?_,.new hS1 _,sN,Ak _,?_],?_]
 .show p1.ups (.new hD _) #[[],zZ,.nil]
 .show wm 0 S1 _ [] (λ b o hb q=>by rw[tJ hb];show q) w0
 rintro i m Y2 H2 ⟨rfl,Hh,x2,q1,S2,acc,q2,sx,J8,AY,hW⟩;let#[g1,g2]:=rep i H2 S2 x2 q2 (hk S2 sx);by_cases hl:i<I.items.length
 .have hd:I.items[i]?=↑I.items[i]:=by simp[hl]
  let#[go,yl]:=g1 _ hd;exact .inr #[go,λ x H3 hy=>?_];let#[x3,p3,d3]:=yl x H3 hy;exact#[_,_,S2,d3,q1.ext x3,p3,hg _ _ S2 _ _ (fun L4 S4 z4 Y4 H4 a1 a2 a3=>?_) (Jc i _ S2 acc hd sx J8 hW)];let#[hle,z4]:=z4;exact xV.go hc a1 a3 z4 λ b S5 H5 z5 x5 p5=>wy (λ z5=>?_) (λ z5=>?_) z5
  .exact zJ.go he (a1.ext x5) p5 z5 λ y S6 v H6 z6 q6 x6 p6=>?_;let#[s6,hW6]:=z6;let#[ys,h6,r6]:=p6 _ _ (s6 _ _ J8);have e6:Ext H6 (upd H6 D (.lst (ys++[v]))):=.lst h6 _;have hlen2:ys.length<=i:=by rw[<- r6.length];show AY
   exact#[ys,I.items.length-(i+1),h6,⋯,⋯,rfl,hl,((((x2.trans x3).trans a2).trans x5).trans x6).trans e6,hle.rep ((a1.ext (x5.trans x6)).ext e6),ups S6 D (.lst (acc++[y])),acc++[y],?_,λ b o hb=>?_,sN,by simp;lia,?_]
   .show p6.ups e6 #[_,zZ,zk.ext e6 _ (r6.snoc q6)]
   .rw[tJ (by intro q;subst q;rw[hS1] at hb;cases hb)];show s6 _ _ (sx _ _ hb)
   .show wm _ S6 _ _ (λ b o hb q=>by rw[tJ hb];show q) hW6
  .let#[s5,hW5]:=z5;show#[I.items.length-(i+1),⋯,rfl,hl,((x2.trans x3).trans a2).trans x5,hle.rep (a1.ext x5),S5,acc,p5,sx.trans s5,s5 _ _ J8,⋯,hW5]
 .have e:i=I.items.length:=⋯;subst e;show .inl #[g2 (Ak _),KS S2 acc sx J8 hW _ H2 (by simp![ze]) (e1.trans x2) q2]
def S9 (Sc:sI X N' pick scope) (hc:X.calm=true) (hi:uM X tg iter ti) (hg:∀ cl C s H fp,u5 (yw X N' scope cl C s H fp) tg g) (hf:∀ cl C s H fp,oh (yw X N' scope cl C s H fp) ifs G4) (he:∀ cl C s H fp,PD (yw X N' scope cl C s H fp) elt te)
  (hs:∀ x,foldedSetIterable iter X.env x=pure x):
  PD X (.ListComp elt [#[tg,iter,ifs,0]] scope pos) (uG pick ti g G4 te):=
 #[uG.mo hi.mo,λ E6 s Y H Q I hu=>UA (g:=lb X.K g) (tc:=xV X.K G4) (te:=zJ X.K te) Sc hc hi.pi (λ cl C s H fp=>(hg cl C s H fp).pg) (λ cl C s H fp=>(hf cl C s H fp).pf) (λ cl C s H fp=>(he cl C s H fp).pe) hs E6 s Y H Q I (eQ hi.mo (hg [] 0 s H []).mo (hf [] 0 s H []).mo (he [] 0 s H []).mo hu)]
def Tx {i:Nat}{y:Str}{py Bl:Pos}(Sc:sI X N' pick scope) (hc:X.calm=true) (hi:uM X tg iter ti) (hg:∀ cl C s H fp,u5 (yw X N' scope cl C s H fp) tg g) (hf:∀ cl C s H fp,oh (yw X N' scope cl C s H fp) ifs G4) (he:∀ cl C s H fp,PD (yw X N' scope cl C s H fp) elt te)
  (hN:X.N.Nodup) (hy:X.N[i]?=↑y) (hx:Loc X.env.scope y)
  (Bz:swapsWith (.ListComp elt [#[tg,iter,ifs,0]] scope pos) ↑(.Name y py) Bl.line X.env=pure true)
  (B2:X.fn y=true\/X.env.scope.names.lookup y=↑.local)
  (hs:∀ x,foldedSetIterable iter X.env x=pure x):
  wD X (.Assign [.Name y py] (.ListComp elt [#[tg,iter,ifs,0]] scope pos) Bl) (uI (uG pick ti g G4 te) (hName i)):=by
 exact#[uI.mo (uG.mo hi.mo) λ _ _ _ _ _ hq z=>hq _ _ z,λ E6 s Y H D I hu=>VT (g:=lb X.K g) (tc:=xV X.K G4) (te:=zJ X.K te) Sc hc hi.pi (λ cl C s H fp=>(hg cl C s H fp).pg) (λ cl C s H fp=>(hf cl C s H fp).pf) (λ cl C s H fp=>(he cl C s H fp).pe) hN hy hx Bz B2 hs E6 s Y H D I ?_];let#[L,S,r1,r2,z]:=hu;exact eQ hi.mo (hg [] 0 s H []).mo (hf [] 0 s H []).mo (he [] 0 s H []).mo #[L,S,r1,r2,uG.mo hi.mo L S _ _ (λ x S1 z v H1 q1 e1 p1=>?_) z];show z _ H1 ((r1.ext e1).set i q1) e1 p1
end
end
section
variable {P:Program}{w:World}{K:Ac}{mg:Ar}{base:Heap}{f:Addr}{fd:FuncData}
def aC {R:Rk} [Lo R] {x:Str}{st:Stmt}{N ps:List Str}{k n:Nat}{g:Sm}(F:wV K x x st f fd) (Sc:vw N ps (zL st)) (hn:n=ps.length)
  (Fm:∀ (Ag:Value) (A:Around) (outer:List Env) (s:Shared) (H:Hp) (E:XK),zX k (A.deeper (envOfC x (zL st) s.heap.objs.size f Ag))->
   ∃ t,vh (y_ yG P w K mg base N x (zL st) f Ag A outer s H E).xx (yZ st) t/\yc R g t):xl P w K mg base yG (k+1) f fd ps (uR K (zA R (zH N n g))):=
 Mf F Sc (λ ds S Q h=>by rw[h.len,hn]) λ Ag A outer s H E hr=>by
  let#[t,h1,h2]:=Fm Ag A outer s H E hr;show#[t,h1,λ ds S Q h=>ZL h2 h]
def Mr {R:Rk} [Lo R] {x:Str}{st:Stmt}{N ps:List Str}{k n:Nat}{g:Sm}(F:wV K x x st f fd) (hm:mg x=↑(.ref f)) (Sc:vw N ps (zL st)) (hn:n=ps.length)
  (hb:∀ (kV doc pm:Value) (an:Option Addr) (Ag ct:Value) (us:Ae),us.length=ps.length->bindArgs (PySem.W.fnOf x x (vg st) (yZ st) (zL st) .none kV doc pm an Ag ct) #[us,[]]=pure (ps.zip us))
  (Fm:∀ (Ag:Value) (A:Around) (outer:List Env) (s:Shared) (H:Hp) (E:XK),zX k (A.deeper (envOfC x (zL st) s.heap.objs.size f Ag))->
   ∃ t,vh (y_ yG P w K mg base N x (zL st) f Ag A outer s H E).xx (yZ st) t/\yc R g t):FD P w K mg base x (k+1) ps (zA R (zH N n g)):=
 #[#[f,fd,aC F Sc hn Fm,hm,F.kp,F.binds hb],zA.mo]
def OW {R:Rk} [Sr R] {F:Al}(hF:∀ ns:List Int,ns.length<=63->F [.lst (ns.map T.int)]=↑(.bl true)) {H:Hp}{a:Addr}{ns:List Int}{E:XK}(hO:kW H) (hS:zO K H a (ns.map V.int)) (hl:ns.length<=63):uR K (zA R F) [.ref a] H (λ v _=>v=.bl true) E:=by
 have hFz:oa K H a (ns.map V.int):=by
  rcases hS with (h | h) | h
  .rcases hO a with z | ⟨o,xs,z⟩
   .rw[h] at z;cases z
   .rw[h] at z;cases z
  .show .inl h
  .show .inr h
 exact#[[.xI (ns.map D.int)],λ _=>none,.cons ?_ .nil,(λ a o z=>nomatch z),λ _=>False,[.lst (ns.map T.int)],.bl true,nofun,.cons ?_ .nil,hF ns hl,λ d S' s r v H' rv _ _=>?_]
 .simp![ze];show#[a,_,rfl,hFz,zk.iq ns]
 .simp![Sn];show#[_,.inl #[rfl,RJ ns],tL.mpr rfl]
 .have:=Sr.sn r;simp![Sn] at this;subst this;simpa only [ze] using rv
end
end L5
namespace ST
open PySem PySem.SetTable
def uL (xs:List Nat):Prop:=xs.Pairwise (· < ·)
def hX {xs:Array Nat}{m d:Nat}(h:m<xs.size):xs.getD m d=xs[m]:=by simp[Array.getD,h]
theorem gU (xs:Array Nat) (j:Nat) (hr:uL xs.toList):∀ (f lo hi:Nat),hi-lo<=f->lo<=hi->hi<=xs.size->(∀ i (h:i<xs.size),i<lo->xs[i]<j)->(∀ i (h:i<xs.size),hi<=i->j<=xs[i])->
  below.go xs j f lo hi<=xs.size/\(∀ i (h:i<xs.size),i<below.go xs j f lo hi->xs[i]<j)/\∀ i (h:i<xs.size),below.go xs j f lo hi<=i->j<=xs[i]
 | 0,lo,hi,h1,h2,h3,h4,h5=>by
  unfold below.go;have:lo=hi:=⋯;subst this;show#[h3,h4,h5]
 | f+1,lo,hi,h1,h2,h3,h4,h5=>by
  unfold below.go;have wJ:∀ i k (hi:i<xs.size) (hk:k<xs.size),i<=k->xs[i]<=xs[k]:=λ i k hi hk D2=>by
   rcases BF i k with q | q
   .have r:=C_.mp hr i k (by exists hi) (by exists hk) q;rw[Cr,Cr] at r;show BS r
   .have:i=k:=⋯;subst this;show Ak _
  by_cases hl:lo<hi
  .rw[if_pos hl];dsimp only;have hm:(lo+hi)/2<xs.size:=⋯;rw[hX hm];by_cases c:xs[(lo+hi)/2]<j
   .rw[if_pos c];exact gU xs j hr f _ hi ⋯ ⋯ h3 (λ i Hh AD=>?_) h5;have:=wJ i ((lo+hi)/2) Hh hm ⋯;lia
   .rw[if_neg c];exact gU xs j hr f lo _ ⋯ ⋯ ⋯ h4 (λ i Hh hge=>?_);have:=wJ ((lo+hi)/2) i hm Hh hge;lia
  .rw[if_neg hl];have:lo=hi:=⋯;subst this;show#[h3,h4,h5]
def kJ {xs:Array Nat}{j:Nat}(hr:uL xs.toList):below xs j<=xs.size/\(∀ i (h:i<xs.size),i<below xs j->xs[i]<j)/\∀ i (h:i<xs.size),below xs j<=i->j<=xs[i]:=
 gU xs j hr xs.size 0 xs.size ⋯ ⋯ (Ak _) (λ i h q=>⋯) (λ i h q=>⋯)
theorem below_at {xs:Array Nat}{j i:Nat}(hr:uL xs.toList) (h:xs[i]?=↑j):below xs j=i:=by
 let#[h1,h2,h3]:=kJ (j:=j) hr;let#[hi,e]:=Array.getElem?_eq_some_iff.mp h;have a:¬ i<below xs j:=λ q=>by have:=h2 i hi q;lia
 have b:¬ below xs j<i:=λ q=>by
  have:=h3 (below xs j) ⋯ (Ak _);have r:=C_.mp hr (below xs j) i (by simp;lia) (by exists hi) q;simp at r;lia
 lia
def LU {xs:Array Nat}{j:Nat}(hr:uL xs.toList):(xs[below xs j]?=↑j)↔j∈xs.toList:=by
 constructor
 .intro h;let#[hi,e]:=Array.getElem?_eq_some_iff.mp h;rw[<- e];simp
 .intro h;let#[i,hi,e]:=B8.mp h;have hx:xs[i]?=↑j:=by
   simp at hi;simp[hi] at e ⊢;show e
  rw[below_at hr hx];show hx
def uw (M:Nat) (p:Probe):Probe:=
 if p.more>0 then { p with j:=p.j+1,more:=p.more-1 } else
 let (i,perturb):=leap M p.i p.perturb
 { p with j:=i,more:=runEnd M i-i,i,perturb }
def fk (t:SetTable) (p:Probe):t.advance p=uw t.mask p:=rfl
def pb (M i perturb:Nat):Probe:={ j:=i,more:=runEnd M i-i,i:=i,perturb:=perturb,dummy:=none }
def way (M:Nat) (h:Int):Nat->Probe
 | 0=>pb M (bits h%(M+1)) (bits h)
 | k+1=>uw M (way M h k)
def Kc (M:Nat) (p:Probe) (h:p.dummy=none):(uw M p).dummy=none:=by
 unfold uw;split
 .show h
 .show h
theorem j4 (M:Nat) (h:Int):∀ k,(way M h k).dummy=none
 | 0=>rfl
 | k+1=>Kc M _ (j4 M h k)
def zV (M:Nat) (h:Int):Nat->Nat×Nat
 | 0=>(bits h%(M+1),bits h)
 | n+1=>leap M (zV M h n).1 (zV M h n).2
theorem jM (M i pt:Nat) (h:Int) (k:Nat) (hk:way M h k=pb M i pt):∀ m,m<=runEnd M i-i->way M h (k+m)={ j:=i+m,more:=runEnd M i-i-m,i:=i,perturb:=pt,dummy:=none }
 | 0,_=>by rw[Nat.add_zero,hk];rfl
 | m+1,hm=>by
  have ih:=jM M i pt h k hk m ⋯;change uw M (way M h (k+m))=_;rw[ih];unfold uw;rw[if_pos (by change runEnd M i-i-m>0;lia)];simp![Probe.mk.injEq];show#[⋯,⋯,trivial,trivial,trivial]
def Vy (M i:Nat):runEnd M i-i<=9:=by unfold runEnd;split <;> lia
theorem dH (M:Nat) (h:Int) (n k:Nat) (hk:way M h k=pb M (zV M h n).1 (zV M h n).2):way M h (k+(runEnd M (zV M h n).1-(zV M h n).1)+1)=pb M (zV M h (n+1)).1 (zV M h (n+1)).2:=by
 have:=jM M _ _ h k hk _ (Ak _);change uw M (way M h (k+_))=_;rw[this];unfold uw;rw[if_neg (by change ¬ _-_-(_-_)>0;lia)];rfl
theorem dI (M:Nat) (h:Int):∀ n,∃ k,k<=10*n/\way M h k=pb M (zV M h n).1 (zV M h n).2
 | 0=>#[0,⋯,rfl]
 | n+1=>by
  let#[k,h1,h2]:=dI M h n;have:=Vy M (zV M h n).1;show#[_,⋯,dH M h n k h2]
def LR (h:Int):bits h<2 ^ 64:=by
 unfold bits;have h1:=DV h (show (2 ^ 64:Int)≠0 by decide);have h2:=Int.emod_lt_of_pos h (show (0:Int)<2 ^ 64 by decide);lia
theorem c8 (M:Nat) (h:Int):∀ n,(zV M h n).2*32 ^ n<=bits h
 | 0=>by simp[zV]
 | n+1=>by
  have ih:=c8 M h n;change ((zV M h n).2/32)*32 ^ (n+1)<=_;have:(zV M h n).2/32*32<=(zV M h n).2:=Nat.div_mul_le_self _ _
  calc (zV M h n).2/32*32 ^ (n+1)=((zV M h n).2/32*32)*32 ^ n:=by rw[Nat.pow_succ,DU (32 ^ n) 32,Nat.mul_assoc]
   _<=(zV M h n).2*32 ^ n:=Nat.mul_le_mul_right _ this
   _<=_:=ih
theorem Uz (M:Nat) (h:Int) (n:Nat) (hn:13<=n):(zV M h n).2=0:=by
 rcases Nat.eq_zero_or_pos (zV M h n).2 with q | q
 .show q
 .have h1:=c8 M h n;have h2:=LR h;have h3:32 ^ 13<=32 ^ n:=Nat.pow_le_pow_right () hn;have h4:1*32 ^ n<=(zV M h n).2*32 ^ n:=Nat.mul_le_mul_right _ q;have h5:(2:Nat) ^ 64<32 ^ 13:=()
  lia
def tP (M:Nat) (i:Nat):Nat->Nat
 | 0=>i
 | n+1=>(tP M i n*5+1)%(M+1)
theorem bB (M:Nat) (h:Int):∀ n,(zV M h (13+n)).1=tP M (zV M h 13).1 n
 | 0=>rfl
 | n+1=>by
  have ih:=bB M h n;have hz:=Uz M h (13+n) ⋯;change ((zV M h (13+n)).1*5+1+(zV M h (13+n)).2/32)%(M+1)=_;rw[hz,ih];rfl
theorem o_ (M i:Nat):∀ a b,tP M i (a+b)=tP M (tP M i a) b
 | a,0=>rfl
 | a,b+1=>by
  change (tP M i (a+b)*5+1)%(M+1)=_;rw[o_ M i a b];rfl
def oZ (M:Nat):Nat->Nat->List Nat
 | 0,_=>[]
 | n+1,i=>i::oZ M n ((i*5+1)%(M+1))
theorem ig (M:Nat):∀ n i x,x∈oZ M n i->∃ k,k<n/\tP M i k=x
 | 0,i,x,h=>by cases h
 | n+1,i,x,h=>by
  rcases Am.mp h with e | e
  .show#[0,⋯,e.symm]
  .let#[k,h1,h2]:=ig M n _ x e;show#[k+1,⋯,by rw[Nat.add_comm,o_];show h2]
def vt (M:Nat):Prop:=M=7\/M=31\/M=127
theorem Rz (M:Nat) (hM:vt M):(∀ e,e<=M->e∈oZ M (M+1) 0)/\tP M 0 (M+1)=0:=by
 have key:∀ M,((List.range (M+1)).all λ e=>(oZ M (M+1) 0).contains e)=true->∀ e,e<=M->e∈oZ M (M+1) 0:=λ M h e he=>by
  have:=Bj.mp h e (AL.mpr ⋯);exists this
 rcases hM with rfl | rfl | rfl
 .show#[key 7 (AO),AO]
 .show#[key 31 (AO),AO]
 .show#[key 127 (AO),AO]
theorem Ry (M:Nat) (hM:vt M) (i e:Nat) (hi:i<=M) (he:e<=M):∃ n,n<=M/\tP M i n=e:=by
 let#[h1,h2]:=Rz M hM;let#[a,a1,a2]:=ig M _ _ _ (h1 i hi);let#[b,b1,b2]:=ig M _ _ _ (h1 e he);rcases BF b a with q | q
 .exact#[M+1+b-a,⋯,?_];rw[<- a2,<- o_,show a+(M+1+b-a)=(M+1)+b by lia,o_,h2,b2]
 .exact#[b-a,⋯,?_];rw[<- a2,<- o_,show a+(b-a)=b by lia,b2]
theorem OK (M:Nat) (h:Int):∀ n,(zV M h n).1<=M
 | 0=>by have:=C9 (bits h) (show 0<M+1 by lia);change bits h%(M+1)<=M;lia
 | n+1=>by
  have:=C9 ((zV M h n).1*5+1+(zV M h n).2/32) (show 0<M+1 by lia);change (_%(M+1):Nat)<=M;lia
theorem bC (M:Nat) (hM:vt M) (h:Int) (e:Nat) (he:e<=M):∃ n,n<M+14/\(zV M h n).1=e:=by
 let#[n,h1,h2]:=Ry M hM (zV M h 13).1 e (OK M h 13) he;show#[13+n,⋯,by rw[bB,h2]]
theorem Wd (M:Nat) (hM:vt M) (h:Int) (e:Nat) (he:e<=M):∃ k,k<10*(M+15)/\(way M h k).j=e:=by
 let#[n,h1,h2]:=bC M hM h e he;let#[k,k1,k2]:=dI M h n;show#[k,⋯,by rw[k2];show h2]
theorem eE (M:Nat) (h:Int):∀ k,(way M h k).j+(way M h k).more<=M/\(way M h k).i<=M
 | 0=>by
  have h1:bits h%(M+1)<=M:=by have:=C9 (bits h) (show 0<M+1 by lia);lia
  exact#[?_,h1];change bits h%(M+1)+(runEnd M (bits h%(M+1))-bits h%(M+1))<=M;unfold runEnd;split <;> lia
 | k+1=>by
  let#[h1,h2]:=eE M h k;change (uw M (way M h k)).j+(uw M (way M h k)).more<=M/\(uw M (way M h k)).i<=M;unfold uw;split
  .rename_i c;show#[by change (way M h k).j+1+((way M h k).more-1)<=M;lia,h2]
  .have h3:((way M h k).i*5+1+(way M h k).perturb/32)%(M+1)<=M:=by have:=C9 ((way M h k).i*5+1+(way M h k).perturb/32) (show 0<M+1 by lia);lia
   exact#[?_,h3];change _%(M+1)+(runEnd M (_%(M+1))-_%(M+1))<=M;unfold runEnd;split <;> lia
def j0 (M:Nat) (h:Int) (k:Nat):(way M h k).j<=M:=by have:=(eE M h k).1;lia
structure Tab (t:SetTable) (hs:List Int):Prop where
 mask:vt t.mask
 s_:t.dummies=[].toArray
 len:t.place.size=hs.length
 wJ:uL t.place.toList
 top:∀ j∈t.place.toList,j<=t.mask
 oQ:∀ (i:Nat) h j,hs[i]?=↑h->t.place[i]?=↑j->∃ k,(way t.mask h k).j=j/\∀ k'<k,(way t.mask h k').j∈t.place.toList
theorem Tab.live {t:SetTable}{hs:List Int}(T:Tab t hs) {i j:Nat}(h:t.place[i]?=↑j):t.slot j=.live i:=by
 unfold SetTable.slot;dsimp only;rw[below_at T.wJ h,if_pos (by rw[h];simp)]
theorem Tab.empty {t:SetTable}{hs:List Int}(T:Tab t hs) {j:Nat}(h:j∉t.place.toList):t.slot j=.empty:=by
 unfold SetTable.slot;dsimp only;have n1:¬ (t.place[below t.place j]? == ↑j)=true:=λ q=>h ((LU T.wJ).mp (by exists q));rw[if_neg n1,if_neg (by rw[T.s_];simp[has])]
theorem Tab.at {t:SetTable}{hs:List Int}(T:Tab t hs) {j:Nat}(h:j∈t.place.toList):∃ (i:Nat) (g:Int),t.place[i]?=↑j/\hs[i]?=↑g:=by
 let#[i,hi,e]:=B8.mp h;have Hh:i<t.place.size:=by exists hi
 exact#[i,hs[i]'(by rw[<- T.len];show Hh),?_,#[]];rw[Bx Hh];rw[Cr] at e;rw[e]
theorem av {t:SetTable}{hs:List Int}(T:Tab t hs) {hashAt:Nat->Int}(hA:∀ (i:Nat) g,hs[i]?=↑g->hashAt i=g) (h:Int):∀ (f k:Nat),(∃ e,k<=e/\e<k+f/\(way t.mask h e).j∉t.place.toList)->
  ∃ k1,k<=k1/\(∀ m,k<=m->m<k1->∃ (i:Nat) (g:Int),t.place[i]?=↑(way t.mask h m).j/\hs[i]?=↑g/\g≠h)/\
   ((way t.mask h k1).j∉t.place.toList/\probe.go t hashAt h f (way t.mask h k)=↑(.empty (way t.mask h k1).j none)\/
    ∃ i,t.place[i]?=↑(way t.mask h k1).j/\hs[i]?=↑h/\probe.go t hashAt h f (way t.mask h k)=↑(.candidate (way t.mask h k1).j i (way t.mask h (k1+1))))
 | 0,k,#[e,h1,h2,_]=>⋯
 | f+1,k,#[e,h1,h2,h3]=>by
  by_cases hm:(way t.mask h k).j∈t.place.toList
  .let#[i,g,p1,p2]:=T.at hm;by_cases hg:g=h
   .exact#[k,Ak _,λ m a b=>⋯,.inr #[i,p1,by rw[<- hg];show p2,?_]];unfold probe.go;rw[T.live p1];dsimp only;rw[hA i g p2,if_pos (by simp[hg]),fk];rfl
   .have Aq:e≠k:=λ q=>by subst q;show h3 hm
    let#[k1,q1,q2,q3]:=av T hA h f (k+1) #[e,⋯,⋯,h3];have eq:probe.go t hashAt h (f+1) (way t.mask h k)=probe.go t hashAt h f (way t.mask h (k+1)):=by
     conv=>lhs;unfold probe.go
     rw[T.live p1];dsimp only;rw[hA i g p2,if_neg (by simp[hg]),fk];rfl
    rw[eq];exact#[k1,⋯,λ m a b=>?_,q3];rcases Nat.eq_or_lt_of_le a with w | w
    .subst w;show#[i,g,p1,p2,hg]
    .show q2 m w b
  .exact#[k,Ak _,λ m a b=>⋯,.inl #[hm,?_]];unfold probe.go;rw[T.empty hm,j4]
def bc {xs ys:List Nat}(hx:xs.Nodup) (h:∀ x∈xs,x∈ys):xs.length<=ys.length:=by
 induction xs generalizing ys with
 | nil=>simp
 | cons x xs ih=>
  have h1:=BG.mp hx;have hxy:=h x Av;have:=ih h1.2 (ys:=ys.erase x) λ z hz=>by
   have Aq:z≠x:=λ e=>h1.1 (e▸hz);show (List.mem_erase_of_ne Aq).mpr (h z (AA _ hz))
  rw[List.length_erase_of_mem hxy] at this;have hp:=List.length_pos_of_mem hxy;simp![A9];lia
theorem least {P:Nat->Prop}(k:Nat) (h:P k):∃ m,m<=k/\P m/\∀ m'<m,¬ P m':=by
 induction k using Nat.strongRecOn with
 | ind k ih=>
  rcases Classical.em (∃ m',m'<k/\P m') with ⟨m',h1,h2⟩ | q
  .let#[m,g1,g2]:=ih m' h1 h2;show#[m,⋯,g2]
  .show#[k,Ak _,h,λ m' hm hp=>q #[m',hm,hp]]
theorem Mi {xs:List Nat}{M:Nat}(h:xs.length<=M):∃ e,e<=M/\e∉xs:=by
 rcases Classical.em (∃ e,e<=M/\e∉xs) with q | q
 .show q
 .have:=bc (xs:=List.range (M+1)) (ys:=xs) DT λ e he=>by
   have:=AL.mp he;rcases Classical.em (e∈xs) with w | w
   .show w
   .show absurd #[e,⋯,w] q
  simp at this;lia
def fE (t:SetTable) (h:Int) (j:Nat):Prop:=j∉t.place.toList/\∃ k,(way t.mask h k).j=j/\∀ k'<k,(way t.mask h k').j∈t.place.toList
theorem Tab.first {t:SetTable}{hs:List Int}(T:Tab t hs) (hl:hs.length<=t.mask) (h:Int):∃ K,K<10*(t.mask+15)/\(way t.mask h K).j∉t.place.toList/\∀ k'<K,(way t.mask h k').j∈t.place.toList:=by
 let#[e,e1,e2]:=Mi (xs:=t.place.toList) (M:=t.mask) (by rw[BH,T.len];show hl);let#[k,k1,k2]:=Wd t.mask T.mask h e e1;let#[K,q1,q2,q3]:=least (P:=λ n=>(way t.mask h n).j∉t.place.toList) k (by rw[k2];show e2);show#[K,⋯,q2,λ k' hk=>Classical.not_not.mp (q3 k' hk)]
def V3 {xs:List Nat}{j p:Nat}(h:uL xs) (h1:∀ x∈xs.take p,x<j) (h2:∀ x∈xs.drop p,j<x):uL (xs.take p++j::xs.drop p):=by
 exact Ed.mpr #[h.sublist (List.take_sublist _ _),BK.mpr #[h2,h.sublist (List.drop_sublist _ _)],λ a ha b hb=>?_];rcases Am.mp hb with e | e
 .subst e;show h1 a ha
 .have:=h1 a ha;have:=h2 b e;lia
theorem ag {α:Type}{xs:List α}{p i:Nat}{x y:α}(hp:p<=xs.length) (h:(xs.take p++x::xs.drop p)[i]?=↑y):(i=p/\y=x)\/(i<p/\xs[i]?=↑y)\/(p<i/\xs[i-1]?=↑y):=by
 have hl:(xs.take p).length=p:=by rw[Dj];lia
 rcases DS i p with q | q | q
 .rw[Ct ⋯,List.getElem?_take,if_pos q] at h;show .inr (.inl #[q,h])
 .subst q;rw[Di ⋯,hl] at h;simp at h;show .inl #[rfl,h.symm]
 .rw[Di ⋯,hl] at h;obtain⟨d,hd⟩:∃ d,i-p=d+1:=#[i-p-1,⋯];rw[hd] at h;simp![DR,List.getElem?_drop] at h;exact .inr (.inr #[q,?_]);rw[show i-1=p+d by lia];show h
theorem Tab.put {t:SetTable}{hs:List Int}(T:Tab t hs) {h:Int}{j:Nat}(F:fE t h j):
  (t.put j).2<=hs.length/\(t.put j).1={ t with place:=insertAt t.place (t.put j).2 j }/\Tab (t.put j).1 (hs.take (t.put j).2++h::hs.drop (t.put j).2):=by
 let#[b1,b2,b3]:=kJ (xs:=t.place) (j:=j) T.wJ;let#[fn,K,k1,k2]:=F;have e2:(t.put j).2=below t.place j:=rfl;have e1:(t.put j).1={ t with place:=insertAt t.place (t.put j).2 j }:=by
  change ({ t with place:=insertAt t.place (below t.place j) j,dummies:=_ }:SetTable)=_;rw[if_neg (by rw[T.s_];simp[has]),e2]
 have pl:(insertAt t.place (below t.place j) j).toList=t.place.toList.take (below t.place j)++j::t.place.toList.drop (below t.place j):=toList_insertAt _ _ _;have old:∀ x∈t.place.toList,x∈(insertAt t.place (below t.place j) j).toList:=λ x hx=>by
  rw[pl];have:=Eb (below t.place j) t.place.toList;rw[<- this] at hx;rcases A1.mp hx with q | q
  .show Cu _ q
  .show A3 _ (AA _ q)
 rw[e2] at e1 ⊢;exact#[by rw[<- T.len];show b1,e1,?_];rw[e1];exact#[T.mask,T.s_,?_,?_,?_,?_]
 .change (insertAt t.place (below t.place j) j).size=_;rw[<- BH,pl];simp[T.len]
 .change uL (insertAt t.place (below t.place j) j).toList;rw[pl];exact V3 T.wJ (λ x hx=>?_) (λ x hx=>?_)
  .let#[i,hi,e]:=B8.mp hx;rw[Dj] at hi;rw[List.getElem_take,Cr] at e;rw[<- e];show b2 i (by simp at hi;lia) ⋯
  .let#[i,hi,e]:=B8.mp hx;rw[Eg] at hi;rw[List.getElem_drop,Cr] at e;have h3:=b3 (below t.place j+i) (by simp at hi;lia) ⋯;have hm:x∈t.place.toList:=List.mem_of_mem_drop hx;have Aq:x≠j:=λ q=>fn (q▸hm);lia
 .intro x hx;change x<=t.mask;have hx:x∈(insertAt t.place (below t.place j) j).toList:=hx;rw[pl] at hx;rcases A1.mp hx with q | q
  .show T.top x (List.mem_of_mem_take q)
  .rcases Am.mp q with e | e
   .subst e;rw[<- k1];show j0 _ _ _
   .show T.top x (List.mem_of_mem_drop e)
 .intro i g x hg hx;change ∃ k,(way t.mask g k).j=x/\∀ k'<k,(way t.mask g k').j∈(insertAt t.place (below t.place j) j).toList;have hx:(insertAt t.place (below t.place j) j)[i]?=↑x:=hx;rw[<- BU,pl] at hx;have Ao:below t.place j<=t.place.toList.length:=by exists b1
  have EB:below t.place j<=hs.length:=by rw[<- T.len];show b1
  rcases ag Ao hx with ⟨c1,c2⟩ | ⟨c1,c2⟩ | ⟨c1,c2⟩ <;> rcases ag EB hg with ⟨d1,d2⟩ | ⟨d1,d2⟩ | ⟨d1,d2⟩ <;> first
   | lia
   | (subst c2 d2;show#[K,k1,λ k' hk=>old _ (k2 k' hk)])
   | (let#[k,g1,g2]:=T.oQ _ g x d2 (by rw[<- BU];show c2)
      show#[k,g1,λ k' hk=>old _ (g2 k' hk)])
def rL (owner:Array (Option Nat)) (j:Nat):Prop:=∃ k,owner[j]?=↑↑k
theorem Mo {P:Nat->Bool}{n k:Nat}(h:(List.range n).find? P=↑k):k<n/\P k=true/\∀ k'<k,P k'=false:=by
 let#[h1,as,bs,h2,h3]:=List.find?_eq_some_iff_append.mp h;have hlen:as.length=k:=by
  have e:(List.range n)[as.length]?=↑k:=by rw[h2];simp
  have:=(AX.mp e)
  let#[q1,q2]:=this;rw[Ee] at q2;show q2
 have hk:k<n:=by
  have:k∈List.range n:=by rw[h2];simp
  show AL.mp this
 exact#[hk,h1,λ k' GX=>?_];have:k'∈as:=by
  have e:(List.range n)[k']?=↑k':=Ea ⋯;rw[h2,Ct ⋯] at e;show BM e
 have:=h3 k' this;exists this
def getD_none {owner:Array (Option Nat)}{j:Nat}(h:((owner.getD j ↑0).isNone)=true):owner[j]?=↑none:=by
 unfold Array.getD at h;split at h
 .rename_i hj;have e:owner[j]=none:=by exists h
  rw[Bx hj,e]
 .simp at h
def ax {owner:Array (Option Nat)}{j:Nat}(hj:j<owner.size) (h:((owner.getD j ↑0).isNone)=false):rL owner j:=by
 unfold Array.getD at h;rw[dif_pos hj] at h;cases q:owner[j] with
 | none=>simp[q] at h
 | some k=>show#[k,by rw[Bx hj,q]]
theorem aA (M:Nat) (owner:Array (Option Nat)) (hsz:owner.size=M+1) (h:Int):∀ (fuel n kn:Nat),way M h kn=pb M (zV M h n).1 (zV M h n).2->(∀ q<kn,rL owner (way M h q).j)->
  (∃ n',n<=n'/\n'<n+fuel/\owner[(zV M h n').1]?=↑none)->
  ∃ j q,layClean.free M owner fuel (zV M h n).1 (zV M h n).2=↑j/\(way M h q).j=j/\owner[j]?=↑none/\∀ q'<q,rL owner (way M h q').j
 | 0,n,kn,_,_,#[n',h1,h2,_]=>⋯
 | fuel+1,n,kn,hk,ho,#[n',h1,h2,h3]=>by
  have hre:runEnd M (zV M h n).1+1-(zV M h n).1=runEnd M (zV M h n).1-(zV M h n).1+1:=by unfold runEnd;split <;> lia
  have Hd:∀ m,m<=runEnd M (zV M h n).1-(zV M h n).1->(way M h (kn+m)).j=(zV M h n).1+m:=λ m hm=>by rw[jM M _ _ h kn hk m hm]
  unfold layClean.free;cases hf:(List.range (runEnd M (zV M h n).1+1-(zV M h n).1)).find? (λ k=>(owner.getD ((zV M h n).1+k) ↑0).isNone) with
  | some k=>
   let#[f1,f2,f3]:=Mo hf;exact#[_,kn+k,rfl,Hd k ⋯,getD_none f2,λ q' hq=>?_];rcases BF q' kn with w | w
   .show ho q' w
   .have e:(way M h q').j=(zV M h n).1+(q'-kn):=by
     have:=Hd (q'-kn) ⋯
     rwa [show kn+(q'-kn)=q' by lia] at this
    have hle:=j0 M h q';rw[e] at hle ⊢;show ax ⋯ (f3 (q'-kn) ⋯)
  | none=>
   have f3:=List.find?_eq_none.mp hf;have occ:∀ m,m<=runEnd M (zV M h n).1-(zV M h n).1->rL owner ((zV M h n).1+m):=λ m hm=>by
    have hle:=j0 M h (kn+m);rw[Hd m hm] at hle;show ax ⋯ (Bool.eq_false_iff.mpr (f3 m (AL.mpr ⋯)))
   have Aq:n'≠n:=λ e=>by
    subst e;let#[k,GX]:=occ 0 (A0 _);rw[Nat.add_zero] at GX;rw[GX] at h3;cases h3
   dsimp only;let#[j,q,r1,r2]:=aA M owner hsz h fuel (n+1) _ (dH M h n kn hk) (λ q hq=>by
    rcases BF q kn with w | w
    .show ho q w
    .have e:=Hd (q-kn) ⋯;rw[show kn+(q-kn)=q by lia] at e;rw[e];show occ _ ⋯) #[n',⋯,⋯,h3]
   show#[j,q,r1,r2]
structure Lay (M:Nat) (hs:List Int) (owner:Array (Option Nat)) (m:Nat):Prop where
 size:owner.size=M+1
 below:∀ (j k:Nat),owner[j]?=↑↑k->k<m
 each:∀ (k:Nat),k<m->∃ (j:Nat),owner[j]?=↑↑k
 once:∀ (i j k:Nat),owner[i]?=↑↑k->owner[j]?=↑↑k->i=j
 oQ:∀ (j k:Nat) h,owner[j]?=↑↑k->hs[k]?=↑h->∃ q,(way M h q).j=j/\∀ q'<q,rL owner (way M h q').j
theorem Lay.none {M:Nat}(hM:vt M) {hs:List Int}{owner:Array (Option Nat)}{m:Nat}(L:Lay M hs owner m) (hm:m<=M):∃ (e:Nat),e<=M/\owner[e]?=↑Option.none:=by
 rcases Classical.em (∃ (e:Nat),e<=M/\owner[e]?=↑Option.none) with q | q
 .show q
 .exfalso;have Az:∀ (e:Nat),e<=M->∃ (k:Nat),owner[e]?=↑↑k:=λ e he=>by
   have AD:e<owner.size:=by rw[L.size];lia
   cases w:owner[e] with
   | none=>show absurd #[e,he,by rw[Bx AD,w]] q
   | some k=>show#[k,by rw[Bx AD,w]]
  have:=bc (xs:=(List.range (M+1)).map λ e=>((owner[e]?).getD Option.none).getD 0) (ys:=List.range m) (by
   exact Dc.mpr (List.Pairwise.imp_of_mem ?_ DT);intro a b ha hb Aq e;exact Aq ?_;let#[k,hk]:=Az a (by have:=AL.mp ha;lia);let#[k',GX]:=Az b (by have:=AL.mp hb;lia);rw[hk,GX] at e;simp at e;subst e;show L.once a b k hk GX) (λ x hx=>by
   let#[e,he,rfl]:=Au.mp hx;let#[k,hk]:=Az e (by have:=AL.mp he;lia);rw[hk];show AL.mpr (L.below e k hk))
  simp at this;lia
def l8 {α:Type}{xs:Array α}{j i:Nat}{a b:α}(h:(xs.setIfInBounds j a)[i]?=↑b):(i=j/\b=a)\/(i≠j/\xs[i]?=↑b):=by
 rw[DQ] at h;by_cases e:j=i
 .subst e;rw[if_pos rfl] at h;split at h
  .cases h;show .inl #[rfl,rfl]
  .cases h
 .rw[if_neg e] at h;show .inr #[λ q=>e q.symm,h]
def Lay.step {M:Nat}(hM:vt M) {hs:List Int}{owner:Array (Option Nat)}{m:Nat}{h:Int}(L:Lay M hs owner m) (hm:m<=M) (hh:hs[m]?=↑h):
  ∃ j,layClean.free M owner (turns M) (bits h%(M+1)) (bits h)=↑j/\Lay M hs (owner.setIfInBounds j ↑m) (m+1):=by
 let#[e,e1,e2]:=L.none hM hm;let#[n',n1,n2]:=bC M hM h e e1;let#[j,q,r1,r2,r3,r4]:=aA M owner L.size h (turns M) 0 0 rfl (λ q hq=>⋯) #[n',⋯,by unfold turns;lia,by rw[n2];show e2];have hj:j<owner.size:=(Array.getElem?_eq_some_iff.mp r3).1;have keep:∀ x,rL owner x->rL (owner.setIfInBounds j ↑m) x:=λ x #[k,hk]=>by
  have Aq:j≠x:=λ w=>by subst w;rw[r3] at hk;cases hk
  show#[k,by rw[DQ,if_neg Aq];show hk]
 have self:(owner.setIfInBounds j ↑m)[j]?=↑↑m:=by rw[DQ,if_pos rfl,if_pos hj]
 exact#[j,r1,#[by simp[L.size],λ x k hx=>?_,λ k hk=>?_,λ x y k hx hy=>?_,λ x k g hx hg=>?_]]
 .rcases l8 hx with ⟨_,w⟩ | ⟨_,w⟩
  .cases w;lia
  .have:=L.below x k w;lia
 .rcases BF k m with w | w
  .let#[x,hx]:=L.each k w;have Aq:j≠x:=λ w=>by subst w;rw[r3] at hx;cases hx
   show#[x,by rw[DQ,if_neg Aq];show hx]
  .have:k=m:=⋯;subst this;show#[j,self]
 .rcases l8 hx with ⟨w1,w⟩ | ⟨w1,w⟩ <;> rcases l8 hy with ⟨v1,v⟩ | ⟨v1,v⟩
  .lia
  .cases w;have:=L.below y _ v;lia
  .cases v;have:=L.below x _ w;lia
  .show L.once x y k w v
 .rcases l8 hx with ⟨w1,w⟩ | ⟨w1,w⟩
  .cases w;rw[hh] at hg;cases hg;subst w1;show#[q,r2,λ q' hq=>keep _ (r4 q' hq)]
  .let#[q,g1,g2]:=L.oQ x k g w hg;show#[q,g1,λ q' hq=>keep _ (g2 q' hq)]
theorem bE {M:Nat}(hM:vt M) {hs:List Int}(hl:hs.length<=M+1):∀ (E9:List Int) (owner:Array (Option Nat)) (m:Nat),m<=hs.length->hs.drop m=E9->Lay M hs owner m->
  ∃ HA,E9.foldl (λ acc h=>do
   let (owner,k) <- acc
   let j <- layClean.free M owner (turns M) (bits h%(M+1)) (bits h)
   pure (owner.setIfInBounds j ↑k,k+1)) ↑(owner,m)=↑(HA,hs.length)/\Lay M hs HA hs.length
 | [],owner,m,IX,hd,L=>by
  have hm:hs.length<=m:=List.drop_eq_nil_iff.mp hd;have e:m=hs.length:=⋯;subst e;show#[owner,rfl,L]
 | h::E9,owner,m,IX,hd,L=>by
  have hm:hs[m]?=↑h:=by
   have:=congrArg (λ l=>l[0]?) hd;exists this
  have AD:m<hs.length:=(AX.mp hm).1;let#[j,j1,j2]:=L.step hM ⋯ hm;have HU:hs.drop (m+1)=E9:=by
   have:=congrArg List.tail hd;exists this
  let#[o',h1,h2]:=bE hM hl E9 _ (m+1) ⋯ HU j2;exact#[o',?_,h2];rw[DP,<- h1];change _=_;congr 1;change ((layClean.free M owner (turns M) (bits h%(M+1)) (bits h)).bind λ j=>↑(owner.setIfInBounds j ↑m,m+1))=_;rw[j1];rfl
theorem OP (M:Nat) (hs:List Int):Lay M hs (Array.replicate (M+1) Option.none) 0:=by
 have no:∀ (j k:Nat),(Array.replicate (M+1) (Option.none:Option Nat))[j]?≠↑↑k:=λ j k h=>by
  rw[Array.getElem?_replicate] at h;split at h <;> cases h
 show#[#[],λ j k h=>absurd h (no j k),λ k hk=>⋯,λ i j k h=>absurd h (no i k),λ j k h e=>absurd e (no j k)]
theorem OQ {M:Nat}(hM:vt M) (hashes:Array Int) (hl:hashes.size<=M+1):∃ owner,layClean M hashes=↑owner/\Lay M hashes.toList owner hashes.size:=by
 let#[o,h1,h2]:=bE hM (hs:=hashes.toList) (by exists hl) hashes.toList _ 0 (A0 _) #[] (OP M _);exact#[o,?_,by exists h2];unfold layClean;rw[<- Array.foldl_toList,h1];rfl
def lives (M:Nat) (owner:Array (Option Nat)):List (Nat×Nat):=(List.range (M+1)).filterMap λ j=>(owner.getD j Option.none).map (j,·)
theorem getD_some {owner:Array (Option Nat)}{j k:Nat}:owner.getD j Option.none=↑k↔owner[j]?=↑↑k:=by
 unfold Array.getD;split
 .rename_i h;rw[Bx h];simp
 .rename_i h;rw[CO ⋯];simp
theorem qo {M:Nat}{owner:Array (Option Nat)}(hs:owner.size=M+1) {j k:Nat}:(j,k)∈lives M owner↔owner[j]?=↑↑k:=by
 unfold lives;rw[CT];constructor
 .rintro⟨x,hx,e⟩;let#[y,e1,e2]:=AK.mp e;cases e2;show getD_some.mp e1
 .intro h;have hj:=(Array.getElem?_eq_some_iff.mp h).1;show#[j,AL.mpr ⋯,by rw[getD_some.mpr h];rfl]
def b6 (M:Nat) (owner:Array (Option Nat)):(lives M owner).Pairwise λ a b=>a.1<b.1:=by
 unfold lives;rw[List.pairwise_filterMap];exact List.Pairwise.imp ?_ List.pairwise_lt_range;intro a b C2 x hx y hy;let#[_,_,e1]:=AK.mp hx;let#[_,_,e2]:=AK.mp hy;subst e1 e2;show C2
def bF {M:Nat}(hM:vt M) (finger moves:Nat) (led plain:Bool) (hashes:Array Int) (hl:hashes.size<=M+1):
  ∃ t order,laid M finger moves led plain hashes=↑(t,order)/\t.mask=M/\t.finger=finger/\t.led=led/\t.plain=plain/\order.toList.Perm (List.range hashes.size)/\Tab t (order.toList.map λ k=>hashes.toList.getD k 0):=by
 let#[owner,h1,L]:=OQ hM hashes hl;exact#[_,_,by unfold laid;rw[h1];rfl,rfl,rfl,rfl,rfl,?_,?_]
 .change ((lives M owner).map (·.2)).toArray.toList.Perm _;rw[C8];exact (D_ ?_ DT).mpr λ k=>?_
  .exact Dc.mpr (List.Pairwise.imp_of_mem ?_ (b6 M owner));intro a b ha hb C2 e;have h2:=(qo L.size (j:=a.1) (k:=a.2)).mp ha;have h3:=(qo L.size (j:=b.1) (k:=b.2)).mp hb;have e:a.2=b.2:=e;rw[e] at h2;have:=L.once _ _ _ h2 h3;lia
  .rw[AL];constructor
   .intro h;let#[#[j,k'],h2,rfl]:=Au.mp h;show L.below j _ ((qo L.size).mp h2)
   .intro h;let#[j,hj]:=L.each k h;show Au.mpr #[(j,k),(qo L.size).mpr hj,rfl]
 .have pl:∀ x,x∈(lives M owner).map (·.1)↔rL owner x:=λ x=>by
   constructor
   .intro h;let#[#[j,k],h2,rfl]:=Au.mp h;show#[k,(qo L.size).mp h2]
   .rintro⟨k,hk⟩;show Au.mpr #[(x,k),(qo L.size).mpr hk,rfl]
  exact#[hM,rfl,?_,?_,?_,?_]
  .change ((lives M owner).map (·.1)).toArray.size=(((lives M owner).map (·.2)).toArray.toList.map _).length;simp
  .change uL ((lives M owner).map (·.1)).toArray.toList;rw[C8];show Dc.mpr (b6 M owner)
  .intro x hx;change x<=M;have hx:x∈((lives M owner).map (·.1)).toArray.toList:=hx;rw[C8] at hx;let#[k,hk]:=(pl x).mp hx;have:=(Array.getElem?_eq_some_iff.mp hk).1;rw[L.size] at this;lia
  .intro i g x hg hx;have hx:((lives M owner).map (·.1)).toArray[i]?=↑x:=hx;have hg:(((lives M owner).map (·.2)).toArray.toList.map λ k=>hashes.toList.getD k 0)[i]?=↑g:=hg;rw[List.getElem?_toArray,AJ] at hx;rw[C8,AJ,AJ] at hg;let#[p,p1,p2]:=AK.mp hx;rw[p1] at hg;simp![Option.map_some,Option.some.injEq] at hg;let#[j,k]:=p;cases p2;have hm:=(qo L.size).mp (BM p1);have hk:=L.below _ _ hm;let#[q,q1,q2]:=L.oQ _ k g hm (by rw[<- hg];simp[hk]);exact#[q,q1,λ q' hq=>?_];change _∈((lives M owner).map (·.1)).toArray.toList;rw[C8];show (pl _).mpr (q2 q' hq)
section
variable {prog:Program}{w:World}{A:Around}{E:Af}{s:Shared}
abbrev rk (prog:Program) (w:World):HeapKind prog w (List Int):=tupleKind (intKind prog w)
def items_int {ks:List Int}{vs:Ae}(h:ItemsAre (intKind prog w) ks vs):∀ v∈vs,∃ n t,v=.int n t:=by
 induction h with
 | nil=>intro v hv;cases hv
 | cons h1 _ ih=>
  intro v hv;rcases Am.mp hv with rfl | hv
  .let#[t,e]:=Value.isInt_shape h1;show#[_,t,e]
  .show ih v hv
def bg {ks:List Int}{a:Addr}{Q:Bool->Shared->Prop}(hk:IsTupleKey (intKind prog w) s.heap ks a) (h:Q false s):wpAny (model prog w) A (ofAClassStatement 8 (.ref a)) Q E s:=by
 have hT:=hk.typeIs;let#[o,items,n,ho,_,hd,hi]:=hk;unfold ofAClassStatement;exact KW (zaI hT ?_);change wpAny _ _ (pure true >>= _) _ _ s;exact KW (Ad ?_);simp![CU,Br,if_false];exact KW (zaF ho hd ?_);dsimp only;exact KW ?_;change wpAny _ _ (forIn items _ _) _ _ s;rw[<- Array.forIn_toList];exact wpAny_forIn_list _ (λ E9 r s'=>r.1=none/\s'=s/\∀ v∈E9,∃ n t,v=.int n t) _ ?_ ?_ _ _ #[rfl,rfl,items_int hi]
 .rintro v E9 r s' ⟨hr,rfl,Az⟩;let#[m,t,rfl]:=Az v Av;change wpAny _ _ (pure false >>= _) _ _ _;exact KW (Ad ?_);simp![Br,if_false];show Ad #[rfl,rfl,λ u hu=>Az u (AA _ hu)]
 .rintro⟨r1,r2⟩ s' ⟨hr,rfl,_⟩;simp only at hr;subst hr;show Ad h
def NG {ks:List Int}{a:Addr}{Q:Bool->Shared->Prop}(hk:IsTupleKey (intKind prog w) s.heap ks a) (h:Q true s):wpAny (model prog w) A (hashByValue 8 (.ref a)) Q E s:=by
 have hT:=hk.typeIs;let#[o,items,n,ho,_,hd,hi]:=hk;unfold hashByValue;exact KW (wpAny_specialOf hT F.slot_tuple_hash.lookup ?_);dsimp only;exact KW (zaF ho hd ?_);exact KW ?_;change wpAny _ _ (forIn items _ _) _ _ s;rw[<- Array.forIn_toList];exact wpAny_forIn_list _ (λ E9 r s'=>r.1=none/\s'=s/\∀ v∈E9,∃ n t,v=.int n t) _ ?_ ?_ _ _ #[rfl,rfl,items_int hi]
 .rintro v E9 r s' ⟨hr,rfl,Az⟩;let#[m,t,rfl]:=Az v Av;change wpAny _ _ (pure true >>= _) _ _ _;exact KW (Ad ?_);simp![CU,Br,if_false];show Ad #[rfl,rfl,λ u hu=>Az u (AA _ hu)]
 .rintro⟨r1,r2⟩ s' ⟨hr,rfl,_⟩;simp only at hr;subst hr;show Ad h
def Wj {ks:List Int}{b:Addr}{Q:Bool->Shared->Prop}(hk:IsTupleKey (intKind prog w) s.heap ks b) (l:Ae) (hl:∀ v∈l,∃ k c,v=.ref c/\IsTupleKey (intKind prog w) s.heap k c) (h:Q false s):
  wpAny (model prog w) A (searchCouldBeSeen (.ref b) l) Q E s:=by
 unfold searchCouldBeSeen;exact KW ?_;exact wpAny_forIn_list _ (λ E9 r s'=>r.1=none/\s'=s/\∀ v∈E9,∃ k c,v=.ref c/\IsTupleKey (intKind prog w) s.heap k c) _ ?_ ?_ _ _ #[rfl,rfl,hl]
 .rintro v E9 r s' ⟨hr,rfl,Az⟩;let#[k,c,rfl,hc]:=Az v Av;have HZ:∀ u∈E9,∃ k c,u=Value.ref c/\IsTupleKey (intKind prog w) s'.heap k c:=λ u hu=>Az u (AA _ hu);dsimp only;by_cases e:(b == c||(carriedByValue (.ref b)&&carriedByValue (.ref c)))=true
  .rw[if_pos e];show Ad #[rfl,rfl,HZ]
  .rw[if_neg e];exact KW ((rk prog w).quiet hk ?_);simp![CU,Br,if_false];exact KW ((rk prog w).quiet hc ?_);simp![CU,Br,if_false];exact KW (bg hk ?_);simp![Br,if_false];exact KW (bg hc ?_);simp![Br,if_false];show Ad #[rfl,rfl,HZ]
 .rintro⟨r1,r2⟩ s' ⟨hr,rfl,_⟩;simp only at hr;subst hr;show Ad h
structure rV (h:Heap) (es:Array (Int×Value)) (t:SetTable) (xs:List (List Int×Addr)):Prop where
 es:es.toList=xs.map λ e=>((rk prog w).hash e.1,Value.ref e.2)
 is:∀ e∈xs,IsTupleKey (intKind prog w) h e.1 e.2
 tab:Tab t (xs.map λ e=>(rk prog w).hash e.1)
 nI:xs.length<=t.mask
theorem rV.fits {h:Heap}{es:Array (Int×Value)}{t:SetTable}{xs:List (List Int×Addr)}(X:rV (prog:=prog) (w:=w) h es t xs):t.fits es.size=true:=by
 have hl:es.size=xs.length:=by have:=congrArg List.length X.es;exists this
 have h1:=X.tab.len;rw[AN] at h1;have h2:=X.nI;unfold SetTable.fits SetTable.fill;rw[X.tab.s_,hl,h1];simp;lia
def rV.at {h:Heap}{es:Array (Int×Value)}{t:SetTable}{xs:List (List Int×Addr)}(X:rV (prog:=prog) (w:=w) h es t xs) {i:Nat}{e:List Int×Addr}(he:xs[i]?=↑e):es[i]?=↑((rk prog w).hash e.1,Value.ref e.2):=by
 rw[<- BU,X.es,AJ,he];rfl
theorem dD {a:Addr}{o:Obj}{es:Array (Int×Value)}{ep:Nat}{t:SetTable}{xs:List (List Int×Addr)}{key:List Int}{b:Addr}{Q:SetFound->Shared->Prop}
  (hu:A.units<cLine) (ho:s.heap.get? a=↑o) (hd:o.data=.set es ep t) (X:rV (prog:=prog) (w:=w) s.heap es t xs) (hb:IsTupleKey (intKind prog w) s.heap key b)
  (h1:key∈xs.map (·.1)->Q (.there none) s) (h2:key∉xs.map (·.1)->∀ j,fE t ((rk prog w).hash key) j->Q (.free j false) s):
  ∀ (fuel k:Nat) (Ha:Option Probe),Ha.getD (t.probeStart ((rk prog w).hash key))=way t.mask ((rk prog w).hash key) k->(∀ m<k,∃ (i:Nat) (e:List Int×Addr),t.place[i]?=↑(way t.mask ((rk prog w).hash key) m).j/\xs[i]?=↑e/\e.1≠key)->(∃ K,k<=K/\K<k+fuel/\K<10*(t.mask+15)/\(way t.mask ((rk prog w).hash key) K).j∉t.place.toList/\∀ m<K,(way t.mask ((rk prog w).hash key) m).j∈t.place.toList)->
   wpAny (model prog w) A (setSearchFrom a (.ref b) ((rk prog w).hash key) true fuel Ha) Q E s
 | 0,k,Ha,_,_,#[K,q1,q2,_]=>⋯
 | fuel+1,k,Ha,AH,Jz,#[K,q1,q2,q3,q4,q5]=>by
  have T:=X.tab;have EG:t.gaveWay=false:=by
   unfold SetTable.gaveWay;rcases T.mask with e | e | e <;> rw[e] <;> rfl
  unfold setSearchFrom;exact KW (zaC ho hd X.fits ?_);dsimp only;rw[EG];simp![Br,if_false];have hA:∀ (i:Nat) g,(xs.map λ e=>(rk prog w).hash e.1)[i]?=↑g->((es[i]?).map (·.1)).getD 0=g:=λ i g hg=>by
   rw[AJ] at hg;let#[e,e1,e2]:=AK.mp hg;rw[X.at e1];show e2
  let#[k1,g1,g2,g3]:=av T (hashAt:=λ i=>((es[i]?).map (·.1)).getD 0) hA ((rk prog w).hash key) (10*turns t.mask) k #[K,q1,by unfold turns;lia,q4];rw[AH];have look:∀ (i:Nat) g,(xs.map λ e=>(rk prog w).hash e.1)[i]?=↑g->∃ e,xs[i]?=↑e/\(rk prog w).hash e.1=g:=λ i g hg=>by
   rw[AJ] at hg;let#[e,e1,e2]:=AK.mp hg;show#[e,e1,e2]
  have GS:∀ m<k1,∃ (i:Nat) (e:List Int×Addr),t.place[i]?=↑(way t.mask ((rk prog w).hash key) m).j/\xs[i]?=↑e/\e.1≠key:=λ m hm=>by
   rcases BF m k with c | c
   .show Jz m c
   .let#[i,g,p1,p2,p3]:=g2 m c hm;let#[e,e1,e2]:=look i g p2;show#[i,e,p1,e1,λ q=>p3 (by rw[<- e2,q])]
  rcases g3 with ⟨n1,n2⟩ | ⟨i,n1,n2,n3⟩
  .have n2':t.probe _ ((rk prog w).hash key) (way t.mask ((rk prog w).hash key) k)=_:=n2;simp![SetTable.probe] at n2' ⊢
   erw [n2]
   dsimp only;exact Ad (h2 (λ hm=>?_) _ #[n1,k1,rfl,λ m hm=>?_])
   .let#[e,he,ek]:=Au.mp hm;let#[i,hi]:=D9.mp he;have hh:(xs.map λ e=>(rk prog w).hash e.1)[i]?=↑((rk prog w).hash key):=by rw[AJ,hi,<- ek];rfl
    have hil:i<t.place.size:=by rw[T.len];show (AX.mp hh).1
    let#[kk,w1,w2]:=T.oQ i _ _ hh (Bx hil);rcases DS kk k1 with c | c | c
    .let#[i',e',p1,p2,p3]:=GS kk c;rw[w1] at p1;have:i=i':=by
      rw[<- below_at T.wJ (Bx hil),<- below_at T.wJ p1]
     subst this;rw[hi] at p2;cases p2;show p3 ek
    .subst c;rw[w1] at n1;show n1 #[]
    .show n1 (w2 k1 c)
   .let#[i',e',p1,_]:=GS m hm;show BM (by rw[BU];show p1)
  .simp![SetTable.probe]
   erw [n3]
   dsimp only;let#[e,e1,e2]:=look i _ n2;have D3:=X.at e1;have hey:=X.is e (BM e1);have main:wpAny (model prog w) A (holding [Value.ref e.2] (eqBool (.ref e.2) (.ref b)) >>= λ equal=>setState a >>= λ x=>match x with
     | (Gi,_,t')=>if (true&&equal)=true then pure (SetFound.there none) else
      match t'.sameMemory t.moves t.mask with
      | some same=>
       have jp:=λ Gw=>match Gw with
        | none=>do
         rule "set.search.anew"
         setSearchFrom a (.ref b) ((rk prog w).hash key) true fuel none
        | some i'=>if equal=true then pure (SetFound.there ↑i') else setSearchFrom a (.ref b) ((rk prog w).hash key) true fuel ↑(way t.mask ((rk prog w).hash key) (k1+1))
       match if same=true then t'.slot (way t.mask ((rk prog w).hash key) k1).j else Slot.empty with
       | .live i'=>match Gi[i']? with
        | some (_,y')=>do
         let r <- isSame y' (.ref e.2)
         let Gw <- pure (if r=true then ↑i' else none)
         jp Gw
        | none=>do
         let Gw <- pure none
         jp Gw
       | _=>do
        let Gw <- pure none
        jp Gw
      | _=>unsupported "set.changed-during-lookup:is-the-new-block-at-the-old-address") Q E s:=by
    exact KW (za6 ((rk prog w).eqBool hu hey hb ?_));exact KW (zaC ho hd X.fits ?_);dsimp only;by_cases hk:e.1=key
    .rw[zaA hk];simp![DX,if_true];show Ad (h1 (Au.mpr #[e,BM e1,hk]))
    .rw[za5 hk];simp![CQ,Br,if_false];have sm:t.sameMemory t.moves t.mask=↑true:=by unfold SetTable.sameMemory;simp
     rw[sm];dsimp only;rw[if_pos rfl,T.live n1];dsimp only;rw[D3];dsimp only;exact KW (wpAny_isSame_ref_self ?_);exact KW (Ad ?_);rw[if_pos rfl];dsimp only;have hKk:k1<K:=by
      rcases DS K k1 with c | c | c
      .let#[i',e',p1,_]:=GS K c;show absurd (BM (by rw[BU];show p1)) q4
      .subst c;show absurd (BM (by rw[BU];show n1)) q4
      .show c
     exact dD hu ho hd X hb h1 h2 fuel (k1+1) _ rfl (λ m hm=>?_) #[K,⋯,⋯,q3,q4,q5];rcases BF m k1 with c | c
     .show GS m c
     .have:m=k1:=⋯;subst this;show#[i,e,n1,e1,hk]
   rw[D3];by_cases hl:t.led=true
   .rw[hl];simp![CU,Br,if_false];show main
   .have GV:t.led=false:=by exists hl
    rw[GV];simp![CA,if_true];exact KW (Wj hb _ (λ v hv=>?_) ?_)
    .let#[p,hp,rfl]:=Au.mp hv;rw[Array.toList_filter,Be,X.es] at hp;let#[#[e',he',rfl],_]:=(And.intro (Au.mp hp.1) hp.2)
     show#[e'.1,e'.2,rfl,X.is e' he']
    .simp![Br,if_false];show main
structure rC (prog:Program) (w:World) (h:Heap) (a:Addr) (xs:List (List Int×Addr)) (led:Bool):Prop where
 ex:∃ es ep t,h.get? a=↑{ cls:=.type "set",dict:=none,data:=.set es ep t }/\rV (prog:=prog) (w:=w) h es t xs/\t.led=led/\t.plain=true/\xs.length*5<t.mask*3
 nd:(xs.map (·.1)).Nodup
def jA {h h':Heap}{ks:List Int}{b a:Addr}{es:Array (Int×Value)}{ep:Nat}{t:SetTable}{c:Value}{d:Option Addr}{sl:Array (Option Value)}(x:IsTupleKey (intKind prog w) h ks b) (ho:h.get? a=↑{ cls:=c,dict:=d,data:=.set es ep t,slots:=sl }) (hs:Heap.SameBut a h h'):IsTupleKey (intKind prog w) h' ks b:=by
 let#[o',items,n,FQ,hc,HU,hi]:=x;have Aq:b≠a:=by
  rintro rfl;obtain rfl:o'=_:=Bb (FQ.symm.trans ho);cases HU
 show#[o',items,n,(hs.2 b Aq).trans FQ,hc,HU,hi]
theorem lE {h:Heap}{a:Addr}{es Gi:Array (Int×Value)}{ep:Nat}{t t':SetTable}(ho:h.get? a=↑{ cls:=.type "set",dict:=none,data:=.set es ep t }):(h.update a (Obj.putSet Gi t')).get? a=↑{ cls:=.type "set",dict:=none,data:=.set Gi (ep+1) t' }:=by
 have e:Obj.putSet Gi t' { cls:=.type "set",dict:=none,data:=.set es ep t }={ cls:=.type "set",dict:=none,data:=.set Gi (ep+1) t' }:=putSet_of Gi t' rfl;have:=za7 (Obj.putSet Gi t') ho (by rw[e];rfl);rw[e] at this;show this
theorem jZ {α β:Type}(l:List α) (f:α->β) (d:β):∀ (order:List Nat),(∀ k∈order,k<l.length)->order.map (λ k=>(l.map f).getD k d)=(order.filterMap λ k=>l[k]?).map f
 | [],_=>rfl
 | k::order,h=>by
  have hk:=h k Av;have ih:=jZ l f d order λ j hj=>h j (AA _ hj);rw[Ax,Cv,AR hk];dsimp only;rw[Ax,ih];congr 1;simp[hk]
def V5 {a:Addr}{es:Array (Int×Value)}{ep:Nat}{t:SetTable}{xs:List (List Int×Addr)}{led:Bool}{wanted M:Nat}{Q:Unit->Shared->Prop}
  (ho:s.heap.get? a=↑{ cls:=.type "set",dict:=none,data:=.set es ep t }) (X:rV (prog:=prog) (w:=w) s.heap es t xs) (BR:t.led=led) (Ao:t.plain=true) (hM:vt M) (hw:sizeAbove wanted=M+1) (AU:xs.length*5<M*3) (Bm:(xs.map (·.1)).Nodup)
  (h:∀ h' Fu,Heap.SameBut a s.heap h'->rC prog w h' a Fu led->Fu.Perm xs->Q Unit.unit { s with heap:=h' }):wpAny (model prog w) A (setRelay a wanted) Q E s:=by
 have hlen:es.size=xs.length:=by have:=congrArg List.length X.es;exists this
 have ES:(es.map (·.1)).toList=xs.map λ e=>(rk prog w).hash e.1:=by rw[Array.toList_map,X.es,A5];rfl
 have hsz:(es.map (·.1)).size=xs.length:=by rw[De,hlen]
 let#[t',order,h1,h2,h3,h4,h5,h6,h7]:=bF hM t.finger (t.movedTo M) t.led t.plain (es.map (·.1)) (by rw[hsz];lia);rw[hsz] at h6;have AD:∀ k∈order.toList,k<xs.length:=λ k hk=>by exists h6.mem_iff.mp hk
 unfold setRelay;exact KW (zaC ho rfl X.fits ?_);dsimp only;rw[if_neg (by rw[hw];rcases hM with e | e | e <;> rw[e] <;> decide)];have hr:t.relaid (es.map (·.1)) wanted=↑(t',order):=by
  unfold SetTable.relaid;rw[hw,Nat.add_sub_cancel];show h1
 rw[hr];have B3:(order.filterMap (es[·]?)).toList=(order.toList.filterMap λ k=>xs[k]?).map λ e=>((rk prog w).hash e.1,Value.ref e.2):=by
  rw[Array.toList_filterMap,List.map_filterMap];congr 1;funext k;rw[<- BU,X.es,AJ]
 have Fj:(order.toList.filterMap λ k=>xs[k]?).Perm xs:=(h6.filterMap _).trans (by rw[List.filterMap_getElem?_range_length]);have BZ:(order.filterMap (es[·]?)).size=es.size:=by
  rw[<- BH,B3,AN,Fj.length_eq,hlen]
 exact KW (m:=_) ?_;change wpAny _ _ (do
  let ↑(t,order):=↑(t',order) | unsupported "internal:set-table-without-room"
  let Gi:=order.filterMap (es[·]?)
  if Gi.size != es.size then unsupported "internal:set-table-lost-an-element"
  pure (Gi,t)) _ _ _
 dsimp only;rw[if_neg (by rw[BZ];simp)];exact Ad ?_;have Bs:(order.filterMap (es[·]?)).size<=sizeLine:=by
  rw[BZ,hlen];have:sizeLine=16777216:=rfl;rcases hM with e | e | e <;> subst e <;> lia
 exact wpAny_storeSet_of ho rfl ?_ Bs;have sb:=Heap.SameBut.update s.heap a (Obj.putSet (order.filterMap (es[·]?)) t');exact h _ _ sb #[#[_,ep+1,t',lE ho,#[B3,λ e he=>jA (X.is e (Fj.mem_iff.mp he)) ho sb,?_,?_],by rw[h4];show BR,by rw[h5];show Ao,?_],(Fj.map _).nodup_iff.mpr Bm] Fj
 .rw[<- jZ xs (λ e=>(rk prog w).hash e.1) 0 order.toList AD,<- ES];show h7
 .rw[Fj.length_eq,h2];lia
 .rw[Fj.length_eq,h2];show AU
theorem d7 (n:Nat) (M:Nat) (hM:vt M) (h1:n*5<M*3) (h2:M*3<=(n+1)*5) (hn:n<70):∃ M',vt M'/\sizeAbove (grown (n+1))=M' + 1/\(n+1)*5<M'*3:=by
 rcases hM with e | e | e <;> subst e
 .have:n=4:=⋯;subst this;show#[31,.inr (.inl rfl),AO,⋯]
 .have:n=18:=⋯;subst this;show#[127,.inr (.inr rfl),AO,⋯]
 .lia
def Kf {a:Addr}{xs:List (List Int×Addr)}{key:List Int}{b:Addr}{led:Bool}{Q:Bool->Shared->Prop}(hu:A.units<cLine) (S:rC prog w s.heap a xs led) (hb:IsTupleKey (intKind prog w) s.heap key b) (hn:xs.length<70)
  (h:∀ h' Fu r,Heap.SameBut a s.heap h'->rC prog w h' a Fu led->(key∈xs.map (·.1)/\Fu=xs\/key∉xs.map (·.1)/\Fu.Perm (xs++[(key,b)]))->Q r { s with heap:=h' }):
  wpAny (model prog w) A (setAddHashed a (.ref b) ((rk prog w).hash key)) Q E s:=by
 let#[#[es,ep,t,ho,X,BR,Ao,AU],Bm]:=S;have hlen:es.size=xs.length:=by have:=congrArg List.length X.es;exists this
 unfold setAddHashed setAddHashedIn;exact za6 (KW (zaC ho rfl X.fits ?_));dsimp only;rw[if_neg (by simp[byScan,Value.scannable])];let#[K,k1,k2,k3]:=X.tab.first (by rw[AN];show X.nI) ((rk prog w).hash key);have hmk:t.mask<=127:=by rcases X.tab.mask with e | e | e <;> lia
 exact KW ?_;unfold setSearch;exact dD (key:=key) (b:=b) hu ho rfl X hb (λ hm=>?_) (λ hm j F=>?_) 100000 0 none rfl (λ m hm=>⋯) #[K,⋯,⋯,k1,k2,k3]
 .dsimp only;exact Ad ?_;have:=h s.heap xs false #[rfl,λ _ _=>rfl] #[#[es,ep,t,ho,X,BR,Ao,AU],Bm] (.inl #[hm,rfl]);show this
 .dsimp only;exact KW (zaC ho rfl X.fits ?_);dsimp only;let#[p1,p2,p3]:=X.tab.put F;rw[AN] at p1;have CC:(t.put j).1.plain=true:=by rw[p2];show Ao
  have Cd:(t.put j).1.mask=t.mask:=by rw[p2]
  have AD:(t.put j).1.led=led:=by rw[p2];show BR
  generalize hT:(t.put j)=P at *;let#[t1,p]:=P;dsimp only at *;rw[CC];simp![if_true];exact KW (NG hb ?_);simp![if_true];let GF:=xs.take p++(key,b)::xs.drop p
  have Fj:GF.Perm (xs++[(key,b)]):=by
   have e:xs.take p++xs.drop p=xs:=Eb p xs;have:GF.Perm ((key,b)::(xs.take p++xs.drop p)):=List.perm_middle;rw[e] at this;show this.trans (List.perm_append_singleton _ _).symm
  have Hf:GF.length=xs.length+1:=by rw[Fj.length_eq];simp
  have Hr:(insertAt es p ((rk prog w).hash key,Value.ref b)).toList=GF.map λ e=>((rk prog w).hash e.1,Value.ref e.2):=by
   rw[toList_insertAt,X.es];simp[GF,DN,DM]
  have HE:(insertAt es p ((rk prog w).hash key,Value.ref b)).size=xs.length+1:=by rw[<- BH,Hr,AN,Hf]
  have Bs:(insertAt es p ((rk prog w).hash key,Value.ref b)).size<=sizeLine:=by
   rw[HE];have:sizeLine=16777216:=rfl;lia
  exact KW (wpAny_storeSet_of ho rfl ?_ Bs);have sb:=Heap.SameBut.update s.heap a (Obj.putSet (insertAt es p ((rk prog w).hash key,Value.ref b)) t1);have IU:=lE (Gi:=insertAt es p ((rk prog w).hash key,Value.ref b)) (t':=t1) ho;have hm7:7<=t.mask:=by rcases X.tab.mask with e | e | e <;> lia
  have X1:rV (prog:=prog) (w:=w) (s.heap.update a (Obj.putSet (insertAt es p ((rk prog w).hash key,Value.ref b)) t1)) (insertAt es p ((rk prog w).hash key,Value.ref b)) t1 GF:=by
   exact#[Hr,λ e he=>?_,?_,by rw[Hf,Cd];lia]
   .rcases A1.mp (Fj.mem_iff.mp he) with q | q
    .show jA (X.is e q) ho sb
    .cases A2.mp q;show jA hb ho sb
   .have:GF.map (λ e=>(rk prog w).hash e.1)=(xs.map λ e=>(rk prog w).hash e.1).take p++(rk prog w).hash key::(xs.map λ e=>(rk prog w).hash e.1).drop p:=by simp[GF,DN,DM]
    rw[this];show p3
  have HH:(GF.map (·.1)).Nodup:=by
   exact (Fj.map _).nodup_iff.mpr ?_;rw[B_,D8];exact#[Bm,#[],λ x hx y hy=>?_];simp at hy;subst hy;show λ e=>hm (e▸hx)
  by_cases hf:t1.tooFull=true
  .rw[hf];simp![CA,DX,if_true];have GK:t1.fill=xs.length+1:=by
    unfold SetTable.fill;rw[p3.s_,p3.len];simp;lia
   have GB:t.mask*3<=(xs.length+1)*5:=by
    have:=hf;unfold SetTable.tooFull at this;rw[GK,Cd] at this;exists this
   let#[M',g1,g2,g3]:=d7 xs.length t.mask X.tab.mask AU GB hn;rw[hlen];exact KW (V5 (led:=led) IU X1 AD CC g1 g2 (by rw[Hf];show g3) HH λ h' Fu sb' S' pm=>?_);exact Ad ?_;show h h' Fu true (sb.trans sb') S' (.inr #[hm,pm.trans Fj])
  .have Ho:t1.tooFull=false:=by exists hf
   rw[Ho];simp![CA,CQ,Br,if_false];exact Ad ?_;have GK:t1.fill=xs.length+1:=by
    unfold SetTable.fill;rw[p3.s_,p3.len];simp;lia
   have GB:(xs.length+1)*5<t.mask*3:=by
    have:=Ho;unfold SetTable.tooFull at this;rw[GK,Cd] at this;exists this
   show h _ GF true sb #[#[_,ep+1,t1,IU,X1,AD,CC,by rw[Hf,Cd];show GB],HH] (.inr #[hm,Fj])
end
def tQ (w:World):Bool:=!w.params.followText "set-order"
def wI (w:World):Obj:={ cls:=.type "set",dict:=none,data:=.set [].toArray 0 (.fresh 0 0 (tQ w)) }
section
variable {prog:Program}{w:World}{A:Around}{E:Af}{s:Shared}
set_option maxHeartbeats 3200000 in
def Ld (a:Value) {Q:Af}(h:Q (.ref s.heap.objs.size) { s with heap:=s.heap.push (wI w) }):
  codeAny (model prog w) A (.call (.builtin "set.__new__") #[[.type "set",a],[]]) (wants Q E) s:=by
 exact codeAny_of_tree ?_;change wpAny _ A.in1 (checkBuiltinCall "set.__new__" #[[.type "set",a],[]] >>= λ _=>again (.builtin "set.__new__" #[[.type "set",a],[]])) _ _ s;exact KW (wpAny_of_eq (F.newCall_set_1 a) (Ad #[plainId_quiet F.plain_set_new _,codeAny_builtin F.entry_set_new ?_]));rw[Around.under_plainId F.plain_set_new _];unfold Builtin.«set.__new__» Builtin.Frozenset.newClass newSet setsByText;have sub:=sub_set_self;let#[hp,g,d,tk,os]:=s;dsimp only
 wp_walk
 exact zaP (Ad ?_);dsimp only;simp![newObj];show KW (wpAny_alloc (Ad (Ad h)))
def Vq {h:Heap}{a:Addr}(ho:h.get? a=↑(wI w)):rC prog w h a [] (tQ w):=
 #[#[[].toArray,0,_,ho,#[rfl,λ e he=>(by cases he),#[.inl rfl,rfl,rfl,.nil,λ j hj=>(by cases hj),λ i g j hg=>(by cases hg)],#[]],rfl,rfl,by change 0*5<7*3;lia],.nil]
end
end ST
namespace ST
open PySem PySem.SetTable PyProof.Rows
section
variable {κ β:Type}[DecidableEq κ]{val:κ->β->Value}{Aa:Aw}{ks:List κ}{i:Nat}{xs Fu:List (κ × β)}
structure Up (val:κ->β->Value) (Aa:Aw) (ks:List κ) (i:Nat) (xs:List (κ × β)):Prop where
 own:∀ e∈xs,∃ j,j<i/\Aa[j]?=↑(val e.1 e.2)/\ks[j]?=↑e.1
 all:∀ (j:Nat) r,j<i->ks[j]?=↑r->r∈xs.map (·.1)
theorem iw:∀ (l m:List κ),l.Nodup->(∀ x∈l,x∈m)->l.length<=m.length
 | [],m,_,_=>A0 _
 | x::l,m,hn,hs=>by
  have h1:=BG.mp hn;have hx:=hs x Av;have:=iw l (m.erase x) h1.2 λ z hz=>(List.mem_erase_of_ne (λ e:z=x=>h1.1 (by rw[<- e];show hz))).mpr (hs z (AA _ hz));rw[List.length_erase_of_mem hx] at this;have:=List.length_pos_of_mem hx;simp![A9];lia
def Up.len (U:Up val Aa ks i xs) (nd:(xs.map (·.1)).Nodup):xs.length<=i:=by
 have:=iw (xs.map λ e=>↑e.1) ((List.range i).map λ j=>ks[j]?) (by
  have:(xs.map λ e=>↑e.1)=(xs.map (·.1)).map some:=by rw[A5];rfl
  rw[this];show List.Pairwise.map _ (λ a b h e=>h (Bb e)) nd) λ x hx=>by
  let#[e,he,rfl]:=Au.mp hx;let#[j,h1,_,h3]:=U.own e he;show Au.mpr #[j,AL.mpr h1,h3]
 exists this
def Up.step {key:κ}{b:β}(U:Up val Aa ks i xs) (hi:Aa[i]?=↑(val key b)) (hr:ks[i]?=↑key)
  (h:key∈xs.map (·.1)/\Fu=xs\/key∉xs.map (·.1)/\Fu.Perm (xs++[(key,b)])):Up val Aa ks (i+1) Fu:=by
 have eqi:∀ j:Nat,j<i+1->¬ j<i->j=i:=λ j a b=>⋯;rcases h with ⟨hm,rfl⟩ | ⟨_,hp⟩
 .exact#[λ e he=>?_,λ j r hj CB=>?_]
  .let#[j,h1,h2]:=U.own e he;show#[j,Cj h1,h2]
  .by_cases q:j<i
   .show U.all j r q CB
   .rw[eqi j hj q,hr] at CB;cases CB;show hm
 .exact#[λ e he=>?_,λ j r hj CB=>?_]
  .rcases A1.mp (hp.mem_iff.mp he) with q | q
   .let#[j,h1,h2]:=U.own e q;show#[j,Cj h1,h2]
   .cases A2.mp q;show#[i,Cy i,hi,hr]
  .rw[(hp.map (·.1)).mem_iff,B_];by_cases q:j<i
   .show Cu _ (U.all j r q CB)
   .rw[eqi j hj q,hr] at CB;cases CB;show A3 _ Av
structure Kd (prog:Program) (w:World) (A:Around) (val:κ->β->Value) (Aa:Aw) (ks:List κ) (Sa:Addr) (wr:List Addr) (Se:Heap->List (κ × β)->Prop) (Tp:Heap->Prop):Prop where
 nd:∀ {h xs},Se h xs->(xs.map (·.1)).Nodup
 keep:∀ {h h' xs i},(∀ b o,b∉wr->h.get? b=↑o->h'.get? b=↑o)->Up val Aa ks i xs->Se h xs->Se h' xs
 lW:∀ {h h'},(∀ b o,b∉Sa::wr->h.get? b=↑o->h'.get? b=↑o)->Tp h->Tp h'
 add:∀ {s:Shared}{xs:List (κ × β)}{i:Nat}{v:Value}{Q:Bool->Shared->Prop}{E:Af},Tp s.heap->Se s.heap xs->xs.length<70->Aa[i]?=↑v->
  (∀ h' tk Fu rr k b,v=val k b->ks[i]?=↑k->Heap.SameBut Sa s.heap h'->s.toks<=tk->Se h' Fu->(k∈xs.map (·.1)/\Fu=xs\/k∉xs.map (·.1)/\Fu.Perm (xs++[(k,b)]))->Q rr { s with heap:=h',toks:=tk })->
  wpAny (model prog w) A (setAdd Sa v) Q E s
variable {prog:Program}{w:World}{A:Around}{R:Result->Shared->Prop}{I:Addr}{fp wr:List Addr}{G:Array GenState->Array GenState->Prop}{n:Nat}{P:Nat->Value->Prop}{St:Nat->Shared->Prop}{Sa:Addr}{Se:Heap->List (κ × β)->Prop}{Tp:Heap->Prop}
def nj (W:WalksS prog w A.in1 I fp wr G n (λ i v=>P i v) St) (D:Kd prog w A.in1 val Aa ks Sa wr Se Tp) (hSf:Sa∉fp) (hP:∀ i v,P i v->Aa[i]?=↑v) (hn:n<70):
  ∀ (k i:Nat) (s:Shared) (xs:List (κ × β)),n-i=k->i<=n->St i s->Se s.heap xs->Tp s.heap->Up val Aa ks i xs->
   (∀ s' Fu,Moved (Sa::wr) G s s'->Se s'.heap Fu->Up val Aa ks n Fu->R (.ok (.ret .none)) s')->
   codeAny (model prog w) A (.builtin "set.update.loop" #[[.ref Sa,.ref I],[]]) R s:=by
 have more:∀ b∈wr,b∈Sa::wr:=λ b hb=>AA _ hb;intro k
 induction k with
 | zero=>
  intro i s xs hk hi AH hS hT hU hR;have e:i=n:=⋯;subst e;exact codeAny_builtin F.entry_set_update_loop ?_;rw[Around.under_plainId F.plain_set_update_loop _];change wpAny _ A.in1 (pyNext (.ref I) >>= _) _ _ s;show KW (W.done s _ _ AH λ s' hm=>Ad (hR s' xs (hm.mono more) (D.keep hm.heap hU hS) hU))
 | succ k ih=>
  intro i s xs hk hi AH hS hT hU hR;have AD:i<n:=⋯;exact codeAny_builtin F.entry_set_update_loop ?_;rw[Around.under_plainId F.plain_set_update_loop _];change wpAny _ A.in1 (pyNext (.ref I) >>= _) _ _ s;exact KW (W.item i s _ _ AD AH λ v s1 hPv hst1 hm=>?_);have hv:=hP i v hPv;have T1:=D.lW (λ b o hb e=>hm.heap b o (λ z=>hb (more _ z)) e) hT;have hl:xs.length<70:=by have:=hU.len (D.nd hS);lia
  change wpAny _ A.in1 (holding [v] (setAdd Sa v) >>= _) _ _ s1;exact KW (za6 (D.add T1 (D.keep hm.heap hU hS) hl hv λ h' tk Fu rr key b ev hr sb ht S' hx=>?_));subst ev;have fr:=W.frame (i+1) s1 h' tk hst1 ht λ c hc o e=>(sb.2 c (λ z:c=Sa=>hSf (z▸hc))).trans e;exact Ad #[plainId_quiet F.plain_set_update_loop _,ih (i+1) _ Fu ⋯ AD fr S' (D.lW (λ c o hc e=>(sb.2 c (λ z=>hc (z▸Av))).trans e) T1) (hU.step hv hr hx) λ s2 KR IG S2 U2=>?_];exact hR s2 KR (Moved.trans W.gtrans ((hm.mono more).then_heap ht λ c o hc e=>?_) IG) S2 U2;show (sb.2 c (λ z=>hc (z▸Av))).trans e
end
section
variable {prog:Program}{w:World}{A:Around}{Aa:Aw}{rows:List (List Int)}{Sa:Addr}{wr:List Addr}
def pZ (prog:Program) (w:World) (h:Heap) (Aa:Aw) (rows:List (List Int)):Prop:=∀ (i:Nat) v,Aa[i]?=↑v->∃ b r,v=.ref b/\rows[i]?=↑r/\IsTupleKey (intKind prog w) h r b
def pZ.at {h h':Heap}(T:pZ prog w h Aa rows) (k:∀ (i:Nat) b,Aa[i]?=↑(.ref b)->∀ o,h.get? b=↑o->h'.get? b=↑o):pZ prog w h' Aa rows:=λ i v hv=>by
 let#[b,r,rfl,h1,o,items,m,h2,h3]:=T i v hv;show#[b,r,rfl,h1,o,items,m,k i b hv o h2,h3]
abbrev eN:List Int->Addr->Value:=λ _ b=>.ref b
def Ni {led:Bool}(hSw:Sa∉wr) (hu:A.units<cLine) (Ds:∀ (i:Nat) b,Aa[i]?=↑(.ref b)->b∉Sa::wr):Kd prog w A eN Aa rows Sa wr (λ h xs=>rC prog w h Sa xs led) (λ h=>pZ prog w h Aa rows) where
 nd:=λ S=>S.nd
 keep:=λ{h h' xs i} k U S=>by
  let#[#[es,ep,t,ho,X,r],nd]:=S;exact#[#[es,ep,t,k Sa _ hSw ho,#[X.es,λ e he=>?_,X.tab,X.nI],r],nd];let#[o,items,m,g1,g2]:=X.is e he;let#[j,_,h2,_]:=U.own e he;show#[o,items,m,k _ _ (λ z=>Ds j e.2 h2 (AA _ z)) g1,g2]
 lW:=λ k T=>T.at λ i b hi o e=>k b o (Ds i b hi) e
 add:=λ{s xs i v Q E} T S hl hv hQ=>by
  let#[b,r,rfl,hr,hb]:=T i v hv;unfold setAdd;exact za6 (KW ((rk prog w).pyHash (k:=r) (a:=b) (A:=A) hu hb ?_));show Kf (s:={ s with toks:=s.toks+(rk prog w).draws r }) (A:=A) hu S hb hl λ h' Fu rr sb S' hx=>hQ h' _ Fu rr r b rfl hr sb (CN _ _) S' hx
end
section
variable {prog:Program}{w:World}{A:Around}{E:Af}{s:Shared}
set_option maxHeartbeats 6400000 in
def ZD {κ β:Type} [DecidableEq κ] {val:κ->β->Value}{ks:List κ}{Se:Heap->List (κ × β)->Prop}{Tp:Heap->Prop}{l:Addr}{Aa:Aw}{Q:Af}(hh:A.handled=none) (hl:s.heap.IsList l Aa) (hn:Aa.size<70)
  (D:Kd prog w A.in1.in1.in1 val Aa ks s.heap.objs.size [s.heap.objs.size+1] Se Tp) (hS0:∀ h,h.get? s.heap.objs.size=↑(wI w)->Se h []) (hT0:∀ h,(∀ b o,s.heap.get? b=↑o->h.get? b=↑o)->Tp h)
  (h:∀ (h':Heap) (tk:Nat) xs,Se h' xs->Up val Aa ks Aa.size xs->(∀ b o,b<s.heap.objs.size->s.heap.get? b=↑o->h'.get? b=↑o)->Q (.ref s.heap.objs.size) { s with heap:=h',toks:=tk }):
  wpAny (model prog w) A (call (.type "set") [.ref l]) Q E s:=by
 let#[c,tl,hmro]:=F.called_set.mro;have made:=F.called_set.made;have subm:=F.called_set.sub;exact wpAny_call (codeAny_of_tree ?_);change wpAny _ _ (callAny (.type "set") _) _ _ _;exact Ad #[Code.quiet_builtin _ (AO),codeAny_builtin F.entry_type_call ?_];rw[Around.under_plain (weight_type_call_type "set" [.ref l] []) rfl];have nt:=F.called_set.notType;have cc:=F.called_set.canCreate;have tc:=F.typeCall_set_1 (.ref l)
 repeat (any_goals (first | assumption | wp_step))
 exact codeAny_mono (Ld (.ref l) (E:=E) (Q:=λ obj s₁=>obj=.ref s.heap.objs.size/\s₁={ s with heap:=s.heap.push (wI w) }) #[rfl,rfl]) λ r s₁ hr=>?_;cases r with
 | error e=>show hr
 | ok fl=>
  cases fl with
  | ret obj=>
   let#[rfl,rfl]:=hr;have hS:(s.heap.push (wI w)).get? s.heap.objs.size=↑(wI w):=AM _ rfl;have hTy:Shared.TypeIs { s with heap:=s.heap.push (wI w) } (.ref s.heap.objs.size) "set":=#[_,hS,rfl];have li:=F.called_set.init.lookup;have bi:=F.called_set.init.bind (.ref s.heap.objs.size)
   repeat (any_goals (first | assumption | wp_step))
   let s1:Shared:={ s with heap:=s.heap.push (wI w) }
   exact codeAny_mono (codeAny_call_builtin (R:=wants (λ r s₂=>r=.none/\∃ h' tk xs,s₂={ s with heap:=h',toks:=tk }/\Se h' xs/\Up val Aa ks Aa.size xs/\
     ∀ b o,b<s.heap.objs.size->s.heap.get? b=↑o->h'.get? b=↑o) E) F.called_set.init.plain F.entry_set_init (check_set_init_1 hTy ?_)) λ r₂ s₂ hr₂=>?_
   .let#[#[ocls,Jl,odata,Iw],hol,CJ,nl,DD]:=id hl;simp only at CJ DD;subst CJ DD;have hol1:(s.heap.push (wI w)).get? l=↑{ cls:=.type "list",dict:=Jl,data:=.seq Aa nl,slots:=Iw }:=gV _ hol;have sls:=F.sub_list_set;have slf:=F.sub_list_frozenset;have nd:(Value.type "list" == Value.type "dict")=false:=()
    have Hf:(s.heap.push (wI w)).IsList l Aa:=#[_,hol1,rfl,nl,rfl];unfold Builtin.«set.__init__» noKeywords Builtin.Frozenset.updateFrom;generalize hPI:pyIter=PI;unfold wI at *
    wp_walk
    subst hPI;exact zaO Hf (KW (wpAny_runValue ?_));have hlS:l<s.heap.objs.size:=Ap hol;have hsz:(s.heap.push (wI w)).objs.size=s.heap.objs.size+1:=Heap.size_push _ _;have hneI:l≠(s.heap.push (wI w)).objs.size:=by rw[hsz];show AB (Cj hlS)
    have KZ:s.heap.objs.size≠(s.heap.push (wI w)).objs.size:=by rw[hsz];show AB (Cy _)
    have low:∀ b:Addr,b<s.heap.objs.size->b≠(s.heap.push (wI w)).objs.size:=λ b hb=>by rw[hsz];show AB (Cj hb)
    rw[<- hsz] at D;exact nj (A:=A.in1.in1) (P:=λ i v=>Aa[i]?=↑v) ((Walks.list (A:=A.in1.in1.in1) (by simp[hh]) _ l hneI Aa).toS) D ?_ (λ _ _ q=>q) hn Aa.size 0 _ [] ⋯ (A0 _)
     #[#[_,AM _ rfl,rfl,rfl],Hf.push _] (hS0 _ (gV _ hS)) (hT0 _ λ b o e=>gV _ (gV _ e)) #[λ e he=>(by cases he),λ j r hj=>⋯] ?_
    .intro hm;rcases Am.mp hm with q | q
     .show KZ q
     .show BW hlS (A2.mp q)
    .intro s' Fu hm S' U';let#[h',g',d',Hx,Jk]:=s';obtain rfl:g'=s.gens:=hm.gens;obtain rfl:d'=s.drawn:=hm.drawn;obtain rfl:Jk=s.os:=hm.os;exact Ad (Ad #[rfl,h',Hx,Fu,rfl,S',U',λ b o hb e=>?_]);exact hm.heap b o (λ q=>?_) (gV _ (gV _ e));rcases Am.mp q with q | q
     .show AB hb q
     .show low b hb (A2.mp q)
   .cases r₂ with
    | error e=>show hr₂
    | ok fl₂=>
     cases fl₂ with
     | ret r=>
      let#[rfl,h',tk,xs,rfl,g1,g2,g3]:=hr₂
      repeat (any_goals (first | assumption | wp_step))
      show h h' tk xs g1 g2 g3
     | _=>show hr₂.elim
  | _=>show hr.elim
def Lv {l:Addr}{Aa:Aw}{rows:List (List Int)}{Q:Af}(hh:A.handled=none) (hu:A.units+64<cLine) (hl:s.heap.IsList l Aa) (hT:pZ prog w s.heap Aa rows) (hn:Aa.size<70)
  (h:∀ (h':Heap) (tk:Nat) xs,rC prog w h' s.heap.objs.size xs (tQ w)->Up eN Aa rows Aa.size xs->(∀ b o,b<s.heap.objs.size->s.heap.get? b=↑o->h'.get? b=↑o)->Q (.ref s.heap.objs.size) { s with heap:=h',toks:=tk }):
  wpAny (model prog w) A (call (.type "set") [.ref l]) Q E s:=by
 exact ZD hh hl hn (Ni #[] (show A.units+1+1+1<cLine by lia) λ i b hb hm=>?_) (λ h e=>Vq e) (λ h k=>hT.at λ i b _ o e=>k b o e) h;let#[b',r,e,_,o,_,_,ho,_]:=hT i _ hb;cases e;have:=Ap ho;rcases Am.mp hm with q | q
 .show AB this q
 .show AB (Cj this) (A2.mp q)
end
end ST
namespace ST
open PySem PySem.SetTable
section facts
def cL:Manifest.owners.lookup (String.ofList ['r','o','t','a','r','e','t','i','_','t','e','s'].reverse)=↑Manifest.sig_set_iterator:=by kernel_rfl
def qZ:Slot "set_iterator" "__next__" "set_iterator.__next__":=
 .of (owner:="set_iterator") (n:="__next__") (by rw[typeLookup_type,builtinLookup_eq_fast];kernel_rfl) (AO) (AO) (AO) (by first | show .inl (AO) | show .inr (AO)) (by rw[isSubtype_type];kernel_rfl)
def aV:entryFor table "set_iterator.__next__"=↑Builtin.«set_iterator.__next__»:=entryFor_of_tree (by kernel_rfl)
theorem ZW (a:Value):argsOk "set_iterator.__next__" #[[a],[]]:=by
 unfold argsOk;rw[signature?_of (id:="set_iterator.__next__") (n:=['_','_','t','x','e','n','_','_']) (o:=['r','o','t','a','r','e','t','i','_','t','e','s']) (by kernel_rfl) cL]
 kernel_rfl
def M5:entryFor table "set.__iter__"=↑Builtin.«frozenset.__iter__»:=entryFor_alias (id':="frozenset.__iter__") (by kernel_rfl) rfl (AO) (by kernel_rfl)
def dw:Slot "set_iterator" "__iter__" "set_iterator.__iter__":=
 .of (owner:="set_iterator") (n:="__iter__") (by rw[typeLookup_type,builtinLookup_eq_fast];kernel_rfl) (AO) (AO) (AO) (by first | show .inl (AO) | show .inr (AO)) (by rw[isSubtype_type];kernel_rfl)
def M4:entryFor table "set_iterator.__iter__"=↑Builtin.«dict_keyiterator.__iter__»:=entryFor_alias (id':="dict_keyiterator.__iter__") (by kernel_rfl) rfl (AO) (by kernel_rfl)
theorem LX (a:Value):argsOk "set_iterator.__iter__" #[[a],[]]:=by
 unfold argsOk;rw[signature?_of (id:="set_iterator.__iter__") (n:=['_','_','r','e','t','i','_','_']) (o:=['r','o','t','a','r','e','t','i','_','t','e','s']) (by kernel_rfl) cL]
 kernel_rfl
end facts
theorem aR {α:Type}:∀ (l:List α) (i:Nat) (x:α),l[i]?=↑x->l.Perm (x::l.eraseIdx i)
 | [],i,x,h=>by simp at h
 | y::l,0,x,h=>by simp at h;subst h;simp
 | y::l,i+1,x,h=>by
  have ih:=aR l i x (by exists h);rw[List.eraseIdx_cons_succ];show (ih.cons y).trans (.swap x y _)
theorem cy {α:Type}(next:Nat->Nat):∀ (f k:Nat) (left:List α) (out:Array α),left.length=f->(pickOrder.go next f k left out).toList.Perm (out.toList++left)
 | 0,k,left,out,h=>by
  cases left with
  | nil=>unfold pickOrder.go;simp
  | cons _ _=>simp at h
 | f+1,k,left,out,h=>by
  unfold pickOrder.go;have AD:next k%left.length<left.length:=C9 _ ⋯;rw[AR AD];dsimp only;exact (cy next f (k+1) _ _ (by rw[List.length_eraseIdx_of_lt AD];lia)).trans ?_;rw[Array.toList_push,List.append_assoc];show (aR left _ _ (AR AD)).symm.append_left _
theorem Uh {α:Type}(next:Nat->Nat) (xs:Array α):(pickOrder next xs).toList.Perm xs.toList:=by
 unfold pickOrder;exists cy next xs.size 0 xs.toList [].toArray #[]
def comes (w:World) (a:Addr) (es:Array (Int×Value)) (ep:Nat):Array (Int×Value):=if w.params.followText "set-order"=true then pickOrder (w.params.setOrder a ep) es else es
def ma (w:World) (a:Addr) (es:Array (Int×Value)) (ep:Nat):(comes w a es ep).toList.Perm es.toList:=by
 unfold comes;split
 .show Uh _ _
 .show .refl _
def sW (a:Addr) (slot i n ep:Nat):Obj:={ cls:=.type "set_iterator",data:=.fields [rawInt slot,rawInt i,.ref a,rawInt n,rawInt ep].toArray }
def slotAt (t:SetTable):Nat->Nat
 | 0=>0
 | i+1=>t.place.getD i 0+1
theorem LS {t:SetTable}(hr:uL t.place.toList):∀ i,i<=t.place.size->below t.place (slotAt t i)=i
 | 0,_=>by
  let#[h1,h2,h3]:=kJ (xs:=t.place) (j:=0) hr;rcases Nat.eq_zero_or_pos (below t.place 0) with q | q
  .show q
  .have:=h2 0 ⋯ q;lia
 | i+1,hi=>by
  have hd:t.place.getD i 0=t.place[i]:=hX ⋯;change below t.place (t.place.getD i 0+1)=i+1;rw[hd];let#[h1,h2,h3]:=kJ (xs:=t.place) (j:=t.place[i] + 1) hr;have wJ:∀ a b (ha:a<t.place.size) (hb:b<t.place.size),a<b->t.place[a]<t.place[b]:=λ a b ha hb C2=>by
   have r:=C_.mp hr a b (by exists ha) (by exists hb) C2;rw[Cr,Cr] at r;show r
  rcases DS (below t.place (t.place[i] + 1)) (i+1) with q | q | q
  .have:=h3 i ⋯ ⋯;lia
  .show q
  .have a:=h2 (i+1) ⋯ q;have b:=wJ i (i+1) ⋯ ⋯ ⋯;lia
structure wQ (w:World) (h:Heap) (a:Addr) (es:Array (Int×Value)) (ep:Nat) (t:SetTable):Prop where
 get:h.get? a=↑{ cls:=.type "set",dict:=none,data:=.set es ep t }
 fits:t.fits es.size=true
 wJ:uL t.place.toList
 led:t.led=tQ w
 plain:t.plain=true
theorem wQ.size {w:World}{h:Heap}{a:Addr}{es:Array (Int×Value)}{ep:Nat}{t:SetTable}(S:wQ w h a es ep t):t.place.size=es.size:=by
 have:=S.fits;simp![SetTable.fits,Bw,beq_iff_eq] at this;show this.1
section
variable {prog:Program}{w:World}{A:Around}{E:Af}{s:Shared}
def bh {a:Addr}{es:Array (Int×Value)}{ep:Nat}{t:SetTable}{i:Nat}{Q:Option (Value×Nat)->Shared->Prop}(S:wQ w s.heap a es ep t) (hi:i<=es.size) (slot:Nat) (hs:w.params.followText "set-order"=false->slot=slotAt t i)
  (h:∀ FO,(w.params.followText "set-order"=false->FO=slotAt t (i+1))->Q ((comes w a es ep)[i]?.map λ e=>(e.2,FO)) s):wpAny (model prog w) A (setNext a slot i ep) Q E s:=by
 unfold setNext setsByText;exact KW (zaC S.get rfl S.fits ?_);dsimp only;exact KW (KW (zaP (Ad ?_)));change wpAny _ A (if w.params.followText "set-order"=true then _ else _) Q E s;cases hb:w.params.followText "set-order" with
 | true=>
  rw[if_pos rfl,if_neg #[]];unfold setWalk setsByText;exact KW (KW (zaC S.get rfl S.fits ?_));dsimp only;exact KW (KW (zaP (Ad ?_)));change wpAny _ A (if w.params.followText "set-order"=true then _ else _) _ E s;rw[if_pos hb];exact KW (zaP (Ad ?_));exact Ad ?_;have:=h slot (λ q=>by rw[hb] at q;cases q);unfold comes at this;rw[if_pos hb] at this;show this
 | false=>
  rw[if_neg #[]];split
  .rename_i hd;have HU:(!t.plain&&decide (es.size>1))=true:=hd;rw[S.plain] at HU;simp at HU
  .change wpAny _ A ((if (!t.led&&!es.isEmpty)=true then unsupported "set:maker-not-led" else pure Unit.unit) >>= _) Q E s;have hl:t.led=true:=by rw[S.led];unfold tQ;rw[hb];rfl
   rw[if_neg (by rw[hl];simp)];exact KW (Ad (Ad ?_));have Bs:=hs hb;have hz:=S.size;rw[Bs,LS S.wJ i (by rw[hz];show hi)];have:=h (slotAt t (i+1)) (λ _=>rfl);unfold comes at this;rw[if_neg (by rw[hb];simp)] at this;rcases BF i es.size with q | q
   .have hp:i<t.place.size:=by rw[hz];show q
    rw[Bx q] at this;rw[Bx q,Bx hp];have e:slotAt t (i+1)=t.place[i] + 1:=by change t.place.getD i 0+1=_;rw[hX hp]
    rw[e] at this;show this
   .rw[CO q] at this;rw[CO q];show this
def qt {a I:Addr}{slot i n ep:Nat}(ho:s.heap.get? I=↑(sW a slot i n ep)):s.TypeIs (.ref I) "set_iterator":=#[_,ho,rfl]
def eX (k:Nat):((k:Int)).toNat=k:=CM k
def Vo {I a:Addr}{es:Array (Int×Value)}{ep:Nat}{t:SetTable}{i slot:Nat}{e:Int×Value}{Q:Option Value->Shared->Prop}(ho:s.heap.get? I=↑(sW a slot i es.size ep)) (S:wQ w s.heap a es ep t) (hs:w.params.followText "set-order"=false->slot=slotAt t i) (he:(comes w a es ep)[i]?=↑e)
  (hi:i<es.size) (h:∀ h' FO,(w.params.followText "set-order"=false->FO=slotAt t (i+1))->h'.get? I=↑(sW a FO (i+1) es.size ep)->Heap.SameBut I s.heap h'->Q ↑e.2 { s with heap:=h' }):wpAny (model prog w) A (pyNext (.ref I)) Q E s:=by
 unfold pyNext;exact KW (wpAny_attempt (zaH (name:=Str.ofString "__next__") (qt ho) qZ (zaB qZ (qt ho) aV ?_ (ZW _))));exact KW (Ad ?_);dsimp only;exact KW (wpAny_fieldsOf ho rfl ?_);dsimp only[rawInt];exact KW (KW (zaC S.get rfl S.fits (Ad ?_)));rw[if_neg #[]];exact KW (bh S ⋯ slot hs λ FO GR=>?_);rw[eX] at GR ⊢;rw[he];dsimp only[Option.map_some];exact KW (zaD ho rfl #[] ?_);have o1:=za7 (Obj.mapFields (·.set! 0 (Value.int (FO:Int) 0))) ho rfl;exact KW (zaD o1 rfl #[] ?_);have o2:=za7 (Obj.mapFields (·.set! 1 (Value.int ((i:Int)+1) 0))) o1 rfl;exact Ad #[_,rfl,Ad (h _ FO GR o2 ((Heap.SameBut.update ..).trans (Heap.SameBut.update ..)))]
def Vp {I a:Addr}{es:Array (Int×Value)}{ep:Nat}{t:SetTable}{slot:Nat}{Q:Option Value->Shared->Prop}(hh:A.handled=none) (ho:s.heap.get? I=↑(sW a slot es.size es.size ep)) (S:wQ w s.heap a es ep t) (hs:w.params.followText "set-order"=false->slot=slotAt t es.size)
  (h:∀ h',Heap.ExtBut I s.heap h'->Q none { s with heap:=h' }):wpAny (model prog w) A (pyNext (.ref I)) Q E s:=by
 have hn:(comes w a es ep)[es.size]?=none:=by
  have:=(ma w a es ep).length_eq;simp![BH] at this;rw[CO ⋯]
 unfold pyNext;exact KW (wpAny_attempt (zaH (name:=Str.ofString "__next__") (qt ho) qZ (zaB qZ (qt ho) aV ?_ (ZW _))));exact KW (Ad ?_);dsimp only;exact KW (wpAny_fieldsOf ho rfl ?_);dsimp only[rawInt];exact KW (KW (zaC S.get rfl S.fits (Ad ?_)));rw[if_neg #[]];exact KW (bh S #[] slot (by exists hs) λ FO GR=>?_);rw[eX,hn];dsimp only[Option.map_none];exact KW (zaD ho rfl #[] ?_);exact KW ?_;simp![newExc,newTuple];exact KW (za8 ?_ (by size_fits));exact KW (m:=firstArgMember _ _) (wpAny_of_eq (a:=Value.none) (by first | rfl | (simp![firstArgMember];rfl)) (za8 ?_ (by size_fits)));unfold raiseNew;exact KW (wpAny_handled ?_);rw[show A.in1.handled=none from hh];exact KW ((Ad (wpAny_throw ?_)));exact KW ((wpAny_isInstance (T:="StopIteration") (b:=true) #[_,AM _ rfl,rfl] isSubtype_stop ?_));show Ad (h _ (((Heap.SameBut.update ..).extBut.push _).push _))
def Vn {I a:Addr}{slot i n ep:Nat}{Q:Af}(ho:s.heap.get? I=↑(sW a slot i n ep)) (h:Q (.ref I) s):wpAny (model prog w) A (pyIter (.ref I)) Q E s:=by
 exact wpAny_pyIter_slot (qt ho) dw (zaB dw (qt ho) M4 ?_ (LX _));show Ad #[_,rfl,"set_iterator",_,qt ho,qZ.lookup,h]
def wQ.keep {h h':Heap}{a:Addr}{es:Array (Int×Value)}{ep:Nat}{t:SetTable}(S:wQ w h a es ep t) (k:∀ o,h.get? a=↑o->h'.get? a=↑o):wQ w h' a es ep t:=#[k _ S.get,S.fits,S.wJ,S.led,S.plain]
def We (hh:A.handled=none) (I a:Addr) (Aq:a≠I) (es:Array (Int×Value)) (ep:Nat) (t:SetTable):
  Walks prog w A I [I,a] [I] es.size (λ i v=>∃ e,(comes w a es ep)[i]?=↑e/\v=e.2) (λ i h=>(∃ slot,(w.params.followText "set-order"=false->slot=slotAt t i)/\h.get? I=↑(sW a slot i es.size ep))/\wQ w h a es ep t) where
 sub:=λ b hb=>by simp at hb;simp[hb]
 frame:=λ _ _ _ st k=>by
  let#[#[slot,h1,h2],S]:=st;show#[#[slot,h1,k I #[] _ h2],S.keep λ o e=>k a #[] o e]
 item:=λ i s Q E hi st hQ=>by
  let#[#[slot,h1,h2],S]:=st;have hl:i<(comes w a es ep).size:=by
   have:=(ma w a es ep).length_eq;simp![BH] at this;lia
  exact Vo h2 S h1 (Bx hl) hi λ h' FO g1 g2 g3=>?_;show hQ _ h' s.toks #[_,Bx hl,rfl] #[#[FO,g1,g2],S.keep λ o e=>(g3.2 a Aq).trans e] λ b o hb e=>(g3.2 b (λ z=>hb (by simp[z]))).trans e
 done:=λ s Q E st hQ=>by
  let#[#[slot,h1,h2],S]:=st;show Vp hh h2 S h1 λ h' g=>hQ h' s.toks λ b o hb e=>g b o (λ z=>hb (by simp[z])) e
 self:=λ _ _ _ _ st hQ=>by
  let#[#[slot,h1,h2],S]:=st;show Vn h2 hQ
def OA:typeLookup (.type "set") "__len__"=pure ↑(.builtin "set.__len__"):=F.slot_set_len.lookup
def split_len:splitId "set.__len__"=↑("set","__len__"):=by decide +kernel
def Oe {a:Addr}{es:Array (Int×Value)}{ep:Nat}{t:SetTable}{Q:Bool->Shared->Prop}(S:wQ w s.heap a es ep t) (h:Q false s):wpAny (model prog w) A (setDrawn a) Q E s:=by
 unfold setDrawn setsByText;exact KW (zaC S.get rfl S.fits ?_);dsimp only;exact KW (KW (zaP (Ad (Ad ?_))));change Q (!w.params.followText "set-order"&&(!t.plain&&decide (es.size>1))) s;rw[S.plain];exists h
set_option maxHeartbeats 4000000 in
theorem Oj {a:Addr}{es:Array (Int×Value)}{ep:Nat}{t:SetTable}{Q:Bool->Shared->Prop}(S:wQ w s.heap a es ep t) (h:Q false s):wpAny (model prog w) A (Builtin.List.listLengthHint (.ref a)) Q E s:=by
 have Ty:s.TypeIs (.ref a) "set":=#[_,S.get,rfl];unfold Builtin.List.listLengthHint;exact KW (wpAny_specialOf Ty OA ?_);dsimp only;rw[split_len];dsimp only;exact KW (wpAny_isInstance (b:=true) Ty sub_set_self ?_);rw[if_neg ()];rw[if_pos (AO)];exact KW (zaI Ty ?_);show Ad h
set_option maxHeartbeats 4000000 in
def Lb {a:Addr}{es:Array (Int×Value)}{ep:Nat}{t:SetTable}{Q:List Value->Shared->Prop}(hh:A.handled=none) (S:wQ w s.heap a es ep t) (hn:es.size<=sizeLine)
  (h:∀ (h':Heap) (tk:Nat),(∀ b o,b<s.heap.objs.size->s.heap.get? b=↑o->h'.get? b=↑o)->s.heap.objs.size<=h'.objs.size->Q ((comes w a es ep).toList.map (·.2)) { s with heap:=h',toks:=tk }):wpAny (model prog w) A (collect (.ref a)) Q E s:=by
 have ha:a<s.heap.objs.size:=Ap S.get;unfold collect;exact KW (wpAny_runValue (codeAny_builtin F.entry_proto_collect ?_));rw[Around.under_plainId F.plain_proto_collect _];change wpAny _ A.in1 (newList [] >>= λ l=>again (.builtin "list.__iadd__" #[[l,.ref a],[]])) _ _ s;exact KW (za8 (Ad #[plainId_quiet F.plain_list_iadd _,codeAny_builtin F.entry_list_iadd ?_]));rw[Around.under_plainId F.plain_list_iadd _];let L0:Obj:={ cls:=.type "list",data:=.seq ([]:Ae).toArray }
 have S1:wQ w (s.heap.push L0) a es ep t:=S.keep λ o e=>gV _ e;have T1:Shared.TypeIs { s with heap:=s.heap.push L0 } (.ref a) "set":=#[_,S1.get,rfl];change wpAny _ A.in1 (Builtin.List.listExtendWith (.ref s.heap.objs.size) (.ref a) (.ref s.heap.objs.size)) _ _ { s with heap:=s.heap.push L0 };unfold Builtin.List.listExtendWith;exact KW (zaI T1 ?_);have Aq:s.heap.objs.size≠a:=BW ha;have c1:Builtin.List.listSameRef (.ref s.heap.objs.size) (.ref a)=false:=by simp[Builtin.List.listSameRef,Aq]
 rw[if_neg (by rw[c1];decide)];exact KW (wpAny_pyIter_slot T1 F.slot_set_iter (zaB F.slot_set_iter T1 M5 ?_ (F.args_set_iter_1 _)));exact KW (KW (Ad (Ad ?_)));exact KW (KW (KW (zaC S1.get rfl S1.fits (Ad (Ad ?_)))));exact KW (Oe S1 ?_);rw[if_neg ()];exact KW (Ad ?_);exact KW (wpAny_setEpoch_of S1.get rfl S1.fits ?_);exact KW (za8 (Ad #[_,rfl,"set_iterator",_,#[_,AM _ rfl,rfl],qZ.lookup,?_]));let I:=(s.heap.push L0).objs.size
 let h2:=(s.heap.push L0).push (sW a 0 0 es.size ep)
 have S2:wQ w h2 a es ep t:=S1.keep λ o e=>gV _ e;have hI:h2.get? I=↑(sW a 0 0 es.size ep):=AM _ rfl;have hL:h2.get? s.heap.objs.size=↑L0:=gV _ (AM _ rfl);have hsz:(s.heap.push L0).objs.size=s.heap.objs.size+1:=Heap.size_push _ _;change wpAny _ A.in1 _ _ _ { s with heap:=h2 };exact KW (za6 (Oj (s:={ s with heap:=h2 }) S2 ?_));rw[if_pos (AO)];exact KW (wpAny_rule ?_);exact KW ?_;change wpAny _ A.in1 (updateSeq s.heap.objs.size (·.push .none) >>= λ _=>updateSeq s.heap.objs.size (·.pop)) _ _ { s with heap:=h2 };exact KW (wpAny_updateSeq hL rfl ?_);have hL2:=za7 (Obj.mapSeq (·.push Value.none)) hL rfl;exact wpAny_updateSeq hL2 rfl ?_;have hL3:=za7 (Obj.mapSeq (·.pop)) hL2 rfl;let h3:=(h2.update s.heap.objs.size (Obj.mapSeq (·.push Value.none))).update s.heap.objs.size (Obj.mapSeq (·.pop))
 have oth:∀ b o,b≠s.heap.objs.size->h2.get? b=↑o->h3.get? b=↑o:=λ b o hb e=>(za9 _ _ (Ne.symm hb)).trans ((za9 _ _ (Ne.symm hb)).trans e);have haI:a≠I:=by change a≠(s.heap.push L0).objs.size;rw[hsz];show AB (Cj ha)
 have hIn:I≠s.heap.objs.size:=by change (s.heap.push L0).objs.size≠_;rw[hsz];show BW (Cy _)
 exact Ad #[plainId_quiet F.plain_extend_loop _,codeAny_extend_loopS ((We (A:=A.in1) hh I a haI es ep t).toS) hn s.heap.objs.size ?_ _ es.size 0 { s with heap:=h3 } [].toArray _ rfl (A0 _) #[#[0,λ _=>rfl,oth I _ hIn hI],S2.keep λ o e=>oth a o (Ne.symm Aq) e] hL3 (ItemsOf.nil _) λ s' acc c' hm hS' AY=>?_]
 .intro hm;rcases Am.mp hm with q | q
  .show hIn q.symm
  .show Aq (A2.mp q)
 .exact KW (wpAny_load hS' (Ad ?_));let#[h',g',d',Hx,Jk]:=s';obtain rfl:g'=s.gens:=hm.gens;obtain rfl:d'=s.drawn:=hm.drawn;obtain rfl:Jk=s.os:=hm.os;have hcm:(comes w a es ep).size=es.size:=by
   have:=(ma w a es ep).length_eq;exists this
  have e:acc.toList=(comes w a es ep).toList.map (·.2):=by
   exact List.ext_getElem? λ j=>?_;rw[AJ];rcases BF j es.size with q | q
   .have Dw:j<acc.size:=by rw[AY.1];show q
    have hj:acc[j]?=↑acc[j]:=Bx Dw;let#[e,e1,e2]:=AY.2 j _ hj;rw[BU,BU,hj,e1,e2];rfl
   .rw[BU,BU,CO (by rw[AY.1];show q),CO (by rw[hcm];show q)];rfl
  rw[e];exact h h' Hx (λ b o hb e=>hm.heap b o (λ q=>?_) (oth b o (AB hb) (gV _ (gV _ e)))) ?_
  .rcases Am.mp q with q | q
   .show AB hb q
   .have q':b=(s.heap.push L0).objs.size:=A2.mp q;rw[hsz] at q';show AB (Cj hb) q'
  .show BS (Ap hS')
end
end ST
namespace ST
open PySem PySem.SetTable PyProof.Rows L4
section
variable {prog:Program}{w:World}{A:Around}{E:Af}{s:Shared}
def Zw {a:Addr}{es:Array (Int×Value)}{ep:Nat}{t:SetTable}(hh:A.handled=none) (S:wQ w s.heap a es ep t) (hz:es.size<=sizeLine) (Q':List Value->Shared->Prop)
  (h:∀ h1 tk,(∀ b o,¬ False->s.heap.get? b=↑o->h1.get? b=↑o)->s.heap.objs.size<=h1.objs.size->Q' ((comes w a es ep).toList.map (·.2)) { s with heap:=h1,toks:=tk }):wpAny (model prog w) A (collect (.ref a)) Q' E s:=
 Lb hh S hz λ h1 tk k1 k2=>h h1 tk (λ b o _ q=>k1 b o (Ap q) q) k2
end
end ST
namespace ST
open PySem PySem.SetTable PySem.Spec PyProof.Rows L2
def yN (w:World) (a:Addr) (us:Ae):Heap->Prop:=λ h=>∃ es ep t,wQ w h a es ep t/\es.toList.map (·.2)=us
def yN.vm {w:World}{a:Addr}{us:Ae}{h1 h2:Heap}(S:yN w a us h1) (k:∀ o,h1.get? a=↑o->h2.get? a=↑o):yN w a us h2:=by
 let#[es,ep,t,S,e]:=S;show#[es,ep,t,S.keep k,e]
def rC.at {prog:Program}{w:World}{h:Heap}{a:Addr}{xs:List (List Int×Addr)}(S:rC prog w h a xs (tQ w)):yN w a (xs.map λ e=>Value.ref e.2) h:=by
 let#[#[es,ep,t,ho,X,h1,h2,h3],_]:=S;show#[es,ep,t,#[ho,X.fits,X.tab.wJ,h1,h2],by rw[X.es,A5];rfl]
section
variable {X:Cx}
theorem bJ:∀ {ns:List Int}{us:Ae},Vals (ns.map V.int) us->∀ {prog:Program}{w:World},ItemsAre (intKind prog w) ns us
 | [],_,.nil,_,_=>.nil
 | n::ns,_,.cons r t,prog,w=>by
  let#[tk,rfl]:=r;show .cons (intKind_is _ _ _ _) (bJ t)
def Lr (hc:X.calm=true) (hu:X.A.units+64<cLine):yD X (.type "set") (λ xs H Q=>∃ p ys,∃ rows:List (List Int),xs=[.ref p]/\zO X.K H p ys/\L4.rD X.K H ys rows/\rows.length<64/\
  ∀ (l:Addr) (us:Ae) (ps:List (V×List Int)),H l=none->Vals (ps.map (·.1)) us->(∀ q∈ps,q∈ys.zip rows)->(ps.map (·.2)).Nodup->(∀ r∈rows,r∈ps.map (·.2))->Q (.ref l) (upd H l (.ext (yN X.w l us)))):=by
 intro E6 s Y H xs us Q I r h;let#[p,ys,rows,rfl,hq,hr,GG,q]:=h;let#[u,rfl,ru]:=vals1 r;cases ru;let#[Aa,rv,pl,hz]:=I.list hq;have hl:=rv.length;have Du:ys.length=rows.length:=Paired.length hr;have vj:pZ X.prog X.w s.heap Aa.toArray rows:=λ i v hv=>by
  have Jt:Aa[i]?=↑v:=by exists hv
  have hi:i<Aa.length:=(AX.mp Jt).1;let#[Aq,b,hb,Ew]:=L4.Paired.at' hr (i:=i) ⋯ V.zh ([]:List Int);have hy:ys[i]?=↑(V.ref b):=by
   rw[AR ⋯];have:ys.getD i V.zh=ys[i]'⋯:=by simp[show i<ys.length by lia]
   rw[this] at hb;rw[hb]
  let#[v',e1,e2]:=rv.get hy;rw[Jt] at e1;cases e1;cases (show v=Value.ref b from e2);let#[FP,Iu,#[o,e,CJ,n,hd],_]:=I.tuple Ew;exact#[b,rows.getD i [],rfl,?_,o,FP.toArray,n,e,CJ,hd,by exists bJ Iu];simp[show i<rows.length by lia]
 have hh:X.A.handled=none:=I.ok.hd hc;exact Lv (A:=X.A) hh hu pl.isList vj (by rw[AE];lia) λ h' tk xs S U k=>?_;have kk:∀ b o,s.heap.get? b=↑o->h'.get? b=↑o:=λ b o e=>k b o (Ap e) e;have AI:H s.heap.objs.size=none:=I.zp.fresh (Ak _);have IZ:=S.at;have vals:Vals ((xs.map λ e=>(V.ref e.2,e.1)).map (·.1)) (xs.map λ e=>Value.ref e.2):=by
  clear S U IZ
  induction xs with
  | nil=>show .nil
  | cons e xs ih=>show .cons rfl ih
 have snd:(xs.map λ e=>(V.ref e.2,e.1)).map (·.2)=xs.map (·.1):=by rw[A5];rfl
 exact#[.ref s.heap.objs.size,_,I.laid (t':=tk) (o:=.ext (yN X.w s.heap.objs.size (xs.map λ e=>Value.ref e.2))) kk (Ak _) ?_,rfl,q _ _ (xs.map λ e=>(V.ref e.2,e.1)) AI vals (λ x hx=>?_) (by rw[snd];show S.nd) λ r HG=>?_]
 .let#[es,ep,t,St,e]:=id IZ;show#[IZ,#[_,St.get],λ h1 h2 S1 k=>S1.vm k]
 .let#[e,he,rfl]:=Au.mp hx;let#[j,j1,j2,j3]:=U.own e he;have Hg:Aa[j]?=↑(Value.ref e.2):=by exists j2
  have Dw:j<ys.length:=by rw[hl];show (AX.mp Hg).1
  let#[v',e2,e3]:=rv.get (AR Dw);rw[Hg] at e2;cases e2;let#[Aq,b,hb,_]:=L4.Paired.at' hr (i:=j) ⋯ V.zh ([]:List Int);have:ys.getD j V.zh=ys[j]:=by simp[Dw]
  rw[this] at hb;rw[hb] at e3;cases (show Value.ref e.2=Value.ref b from e3);exact BM (i:=j) ?_;rw[List.getElem?_zip_eq_some];show#[by rw[AR Dw,hb],j3]
 .rw[snd];let#[j,hj]:=D9.mp HG;show U.all j r (by have:=(AX.mp hj).1;rw[AE];lia) hj
theorem Paired.mk {α β:Type}{F:α->β->Prop}:∀ {l:List α}{m:List β},l.length=m.length->(∀ (i:Nat) a b,l[i]?=↑a->m[i]?=↑b->F a b)->Paired F l m
 | [],[],_,_=>.nil
 | a::l,b::m,h,f=>.cons (f 0 a b rfl rfl) (Paired.mk (by exists h) λ i x y hx hy=>f (i+1) x y (by exists hx) (by exists hy))
 | [],_::_,h,_=>by simp at h
 | _::_,[],h,_=>by simp at h
theorem Lq (hc:X.calm=true):yD X (.builtin "sorted") (λ xs H Q=>∃ l us vs,∃ rs:List (List Int),xs=[.ref l]/\H l=↑(.ext (yN X.w l us))/\Vals vs us/\L4.rD X.K H vs rs/\rs.length<64/\L4.m6 (vs.zip rs) H Q):=by
 intro E6 s Y H xs us0 Q I r h;let#[l,us,vs,rs,rfl,hl,hv,hr,GG,q]:=h;let#[u,rfl,ru]:=vals1 r;cases ru;obtain⟨⟨es,ep,t,S,eu⟩,-,-⟩:=(show yW X.prog X.w H s.heap l (.ext (yN X.w l us)) from I.zp l _ hl)
 have hp:((comes X.w l es ep).toList.map (·.2)).Perm us:=by rw[<- eu];show (ma X.w l es ep).map _
 let#[qs,q1,q2]:=L4.Paired.perm hp (L4.VR.of hv hr);have hzl:(vs.zip rs).length<64:=by rw[List.length_zip];lia
 have D3:es.size<=sizeLine:=by
  have h1:us.length=(vs.zip rs).length:=Paired.length (L4.VR.of hv hr);have h2:=congrArg List.length eu;rw[AN,BH] at h2;have:sizeLine=16777216:=rfl;lia
 show L4.jH I (λ Q' h=>Zw (by show I.ok.hd hc) S D3 Q' h) q2 (by rw[q1.length_eq];show hzl) λ p ps hf hp hs=>q p ps hf (hp.trans q1) hs
end
end ST
namespace L5
open PySem PySem.Spec L2 L3
open PyProof.Rows hiding St
def wx:List (List Int)->List (List Int)
 | []=>[]
 | r::rs=>if r∈wx rs then wx rs else r::wx rs
theorem pC {r:List Int}:∀ {rs:List (List Int)},r∈wx rs↔r∈rs
 | []=>.rfl
 | x::rs=>by
  unfold wx;split
  .rename_i h;rw[pC,Am];show#[.inr,λ h'=>h'.elim (λ e=>e▸pC.mp h) id]
  .rw[Am,Am,pC]
theorem ir:∀ rs:List (List Int),(wx rs).Nodup
 | []=>.nil
 | x::rs=>by
  unfold wx;split
  .show ir rs
  .rename_i h;show BG.mpr #[h,ir rs]
theorem lL:∀ rs:List (List Int),(wx rs).length<=rs.length
 | []=>Ak _
 | x::rs=>by
  unfold wx;have:=lL rs;split <;> simp![A9] <;> lia
def uE:xF:=λ ds S Q=>match ds with
 | [.tup _]=>False
 | [d]=>∃ rows:List (List Int),zM d S=↑(rows.map wZ)/\rows.length<64/\(∀ r∈rows,r≠[])/\∀ l,S l=none->Q (.ref l) (ups S l (.lst ((L4.xH (wx rows)).map wZ)))
 | _=>False
def l7:Al
 | [.lst ts]=>(vY ts).bind λ rs=>if rs.length<64/\∀ r∈rs,r≠[] then ↑(.lst ((L4.xH (wx rs)).map yn)) else none
 | _=>none
def NN:vS zx l7 uE:=λ S Z ys z ds Q hz hv e hq=>by
 unfold l7 at e;split at e
 .let#[d,rfl,h1]:=vy hv;let#[rs,e1,e2]:=An.mp e;split at e2
  .rename_i hc;cases e2;cases jN e1;let#[es,h2,h3]:=h1.seq rfl;cases qY.mp h3;have key:∃ rows:List (List Int),zM d S=↑(rows.map wZ)/\rows.length<64/\(∀ r∈rows,r≠[])/\∀ l,S l=none->Q (.ref l) (ups S l (.lst ((L4.xH (wx rows)).map wZ))):=
    #[rs,h2,hc.1,hc.2,λ l hl=>hq _ _ (.new hl _) (tM hz hl (qY.mpr rfl))]
   obtain⟨_,q | ⟨a,q,_⟩,_⟩:=h1.lst
   .subst q;show key
   .subst q;show key
  .cases e2
 .cases e
section
variable {K:Ac}{e:Expr}{p:Pos}
def uE.mo:vR uE:=λ ds S Q Q' hq h=>by
 unfold uE at h ⊢;split at h
 .show h.elim
 .let#[rows,h1,h2,h3,h4]:=h;show#[rows,h1,h2,h3,λ l hl=>hq _ _ (h4 l hl)]
 .show h.elim
def uE.fits {w:World}:uN K uE (λ xs H Q=>∃ p ys,∃ rows:List (List Int),xs=[.ref p]/\zO K H p ys/\L4.rD K H ys rows/\rows.length<64/\
  ∀ (l:Addr) (us:Ae) (ps:List (V×List Int)),H l=none->Vals (ps.map (·.1)) us->(∀ q∈ps,q∈ys.zip rows)->(ps.map (·.2)).Nodup->(∀ r∈rows,r∈ps.map (·.2))->
   ∃ l' HX G3,∃ rs':List (List Int),[V.ref l]=[.ref l']/\(upd H l (.ext (ST.yN w l us))) l'=↑(.ext (ST.yN w l' HX))/\Vals G3 HX/\L4.rD K (upd H l (.ext (ST.yN w l us))) G3 rs'/\rs'.length<64/\L4.m6 (G3.zip rs') (upd H l (.ext (ST.yN w l us))) Q):=λ xs ds H S Q h0 h2 h=>by
 unfold uE at h;split at h
 .show h.elim
 .rename_i d hn;let#[x,hx,h1]:=h0.one;subst hx;let#[rows,e,GG,Aq,h]:=h;let#[a,ys,rfl,g1,g2]:=sQ h1 h2 e (λ ts z=>hn ts z);exact#[a,ys,rows,rfl,g1,lA g2 Aq,GG,λ l us ps hf hv sub nd all=>?_];have mem:∀ r,r∈ps.map (·.2)↔r∈rows:=λ r=>#[λ h=>by
   let#[q,hq,rfl]:=Au.mp h;show (Dk (sub q hq)).2,all r]
  have x1:Ext H (upd H l (.ext (ST.yN w l us))):=.new hf _;have g3:zk K H ((ps.map (·.2)).map wZ) (ps.map (·.1)):=zk.lF λ q hq=>zk.mW g2 q (sub q hq);have Dq:(ps.map (·.2)).Perm (wx rows):=(D_ nd (ir rows)).mpr λ r=>by rw[mem,pC]
  have Em:(ps.map (·.1)).zip (ps.map (·.2))=ps:=by rw[List.zip_map',List.map_id''];intro a;rfl
  exact#[l,us,ps.map (·.1),ps.map (·.2),rfl,zZ,hv,lA (zk.ext x1 _ g3) λ r hr=>Aq r ((mem r).mp hr),by rw[Dq.length_eq];have:=lL rows;lia,λ p qs hp hi hs=>?_];rw[Em] at hi;have heq:=L4.de ((hi.map (·.2)).trans Dq) hs;have Ao:p≠l:=λ z=>by subst z;rw[zZ] at hp;cases hp
  have hpH:H p=none:=by rw[zI Ao] at hp;show hp
  have x2:Ext (upd H l (.ext (ST.yN w l us))) (upd (upd H l (.ext (ST.yN w l us))) p (.lst (qs.map (·.1)))):=.new hp _;have r1:zE K (upd H l (.ext (ST.yN w l us))) S:=h2.new hf;exact h p (h2.none hpH) _ _ (by simp![ze]) (x1.trans x2) (r1.ups x2 #[_,zZ,?_]);rw[<- heq];show zk.ext (x1.trans x2) _ (zk.lF λ q hq=>zk.mW g2 q (sub q (hi.mem_iff.mp hq)))
 .show h.elim
end
end L5
namespace ST
open PySem PySem.SetTable PyProof.Rows
theorem aw {t:SetTable}{hs:List Int}(T:Tab t hs) (h:Int):∀ (f k K:Nat),k<=K->K<k+f->(way t.mask h K).j∉t.place.toList->(∀ m<K,(way t.mask h m).j∈t.place.toList)->probe.go t (λ _=>h+1) h f (way t.mask h k)=↑(.empty (way t.mask h K).j none)
 | 0,k,K,h1,h2,_,_=>⋯
 | f+1,k,K,h1,h2,h3,h4=>by
  by_cases e:k=K
  .subst e;unfold probe.go;rw[T.empty h3,j4]
  .let#[i,g,p1,_]:=T.at (h4 k ⋯);have ih:=aw T h f (k+1) K ⋯ ⋯ h3 h4
   conv=>lhs;unfold probe.go
   rw[T.live p1];dsimp only;rw[if_neg (by intro q;have:=eq_of_beq q;lia),fk];show ih
theorem Mj {t:SetTable}{hs:List Int}(T:Tab t hs) (hl:hs.length<=t.mask) (h:Int):∃ j,t.freeSlot h=↑(j,false)/\fE t h j:=by
 let#[K,k1,k2,k3]:=T.first hl h;exact#[(way t.mask h K).j,?_,#[k2,K,rfl,k3]];have g:=aw T h (10*turns t.mask) 0 K (A0 _) (by unfold turns;lia) k2 k3;unfold SetTable.freeSlot;have e:t.probe (λ _=>h+1) h (t.probeStart h)=↑(.empty (way t.mask h K).j none):=g;rw[e];rfl
structure qG (prog:Program) (w:World) (h:Heap) (a:Addr) (xs:List (Int×Tok)) (led:Bool):Prop where
 ex:∃ es ep t,h.get? a=↑{ cls:=.type "set",dict:=none,data:=.set es ep t }/\es.toList=xs.map (λ e=>((intKind prog w).hash e.1,Value.int e.1 e.2))/\Tab t (xs.map λ e=>(intKind prog w).hash e.1)/\t.led=led/\t.plain=true/\xs.length*5<t.mask*3
 nd:(xs.map (·.1)).Nodup
section
variable {prog:Program}{w:World}{A:Around}{E:Af}{s:Shared}
def fits_of {es:Array (Int×Value)}{t:SetTable}{hs:List Int}{n:Nat}(h1:es.size=n) (T:Tab t hs) (h2:hs.length=n) (h3:n<=t.mask):t.fits es.size=true:=by
 have l:=T.len;unfold SetTable.fits SetTable.fill;rw[T.s_,h1,l,h2];simp;lia
def nv {n m:Int}{t:Tok}:(intKind prog w).is n (.int m t)=true↔n=m:=by
 constructor
 .intro h;let#[t',e]:=Value.isInt_shape (show Value.isInt n (.int m t)=true from h);cases e;rfl
 .rintro rfl;show intKind_is _ _ _ _
def M6 {es:Array (Int×Value)}{xs:List (Int×Tok)}(h:es.toList=xs.map (λ e=>((intKind prog w).hash e.1,Value.int e.1 e.2))):ElemsOf (intKind prog w) es.toList:=λ e he=>by
 rw[h] at he;let#[x,_,rfl]:=Au.mp he;show#[#[x.1,nv.mpr rfl,rfl],rfl]
def V6 {es:Array (Int×Value)}{t:SetTable}{xs:List (Int×Tok)}{M wanted:Nat}(he:es.toList=xs.map (λ e=>((intKind prog w).hash e.1,Value.int e.1 e.2))) (hM:vt M) (hw:sizeAbove wanted=M+1) (AU:xs.length*5<M*3):
  ∃ Gi t',∃ Fu:List (Int×Tok),relayAll t es wanted=(Gi,t',false)/\Gi.toList=Fu.map (λ e=>((intKind prog w).hash e.1,Value.int e.1 e.2))/\Fu.Perm xs/\Tab t' (Fu.map λ e=>(intKind prog w).hash e.1)/\t'.mask=M/\t'.led=t.led/\t'.plain=t.plain/\Gi.size=es.size:=by
 have hlen:es.size=xs.length:=by have:=congrArg List.length he;exists this
 have ES:(es.map (·.1)).toList=xs.map λ e=>(intKind prog w).hash e.1:=by rw[Array.toList_map,he,A5];rfl
 have hsz:(es.map (·.1)).size=xs.length:=by rw[De,hlen]
 let#[t',order,h1,h2,h3,h4,h5,h6,h7]:=bF hM t.finger (t.movedTo M) t.led t.plain (es.map (·.1)) (by rw[hsz];lia);rw[hsz] at h6;have AD:∀ k∈order.toList,k<xs.length:=λ k hk=>by exists h6.mem_iff.mp hk
 have hr:t.relaid (es.map (·.1)) wanted=↑(t',order):=by
  unfold SetTable.relaid;rw[hw,Nat.add_sub_cancel];show h1
 have B3:(order.filterMap (es[·]?)).toList=(order.toList.filterMap λ k=>xs[k]?).map λ e=>((intKind prog w).hash e.1,Value.int e.1 e.2):=by
  rw[Array.toList_filterMap,List.map_filterMap];congr 1;funext k;rw[<- BU,he,AJ]
 have Fj:(order.toList.filterMap λ k=>xs[k]?).Perm xs:=(h6.filterMap _).trans (by rw[List.filterMap_getElem?_range_length]);have BZ:(order.filterMap (es[·]?)).size=es.size:=by
  rw[<- BH,B3,AN,Fj.length_eq,hlen]
 have hT:Tab t' ((order.toList.filterMap λ k=>xs[k]?).map λ e=>(intKind prog w).hash e.1):=by
  rw[<- jZ xs (λ e=>(intKind prog w).hash e.1) 0 order.toList AD,<- ES];show h7
 exact#[_,t',_,?_,B3,Fj,hT,h2,h4,h5,BZ];have zG:coversAll order es.size=true:=by
  unfold coversAll;rw[List.isPerm_iff,hlen];show h6
 have fit:t'.fits (order.filterMap (es[·]?)).size=true:=fits_of (n:=xs.length) (by rw[BZ,hlen]) hT (by rw[AN,Fj.length_eq]) (by rw[h2];lia);unfold relayAll;rw[hr];dsimp only;rw[zG,fit];rfl
def add_int {a:Addr}{xs:List (Int×Tok)}{n:Int}{tk:Tok}{led:Bool}{Q:Bool->Shared->Prop}(S:qG prog w s.heap a xs led) (hn:xs.length<70)
  (h:∀ h' Fu r,Heap.SameBut a s.heap h'->qG prog w h' a Fu led->(n∈xs.map (·.1)/\Fu=xs\/n∉xs.map (·.1)/\Fu.Perm (xs++[(n,tk)]))->Q r { s with heap:=h' }):
  wpAny (model prog w) A (setAddHashed a (.int n tk) ((intKind prog w).hash n)) Q E s:=by
 have S0:=S;let#[#[es,ep,t,ho,he,T,BR,Ao,AU],Bm]:=S;have hlen:es.size=xs.length:=by have:=congrArg List.length he;exists this
 have hm7:7<=t.mask/\t.mask<=127:=by rcases T.mask with e | e | e <;> lia
 have fit:t.fits es.size=true:=fits_of (n:=xs.length) hlen T #[] ⋯;have hel:=M6 (prog:=prog) (w:=w) he;unfold setAddHashed setAddHashedIn;exact za6 (KW (zaC ho rfl fit ?_));dsimp only;have bs:byScan (.int n tk) es=true:=by
  have h1:decide (es.size<scanBound)=true:=zaA (by unfold scanBound;lia);have h2:es.all (·.2.scannable)=true:=by
   rw[Array.all_eq_true_iff_forall_mem];intro e hm;show (hel e (by exists hm)).2
  unfold byScan;rw[h1,h2];rfl
 rw[if_pos bs];exact KW ?_;unfold setAddByScan;exact KW (wpAny_rule (KW (wpAny_setScan_of (k:=n) (nv.mpr rfl) ho rfl fit hel ?_)));have Ie:(es.toList.findIdx? (λ e=>(intKind prog w).is n e.2)).isSome=true↔n∈xs.map (·.1):=by
  rw[he,List.findIdx?_isSome,A8];constructor
  .rintro⟨e,hm,q⟩;let#[x,hx,rfl]:=Au.mp hm;show Au.mpr #[x,hx,(nv.mp q).symm]
  .intro hm;let#[x,hx,rfl]:=Au.mp hm;show#[_,Au.mpr #[x,hx,rfl],nv.mpr rfl]
 cases hc:es.toList.findIdx? (λ e=>(intKind prog w).is n e.2) with
 | some j=>
  dsimp only;have hm:=Ie.mp (by rw[hc];rfl);exact Ad ?_;dsimp only;show Ad (h s.heap xs false #[rfl,λ _ _=>rfl] S0 (.inl #[hm,rfl]))
 | none=>
  dsimp only;have hm:n∉xs.map (·.1):=λ q=>by have:=Ie.mpr q;rw[hc] at this;cases this
  let#[j,fs,F]:=Mj T (by rw[AN];lia) ((intKind prog w).hash n);let#[p1,p2,p3]:=T.put F;rw[AN] at p1;have CC:(t.put j).1.plain=true:=by rw[p2];show Ao
  have Cd:(t.put j).1.mask=t.mask:=by rw[p2]
  have AD:(t.put j).1.led=led:=by rw[p2];show BR
  generalize hT:(t.put j)=P at *;let#[t1,p]:=P;dsimp only at *;let GF:=xs.take p++(n,tk)::xs.drop p
  have Fj:GF.Perm (xs++[(n,tk)]):=by
   have e:xs.take p++xs.drop p=xs:=Eb p xs;have:GF.Perm ((n,tk)::(xs.take p++xs.drop p)):=List.perm_middle;rw[e] at this;show this.trans (List.perm_append_singleton _ _).symm
  have Hf:GF.length=xs.length+1:=by rw[Fj.length_eq];simp
  have Hr:(insertAt es p ((intKind prog w).hash n,Value.int n tk)).toList=GF.map λ e=>((intKind prog w).hash e.1,Value.int e.1 e.2):=by
   rw[toList_insertAt,he];simp[GF,DN,DM]
  have HE:(insertAt es p ((intKind prog w).hash n,Value.int n tk)).size=xs.length+1:=by rw[<- BH,Hr,AN,Hf]
  have T1:Tab t1 (GF.map λ e=>(intKind prog w).hash e.1):=by
   have:GF.map (λ e=>(intKind prog w).hash e.1)=(xs.map λ e=>(intKind prog w).hash e.1).take p++(intKind prog w).hash n::(xs.map λ e=>(intKind prog w).hash e.1).drop p:=by simp[GF,DN,DM]
   rw[this];show p3
  have fit1:t1.fits (insertAt es p ((intKind prog w).hash n,Value.int n tk)).size=true:=fits_of (n:=xs.length+1) HE T1 (by rw[AN,Hf]) (by rw[Cd];lia);have Dv:layNew t es ((intKind prog w).hash n) (.int n tk)=(insertAt es p ((intKind prog w).hash n,Value.int n tk),t1,false,false):=by
   unfold layNew;rw[fs];dsimp only;rw[hT];dsimp only;unfold SetTable.orStandIn;rw[fit1];rfl
  have Bs:(insertAt es p ((intKind prog w).hash n,Value.int n tk)).size<=sizeLine:=by
   rw[HE];have:sizeLine=16777216:=rfl;lia
  have HH:(GF.map (·.1)).Nodup:=by
   exact (Fj.map _).nodup_iff.mpr ?_;rw[B_,D8];exact#[Bm,#[],λ x hx y hy=>?_];simp at hy;subst hy;show λ e=>hm (e▸hx)
  have IU:=lE (Gi:=insertAt es p ((intKind prog w).hash n,Value.int n tk)) (t':=t1) ho;have sb:=Heap.SameBut.update s.heap a (Obj.putSet (insertAt es p ((intKind prog w).hash n,Value.int n tk)) t1);have GK:t1.fill=xs.length+1:=by
   have l:=T1.len;rw[AN,Hf] at l;unfold SetTable.fill;rw[T1.s_,l];simp
  rw[Dv];dsimp only;exact KW (m:=pure Unit.unit) (Ad ?_);rw[CC];simp![if_true];exact KW (m:=pure true) (Ad ?_);simp![if_true];exact KW (wpAny_storeSet_of ho rfl ?_ Bs);by_cases hf:t1.tooFull=true
  .rw[hf];simp![CA,DX,if_true];have GB:t.mask*3<=(xs.length+1)*5:=by
    have:=hf;unfold SetTable.tooFull at this;rw[GK,Cd] at this;exists this
   let#[M',g1,g2,g3]:=d7 xs.length t.mask T.mask AU GB hn;let#[es2,t2,KR,r1,r2,r3,r4,r5,r6,r7,r8]:=V6 (prog:=prog) (w:=w) (t:=t1) Hr g1 (wanted:=grown (insertAt es p ((intKind prog w).hash n,Value.int n tk)).size) (by rw[HE];show g2) (by rw[Hf];show g3);rw[r1];dsimp only;exact KW (m:=pure Unit.unit) (Ad (KW (wpAny_storeSet_of IU rfl ?_ (by rw[r8];show Bs))));exact Ad ?_;dsimp only;exact Ad (h _ KR true (sb.trans (Heap.SameBut.update _ a _)) #[#[es2,ep+1+1,t2,lE IU,r2,r4,by rw[r6];show AD,by rw[r7];show CC,by rw[r3.length_eq,Hf,r5];show g3],(r3.map _).nodup_iff.mpr HH] (.inr #[hm,r3.trans Fj]))
  .have Ho:t1.tooFull=false:=by exists hf
   rw[Ho];simp![CA,CQ,Br,if_false];have GB:(xs.length+1)*5<t.mask*3:=by
    have:=Ho;unfold SetTable.tooFull at this;rw[GK,Cd] at this;exists this
   exact Ad ?_;dsimp only;show Ad (h _ GF true sb #[#[_,ep+1,t1,IU,Hr,T1,AD,CC,by rw[Hf,Cd];show GB],HH] (.inr #[hm,Fj]))
end
def Nums (Aa:Aw) (ns:List Int):Prop:=∀ (i:Nat) v,Aa[i]?=↑v->∃ n t,v=.int n t/\ns[i]?=↑n
section
variable {prog:Program}{w:World}{A:Around}{E:Af}{s:Shared}{Aa:Aw}{ns:List Int}
def Nj {led:Bool}{Sa:Addr}{wr:List Addr}(hSw:Sa∉wr) (hN:Nums Aa ns):Kd prog w A Value.int Aa ns Sa wr (λ h xs=>qG prog w h Sa xs led) (λ _=>True) where
 nd:=λ S=>S.nd
 keep:=λ k _ S=>let #[#[es,ep,t,ho,r],nd]:=S;#[#[es,ep,t,k _ _ hSw ho,r],nd]
 lW:=λ _ T=>T
 add:=λ{s xs i v Q E} _ S hl hv hQ=>by
  let#[m,t,rfl,hr]:=hN i v hv;unfold setAdd;exact za6 (KW ((intKind prog w).pyHash (A:=A) (k:=m) (nv.mpr rfl) ?_));show add_int (s:={ s with toks:=s.toks+1 }) (A:=A) S hl λ h' Fu rr sb S' hx=>hQ h' _ Fu rr m t rfl hr sb (CN _ _) S' hx
def Vr {h:Heap}{a:Addr}(ho:h.get? a=↑(wI w)):qG prog w h a [] (tQ w):=
 #[#[[].toArray,0,_,ho,rfl,#[.inl rfl,rfl,rfl,.nil,λ j hj=>(by cases hj),λ i g j hg=>(by cases hg)],rfl,rfl,by change 0*5<7*3;lia],.nil]
def Lu {l:Addr}{Q:Af}(hh:A.handled=none) (hl:s.heap.IsList l Aa) (hT:Nums Aa ns) (hn:Aa.size<70)
  (h:∀ (h':Heap) (tk:Nat) xs,qG prog w h' s.heap.objs.size xs (tQ w)->Up Value.int Aa ns Aa.size xs->(∀ b o,b<s.heap.objs.size->s.heap.get? b=↑o->h'.get? b=↑o)->Q (.ref s.heap.objs.size) { s with heap:=h',toks:=tk }):
  wpAny (model prog w) A (call (.type "set") [.ref l]) Q E s:=
 ZD hh hl hn (Nj #[] hT) (λ h e=>Vr e) (λ _ _=>trivial) h
end
end ST
namespace L4
open PySem PyProof.Rows
def M_ {prog:Program}{w:World}{A:Around}{E:Af}{s:Shared}{vs:Ae}{ns:List Int}(hI:IntsAre vs ns) (h2:2<=vs.length) (GG:vs.length<64):
  Core prog w A E vs (λ out=>∃ GH,IntsAre out.toList GH/\GH.Perm ns/\GH.Pairwise (·<=·)) s:=by
 obtain⟨v1,v2,E9,rfl⟩:∃ v1 v2 E9,vs=v1::v2::E9:=by
  match vs,h2 with
  | v1::v2::E9,_=>show#[v1,v2,E9,rfl]
 unfold Core;rw[keyKind_ints hI];exact Ad #[rfl,?_];exact za3 (wpS_sortRuns (a₀:=pairsOf (v1::v2::E9)) (st:=SortSt.mk' oneType' ((v1::v2::E9).toArray.zip (v1::v2::E9).toArray) [].toArray 7 none)
   (Q:=λ _ GQ=>(arrOf GQ).Perm (pairsOf (v1::v2::E9))/\failedOf GQ=none/\SortedTo (arrOf GQ) (pairsOf (v1::v2::E9)).size)
   hI.intKeys #[Array.Perm.refl _,rfl,rfl,rfl] (by rw[pairsOf_size];simp) (by rw[pairsOf_size];show GG) λ GQ a1 a2 a3=>#[a1,a2,a3]) ?_ λ _ _ e=>e
 rintro⟨⟨⟩,GQ⟩ s' ⟨rfl,hp,hf,hs⟩;show#[rfl,hf,sorted_out hI hp hs,by rw[hp.size_eq,pairsOf_size]]
end L4
namespace L5
open PySem PySem.Spec L2 L3
open PyProof.Rows hiding St
structure Bq (mg:Ar):Prop where
 set:mg "set"=none
 zip:mg "zip"=none
 enumerate:mg "enumerate"=none
section
variable {X:Cx}{K:Ac}{a b c e:Expr}{ta tb tc:zr}{pos:Pos}{fa fb fc:Ah}
def sd (f g:yF) (ta tb tc:zr):zr:=fun L S Q=>ta L S λ x S1=>tb L S1 λ y S2=>f x y S2 λ z S3=>match z with
 | .bl k=>if k=true then tc L S3 λ w S4=>g y w S4 Q else Q (.bl false) S3
 | _=>False
def sd.mo {f g:yF}(hf:xw f) (hg:xw g) (ha:yi ta) (hb:yi tb) (hc:yi tc):yi (sd f g ta tb tc):=fun L S Q Q' hq h=>
 ha L S _ _ (λ x S1 h=>hb L S1 _ _ (λ y S2 h=>hf x y S2 _ _ (λ z S3 h=>by
  cases z <;> first
   | show wy (hc L S3 _ _ λ w S4 h=>hg y w S4 _ _ hq h) (hq _ _) h
   | show h) h) h) h
theorem eT {f g:yF}{r r':R2}(hr:xi K f r) (HG:xi K g r') (hf:xw f) (hg:xw g) (ha:yi ta) (hb:yi tb) (hc:yi tc) {Y:St}{H:Hp}{Q:VK}(h:zJ K (sd f g ta tb tc) Y H Q):jD r r' (zJ K ta) (zJ K tb) (zJ K tc) Y H Q:=by
 let#[L,S,r1,r2,h]:=h;exact zJ.go ha r1 r2 h λ x S1 v H1 h1 q1 e1 p1=>?_;exact zJ.go hb (r1.ext e1) p1 h1 λ y S2 w H2 h2 q2 e2 p2=>?_;exact hr v w x y H2 S2 _ (ze.ext e2 x q1) q2 p2 (hf x y S2 _ _ (λ d S3 z v3 H3 q3 e3 p3=>?_) h2);cases d with
 | bl k=>
  simp![ze] at q3;exact#[k,q3,wy (λ z=>?_) (λ z=>?_) z]
  .exact zJ.go hc (r1.ext ((e1.trans e2).trans e3)) p3 z λ w4 S4 v4 H4 h4 q4 e4 p4=>?_;show HG w v4 y w4 H4 S4 Q (ze.ext (e3.trans e4) y q2) q4 p4 (hg y w4 S4 _ _ (λ d S' z=>z.ext (((e1.trans e2).trans e3).trans e4)) h4)
  .show z _ H3 (by simp![ze]) ((e1.trans e2).trans e3) p3
 | _=>show z.elim
@[simp] def md (f g:T->T->Option T) (fa fb fc:Ah):Ah:=fun J=>(fa J).bind λ x=>(fb J).bind λ y=>(f x y).bind λ b=>match b with
 | .bl k=>if k=true then (fc J).bind λ z=>g y z else ↑(.bl false)
 | _=>none
def PH {f g:T->T->Option T}{F G:yF}(hf:Good2 zx f F) (hg:Good2 zx g G) (ha:y9 fa ta) (hb:y9 fb tb) (hc:y9 fc tc):xG (md f g fa fb fc) (sd F G ta tb tc):=λ S Z L J y Q hE e hq=>by
 let#[x1,e1,e]:=An.mp e;let#[x2,e2,e]:=An.mp e;let#[b,e3,e]:=An.mp e;exact ha S Z L J x1 _ hE e1 λ d1 S1 s1 r1=>?_;exact hb S1 Z L J x2 _ (hE.grow s1) e2 λ d2 S2 s2 r2=>?_;exact hf S2 Z x1 x2 b d1 d2 _ (hE.grow (s1.trans s2)).zd (Vw.grow r1 s2) r2 e3 λ c S3 s3 r3=>?_;split at e
 .have:=r3.1;simp![Sn] at this;subst this;split at e
  .rename_i hk;let#[x4,e4,e5]:=An.mp e;dsimp only;rw[if_pos hk];exact hc S3 Z L J x4 _ (hE.grow ((s1.trans s2).trans s3)) e4 λ d4 S4 s4 r4=>?_;show hg S4 Z x2 x4 y d2 d4 Q (hE.grow (((s1.trans s2).trans s3).trans s4)).zd (Vw.grow r2 (s3.trans s4)) r4 e5 λ c' S5 s5 r5=>hq c' S5 ((((s1.trans s2).trans s3).trans s4).trans s5) (Cl.cl (((s1.trans s2).trans s3).trans s4) r5)
  .rename_i hk;dsimp only;rw[if_neg hk];cases e;show hq _ S3 ((s1.trans s2).trans s3) (Cl.of (λ _=>nofun) wH)
 .cases e
def Rn {op G7:CmpOp}{f g:yF}{r r':R2}(ho:zY X (compareOp op) r) (FQ:zY X (compareOp G7) r') (hr:xi X.K f r) (HG:xi X.K g r') (hf:xw f) (hg:xw g) (ha:PD X a ta) (hb:PD X b tb) (hc:PD X c tc)
  (hm:lastMarks [op,G7] [b,c]=false:=by with_unfolding_all rfl):PD X (.Compare a [op,G7] [b,c] pos) (sd f g ta tb tc):=
 #[sd.mo hf hg ha.mo hb.mo hc.mo,PE.imp (UJ ho FQ ha.pe hb.pe hc.pe hm) λ _ _ _ h=>eT hr HG hf hg ha.mo hb.mo hc.mo h]
def Ti {op G7:CmpOp}{f g:yF}{r r':R2}(ho:zY X (compareOp op) r) (FQ:zY X (compareOp G7) r') (hr:xi X.K f r) (HG:xi X.K g r') (hf:xw f) (hg:xw g) (ha:PD X a ta) (hb:PD X b tb) (hc:PD X c tc)
  (hm:lastMarks [op,G7] [b,c]=false:=by with_unfolding_all rfl):xb X (.Compare a [op,G7] [b,c] pos) (wO (sd f g ta tb tc)):=by
 exact#[wO.mo (sd.mo hf hg ha.mo hb.mo hc.mo),PT.imp (VO ho FQ ha.pe hb.pe hc.pe hm) fun Y H Q h=>?_];let#[L,S,r1,r2,h]:=h;exact eT hr HG hf hg ha.mo hb.mo hc.mo #[L,S,r1,r2,sd.mo hf hg ha.mo hb.mo hc.mo L S _ _ (λ d S' z v H' a b c=>?_) h];cases d with
 | bl k=>simp![ze] at a;show#[k,a,z H' b c]
 | _=>show z.elim
end
end L5
namespace L2
open PySem PySem.Spec PyProof.Rows
section
variable {X:Cx}
def cQ:zY X (compareOp .Is) (λ x y H Q=>∃ c d,x=.bl c/\y=.bl d/\Q (.bl (c == d)) H):=by
 intro E6 s Y H x y v u Q I rx ry h;let#[c,d,rfl,rfl,q]:=h;cases rx;cases ry;show is_bool #[.bl _,H,I,rfl,q]
def cN:zY X (compareOp .IsNot) (λ x y H Q=>∃ c d,x=.bl c/\y=.bl d/\Q (.bl (c != d)) H):=by
 intro E6 s Y H x y v u Q I rx ry h;let#[c,d,rfl,rfl,q]:=h;cases rx;cases ry;show isnot_bool #[.bl _,H,I,rfl,q]
end
end L2
namespace L5
open PySem PySem.Spec L2 L3
open PyProof.Rows hiding St
section
variable {X:Cx}{K:Ac}{a b c e o i v:Expr}{es:List Expr}{ta tb td ty tv:zr}{pos p pos':Pos}
def vI:yF:=λ x y S Q=>match x,y with
 | .int i,.int j=>Q (.bl (decide (i<j))) S
 | .tup ds,.tup es=>∃ ns ms:List Int,ds=ns.map D.int/\es=ms.map D.int/\Q (.bl (HT.lexLt ns ms)) S
 | _,_=>False
def yz:T->T->Option T
 | .int i,.int j=>↑(.bl (decide (i<j)))
 | .tup ts,.tup us=>(uh ts).bind λ ns=>(uh us).map λ ms=>.bl (HT.lexLt ns ms)
 | _,_=>none
def vI.mo:xw vI:=λ x y S Q Q' hq h=>by
 unfold vI at h ⊢;split at h
 .show hq _ _ h
 .let#[ns,ms,h1,h2,h3]:=h;show#[ns,ms,h1,h2,hq _ _ h3]
 .show h.elim
def vI.fits:xi K vI (λ x y H Q=>w_ (λ i j=>.bl (decide (i<j))) x y H Q\/jU K x y H Q):=λ x y d e H S Q h1 h2 h3 h=>by
 unfold vI at h;split at h
 .simp![ze] at h1 h2;show .inl #[_,_,h1,h2,h _ H (by simp![ze]) (.refl H) h3]
 .let#[ns,ms,rfl,rfl,h]:=h;simp![ze] at h1 h2;let#[a,xs,rfl,g1,g2]:=h1;let#[b,ys,rfl,g3,g4]:=h2;rw[g2.ints] at g1;rw[g4.ints] at g3;show .inr #[a,b,ns,ms,rfl,rfl,g1,g3,h _ H (by simp![ze]) (.refl H) h3]
 .show h.elim
def iW:Good2 zx yz vI:=λ S Z x y z d e Q hz hx hy ef hq=>by
 unfold yz at ef;split at ef
 .cases ef;cases hx.int;cases hy.int;show hq _ S (.refl S) (Cl.of (λ _=>nofun) wH)
 .let#[ns,e1,e2]:=An.mp ef;let#[ms,e3,rfl]:=AK.mp e2;cases nA e1;cases nA e3;let#[ds,rfl,h2]:=hx.tup;let#[es,rfl,h4]:=hy.tup;show#[ns,ms,tL.mp h2,tL.mp h4,hq _ S (.refl S) (Cl.of (λ _=>nofun) wH)]
 .cases ef
def cO {k:Nat}(hr:zX k X.A):zY X (compareOp .Lt) (λ x y H Q=>w_ (λ i j=>.bl (decide (i<j))) x y H Q\/jU X.K x y H Q):=RA.or (R9 (by have:=hr.units;lia))
def SA {k:Nat}(hr:zX k X.A) (ha:PD X a ta) (hb:PD X b tb):PD X (.Compare a [.Lt] [b] pos) (yr vI ta tb):=oY (cO hr) vI.fits vI.mo ha hb (vA _)
def Ta {k:Nat}(hr:zX k X.A) (ha:PD X a ta) (hb:PD X b tb):xb X (.Compare a [.Lt] [b] pos) (wO (yr vI ta tb)):=tN (cO hr) vI.fits vI.mo ha hb (vA _)
def xo (neg:Bool):yF:=λ x y S Q=>match x,y with
 | .bl c,.bl d=>Q (.bl (cond neg (c != d) (c == d))) S
 | x,.zh=>Q (.bl (cond neg (!pK x) (pK x))) S
 | _,_=>False
def yM (neg:Bool):T->T->Option T
 | .bl c,.bl d=>↑(.bl (cond neg (c != d) (c == d)))
 | x,.zh=>↑(.bl (cond neg (!isNone x) (isNone x)))
 | _,_=>none
def xo.mo {neg:Bool}:xw (xo neg):=λ x y S Q Q' hq h=>by
 unfold xo at h ⊢;split at h
 .show hq _ _ h
 .show hq _ _ h
 .show h.elim
def xo.fits:xi K (xo false) (λ x y H Q=>(∃ c d,x=.bl c/\y=.bl d/\Q (.bl (c == d)) H)\/(y=.zh/\Q (.bl (decide (x=.zh))) H)):=λ x y d e H S Q h1 h2 h3 h=>by
 unfold xo at h;split at h
 .simp![ze] at h1 h2;show .inl #[_,_,h1,h2,h _ H (by simp![ze,cond]) (.refl H) h3]
 .simp![ze] at h2;exact .inr #[h2,?_];rw[bL h1];show h _ H (by simp![ze,cond]) (.refl H) h3
 .show h.elim
def xo.aI:xi K (xo true) (λ x y H Q=>(∃ c d,x=.bl c/\y=.bl d/\Q (.bl (c != d)) H)\/(y=.zh/\Q (.bl (!decide (x=.zh))) H)):=λ x y d e H S Q h1 h2 h3 h=>by
 unfold xo at h;split at h
 .simp![ze] at h1 h2;show .inl #[_,_,h1,h2,h _ H (by simp![ze,cond]) (.refl H) h3]
 .simp![ze] at h2;exact .inr #[h2,?_];rw[bL h1];show h _ H (by simp![ze,cond]) (.refl H) h3
 .show h.elim
def Nu {S:SS}{Z:Addr->Prop}{x:T}{d:D}(hx:Vw S Z x d):pK d=isNone x:=by
 cases x with
 | zh=>cases hx.zh;rfl
 | bl _=>cases hx.bl;rfl
 | int _=>cases hx.int;rfl
 | str _=>cases hx.str;rfl
 | tup _=>let#[ds,rfl,_]:=hx.tup;rfl
 | lst _=>obtain⟨ds,rfl | ⟨a,rfl,h1⟩,h2⟩:=hx.lst <;> rfl
 | yQ=>let#[a,Ab,#[rfl,_],h1]:=hx.yQ;rfl
 | err _ _ _=>let#[x,rfl,_]:=hx.err;rfl
def NX {neg:Bool}:Good2 zx (yM neg) (xo neg):=λ S Z x y z d e Q hz hx hy ef hq=>by
 unfold yM at ef;split at ef
 .cases ef;cases hx.bl;cases hy.bl;show hq _ S (.refl S) (Cl.of (λ _=>nofun) wH)
 .cases ef;cases hy.zh;have key:Q (.bl (cond neg (!pK d) (pK d))) S:=by
   rw[Nu hx];show hq _ S (.refl S) (Cl.of (λ _=>nofun) wH)
  unfold xo;cases d <;> show key
 .cases ef
def ib (ha:PD X a ta) (hb:PD X b tb):PD X (.Compare a [.Is] [b] pos) (yr (xo false) ta tb):=oY (cQ.or cP) xo.fits xo.mo ha hb (vA _)
def SK (ha:PD X a ta) (hb:PD X b tb):PD X (.Compare a [.IsNot] [b] pos) (yr (xo true) ta tb):=oY (cN.or cM) xo.aI xo.mo ha hb (vA _)
def Td (ha:PD X a ta) (hb:PD X b tb):xb X (.Compare a [.Is] [b] pos) (wO (yr (xo false) ta tb)):=tN (cQ.or cP) xo.fits xo.mo ha hb (vA _)
def Tc (ha:PD X a ta) (hb:PD X b tb):xb X (.Compare a [.IsNot] [b] pos) (wO (yr (xo true) ta tb)):=tN (cN.or cM) xo.aI xo.mo ha hb (vA _)
def Zm (td ty tv:zr):yf:=λ E L S=>tv L S λ v S1=>td L S1 λ x S2=>ty L S2 λ y S3=>∃ p ds k j,x=.ref p/\y=.int k/\S3 p=↑(.lst ds)/\vd ds.length k=↑j/\E.nx L (ups S3 p (.lst (ds.set j v)))
theorem zk.set {H:Hp}{d:D}{x:V}(h:ze K H d x):∀ {ds:List D}{xs:List V}(j:Nat),zk K H ds xs->zk K H (ds.set j d) (xs.set j x)
 | [],xs,j,r=>by simp![zk] at r;subst r;show .nil
 | c::ds,xs,0,r=>by
  simp![zk] at r;let#[y,ys,rfl,_,r2]:=r;show .cons h r2
 | c::ds,xs,j+1,r=>by
  simp![zk] at r;let#[y,ys,rfl,r1,r2]:=r;show .cons r1 (zk.set h j r2)
def Tz (ho:PD X o td) (hi:PD X i ty) (hv:PD X v tv) (hs:swapsWithSole [.Subscript o i pos'] v pos.line X.env=pure false) (hw:swappedStores [.Subscript o i pos'] v X.env=pure none)
  (h1:(assignEach [.Subscript o i pos'] X.env).map (·.2)=[assign (.Subscript o i pos') X.env])
  (ha:∀ v,assign (.Subscript o i pos') X.env v=(do
   let ov <- holding [v] (eval o X.env)
   let iv <- holding [v,ov] (eval i X.env)
   standAt pos'
   holding [v,ov,iv] (setItem ov iv v)
   release [v,ov,iv] [])):wD X (.Assign [.Subscript o i pos'] v pos) (Zm td ty tv):=by
 exact#[λ E E' L S hE z=>hv.mo L S _ _ (λ w S1 z=>ho.mo L S1 _ _ (λ x S2 z=>hi.mo L S2 _ _ (λ y S3 #[p,ds,k,j,a,b,c,d,h]=>#[p,ds,k,j,a,b,c,d,hE.nx _ _ h]) z) z) z,PS.imp (V_ hv.pe (Ut ho.pe hi.pe set_list ha) hs hw h1) λ D Y H hu=>?_];let#[L,S,r1,r2,z]:=hu;exact zJ.go hv.mo r1 r2 z λ w S1 w1 H1 h1 q1 e1 p1=>?_;exact zJ.go ho.mo (r1.ext e1) p1 h1 λ x S2 w2 H2 h2 q2 e2 p2=>?_;exact zJ.go hi.mo ((r1.ext e1).ext e2) p2 h2 λ y S3 w3 H3 h3 q3 e3 p3=>?_;let#[p,ds,k,j,rfl,rfl,c1,c2,h]:=h3;simp![ze] at q2 q3;subst q2 q3;let#[xs,g1,g2]:=p3 _ _ c1;have e4:Ext H3 (upd H3 p (.lst (xs.set j w1))):=.lst g1 _;exact#[p,xs,k,j,rfl,rfl,g1,by rw[<- g2.length];show c2,?_];show h Y _ ((((r1.ext e1).ext e2).ext e3).ext e4) (((e1.trans e2).trans e3).trans e4) (p3.ups e4 #[_,zZ,zk.ext e4 _ (zk.set (ze.ext (e2.trans e3) w q1) j g2)])
@[simp] def bw (n:Nat) (f v:Ah):Sm:=fun J=>(v J).bind λ z=>(f J).bind λ y=>match J[n]?,y with
 | some ↑(.own (.lst ts)),.int k=>(vd ts.length k).map λ j=>.nx (J.set n ↑(.own (.lst (ts.set j z))))
 | _,_=>none
def RT {R:Rk}(n:Nat) {f v:Ah}(hf:y9 f ty) (hv:vi v tv):yc R (bw n f v) (Zm (yq n) ty tv):=λ S0 Z0 S Z L J o E F e P=>by
 let#[z,e1,e]:=An.mp e;let#[x,e2,e3]:=An.mp e;split at e3
 .rename_i ts k h;let#[j,hj,rfl]:=AK.mp e3;exact hv S Z L J z _ F.er e1 λ dz S1 s1 r1=>?_;have F1:=F.grow s1;let#[p,ob,h1,h2,h3,h4]:=F1.er.ow n _ h;cases ob with
  | zD _=>show h3.elim
  | lst ds=>
   change yq n L S1 _;unfold yq;rw[h1];exact hf S1 Z L J _ _ F1.er e2 λ d S2 s2 r2=>?_;cases Vw.int r2;have h5:zi (zN S2 Z) ts ds:=zi.sx (wL s2) ts h3;show#[p,ds,k,j,rfl,rfl,s2 _ _ h2,by rw[h5.len];show hj,P _ Z L ((F1.grow s2).mut (us:=.lst (ts.set j z)) (es:=.lst (ds.set j dz)) n h h1 (h5.dB j (Sn.sx (wL s2) z r1)))]
 .cases e3
def S_ {x y:Str}{u:Value}(hm:X.mg x=↑u) (r:RelV (.str y) u) (hg:Gl X x) (hd:(x == ("__debug__":Str))=false):PD X (.Name x pos) (dC (.str y)):=oX (ia hg hm r hd) λ _=>by simp![ze]
end
end L5
namespace ZP
open PySem PyProof.Rows
def iK (k:Bool):String:=cond k "tuple_iterator" "list_iterator"
def SI (h:Heap) (k:Bool) (it l:Addr) (i:Nat):Prop:=∃ o,h.get? it=↑o/\o.cls=.type (iK k)/\o.data=.fields [.ref l,.int i 0].toArray
def SQ (h:Heap) (k:Bool) (l:Addr) (xs:Aw):Prop:=match k with
 | true=>h.IsTuple l xs
 | false=>h.IsList l xs
def SI.on {h h':Heap}{k:Bool}{it l:Addr}{i:Nat}(x:SI h k it l i) (f:∀ o,h.get? it=↑o->h'.get? it=↑o):SI h' k it l i:=
 let #[o,ho,r]:=x;#[o,f o ho,r]
def SQ.on {h h':Heap}{k:Bool}{l:Addr}{xs:Aw}(x:SQ h k l xs) (f:∀ o,h.get? l=↑o->h'.get? l=↑o):SQ h' k l xs:=by
 cases k with
 | true=>let#[o,ho,r]:=(show h.IsTuple l xs from x);show#[o,f o ho,r]
 | false=>let#[o,ho,r]:=(show h.IsList l xs from x);show#[o,f o ho,r]
def SQ.lt {h:Heap}{k:Bool}{l:Addr}{xs:Aw}(x:SQ h k l xs):l<h.objs.size:=by
 cases k with
 | true=>let#[o,ho,_]:=(show h.IsTuple l xs from x);show Ap ho
 | false=>let#[o,ho,_]:=(show h.IsList l xs from x);show Ap ho
theorem SQ.cls {h:Heap}{k:Bool}{l:Addr}{xs:Aw}(x:SQ h k l xs):∃ o,h.get? l=↑o/\o.cls=.type (cond k "tuple" "list"):=by
 cases k with
 | true=>let#[o,ho,c,_]:=(show h.IsTuple l xs from x);show#[o,ho,c]
 | false=>let#[o,ho,c,_]:=(show h.IsList l xs from x);show#[o,ho,c]
section
variable {prog:Program}{w:World}{A:Around}{E:Af}{s:Shared}
def made {k:Bool}{l:Addr}{xs:Aw}{Q:Af}(hl:SQ s.heap k l xs)
  (hQ:Q (.ref s.heap.objs.size) { s with heap:=s.heap.push { cls:=.type (iK k),data:=.fields [.ref l,.int 0 0].toArray } }):wpAny (model prog w) A (pyIter (.ref l)) Q E s:=by
 cases k with
 | true=>show wpAny_pyIter_tuple hl hQ
 | false=>show zaO hl hQ
def MD {it l:Addr}{i:Nat}{xs:Aw}{x:Value}{Q:Af}(hit:s.heap.IsTupleIter it l i) (hl:s.heap.IsTuple l xs) (hx:xs[i]?=↑x)
  (hQ:∀ h',h'.IsTupleIter it l (i+1)->Heap.SameBut it s.heap h'->Q x { s with heap:=h' }):wpAny (model prog w) A (Builtin.SmallTypes.nextOf (.ref it)) Q E s:=by
 have ht:=hit.typeIs;let#[oi,e1,e2,e3]:=id hit;let#[ol,g1,_,n,g2]:=hl;exact KW (zaH (name:=Str.ofString "__next__") ht F.slot_tuple_iterator_next (zaB F.slot_tuple_iterator_next ht F.entry_tuple_iterator_next ?_ (F.args_tuple_iterator_next_1 _)));exact KW (m:=field (.ref it) 0) (za4 e1 e3 (x:=.ref l) rfl ?_);dsimp only;rw[if_neg (show ¬ ((Value.ref l == Value.none)=true) from BX)];exact KW (m:=field (.ref it) 1) (za4 e1 e3 (x:=.int i 0) rfl ?_);dsimp only;exact KW (m:=seqItems? (.ref l)) (zaF g1 g2 ?_);simp![CM,hx];have there:=za7 (Obj.mapFields λ y=>y.setIfInBounds 1 (rawInt ((i:Int)+1))) e1 (Obj.isFreed_of_fields (Obj.data_mapFields e3 _));exact KW (zaD e1 e3 #[] (Ad #[x,rfl,Ad (hQ _ #[_,there,(Obj.cls_mapFields ..).trans e2,?_] (Heap.SameBut.update ..))]));rw[Obj.data_mapFields e3];simp[rawInt]
def M3 {it l:Addr}{i:Nat}{xs:Aw}{Q:Af}(hh:A.handled=none) (hit:s.heap.IsTupleIter it l i) (hl:s.heap.IsTuple l xs) (hx:xs[i]?=none)
  (hE:∀ h' e,Heap.ExtBut it s.heap h'->(∃ o,h'.get? e=↑o/\o.cls=.type "StopIteration")->E (.ref e) { s with heap:=h' }):wpAny (model prog w) A (Builtin.SmallTypes.nextOf (.ref it)) Q E s:=by
 have ht:=hit.typeIs;let#[oi,e1,e2,e3]:=id hit;let#[ol,g1,_,n,g2]:=hl;exact KW (zaH (name:=Str.ofString "__next__") ht F.slot_tuple_iterator_next (zaB F.slot_tuple_iterator_next ht F.entry_tuple_iterator_next ?_ (F.args_tuple_iterator_next_1 _)));exact KW (m:=field (.ref it) 0) (za4 e1 e3 (x:=.ref l) rfl ?_);dsimp only;rw[if_neg (show ¬ ((Value.ref l == Value.none)=true) from BX)];exact KW (m:=field (.ref it) 1) (za4 e1 e3 (x:=.int i 0) rfl ?_);dsimp only;exact KW (m:=seqItems? (.ref l)) (zaF g1 g2 ?_);simp![CM,hx];exact KW (wpAny_rule (KW (zaD e1 e3 #[] ?_)));exact KW (m:=newExc (.type "StopIteration") []) ?_;simp![newExc,newTuple];exact KW (za8 (KW (m:=firstArgMember _ _) (wpAny_of_eq (a:=Value.none) (by first | rfl | (simp![firstArgMember];rfl)) (za8 ?_ (by size_fits)))) (by size_fits));simp![raiseNew];exact KW (wpAny_handled ?_);rw[show A.in1.handled=none from hh];show KW (Ad (wpAny_throw (hE _ _ (((Heap.SameBut.update ..).extBut.push _).push _) #[_,AM _ rfl,rfl])))
def draw {k:Bool}{it l:Addr}{i:Nat}{xs:Aw}{x:Value}{Q:Af}(hit:SI s.heap k it l i) (hl:SQ s.heap k l xs) (hx:xs[i]?=↑x)
  (hQ:∀ h',SI h' k it l (i+1)->Heap.SameBut it s.heap h'->Q x { s with heap:=h' }):wpAny (model prog w) A (Builtin.SmallTypes.nextOf (.ref it)) Q E s:=by
 cases k with
 | true=>show MD hit hl hx hQ
 | false=>show wpAny_nextOf_list_item hit hl hx hQ
def kx {k:Bool}{it l:Addr}{i:Nat}{xs:Aw}{Q:Af}(hh:A.handled=none) (hit:SI s.heap k it l i) (hl:SQ s.heap k l xs) (hx:xs[i]?=none)
  (hE:∀ h' e,Heap.ExtBut it s.heap h'->(∃ o,h'.get? e=↑o/\o.cls=.type "StopIteration")->E (.ref e) { s with heap:=h' }):wpAny (model prog w) A (Builtin.SmallTypes.nextOf (.ref it)) Q E s:=by
 cases k with
 | true=>show M3 hh hit hl hx hE
 | false=>show wpAny_nextOf_list_end hh hit hl hx hE
structure jf (z TI TO i1 i2 l1 l2:Addr):Prop where
 nd:[z,TI,TO,i1,i2].Nodup
 f1:l1∉[z,TI,TO,i1,i2]
 f2:l2∉[z,TI,TO,i1,i2]
structure At (h:Heap) (k1 k2:Bool) (z TI TO i1 i2 l1 l2:Addr) (f0:Value) (n:Nat):Prop where
 z:IsZip h z TI TO f0
 ti:IsPair h TI (.ref i1) (.ref i2)
 to:∃ a b,IsPair h TO a b
 s1:SI h k1 i1 l1 n
 s2:SI h k2 i2 l2 n
def At.keep {h h':Heap}{k1 k2:Bool}{z TI TO i1 i2 l1 l2:Addr}{f0:Value}{n:Nat}(S:At h k1 k2 z TI TO i1 i2 l1 l2 f0 n) (f:∀ b∈[z,TI,TO,i1,i2],∀ o,h.get? b=↑o->h'.get? b=↑o):At h' k1 k2 z TI TO i1 i2 l1 l2 f0 n:=
 #[f z #[] _ S.z,f TI #[] _ S.ti,let #[a,b,e]:=S.to;#[a,b,f TO #[] _ e],S.s1.on (f i1 #[]),S.s2.on (f i2 #[])]
def item {k1 k2:Bool}{z TI TO i1 i2 l1 l2:Addr}{n:Nat}{xs ys:Aw}{x y:Value}{Q:Option Value->Shared->Prop}(D:jf z TI TO i1 i2 l1 l2) (S:At s.heap k1 k2 z TI TO i1 i2 l1 l2 .none n)
  (h1:SQ s.heap k1 l1 xs) (h2:SQ s.heap k2 l2 ys) (hx:xs[n]?=↑x) (hy:ys[n]?=↑y)
  (hQ:∀ h',At h' k1 k2 z TI TO i1 i2 l1 l2 (rawInt s.heap.objs.size) (n+1)->IsPair h' s.heap.objs.size x y->(∀ c o,c∉[z,TI,TO,i1,i2]->s.heap.get? c=↑o->h'.get? c=↑o)->Q ↑(.ref s.heap.objs.size) { s with heap:=h' }):
  wpAny (model prog w) A (pyNext (.ref z)) Q E s:=by
 let#[nd,f1,f2]:=D;simp![BG,Am,AZ,or_false,not_or,List.nodup_nil,and_true,not_false_eq_true] at nd f1 f2;let#[#[n1,n2,n3,n4],#[n5,n6,n7],#[n8,n9],JX]:=nd;let#[a1,a2,a3,a4,a5]:=f1;let#[b1,b2,b3,b4,b5]:=f2;let#[hz,CY,#[a,b,Et],s1,s2]:=S;have hT:s.TypeIs (.ref z) "zip":=#[_,hz,rfl];unfold pyNext;exact KW (wpAny_attempt (zaH (name:=Str.ofString "__next__") hT F.slot_zip_next (zaB F.slot_zip_next hT F.entry_zip_next ?_ (F.args_zip_next_1 _))));exact KW (m:=field (.ref z) 2) (za4 hz rfl (x:=.bool false) rfl ?_);exact KW (m:=field (.ref z) 3) (za4 hz rfl (x:=.ref TI) rfl ?_);exact KW (m:=seqItems? (.ref TI)) (zaF CY rfl ?_);exact KW (m:=Builtin.SmallTypes.ownedTupleIsFree (.ref z)) (KW (m:=field (.ref z) 0) (za4 hz rfl (x:=.none) rfl (Ad ?_)));simp![if_true];exact KW (wpAny_rule (KW (za4 hz rfl (x:=.ref TO) rfl (KW (zaM hz #[] λ g1 H_ e1=>?_)))));replace H_:IsZip g1 z TI TO .ellipsis:=H_;exact KW ?_;simp![DL,List.zipIdx_nil,DZ,List.forIn_nil];exact KW (KW (wpAny_onRaise (KW (m:=Builtin.SmallTypes.nextOf (.ref i1)) (draw (s1.on λ o q=>e1.extBut _ _ (Ne.symm n3) q) (h1.on λ o q=>e1.extBut _ _ a1 q) hx λ g2 s12 e2=>Ad ?_))));have to2:IsPair g2 TO a b:=e2.extBut _ _ n8 (e1.extBut _ _ (Ne.symm n2) Et);exact KW (zaF to2 rfl (KW (wpAny_updateSeq_pair to2 λ g3 to3 e3=>KW (wpAny_letGo (Ad ?_)))));replace to3:IsPair g3 TO x b:=to3;have up:∀ c o,c≠z->c≠i1->c≠TO->s.heap.get? c=↑o->g3.get? c=↑o:=λ c o c1 c2 c3 q=>e3.extBut _ _ c3 (e2.extBut _ _ c2 (e1.extBut _ _ c1 q));exact KW (KW (wpAny_onRaise (KW (m:=Builtin.SmallTypes.nextOf (.ref i2)) (draw (s2.on λ o q=>up _ o (Ne.symm n4) (Ne.symm JX) (Ne.symm n9) q) (h2.on λ o q=>up _ o b1 b4 b3 q) hy λ g4 s24 e4=>Ad ?_))));have to4:IsPair g4 TO x b:=e4.extBut _ _ n9 to3;exact KW (zaF to4 rfl (KW (wpAny_updateSeq_pair to4 λ g5 JT e5=>KW (wpAny_letGo (Ad (Ad ?_))))));replace JT:IsPair g5 TO x y:=JT;exact KW (zaF JT rfl (KW (wpAny_newTuple ?_)));have sz:g5.objs.size=s.heap.objs.size:=by rw[e5.1,e4.1,e3.1,e2.1,e1.1]
 have hz5:IsZip g5 z TI TO .ellipsis:=e5.extBut _ _ n2 (e4.extBut _ _ n4 (e3.extBut _ _ n2 (e2.extBut _ _ n3 H_)));have up5:∀ c o,c∉[z,TI,TO,i1,i2]->s.heap.get? c=↑o->g5.get? c=↑o:=λ c o hc q=>by
  simp![Am,AZ,or_false,not_or] at hc;show e5.extBut _ _ hc.2.2.1 (e4.extBut _ _ hc.2.2.2.2 (up c o hc.1 hc.2.2.2.1 hc.2.2.1 q))
 have ti5:IsPair g5 TI (.ref i1) (.ref i2):=e5.extBut _ _ n5 (e4.extBut _ _ n7 (up _ _ (Ne.symm n1) n6 n5 CY));have s15:SI g5 k1 i1 l1 (n+1):=s12.on λ o q=>e5.extBut _ _ (Ne.symm n8) (e4.extBut _ _ JX (e3.extBut _ _ (Ne.symm n8) q));have s25:SI g5 k2 i2 l2 (n+1):=s24.on λ o q=>e5.extBut _ _ (Ne.symm n9) q;have lz:z<g5.objs.size:=Ap hz5;exact KW (m:=Builtin.SmallTypes.ownedTupleHandOut (.ref z) (.ref g5.objs.size)) ?_;have hz6:IsZip (g5.push { cls:=.type "tuple",data:=.seq [x,y].toArray }) z TI TO .ellipsis:=gV _ hz5;exact KW (zaM hz6 #[] λ g7 hz7 e7=>?_);replace hz7:IsZip g7 z TI TO (rawInt g5.objs.size):=hz7;exact zaM hz7 #[] λ g8 JZ e8=>?_;replace JZ:IsZip g8 z TI TO (rawInt g5.objs.size):=JZ;have up8:∀ c o,c≠z->(g5.push { cls:=.type "tuple",data:=.seq [x,y].toArray }).get? c=↑o->g8.get? c=↑o:=λ c o c1 q=>e8.extBut _ _ c1 (e7.extBut _ _ c1 q);have T8:IsPair g8 g5.objs.size x y:=up8 _ _ (BW lz) (AM _ rfl);have Jf:∀ c o,c≠z->g5.get? c=↑o->g8.get? c=↑o:=λ c o c1 q=>up8 c o c1 (gV _ q);rw[sz] at JZ T8;exact Ad #[.ref g5.objs.size,rfl,Ad ?_];change Q ↑(.ref g5.objs.size) _;rw[sz];exact hQ g8 #[JZ,Jf _ _ (Ne.symm n1) ti5,#[x,y,Jf _ _ (Ne.symm n2) JT],s15.on λ o q=>Jf _ o (Ne.symm n3) q,s25.on λ o q=>Jf _ o (Ne.symm n4) q] T8 λ c o hc q=>Jf c o (λ e=>hc (by simp[e])) (up5 c o hc q)
def stop {k1 k2:Bool}{z TI TO i1 i2 l1 l2:Addr}{n:Nat}{xs ys:Aw}{Q:Option Value->Shared->Prop}(hh:A.handled=none) (D:jf z TI TO i1 i2 l1 l2) (S:At s.heap k1 k2 z TI TO i1 i2 l1 l2 .none n)
  (h1:SQ s.heap k1 l1 xs) (h2:SQ s.heap k2 l2 ys) (BC:xs[n]?=none\/ys[n]?=none)
  (hQ:∀ h',(∀ c o,c∉[z,TI,TO,i1,i2]->s.heap.get? c=↑o->h'.get? c=↑o)->Q none { s with heap:=h' }):
  wpAny (model prog w) A (pyNext (.ref z)) Q E s:=by
 let#[nd,f1,f2]:=D;simp![BG,Am,AZ,or_false,not_or,List.nodup_nil,and_true,not_false_eq_true] at nd f1 f2;let#[#[n1,n2,n3,n4],#[n5,n6,n7],#[n8,n9],JX]:=nd;let#[a1,a2,a3,a4,a5]:=f1;let#[b1,b2,b3,b4,b5]:=f2;let#[hz,CY,#[a,b,Et],s1,s2]:=S;have hT:s.TypeIs (.ref z) "zip":=#[_,hz,rfl];have fin:∀ (h':Heap) (e:Addr),(∀ c o,c∉[z,TI,TO,i1,i2]->s.heap.get? c=↑o->h'.get? c=↑o)->(∃ o,h'.get? e=↑o/\o.cls=.type "StopIteration")->
   wpAny (model prog w) A (do if <- isInstance (.ref e) (.type "StopIteration") then pure none else throw (.ref e)) Q E { s with heap:=h' }:=λ h' e k1 k2=>by
  let#[o,ho,hc]:=k2;show KW (wpAny_isInstance (T:="StopIteration") (b:=true) #[o,ho,hc] isSubtype_stop (Ad (hQ _ k1)))
 unfold pyNext;exact KW (wpAny_attempt (zaH (name:=Str.ofString "__next__") hT F.slot_zip_next (zaB F.slot_zip_next hT F.entry_zip_next ?_ (F.args_zip_next_1 _))));exact KW (m:=field (.ref z) 2) (za4 hz rfl (x:=.bool false) rfl ?_);exact KW (m:=field (.ref z) 3) (za4 hz rfl (x:=.ref TI) rfl ?_);exact KW (m:=seqItems? (.ref TI)) (zaF CY rfl ?_);exact KW (m:=Builtin.SmallTypes.ownedTupleIsFree (.ref z)) (KW (m:=field (.ref z) 0) (za4 hz rfl (x:=.none) rfl (Ad ?_)));simp![if_true];exact KW (wpAny_rule (KW (za4 hz rfl (x:=.ref TO) rfl (KW (zaM hz #[] λ g1 H_ e1=>?_)))));replace H_:IsZip g1 z TI TO .ellipsis:=H_;exact KW ?_;simp![DL,List.zipIdx_nil,DZ,List.forIn_nil];cases hx:xs[n]? with
 | none=>
  exact KW (KW (wpAny_onRaise (KW (m:=Builtin.SmallTypes.nextOf (.ref i1)) (kx hh (s1.on λ o q=>e1.extBut _ _ (Ne.symm n3) q) (h1.on λ o q=>e1.extBut _ _ a1 q) hx λ g2 ex e2 he=>?_))));have hz2:IsZip g2 z TI TO .ellipsis:=e2 _ _ n3 H_;let#[oe,q1,q2]:=he;have ne:ex≠z:=λ q=>by subst q;rw[hz2] at q1;cases q1;simp at q2
  exact zaM hz2 #[] λ g3 _ e3=>fin g3 ex (λ c o hc q=>?_) #[oe,e3.extBut _ _ ne q1,q2];simp![Am,AZ,or_false,not_or] at hc;show e3.extBut _ _ hc.1 (e2 _ _ hc.2.2.2.1 (e1.extBut _ _ hc.1 q))
 | some x=>
  have hy:ys[n]?=none:=BC.resolve_left (by rw[hx];simp);exact KW (KW (wpAny_onRaise (KW (m:=Builtin.SmallTypes.nextOf (.ref i1)) (draw (s1.on λ o q=>e1.extBut _ _ (Ne.symm n3) q) (h1.on λ o q=>e1.extBut _ _ a1 q) hx λ g2 s12 e2=>Ad ?_))));have to2:IsPair g2 TO a b:=e2.extBut _ _ n8 (e1.extBut _ _ (Ne.symm n2) Et);exact KW (zaF to2 rfl (KW (wpAny_updateSeq_pair to2 λ g3 to3 e3=>KW (wpAny_letGo (Ad ?_)))));have up:∀ c o,c≠z->c≠i1->c≠TO->s.heap.get? c=↑o->g3.get? c=↑o:=λ c o c1 c2 c3 q=>e3.extBut _ _ c3 (e2.extBut _ _ c2 (e1.extBut _ _ c1 q));exact KW (KW (wpAny_onRaise (KW (m:=Builtin.SmallTypes.nextOf (.ref i2)) (kx hh (s2.on λ o q=>up _ o (Ne.symm n4) (Ne.symm JX) (Ne.symm n9) q) (h2.on λ o q=>up _ o b1 b4 b3 q) hy λ g4 ex e4 he=>?_))));have hz4:IsZip g4 z TI TO .ellipsis:=e4 _ _ n4 (e3.extBut _ _ n2 (e2.extBut _ _ n3 H_));let#[oe,q1,q2]:=he;have ne:ex≠z:=λ q=>by subst q;rw[hz4] at q1;cases q1;simp at q2
  exact zaM hz4 #[] λ g5 _ e5=>fin g5 ex (λ c o hc q=>?_) #[oe,e5.extBut _ _ ne q1,q2];simp![Am,AZ,or_false,not_or] at hc;show e5.extBut _ _ hc.1 (e4 _ _ hc.2.2.2.2 (up c o hc.1 hc.2.2.2.1 hc.2.2.1 q))
end
abbrev vC (k:Bool) (l:Addr):Obj:={ cls:=.type (iK k),data:=.fields [.ref l,.int 0 0].toArray }
abbrev pN (k1 k2:Bool) (h:Heap) (l1 l2:Addr):Heap:=(h.push (vC k1 l1)).push (vC k2 l2)
abbrev kd (k1 k2:Bool) (h:Heap) (l1 l2:Addr):Heap:=(pN k1 k2 h l1 l2).push { cls:=.type "tuple",data:=.seq [.ref h.objs.size,.ref (h.push (vC k1 l1)).objs.size].toArray }
abbrev kc (k1 k2:Bool) (h:Heap) (l1 l2:Addr):Heap:=(kd k1 k2 h l1 l2).push { cls:=.type "tuple",data:=.seq [.none,.none].toArray }
abbrev pM (k1 k2:Bool) (h:Heap) (l1 l2:Addr):Heap:=(kc k1 k2 h l1 l2).push { cls:=.type "zip",data:=.fields [.none,.bool false,.bool false,.ref (pN k1 k2 h l1 l2).objs.size,.ref (kd k1 k2 h l1 l2).objs.size].toArray }
def O2 (k1 k2:Bool) (l1 l2:Addr) (xs ys:Aw):Meets (Builtin.«zip.__new__» #[[.type "zip",.ref l1,.ref l2],[]]) (λ _ R s=>SQ s.heap k1 l1 xs/\SQ s.heap k2 l2 ys/\
   R (.ok (.ret (.ref (kc k1 k2 s.heap l1 l2).objs.size))) { s with heap:=pM k1 k2 s.heap l1 l2 }):=
 .of_wp λ prog w A R s h=>by
  let#[hp,g,d,tk,os]:=s;let#[q1,q2,h]:=h;have Eu:=sub_zip;have m1:SQ (Shared.heap #[hp,g,d,tk,os]) k1 l1 xs:=q1;have m2:SQ (Shared.heap #[hp.push (vC k1 l1),g,d,tk,os]) k2 l2 ys:=q2.on λ o e=>gV _ e
  wp_walk using made m1,made m2
  show#[_,rfl,h]
section
variable {prog:Program}{w:World}{A:Around}{E:Af}{s:Shared}
def new {k1 k2:Bool}{l1 l2:Addr}{xs ys:Aw}{Q:Af}(h1:SQ s.heap k1 l1 xs) (h2:SQ s.heap k2 l2 ys)
  (h:∀ h' z TI TO i1 i2,(∀ b∈[z,TI,TO,i1,i2],s.heap.objs.size<=b)->jf z TI TO i1 i2 l1 l2->At h' k1 k2 z TI TO i1 i2 l1 l2 .none 0->(∀ c o,s.heap.get? c=↑o->h'.get? c=↑o)->Q (.ref z) { s with heap:=h' }):
  wpAny (model prog w) A (call (.type "zip") [.ref l1,.ref l2]) Q E s:=by
 exact callType_new F.called_zip () (F.typeCall_zip_2 _ _) (F.newCall_zip_2 _ _) (λ obj=>F.args_object_init_3 obj _ _) F.entry_zip_new (O2 k1 k2 l1 l2 xs ys) #[h1,h2,?_];have z1:(s.heap.push (vC k1 l1)).objs.size=s.heap.objs.size+1:=Heap.size_push ..;have z2:(pN k1 k2 s.heap l1 l2).objs.size=s.heap.objs.size+2:=by rw[Heap.size_push,z1]
 have z3:(kd k1 k2 s.heap l1 l2).objs.size=s.heap.objs.size+3:=by rw[Heap.size_push,z2]
 have z4:(kc k1 k2 s.heap l1 l2).objs.size=s.heap.objs.size+4:=by rw[Heap.size_push,z3]
 have p1:∀ (h:Heap) (o:Obj),o.isFreed=false->(h.push o).get? h.objs.size=↑o:=λ h o e=>AM _ e;have u:∀ {h:Heap}{b:Addr}{o:Obj}(o':Obj),h.get? b=↑o->(h.push o').get? b=↑o:=λ o' e=>gV _ e;have g5:(pM k1 k2 s.heap l1 l2).get? (kc k1 k2 s.heap l1 l2).objs.size=↑_:=p1 _ _ rfl;have g4:(pM k1 k2 s.heap l1 l2).get? (kd k1 k2 s.heap l1 l2).objs.size=↑_:=u _ (p1 _ _ rfl);have g3:(pM k1 k2 s.heap l1 l2).get? (pN k1 k2 s.heap l1 l2).objs.size=↑_:=u _ (u _ (p1 _ _ rfl));have g2:(pM k1 k2 s.heap l1 l2).get? (s.heap.push (vC k1 l1)).objs.size=↑(vC k2 l2):=u _ (u _ (u _ (p1 _ _ rfl)));have g1:(pM k1 k2 s.heap l1 l2).get? s.heap.objs.size=↑(vC k1 l1):=u _ (u _ (u _ (u _ (p1 _ _ rfl))));have a1:=h1.lt;have a2:=h2.lt;rw[z2,z3,z4] at g5;rw[z1,z2] at g3;rw[z3] at g4;rw[z1] at g2;generalize hN:s.heap.objs.size=N at *;have lt:∀ {m:Nat},m<N->∀ j:Nat,¬ m=N+j:=λ hm j=>⋯;have ne:∀ {i j:Nat},i≠j->¬ (N+i=N+j):=λ A7 e=>A7 ⋯;change _/\_;rw[z4];exact#[#[_,g5,rfl],h _ (N+4) (N+2) (N+3) N (N+1) (λ b hb=>?_) #[?_,?_,?_] #[g5,g3,#[_,_,g4],#[_,g1,rfl,rfl],#[_,g2,rfl,rfl]] λ c o e=>u _ (u _ (u _ (u _ (u _ e))))]
 .simp![Am,AZ,or_false] at hb;have h0:N<=N:=Ak N;rcases hb with e | e | e | e | e <;> subst e
  .show CN N 4
  .show CN N 2
  .show CN N 3
  .show h0
  .show CN N 1
 .have e0:∀ {i:Nat},i≠0->¬ (N+i=N):=λ hi e=>hi ⋯;have e0':∀ {i:Nat},i≠0->¬ (N=N+i):=λ hi e=>hi ⋯;simp![BG,Am,AZ,or_false,not_or,List.nodup_nil,and_true,not_false_eq_true];show#[#[ne (),ne (),e0 (),ne ()],#[ne (),e0 (),ne ()],#[e0 (),ne ()],e0' ()]
 .simp![Am,AZ,or_false,not_or];show#[lt a1 4,lt a1 2,lt a1 3,AB a1,lt a1 1]
 .simp![Am,AZ,or_false,not_or];show#[lt a2 4,lt a2 2,lt a2 3,AB a2,lt a2 1]
end
end ZP
namespace L2
open PySem PySem.Spec PyProof.Rows ZP
section
variable {X:Cx}{E6:Ai}{Y:St}{H:Hp}{s:Shared}
def Inv.lj {h':Heap}{t':Nat}{fp:List Addr}(I:Inv X E6 Y H s) (k:∀ b o,b∉fp->s.heap.get? b=↑o->h'.get? b=↑o) (hf:∀ b∈fp,vT X E6 H b):Inv X E6 Y H { s with heap:=h',toks:=t' }:=by
 have Jp:∀ b u,H b=↑u->b∉fp:=λ b u e z=>by rw[(hf b z).1] at e;cases e
 exact I.step (g':=s.gens) (d':=s.drawn) (ch:=fp) (λ b hb=>?_) (λ b o _ _ hc e _=>k b o hc e) (λ b o _ _ hc e _=>#[o.slots,k b o hc e]) (λ _ _ _ _ n=>n)
  (λ b o hc e=>#[o,k b o hc e]) (λ _ _ e=>e) (λ _ _ _ e=>e) (λ b ps e=>#[[].toArray,by rw[e];simp]) (λ m hm=>?_) (λ b u e=>?_) I.bare
 .let#[_,q1,_,q2,q3,q4]:=hf b hb;show#[q2,q1,q3,q4]
 .let#[o,es,ep,ho,r]:=hm;show#[o,es,ep,k _ o (λ z=>(hf _ z).2.1 rfl) ho,r]
 .exact (I.zp b u e).vm (λ c v hc q=>k c v ?_ q) (λ _ q=>q) λ _ _ q=>q;rcases hc with z | z
  .rw[z];show Jp b u e
  .show Jp c _ z
def we (K:Ac) (H:Hp) (k:Bool) (a:Addr) (xs:List V):Prop:=match k with
 | true=>zW K H a xs
 | false=>zO K H a xs
def we.of (I:Inv X E6 Y H s) {k:Bool}{a:Addr}{xs:List V}(h:we X.K H k a xs):∃ Aa:List Value,Vals xs Aa/\SQ s.heap k a Aa.toArray:=by
 cases k with
 | true=>let#[Aa,rv,p,_]:=I.tuple h;show#[Aa,rv,p]
 | false=>let#[Aa,rv,p,_]:=I.list h;show#[Aa,rv,p.isList]
def we.inj (I:Inv X E6 Y H s) {k:Bool}{a:Addr}{xs ys:List V}(h:we X.K H k a xs) (h':we X.K H k a ys):xs=ys:=by
 cases k with
 | true=>show I.j9 h h'
 | false=>show I.iC h h'
def Yo (K:Ac) (k1 k2:Bool) (a1 a2:Addr):It:=
 #[λ i H=>∃ xs ys x y,we K H k1 a1 xs/\we K H k2 a2 ys/\xs[i]?=↑x/\ys[i]?=↑y,
   λ i H v H'=>∃ p x y,v=.ref p/\H p=none/\H'=upd H p (.tup [x,y])/\(∀ xs,we K H k1 a1 xs->xs[i]?=↑x)/\∀ ys,we K H k2 a2 ys->ys[i]?=↑y,
   λ i H=>∃ xs ys,we K H k1 a1 xs/\we K H k2 a2 ys/\(xs.length<=i\/ys.length<=i)]
def Wr {P:Program}{w:World}{K:Ac}{es:List Expr}{kk} {pos:Pos}{k1 k2:Bool}{z TI TO i1 i2 a1 a2:Addr}(D:jf z TI TO i1 i2 a1 a2):
  Turn P w K (.Tuple es kk pos) (Yo K k1 k2 a1 a2) [z,TI,TO,i1,i2] z (λ i h=>At h k1 k2 z TI TO i1 i2 a1 a2 .none i) where
 mem:=#[]
 obj:=λ i h st b hb=>by
  let#[q1,q2,#[_,_,q3],#[o1,q4,_,d1],#[o2,q5,_,d2]]:=st;simp![Am,AZ,or_false] at hb;rcases hb with e | e | e | e | e <;> subst e
  .show#[_,q1,λ v z=>by cases z]
  .show#[_,q2,λ v z=>by cases z]
  .show#[_,q3,λ v z=>by cases z]
  .show#[_,q4,λ v z=>by rw[d1] at z;cases z]
  .show#[_,q5,λ v z=>by rw[d2] at z;cases z]
 keep:=λ i h h' st k=>st.keep k
 item:=by
  intro X hP hw hK hc i E6 s Y H E I hf st hg;subst hP hw hK;let#[xs,ys,x,y,g1,g2,hx,hy]:=hg;let#[it1,rv1,q1]:=g1.of I;let#[it2,Iu,q2]:=g2.of I;let#[u1,e1,r1]:=rv1.get hx;let#[u2,e2,r2]:=Iu.get hy;exact ZP.item D st q1 q2 (x:=u1) (y:=u2) (by exists e1) (by exists e2) λ h' S' T' up=>#[_,rfl,?_];exact wpAny_letOwnedTupleGo_zip S'.z λ h2 z2 sb=>?_;have nT:s.heap.objs.size∉[z,TI,TO,i1,i2]:=λ hb=>by
   let#[o,ho,_]:=(show ∃ o,s.heap.get? s.heap.objs.size=↑o/\True from by
    let#[w1,w2,#[_,_,w3],#[o1,w4,_],#[o2,w5,_]]:=st;simp![Am,AZ,or_false] at hb;rcases hb with e | e | e | e | e <;> rw[e]
    .show#[_,w1,trivial]
    .show#[_,w2,trivial]
    .show#[_,w3,trivial]
    .show#[_,w4,trivial]
    .show#[_,w5,trivial])
   show absurd (Ap ho) (Ca _)
  have nz:s.heap.objs.size≠z:=λ e=>nT (by simp[e]);have fr:H s.heap.objs.size=none:=I.zp.fresh (Ak _);have I1:Inv X E6 Y (upd H s.heap.objs.size (.tup [x,y])) { s with heap:=s.heap.push { cls:=.type "tuple",data:=.seq [u1,u2].toArray },toks:=s.toks }:=
   I.laid (o:=.tup [x,y]) (λ b u q=>gV _ q) (Ak _) #[#[by change 2<=sizeLine;decide,.new _],[u1,u2],.cons r1 (.cons r2 .nil),IsTup.new _ _]
  have Ho:∀ b∈[z,TI,TO,i1,i2],upd H s.heap.objs.size (.tup [x,y]) b=none:=λ b hb=>by
   rw[zI (λ e=>nT (by rw[<- e];show hb))];show (hf b hb).1
  have kk:∀ b o,b∉[z,TI,TO,i1,i2]->(s.heap.push { cls:=.type "tuple",data:=.seq [u1,u2].toArray }).get? b=↑o->h2.get? b=↑o:=λ b o hb q=>by
   have hbz:b≠z:=λ e=>hb (by simp[e]);by_cases DG:b=s.heap.objs.size
   .subst DG;rw[AM _ rfl] at q;cases q;show sb.extBut _ _ nz T'
   .have q':s.heap.get? b=↑o:=by rw[Heap.get?_push_ne _ _ _ DG] at q;show q
    show sb.extBut _ _ hbz (up b o hb q')
  have I2:=Inv.lj (h':=h2) (t':=s.toks) (fp:=[z,TI,TO,i1,i2]) I1 kk λ b hb=>#[Ho b hb,(hf b hb).2];exact#[.ref s.heap.objs.size,_,I2,rfl,#[_,x,y,rfl,fr,rfl,λ zs hz=>by rw[hz.inj I g1];show hx,λ zs hz=>by rw[hz.inj I g2];show hy],#[z2,?_,?_,?_,?_],Ho]
  .have nd:=D.nd;simp![BG,Am,AZ,or_false,not_or] at nd;show sb.extBut _ _ (Ne.symm nd.1.1) S'.ti
  .let#[a,b,e]:=S'.to;have nd:=D.nd;simp![BG,Am,AZ,or_false,not_or] at nd;show#[a,b,sb.extBut _ _ (Ne.symm nd.1.2.1) e]
  .have nd:=D.nd;simp![BG,Am,AZ,or_false,not_or] at nd;show S'.s1.on λ o q=>sb.extBut _ _ (Ne.symm nd.1.2.2.1) q
  .have nd:=D.nd;simp![BG,Am,AZ,or_false,not_or] at nd;show S'.s2.on λ o q=>sb.extBut _ _ (Ne.symm nd.1.2.2.2) q
 done:=by
  intro X hP hw hK hc i E6 s Y H E I hf st hg;subst hP hw hK;let#[xs,ys,g1,g2,hx]:=hg;let#[it1,rv1,q1]:=g1.of I;let#[it2,Iu,q2]:=g2.of I;have l1:=rv1.length;have l2:=Iu.length;exact ZP.stop (I.ok.hd hc) D st q1 q2 ?_ λ h' up=>#[rfl,I.lj (t':=s.toks) up hf];rcases hx with hx | hx
  .show .inl (by simp;lia)
  .show .inr (by simp;lia)
 self:=λ _ _ _ _ _ st h=>wpAny_pyIter_zip st.z h
def N8 (K:Ac) (ta:TA):TI:=fun Y H R=>ta Y H λ vs H1=>∃ a1 a2 k1 k2,vs=[.ref a1,.ref a2]/\(∃ xs,we K H1 k1 a1 xs)/\(∃ ys,we K H1 k2 a2 ys)/\R (Yo K k1 k2 a1 a2) H1
theorem Uk {a b:Expr}{ta:TA}{p pos pos':Pos}{es:List Expr}{kk} (hg:Gl X "zip") (hm:X.mg "zip"=none) (ha:PA X [a,b] ta) (hs:starEach [a,b] X.env=[(false,eval a X.env),(false,eval b X.env)]:=by rfl) (IB:starEach [b] X.env=[(false,eval b X.env)]:=by rfl):
  PI X (.Tuple es kk pos') (.Call (.Name "zip" p) [a,b] [] pos) (N8 X.K ta):=by
 intro E6 s Y H R I h;exact Call_ (pF I hg hm boot_zip (PyProof.Rows.callWith_type1 (zu (ha pos E6 s Y H _ I h) λ us s1 #[vs,H1,I1,r1,q1]=>?_) (by rw[hs,IB]) (by rw[IB];rfl)));let#[a1,a2,k1,k2,rfl,#[xs,g1],#[ys,g2],q]:=q1;cases r1 with
 | cons r rr=>
  cases rr with
  | cons r' rr=>
   cases rr;cases r;cases r';let#[it1,_,q1]:=g1.of I1;let#[it2,_,q2]:=g2.of I1;exact ZP.new q1 q2 λ h' z TI TO i1 i2 nw D S up=>wpAny_pyIter_zip S.z ?_;show#[z,[z,TI,TO,i1,i2],_,_,H1,rfl,I1.kept (t':=s1.toks) up,Wr D,S,λ b hb=>I1.kg (nw b hb) (I1.zp.fresh (nw b hb)),q]
end
end L2
namespace L5
open PySem PySem.Spec L2 L3
open PyProof.Rows hiding St
section
variable {K:Ac}{a:Expr}{p:Pos}
def bH (t:yh):wC:=fun L S R=>t L S λ ds S1=>∃ d e xs ys,ds=[d,e]/\zM d S1=↑xs/\zM e S1=↑ys/\R #[List.zipWith (λ x y=>D.tup [x,y]) xs ys,λ S=>zM d S=↑xs/\zM e S=↑ys] S1
def nr:D->Bool
 | .tup _=>true
 | _=>false
def zM.k {H:Hp}{S:SS}{d:D}{v:V}{ds:List D}(r:ze K H d v) (p:zE K H S) (e:zM d S=↑ds):∃ a xs,v=.ref a/\we K H (nr d) a xs/\zk K H ds xs:=by
 by_cases q:∃ ts,d=.tup ts
 .let#[ts,rfl]:=q;cases e;simp![ze] at r;let#[a,xs,h1,h2,h3]:=r;show#[a,xs,h1,h2,h3]
 .let#[a,xs,h1,h2,h3]:=sQ r p e λ ts z=>q #[ts,z];exact#[a,xs,h1,?_,h3];have:nr d=false:=by cases d <;> first | rfl | show absurd #[_,rfl] q
  rw[this];show h2
end
section
variable {X:Cx}{a b:Expr}{tA:yh}{pos p pos':Pos}{es:List Expr}{kk:Nat}
def T9 (hm:X.mg "zip"=none) (ha:xh X [a,b] tA) (hg:Gl X "zip") (hs:starEach [a,b] X.env=[(false,eval a X.env),(false,eval b X.env)]) (IB:starEach [b] X.env=[(false,eval b X.env)]):
  uM X (.Tuple es kk pos') (.Call (.Name "zip" p) [a,b] [] pos) (bH tA):=by
 exact#[fun L S Q Q' hq z=>ha.mo L S _ _ (λ ds S1 #[d,e,xs,ys,h1,h2,h3,h4]=>#[d,e,xs,ys,h1,h2,h3,hq _ _ h4]) z,PI.imp (Uk hg hm ha.pa hs IB) fun Y H R hu=>?_];let#[L,S,r1,r2,z]:=hu;exact wq.go ha.mo r1 r2 z λ ds S1 vs H1 h1 q1 e1 p1=>?_;let#[d,e,xs,ys,rfl,s1,s2,h]:=h1;let#[v,u,rfl,d1,d2]:=q1.two;let#[a1,us,rfl,g1,g2]:=zM.k d1 p1 s1;let#[a2,ws,rfl,g3,g4]:=zM.k d2 p1 s2;exact#[a1,a2,nr d,nr e,rfl,#[us,g1],#[ws,g3],h _ H1 e1 p1 λ i H2 S2 x1 x2 hk=>?_];let#[b1,Je,q1,m1,m2]:=zM.k (ze.ext x1 d d1) x2 hk.1;cases q1;let#[b2,ws2,q2,m3,m4]:=zM.k (ze.ext x1 e d2) x2 hk.2;cases q2;have l1:=m2.length;have l2:=m4.length;exact#[λ dd hd=>?_,λ hl=>#[Je,ws2,m1,m3,?_]]
 .rw[List.getElem?_zipWith] at hd;split at hd
  .rename_i dx dy hx hy;cases hd;let#[x,Iz,rx]:=m2.get hx;let#[y,hy',ry]:=m4.get hy;exact#[#[Je,ws2,x,y,m1,m3,Iz,hy'],λ v H' q=>?_];let#[pp,x',y',rfl,hp,rfl,f1,f2]:=q;have ex:x'=x:=by have:=f1 _ m1;rw[Iz] at this;show (Bb this).symm
   have ey:y'=y:=by have:=f2 _ m3;rw[hy'] at this;show (Bb this).symm
   subst ex ey;exact#[.new hp _,x2.new hp,?_];simp![ze];show#[pp,_,rfl,zW.of zZ,zk.ext (.new hp _) _ (.cons rx (.cons ry .nil))]
  .cases hd
 .have GV:(List.zipWith (λ x y=>D.tup [x,y]) xs ys).length<=i:=hl;rw[List.length_zipWith] at GV;lia
@[simp] def jv:List T->Option (List T)
 | [x,y]=>(xX x).bind λ xs=>(xX y).map λ ys=>List.zipWith (λ a b=>T.tup [a,b]) xs ys
 | _=>none
theorem dh {S:SS}:∀ {ts us:List T}{ds es:List D},zi S ts ds->zi S us es->zi S (List.zipWith (λ a b=>T.tup [a,b]) ts us) (List.zipWith (λ x y=>D.tup [x,y]) ds es)
 | [],us,ds,es,h,h'=>by simp![zi] at h;subst h;exists zi.nil
 | t::ts,[],ds,es,h,h'=>by simp![zi] at h';subst h';exists zi.nil
 | t::ts,u::us,ds,es,h,h'=>by
  simp![zi] at h h';let#[c,cs,rfl,h1,h2]:=h;let#[c',cs',rfl,h3,h4]:=h';show zi.cons (qe (zi.cons h1 (zi.cons h3 zi.nil))) (dh h2 h4)
def zM.sx {S S':SS}{d:D}{ds:List D}(h:zM d S=↑ds) (s:Sx S S'):zM d S'=↑ds:=by
 unfold zM at h ⊢;split at h
 .show h
 .show h
 .split at h
  .rename_i q;cases h;rw[s _ _ q]
  .cases h
 .cases h
def Qe {g:Ev->Option (List T)}(h:qJ g tA):rH false (wz jv g) (bH tA):=λ S Z L J ts Q hE e hq=>by
 let#[ys,e1,e2]:=An.mp e;exact h S Z L J ys _ hE e1 λ ds S1 s1 r1=>?_;unfold jv at e2;split at e2
 .let#[xs,e3,e4]:=An.mp e2;let#[zs,e5,rfl]:=AK.mp e4;let#[d,d',rfl,h1,h2]:=eF r1;let#[es,g1,g2]:=h1.seq e3;let#[Gi,g3,g4]:=h2.seq e5;show#[d,d',es,Gi,rfl,g1,g3,hq _ S1 s1 (dh g2 g4) λ Ip s=>#[zM.sx g1 s,zM.sx g3 s]]
 .cases e2
theorem zM.zN {S:SS}{Z:Addr->Prop}{y:T}{d:D}{ts:List T}(h:Sn (zN S Z) y d) (e:xX y=↑ts):∃ ds,zM d (zN S Z)=↑ds/\zi (zN S Z) ts ds:=by
 cases y with
 | tup us=>cases e;simp![Sn] at h;let#[ds,rfl,h2]:=h;show#[ds,rfl,h2]
 | lst us=>
  cases e;simp![Sn] at h;obtain⟨ds,⟨rfl,_⟩ | ⟨a,rfl,h1⟩,h2⟩:=h
  .show#[ds,rfl,h2]
  .show#[ds,by unfold zM;dsimp only;rw[h1],h2]
 | _=>cases e
end
end L5
namespace HT
open PySem PyProof.Rows
section
variable {prog:Program}{w:World}{A:Around}{E:Af}{s:Shared}
def MT {t sl:Addr}{items:Aw}{vl vu:Value}{lo hi:Option Int}{Q:Af}(ht:IsTup s.heap t items) (hs:s.heap.IsSliceOf sl vl vu .none) (pl:IsPart vl lo) (pu:IsPart vu hi)
  (hw:zF items.size 0 lo=0/\zF items.size items.size hi=items.size) (h:Q (.ref t) s):wpAny (model prog w) A (getItem (.ref t) (.ref sl)) Q E s:=by
 have hT:=ht.typeIs;let#[os,e1,e2,e3]:=id hs;have hS:s.TypeIs (.ref sl) "slice":=#[os,e1,e2];unfold getItem
 try with_reducible exact za6 ?_
 first | exact KW (Ad ?_) | skip
 exact KW (wpAny_sequenceKey hT () (KW (zaH (name:=Str.ofString "__getitem__") hT PyProof.Rows.slot_tuple_getitem (zaB PyProof.Rows.slot_tuple_getitem hT entry_tuple_getitem ?_ (args_tuple_getitem _ _)))));exact KW (m:=Builtin.Tuple.tupleItemsOf (.ref t)) (tupleItemsOf_ ht (KW (zaI hS ?_)));rw[if_pos ()];exact KW (du hs pl pu ?_);have yes:(((zF items.size 0 lo:Nat):Int) == 0&&(1:Int) == 1&&(zF items.size items.size hi-zF items.size 0 lo) == items.size)=true:=by rw[hw.1,hw.2];simp
 change wpAny _ _ (if (((zF items.size 0 lo:Nat):Int) == 0&&(1:Int) == 1&&(zF items.size items.size hi-zF items.size 0 lo) == items.size)=true then _ else _) _ _ s;rw[if_pos yes];exact KW (m:=Builtin.Tuple.tupleIsExact (.ref t)) (KW (zaI hT (Ad ?_)));rw[if_pos ()]
 first
  | show KW (wpAny_rule (Ad #[_,rfl,Ad h]))
  | show KW (wpAny_rule (KW (Ad (Ad #[_,rfl,Ad h]))))
end
end HT
namespace L2
open PySem PySem.Spec PyProof.Rows
section
variable {X:Cx}
def dR (K:Ac):V->Option Int->Option Int->Hp->VK->Prop:=λ x lo hi H Q=>∃ a xs,x=.ref a/\zW K H a xs/\(HT.zF xs.length 0 lo=0/\HT.zF xs.length xs.length hi=xs.length)/\Q (.ref a) H
theorem Vk:rB X (dR X.K):=by
 intro E6 s Y H x v vl vu lo hi sl Q I rx hs pl pu h;let#[a,xs,rfl,hx,hw,q]:=h;cases rx;let#[Aa,r,ht,hz]:=I.tuple hx;have hlen:Aa.toArray.size=xs.length:=by rw[AE];show r.length.symm
 show#["tuple",_,PyProof.Rows.slot_tuple_getitem.lookup,ht.typeIs,HT.MT ht hs pl pu (by rw[hlen];show hw) #[.ref a,H,I,rfl,q]]
end
end L2
namespace L5
open PySem PySem.Spec L2 L3
open PyProof.Rows hiding St
def uJ {α:Type}(xs:List α) (lo hi:Option Int):List α:=(xs.drop (HT.zF xs.length 0 lo)).take (HT.zF xs.length xs.length hi-HT.zF xs.length 0 lo)
section
variable {X:Cx}{K:Ac}{e:Expr}{lo hi:Option Expr}{te:zr}{tl th:Option zr}{pos p2:Pos}
def uH (t:Option zr):z_->SS->(Option Int->SS->Prop)->Prop:=fun L S Q=>match t with
 | none=>Q none S
 | some t=>t L S λ d S1=>match d with
  | .int i=>Q ↑i S1
  | _=>False
def Ym (t:Option zr):Prop:=∀ u,t=↑u->yi u
def uH.mo (h:Ym tl):∀ L S (Q Q':Option Int->SS->Prop),(∀ d S',Q d S'->Q' d S')->uH tl L S Q->uH tl L S Q':=fun L S Q Q' hq z=>by
 cases tl with
 | none=>show hq _ _ z
 | some t=>show h t rfl L S _ _ (λ d S1 z=>by cases d <;> first | show hq _ _ z | show z) z
def Wi (K:Ac) (t:Option zr):TO:=fun Y H Q=>∃ L S,yu K H L Y/\zE K H S/\uH t L S λ o S1=>∀ H1,Ext H H1->zE K H1 S1->Q o H1
structure kU (X:Cx) (e:Option Expr) (t:Option zr):Prop where
 mo:Ym t
 po:PO X e (Wi X.K t)
def T7:kU X none none:=#[nofun,λ E6 s Y H Q I h=>by
 let#[L,S,r1,r2,z]:=h;show Ud E6 s Y H Q I (z H (.refl H) r2)]
def T6 (h:PD X e te):kU X ↑e ↑te:=#[λ u q=>by cases q;show h.mo,λ E6 s Y H Q I hu=>by
 exact Uc h.pe E6 s Y H Q I ?_;let#[L,S,r1,r2,z]:=hu;exact zJ.go h.mo r1 r2 z λ d S1 v H1 h1 q1 e1 p1=>?_;cases d with
 | int i=>simp![ze] at q1;show#[i,q1,h1 H1 e1 p1]
 | zh=>show h1.elim
 | bl _=>show h1.elim
 | str _=>show h1.elim
 | err _ _ _=>show h1.elim
 | tup _=>show h1.elim
 | xI _=>show h1.elim
 | ref _=>show h1.elim]
def uF (d:D) (lo hi:Option Int) (S:SS) (Q:DK):Prop:=match d with
 | .tup ds=>Q (.tup (uJ ds lo hi)) S
 | d=>∃ ds,zM d S=↑ds/\∀ p,S p=none->Q (.ref p) (ups S p (.lst (uJ ds lo hi)))
def uF.mo {d:D}{lo hi:Option Int}{S:SS}{Q Q':DK}(hq:∀ d S',Q d S'->Q' d S') (h:uF d lo hi S Q):uF d lo hi S Q':=by
 unfold uF at h ⊢;split at h
 .show hq _ _ h
 .let#[ds,h1,h2]:=h;show#[ds,h1,λ p hp=>hq _ _ (h2 p hp)]
def zk.cut {H:Hp}{ds:List D}{xs:List V}(h:zk K H ds xs) (lo hi:Option Int):zk K H (uJ ds lo hi) (t4 xs lo hi):=by
 have hd:∀ {ds:List D}{xs:List V}(n:Nat),zk K H ds xs->zk K H (ds.drop n) (xs.drop n):=by
  intro ds
  induction ds with
  | nil=>intro xs n h;simp![zk] at h;subst h;exists zk.nil
  | cons d ds ih=>
   intro xs n h;simp![zk] at h;let#[y,ys,rfl,h1,h2]:=h;cases n with
   | zero=>show .cons h1 h2
   | succ n=>show ih n h2
 have ht:∀ {ds:List D}{xs:List V}(n:Nat),zk K H ds xs->zk K H (ds.take n) (xs.take n):=by
  intro ds
  induction ds with
  | nil=>intro xs n h;simp![zk] at h;subst h;exists zk.nil
  | cons d ds ih=>
   intro xs n h;simp![zk] at h;let#[y,ys,rfl,h1,h2]:=h;cases n with
   | zero=>show .nil
   | succ n=>show .cons h1 (ih n h2)
 unfold uJ t4;rw[h.length];show ht _ (hd _ h)
def MU {xs:List V}{lo hi:Option Int}(h:HT.zF xs.length 0 lo=0/\HT.zF xs.length xs.length hi=xs.length):t4 xs lo hi=xs:=by
 unfold t4;rw[h.1,h.2];simp
abbrev VB (K:Ac):V->Option Int->Option Int->Hp->VK->Prop:=λ x lo hi H Q=>dU K x lo hi H Q\/(dS K x lo hi H Q\/dR K x lo hi H Q)
theorem uF.fits {d:D}{v:V}{lo hi:Option Int}{H:Hp}{S:SS}{Q:VK}(h1:ze K H d v) (h2:zE K H S) (h:uF d lo hi S (xS K H Q)):VB K v lo hi H Q:=by
 unfold uF at h;split at h
 .simp![ze] at h1;let#[a,xs,rfl,g1,g2]:=h1;by_cases hw:HT.zF xs.length 0 lo=0/\HT.zF xs.length xs.length hi=xs.length
  .exact .inr (.inr #[a,xs,rfl,g1,hw,h _ H ?_ (.refl H) h2]);simp![ze];exact#[a,xs,rfl,g1,?_];have:=zk.cut g2 lo hi;rw[MU hw] at this;show this
  .exact .inr (.inl #[a,xs,rfl,g1,hw,λ p hp=>h _ _ ?_ (.new hp _) (h2.new hp)]);simp![ze];show#[p,_,rfl,zW.of zZ,zk.ext (.new hp _) _ (zk.cut g2 lo hi)]
 .rename_i hn;let#[ds,e,h]:=h;let#[a,xs,rfl,g1,g2]:=sQ h1 h2 e (λ ts z=>hn ts z);show .inl #[a,xs,rfl,g1,λ p hp=>h p (h2.none hp) _ _ (by simp![ze]) (.new hp _) (h2.ups (.new hp _) #[_,zZ,zk.ext (.new hp _) _ (zk.cut g2 lo hi)])]
def Zj (te:zr) (tl th:Option zr):zr:=fun L S Q=>te L S λ x S1=>uH tl L S1 λ l S2=>uH th L S2 λ u S3=>uF x l u S3 Q
def Si (he:PD X e te) (hl:kU X lo tl) (hh:kU X hi th):PD X (.Subscript e (.Slice lo hi none p2) pos) (Zj te tl th):=by
 exact#[fun L S Q Q' hq z=>he.mo L S _ _ (λ x S1 z=>uH.mo hl.mo L S1 _ _ (λ l S2 z=>uH.mo hh.mo L S2 _ _ (λ u S3 z=>uF.mo hq z) z) z) z,
  PE.imp (U4 (Vm.or (Vl.or Vk)) he.pe hl.po hh.po) fun Y H Q hu=>?_]
 let#[L,S,r1,r2,z]:=hu;exact zJ.go he.mo r1 r2 z λ x S1 v H1 h1 q1 e1 p1=>?_;exact#[L,S1,r1.ext e1,p1,uH.mo hl.mo L S1 _ _ (λ l S2 h2 H2 e2 p2=>?_) h1];exact#[L,S2,(r1.ext e1).ext e2,p2,uH.mo hh.mo L S2 _ _ (λ u S3 h3 H3 e3 p3=>?_) h2];show uF.fits (ze.ext (e2.trans e3) x q1) p3 (uF.mo (λ d S' z=>z.ext ((e1.trans e2).trans e3)) h3)
@[simp] def gS:Option (Ev->Option T)->Ev->Option (Option Int)
 | none,_=>↑none
 | some f,J=>(f J).bind λ x=>match x with
  | .int i=>↑↑i
  | _=>none
def ja (f:Option (Ev->Option T)) (t:Option zr):Prop:=∀ S Z L J y Q,ER S Z L J->gS f J=↑y->(∀ S',Sx S S'->Q y S')->uH t L S Q
def Qu:ja none none:=λ S Z L J y Q hE e hq=>by cases e;show hq S (.refl S)
def Qt {f:Ah}(h:y9 f te):ja ↑f ↑te:=λ S Z L J y Q hE e hq=>by
 let#[x,e1,e2]:=An.mp e;exact h S Z L J x _ hE e1 λ d S1 s1 r1=>?_;split at e2
 .cases e2;cases Vw.int r1;show hq S1 s1
 .cases e2
@[simp] def Zt (lo hi:Option Int):T->Option T
 | .tup ts=>↑(.tup (uJ ts lo hi))
 | .lst ts=>↑(.lst (uJ ts lo hi))
 | _=>none
@[simp] def dv (f:Ah) (lo hi:Option (Ev->Option T)):Ah:=fun J=>(f J).bind λ x=>(gS lo J).bind λ l=>(gS hi J).bind λ u=>Zt l u x
def zi.cut {S:SS}{ts:List T}{ds:List D}(h:zi S ts ds) (lo hi:Option Int):zi S (uJ ts lo hi) (uJ ds lo hi):=by
 unfold uJ;rw[h.len];show zi.take' _ (zi.drop' _ h)
def QC {f:Ah}{l u:Option (Ev->Option T)}(h:y9 f te) (hl:ja l tl) (hu:ja u th):xG (dv f l u) (Zj te tl th):=λ S Z L J y Q hE e hq=>by
 let#[x,e1,e]:=An.mp e;let#[l',e2,e]:=An.mp e;let#[u',e3,e]:=An.mp e;exact h S Z L J x _ hE e1 λ d S1 s1 r1=>?_;exact hl S1 Z L J l' _ (hE.grow s1) e2 λ S2 s2=>?_;exact hu S2 Z L J u' _ (hE.grow (s1.trans s2)) e3 λ S3 s3=>?_;have r3:Vw S3 Z x d:=Vw.grow r1 (s2.trans s3);have hz:=(hE.grow ((s1.trans s2).trans s3)).zd;unfold Zt at e;split at e
 .cases e;let#[ds,rfl,h2]:=r3.tup;show hq _ S3 ((s1.trans s2).trans s3) (Cl.of (λ _=>nofun) (qe (zi.cut h2 _ _)))
 .cases e;let#[ds,h1,h2]:=r3.seq rfl;have key:∃ ds,zM d S3=↑ds/\∀ p,S3 p=none->Q (.ref p) (ups S3 p (.lst (uJ ds l' u'))):=#[ds,h1,λ p hp=>hq _ _ (((s1.trans s2).trans s3).trans (.new hp _)) (Cl.cl ((s1.trans s2).trans s3) (tM hz hp (zi.cut h2 _ _)))];obtain⟨_,q | ⟨a,q,_⟩,_⟩:=r3.lst
  .subst q;show key
  .subst q;show key
 .cases e
end
end L5
namespace TM
open PySem PyProof.Rows
def noFill:fillsNumberSlot (.type "tuple") "mul"=pure false:=
 PySem.fillsNumberSlot_seq (id:="tuple.__mul__") (r:=↑(.builtin "tuple.__rmul__")) F.slot_tuple_mul.lookup (AO) F.slot_tuple_rmul.lookup (AO)
def rep:seqRepeat? (.type "tuple")=pure ↑(.builtin "tuple.__mul__"):=by
 have a:=PySem.seqSlot_of (T:="tuple") (name:="__mul__") (id:="tuple.__mul__") F.slot_tuple_mul.lookup (AO);have b:=PySem.seqSlot_of (T:="tuple") (name:="__rmul__") (id:="tuple.__rmul__") F.slot_tuple_rmul.lookup (AO);unfold seqRepeat?;rw[a,b];rfl
def declines (i:Int) (t:Tok) (l:Addr) (items:Aw) (n:Nat) (dd:Option Addr) (sl:Array (Option Value)):
  Meets (Builtin.«int.__rmul__» #[[.int i t,.ref l],[]]) (λ _ R s=>s.heap.get? l=↑{ cls:=.type "tuple",dict:=dd,data:=.seq items n,slots:=sl }/\R (.ok (.ret Value.notImplemented)) s):=
 .of_wp λ prog w A R s h=>by
  let#[hp,g,d,tk,os]:=s;let#[hl,h]:=h
  wp_walk
  show#[_,rfl,h]
theorem gj {α:Type}(xs:List α):∀ (m:Nat) (acc:Array α),(List.replicate m xs.toArray).foldl (·++·) acc=acc++(List.replicate m xs).flatten.toArray
 | 0,acc=>#[]
 | m+1,acc=>by
  rw[B4,DP,gj xs m,B4,Ck,Ek];simp
def Ov (k:Int) (t:Tok) (l:Addr) (items:Aw) (n:Nat) (dd:Option Addr) (sl:Array (Option Value)) (h1:¬ (decide (k < -(2 ^ 63))||decide (k≥2 ^ 63))=true) (h2:¬ (items.isEmpty||k == 1)=true) (h3:¬ (decide (k<=0)||items.isEmpty)=true)
  (h4:¬ (items.size*k>(2 ^ 63-1)/8)) (h5:¬ Builtin.Tuple.tupleTooMany (items.size*k)=true) (h6:((List.replicate k.toNat items).foldl (·++·) [].toArray).size<=sizeLine):
  Meets (Builtin.«tuple.__mul__» #[[.ref l,.int k t],[]]) (λ _ R s=>s.heap.get? l=↑{ cls:=.type "tuple",dict:=dd,data:=.seq items n,slots:=sl }/\
   R (.ok (.ret (.ref s.heap.objs.size))) { s with heap:=s.heap.push { cls:=.type "tuple",data:=.seq ((List.replicate k.toNat items).foldl (·++·) [].toArray) } }):=
 .of_wp λ prog w A R s h=>by
  let#[hp,g,d,tk,os]:=s;let#[hl,h]:=h;have e0:IsTup (Shared.heap #[hp,g,d,tk,os]) l items:=#[_,hl,rfl,n,rfl]
  wp_walk
  rw[if_neg h1];exact KW (m:=Builtin.Tuple.tupleItemsOf (.ref l)) (tupleItemsOf_ e0 ?_);dsimp only;rw[if_neg h2,if_neg h3,if_neg h4,if_neg h5];show KW (m:=Builtin.Tuple.tupleExact _) (za8 (Ad #[_,rfl,h]) h6)
def Ow (t:Tok) (l:Addr) (items:Aw) (n:Nat) (dd:Option Addr) (sl:Array (Option Value)):
  Meets (Builtin.«tuple.__mul__» #[[.ref l,.int 1 t],[]]) (λ _ R s=>s.heap.get? l=↑{ cls:=.type "tuple",dict:=dd,data:=.seq items n,slots:=sl }/\R (.ok (.ret (.ref l))) s):=
 .of_wp λ prog w A R s h=>by
  let#[hp,g,d,tk,os]:=s;let#[hl,h]:=h;have c:(items.isEmpty||(1:Int) == 1)=true:=#[]
  wp_walk
  show#[_,rfl,h]
section
variable {prog:Program}{w:World}{A:Around}{E:Af}{s:Shared}
def times {l:Addr}{Aa:Ae}{k:Int}{t:Tok}{Q:Af}(ht:IsTup s.heap l Aa.toArray) (Aq:Aa≠[]) (h0:1<=k) (hz:Aa.length*k.toNat<=sizeLine)
  (one:k=1->Q (.ref l) s) (more:k≠1->Q (.ref s.heap.objs.size) { s with heap:=s.heap.push { cls:=.type "tuple",data:=.seq (List.replicate k.toNat Aa).flatten.toArray } }):
  wpAny (model prog w) A (binaryOp .Mult (.ref l) (.int k t)) Q E s:=by
 have hT:=ht.typeIs;let#[#[cls,dd,data,sl],ho,hc,n,hd]:=id ht;simp only at hc hd;subst hc hd;exact wpAny_binaryOp_repeat_ref (T:="tuple") (U:="int") () hT (λ s'=>typeIs_int s' k t) noFill F.fills_int_mul F.slot_int_rmul rep F.slot_int_index.lookup
  (call_meets F.slot_int_rmul (typeIs_int s k t) F.entry_int_rmul (F.args_int_rmul_2 _ _) (declines k t l Aa.toArray n dd sl) #[ho,rfl,hT,?_])
 have hlen:0<Aa.length:=List.length_pos_iff.mpr Aq;have D4:Aa.toArray.isEmpty=false:=by cases Aa with
  | nil=>show absurd rfl Aq
  | cons a r=>rfl
 by_cases h1:k=1
 .subst h1;show call_meets F.slot_tuple_mul hT F.entry_tuple_mul (F.args_tuple_mul_2 _ _) (Ow t l Aa.toArray n dd sl) #[ho,one rfl]
 .have hks:k.toNat<=sizeLine:=Bo (Nat.le_mul_of_pos_left _ hlen) hz;have hl:sizeLine=16777216:=rfl;have hk2:k<=16777216:=⋯;have Ij:((Aa.toArray.size:Nat):Int)*k=((Aa.length*k.toNat:Nat):Int):=by
   rw[AE,Int.natCast_mul,Cw ⋯]
  have hf:(List.replicate k.toNat Aa.toArray).foldl (·++·) [].toArray=(List.replicate k.toNat Aa).flatten.toArray:=by rw[gj];simp
  have EU:(List.replicate k.toNat Aa).flatten.length=k.toNat*Aa.length:=#[];exact call_meets F.slot_tuple_mul hT F.entry_tuple_mul (F.args_tuple_mul_2 _ _) (Ov k t l Aa.toArray n dd sl ?_ ?_ ?_ ?_ ?_ ?_) #[ho,?_]
  .simp![D7,decide_eq_true_eq,not_or];show#[⋯,⋯]
  .rw[D4];exists h1
  .rw[D4];simp;lia
  .rw[Ij];lia
  .rw[Ij];intro q;unfold Builtin.Tuple.tupleTooMany at q;have:=of_decide_eq_true q;lia
  .rw[hf,AE,EU,DU];show hz
  .rw[hf];show more h1
end
end TM
namespace L2
open PySem PySem.Spec PyProof.Rows
def jS (K:Ac):R2:=λ x y H Q=>∃ a k xs,x=.ref a/\y=.int k/\zW K H a xs/\xs≠[]/\1<=k/\xs.length*k.toNat<=sizeLine/\(k=1->Q (.ref a) H)/\(k≠1->∀ p,H p=none->Q (.ref p) (upd H p (.tup (List.replicate k.toNat xs).flatten)))
theorem R5 {X:Cx}:zY X (binaryOp .Mult) (jS X.K):=by
 intro E6 s Y H x y v u Q I rx ry h;let#[a,k,xs,rfl,rfl,hx,Aq,h1,hz,q1,q2]:=h;cases rx;let#[t,rfl]:=ry;let#[Aa,r,ht,_]:=I.tuple hx;have hl:=r.length;exact TM.times ht (λ z=>Aq (r.ng.mp z)) h1 (by rw[<- hl];show hz) (λ e=>#[.ref a,H,I,rfl,q1 e]) λ e=>?_;have hlen:(List.replicate k.toNat xs).flatten.length<=sizeLine:=by
  have:(List.replicate k.toNat xs).flatten.length=k.toNat*xs.length:=#[];rw[this,DU];show hz
 show#[.ref _,_,I.laid (t':=s.toks) (o:=.tup (List.replicate k.toNat xs).flatten) (λ b ob q=>gV _ q) (Ak _) #[#[hlen,.new _],_,r.rep k.toNat,IsTup.new _ _],rfl,q2 e _ (I.zp.fresh (Ak _))]
end L2
namespace L5
open PySem PySem.Spec L2 L3
open PyProof.Rows hiding St
section
variable {K:Ac}{a:Expr}
def tj:yF:=λ x y S Q=>match x,y with
 | .int i,.int j=>wj i j/\Q (.int (i*j)) S
 | .tup ds,.int k=>(ds≠[]/\1<=k/\ds.length*k.toNat<=sizeLine)/\Q (.tup (List.replicate k.toNat ds).flatten) S
 | _,_=>False
def i3:T->T->Option T
 | .int i,.int j=>if wj i j then ↑(.int (i*j)) else none
 | .tup ts,.int k=>if ts≠[]/\1<=k/\ts.length*k.toNat<=sizeLine then ↑(.tup (List.replicate k.toNat ts).flatten) else none
 | _,_=>none
def tj.mo:xw tj:=λ x y S Q Q' hq h=>by
 unfold tj at h ⊢;split at h
 .show#[h.1,hq _ _ h.2]
 .show#[h.1,hq _ _ h.2]
 .show h.elim
theorem zk.rep {H:Hp}{ds:List D}{xs:List V}(h:zk K H ds xs):∀ n:Nat,zk K H (List.replicate n ds).flatten (List.replicate n xs).flatten
 | 0=>.nil
 | n+1=>by
  rw[B4,B4,Ck,Ck];show h.append (zk.rep h n)
def tj.fits:xi K tj (λ x y H Q=>rI wj (λ i j=>.int (i*j)) x y H Q\/jS K x y H Q):=λ x y d e H S Q h1 h2 h3 h=>by
 unfold tj at h;split at h
 .simp![ze] at h1 h2;show .inl #[_,_,h1,h2,h.1,h.2 _ H (by simp![ze]) (.refl H) h3]
 .rename_i ds k;let#[#[c1,c2,c3],h]:=h;have Hu:=h1;simp![ze] at h1 h2;let#[a,xs,rfl,g1,g2]:=h1;have hl:=g2.length;exact .inr #[a,k,xs,rfl,h2,g1,λ z=>c1 (by subst z;cases ds with | nil=>rfl | cons _ _=>simp at hl),c2,by rw[<- hl];show c3,λ e=>?_,λ e p hp=>?_]
  .subst e;exact h _ H ?_ (.refl H) h3;have:(List.replicate (1:Int).toNat ds).flatten=ds:=#[];rw[this];show Hu
  .exact h _ _ ?_ (.new hp _) (h3.new hp);simp![ze];show#[p,_,rfl,zW.of zZ,zk.ext (.new hp _) _ (zk.rep g2 _)]
 .show h.elim
theorem zi.rep {S:SS}{ts:List T}{ds:List D}(h:zi S ts ds):∀ n:Nat,zi S (List.replicate n ts).flatten (List.replicate n ds).flatten
 | 0=>.nil
 | n+1=>by
  rw[B4,B4,Ck,Ck];show h.append (zi.rep h n)
def aq:Good2 zx i3 tj:=λ S Z x y z d e Q hz hx hy ef hq=>by
 unfold i3 at ef;split at ef
 .split at ef
  .rename_i hc;cases ef;cases hx.int;cases hy.int;show#[hc,hq _ S (.refl S) (Cl.of (λ _=>nofun) wY)]
  .cases ef
 .split at ef
  .rename_i hc;cases ef;let#[ds,rfl,h2]:=hx.tup;cases hy.int;have hl:=h2.len;show#[#[λ q=>hc.1 (by subst q;exists hl.symm),hc.2.1,by rw[hl];show hc.2.2],hq _ S (.refl S) (Cl.of (λ _=>nofun) (qe (zi.rep h2 _)))]
  .cases ef
 .cases ef
end
end L5
namespace L4
open PySem PyProof.Rows
section
variable {prog:Program}{w:World}{A:Around}{E:Af}{s:Shared}
def Lc {l:Addr}{vs:Ae}{Q:List Value->Shared->Prop}(hl:IsTup s.heap l vs.toArray) (hz:vs.length<=sizeLine)
  (h:Q vs { s with heap:=(s.heap.push (seqObj "list" [].toArray 0)).update s.heap.objs.size (Obj.mapSeq (·++vs.toArray)) }):wpAny (model prog w) A (collect (.ref l)) Q E s:=by
 let#[o,ho,hc,n,hd]:=id hl;have new:(s.heap.push (seqObj "list" [].toArray 0)).get? s.heap.objs.size=↑(seqObj "list" [].toArray 0):=AM _ rfl;have FQ:(s.heap.push (seqObj "list" [].toArray 0)).get? l=↑o:=gV _ ho;unfold collect;exact KW (wpAny_runValue (codeAny_builtin entry_proto_collect' (KW (m:=newList []) (wpAny_newList (Ad #[Code.quiet_builtin _ (AO),codeAny_builtin entry_list_iadd' ?_])))));change wpAny _ _ (Builtin.List.listExtendWith (.ref s.heap.objs.size) (.ref l) (.ref s.heap.objs.size)) _ _ { s with heap:=s.heap.push (seqObj "list" [].toArray 0) };unfold Builtin.List.listExtendWith;exact KW (zaI (T:="tuple") #[o,FQ,hc] ?_);rw[if_pos (by rw[show (Value.type "tuple" == Value.type "tuple")=true from rfl];simp)];exact KW (listItems_at FQ hd (KW (listItems_at (xs:=[].toArray) (n:=0) new rfl ?_)));rw[if_neg #[]];exact KW (listUpdate_at (xs:=[].toArray) (n:=0) new rfl (Ad ?_) (A0 _) (by change ([].toArray++vs.toArray).size<=sizeLine+1;simp![Array.size_append,AE,B9];lia));exact KW (m:=load s.heap.objs.size) (wpAny_load (get?_update_seq new _) ?_);change wpAny _ _ (pure (([].toArray:Aw)++vs.toArray).toList) Q E _;have e:(([].toArray:Aw)++vs.toArray).toList=vs:=#[];rw[e];show Ad h
end
section
open L2 PySem.Spec
variable {X:Cx}
def cq {s:Shared}{vs:Ae}:∀ b o,¬ False->s.heap.get? b=↑o->((s.heap.push (seqObj "list" [].toArray 0)).update s.heap.objs.size (Obj.mapSeq (·++vs.toArray))).get? b=↑o:=λ b o _ q=>by
 rw[zaL _ _ _ _ (AB (Ap q))];show gV _ q
theorem Ln:yD X (.builtin "sorted") (λ xs H Q=>∃ p ys,∃ rows:List (List Int),xs=[.ref p]/\(zO X.K H p ys\/zW X.K H p ys)/\rD X.K H ys rows/\rows.length<64/\m6 (ys.zip rows) H Q):=by
 intro E6 s Y H xs us Q I r h;let#[p,ys,rows,rfl,hq,hr,GG,q]:=h;let#[u,rfl,ru]:=vals1 r;cases ru;have hl:(ys.zip rows).length<64:=by rw[List.length_zip];lia
 have sz:∀ vs:List Value,s.heap.objs.size<=((s.heap.push (seqObj "list" [].toArray 0)).update s.heap.objs.size (Obj.mapSeq (·++vs.toArray))).objs.size:=λ vs=>by rw[Heap.size_update,size_push'];show DJ _
 rcases hq with hq | hq
 .let#[Aa,rv,pl,hz]:=I.list hq;show jH I (λ Q' h=>collect_list pl.isList (h _ s.toks cq (sz Aa)) (by rw[<- rv.length];show hz)) (VR.of rv hr) hl q
 .let#[Aa,rv,pl,hz]:=I.tuple hq;show jH I (λ Q' h=>Lc pl (by rw[<- rv.length];show hz) (h _ s.toks cq (sz Aa))) (VR.of rv hr) hl q
end
end L4
namespace L5
open PySem PySem.Spec L2 L3
open PyProof.Rows hiding St
section
variable {X:Cx}{K:Ac}{e:Expr}{es:List Expr}{tA:yh}{pos p:Pos}
def sX:xF:=λ ds S Q=>∃ d,∃ rows:List (List Int),ds=[d]/\zM d S=↑(rows.map wZ)/\rows.length<64/\(∀ r∈rows,r≠[])/\∀ l,S l=none->Q (.ref l) (ups S l (.lst ((L4.xH rows).map wZ)))
def qX:Al
 | [y]=>(xX y).bind λ ts=>(vY ts).bind λ rs=>if rs.length<64/\∀ r∈rs,r≠[] then ↑(.lst ((L4.xH rs).map yn)) else none
 | _=>none
def NQ:vS zx qX sX:=λ S Z ys z ds Q hz hv e hq=>by
 unfold qX at e;split at e
 .let#[d,rfl,h1]:=vy hv;let#[ts,e0,e]:=An.mp e;let#[rs,e1,e2]:=An.mp e;split at e2
  .rename_i hc;cases e2;cases jN e1;let#[es,h2,h3]:=h1.seq e0;cases qY.mp h3;show#[d,rs,rfl,h2,hc.1,hc.2,λ l hl=>hq _ _ (.new hl _) (tM hz hl (qY.mpr rfl))]
  .cases e2
 .cases e
def sX.mo:vR sX:=λ ds S Q Q' hq #[d,rows,h0,h1,h2,h3,h4]=>#[d,rows,h0,h1,h2,h3,λ l hl=>hq _ _ (h4 l hl)]
def yD.or {f:Value}{r r':List V->Hp->VK->Prop}(h:yD X f r) (h':yD X f r'):yD X f (λ xs H Q=>r xs H Q\/r' xs H Q):=λ E6 s Y H xs us Q I rv q=>
 q.elim (λ q=>h E6 s Y H xs us Q I rv q) λ q=>h' E6 s Y H xs us Q I rv q
def sX.fits:uN K sX (λ xs H Q=>∃ p ys,∃ rows:List (List Int),xs=[.ref p]/\(zO K H p ys\/zW K H p ys)/\L4.rD K H ys rows/\rows.length<64/\L4.m6 (ys.zip rows) H Q):=λ xs ds H S Q h0 h2 h=>by
 let#[d,rows,rfl,e,GG,Aq,h]:=h;let#[x,hx,h1]:=h0.one;subst hx;let#[a,ys,rfl,g1,g2]:=zM.sq h1 h2 e;have hl:=g2.length;rw[AN] at hl;exact#[_,ys,rows,rfl,g1,lA g2 Aq,GG,λ l ps hf hp hs=>?_];have heq:=L4.de (rows:=rows) (by have:=hp.map (·.2);rwa [List.map_snd_zip ⋯] at this) hs;have hx:Ext H (upd H l (.lst (ps.map (·.1)))):=.new hf _;exact h l (h2.none hf) _ _ (by simp![ze]) hx (h2.ups hx #[_,zZ,?_]);rw[<- heq];show zk.ext hx _ (zk.lF λ q hq=>zk.mW g2 q (hp.mem_iff.mp hq))
def Sg (hm:X.mg "sorted"=none) (ha:xh X (e::es) tA) (hg:Gl X "sorted") (he:Ay X e es) (Ao:AG X pos es):PD X (.Call (.Name "sorted" p) (e::es) [] pos) (xE sX tA):=
 uV (uB L4.Ln hg hm boot_sorted ha.pa () () he Ao) sX.mo sX.fits ha.mo
end
end L5
namespace L2
open PySem PySem.Spec PyProof.Rows
section
variable {X:Cx}
def uz (r:Addr) (j:Int):Heap->Prop:=λ h=>∃ t u v,IsRange h r 0 j 1 t u v
def Lx:yD X (.type "range") (λ xs H Q=>∃ j,xs=[.int j]/\∀ r,H r=none->Q (.ref r) (upd H r (.ext (uz r j)))):=by
 intro E6 s Y H xs us Q I r h;let#[j,rfl,q]:=h;let#[u,rfl,ru]:=vals1 r;let#[t,rfl]:=ru;exact call_range_1 #[.ref s.heap.objs.size,_,I.laid (o:=.ext (uz s.heap.objs.size j)) (λ b o e=>gV _ e) (Ak _) ?_,rfl,q _ (I.zp.fresh (Ak _))];have here:uz s.heap.objs.size j (s.heap.push { cls:=.type "range",data:=.fields [.int 0 s.toks,.int j t,.int 1 (s.toks+1)].toArray }):=#[_,_,_,IsRange.new ..];exact#[here,#[_,AM _ rfl],λ h1 h2 S k=>?_];let#[a,b,c,e]:=S;show#[a,b,c,k _ e]
theorem L7 (hc:X.calm=true):yD X (.type "list") (λ xs H Q=>∃ r j,xs=[.ref r]/\H r=↑(.ext (uz r j))/\0<=j/\j<=16777216/\∀ l,H l=none->Q (.ref l) (upd H l (.lst ((List.range j.toNat).map λ(k:Nat)=>V.int (k:Int))))):=by
 intro E6 s Y H xs us Q I r h;let#[a,j,rfl,hr,h0,h1,q]:=h;let#[u,rfl,ru]:=vals1 r;cases ru;obtain⟨⟨t,u,v,hR⟩,-,-⟩:=(show yW X.prog X.w H s.heap a (.ext (uz a j)) from I.zp a _ hr)
 have hsz:Builtin.Range.rangeSize 0 j 1=((j.toNat:Nat):Int):=by rw[rangeSize_one];split <;> lia
 exact call_list_range (n:=j.toNat) (I.ok.hd hc) hR (small_one () () ⋯ ⋯) hsz ⋯ λ h' tk acc c k e hi=>?_;exact#[.ref s.heap.objs.size,_,I.laid (o:=.lst ((List.range j.toNat).map λ(k:Nat)=>V.int (k:Int))) k (Ak _) #[?_,acc.toList,c,?_,by exists e],rfl,q _ (I.zp.fresh (Ak _))]
 .have:sizeLine=16777216:=rfl;simp;lia
 .let#[hn,hi]:=hi;exact ST.Paired.mk (by simp[hn]) λ i a b ha hb=>?_;rw[AJ] at ha;let#[k',hk,rfl]:=AK.mp ha;let#[hk1,hk2]:=AX.mp hk;simp at hk2;subst hk2;let#[w,hw]:=hi i b (by exists hb);subst hw;show#[w,#[]]
end
end L2
namespace L5
open PySem PySem.Spec L2 L3
open PyProof.Rows hiding St
section
variable {X:Cx}{K:Ac}{e:Expr}{tA:yh}{pos p Gx p2:Pos}
def tX:xF:=λ ds S Q=>∃ j:Int,ds=[.int j]/\0<=j/\j<=16777216/\∀ l,S l=none->Q (.ref l) (ups S l (.lst (v7 0 j.toNat)))
def ni:Al
 | [.int j]=>if 0<=j/\j<=16777216 then ↑(.lst (rangeT 0 j.toNat)) else none
 | _=>none
def NU:vS zx ni tX:=λ S Z ys z ds Q hz hv e hq=>by
 unfold ni at e;split at e
 .let#[d,rfl,h1]:=vy hv;split at e
  .rename_i hc;cases e;cases h1.int;show#[_,rfl,hc.1,hc.2,λ l hl=>hq _ _ (.new hl _) (tM hz hl (di _ _))]
  .cases e
 .cases e
def tX.mo:vR tX:=λ ds S Q Q' hq #[j,h0,h1,h2,h3]=>#[j,h0,h1,h2,λ l hl=>hq _ _ (h3 l hl)]
theorem V4 {H:Hp}(n:Nat):zk K H (v7 0 n) ((List.range n).map λ(k:Nat)=>V.int (k:Int)):=by
 unfold v7
 induction List.range n with
 | nil=>show .nil
 | cons k l ih=>show .cons (by simp![ze];rw[Cq]) ih
def tX.fits:uN K tX (λ xs H Q=>∃ j,xs=[.int j]/\∀ r,H r=none->∃ r' j',[V.ref r]=[.ref r']/\(upd H r (.ext (uz r j))) r'=↑(.ext (uz r' j'))/\0<=j'/\j'<=16777216/\
  ∀ l,(upd H r (.ext (uz r j))) l=none->Q (.ref l) (upd (upd H r (.ext (uz r j))) l (.lst ((List.range j'.toNat).map λ(k:Nat)=>V.int (k:Int))))):=λ xs ds H S Q h0 h2 h=>by
 let#[j,rfl,c1,c2,h]:=h;let#[x,hx,h1]:=h0.one;subst hx;simp![ze] at h1;subst h1;exact#[j,rfl,λ r hr=>#[r,j,rfl,zZ,c1,c2,λ l hl=>?_]];have x1:Ext H (upd H r (.ext (uz r j))):=.new hr _;have Du:l≠r:=λ z=>by subst z;rw[zZ] at hl;cases hl
 have hlH:H l=none:=by rw[zI Du] at hl;show hl
 have x2:Ext (upd H r (.ext (uz r j))) (upd (upd H r (.ext (uz r j))) l (.lst ((List.range j.toNat).map λ(k:Nat)=>V.int (k:Int)))):=.new hl _;show h l (h2.none hlH) _ _ (by simp![ze]) (x1.trans x2) ((h2.new hr).ups x2 #[_,zZ,V4 _])
def SE (hm:X.mg "list"=none) (IG:X.mg "range"=none) (ha:xh X [e] tA) (hc:X.calm=true) (hg:Gl X "list") (G8:Gl X "range")
  (JI:Ay X e [])
  (he:starEach [.Call (.Name "range" p2) [e] [] Gx] X.env=(false,eval (.Call (.Name "range" p2) [e] [] Gx) X.env)::starEach [] X.env) (Ao:AG X pos []) (ID:AG X Gx []):
  PD X (.Call (.Name "list" p) [.Call (.Name "range" p2) [e] [] Gx] [] pos) (xE tX tA):=by
 have h:=p7 (p:=p) (L7 hc) hg hm PyProof.Rows.boot_list (v9 (p7 Lx G8 IG boot_range ha.pa () () JI ID) uW he) () () he Ao;show#[xE.mo tX.mo ha.mo,PE.imp h λ _ _ _ hu=>eU tX.mo tX.fits ha.mo hu]
end
end L5
namespace ST
open PySem PySem.SetTable PySem.Spec PyProof.Rows L2
def N4 {us HX:Ae}(p:HX.Perm us):∀ {ms:List Int},IntsAre us ms->∃ GI,IntsAre HX GI/\GI.Perm ms:=by
 induction p with
 | nil=>intro ms h;show#[ms,h,.refl _]
 | cons x _ ih=>
  intro ms h;cases h with
  | cons n t h=>
   let#[GI,h1,h2]:=ih h;show#[n::GI,.cons n t h1,h2.cons n]
 | swap x y l=>
  intro ms h;cases h with
  | cons n t h=>
   cases h with
   | cons m u h=>show#[m::n::_,.cons m u (.cons n t h),.swap _ _ _]
 | trans _ _ ih1 ih2=>
  intro ms h;let#[m1,h1,h2]:=ih2 h;let#[m2,h3,h4]:=ih1 h1;show#[m2,h3,h4.trans h2]
theorem qG.at {prog:Program}{w:World}{h:Heap}{a:Addr}{xs:List (Int×Tok)}(S:qG prog w h a xs (tQ w)):yN w a (xs.map λ e=>Value.int e.1 e.2) h:=by
 let#[#[es,ep,t,ho,he,T,h1,h2,h3],_]:=S;have hm:7<=t.mask/\t.mask<=127:=by rcases T.mask with e | e | e <;> lia
 have hlen:es.size=xs.length:=by have:=congrArg List.length he;exists this
 show#[es,ep,t,#[ho,fits_of (n:=xs.length) hlen T #[] ⋯,T.wJ,h1,h2],by rw[he,A5];rfl]
theorem ae:∀ xs:List (Int×Tok),IntsAre (xs.map λ e=>Value.int e.1 e.2) (xs.map (·.1))
 | []=>.nil
 | e::xs=>.cons e.1 e.2 (ae xs)
theorem eI:∀ {us:Ae}{ns:List Int},IntsAre us ns->Vals (ns.map V.int) us
 | _,_,.nil=>.nil
 | _,_,.cons n t h=>.cons #[t,rfl] (eI h)
section
variable {X:Cx}
def Ls (hc:X.calm=true):yD X (.type "set") (λ xs H Q=>∃ p,∃ ns:List Int,xs=[.ref p]/\zO X.K H p (ns.map V.int)/\ns.length<64/\
  ∀ (l:Addr) (us:Ae) (ms:List Int),H l=none->IntsAre us ms->ms.Nodup->(∀ n,n∈ms↔n∈ns)->Q (.ref l) (upd H l (.ext (yN X.w l us)))):=by
 intro E6 s Y H xs us Q I r h;let#[p,ns,rfl,hq,GG,q]:=h;let#[u,rfl,ru]:=vals1 r;cases ru;let#[Aa,rv,pl,hz]:=I.list hq;have hl:=rv.length;rw[AN] at hl;have iA:IntsAre Aa ns:=intsAre_of rv;have nums:Nums Aa.toArray ns:=λ i v hv=>by
  have Jt:Aa[i]?=↑v:=by exists hv
  have hi:i<ns.length:=by rw[hl];show (AX.mp Jt).1
  let#[u,e1,t,e2]:=rv.get (i:=i) (x:=V.int ns[i]) (by simp[hi]);rw[Jt] at e1;cases e1;show#[ns[i],t,e2,by simp[hi]]
 have hh:X.A.handled=none:=I.ok.hd hc;exact Lu (A:=X.A) hh pl.isList nums (by rw[AE];lia) λ h' tk xs S U k=>?_;have kk:∀ b o,s.heap.get? b=↑o->h'.get? b=↑o:=λ b o e=>k b o (Ap e) e;have IZ:=S.at;exact#[.ref s.heap.objs.size,_,I.laid (t':=tk) (o:=.ext (yN X.w s.heap.objs.size (xs.map λ e=>Value.int e.1 e.2))) kk (Ak _) ?_,rfl,q _ _ (xs.map (·.1)) (I.zp.fresh (Ak _)) (ae xs) S.nd λ n=>#[λ hn=>?_,λ hn=>?_]]
 .let#[es,ep,t,St,e]:=id IZ;show#[IZ,#[_,St.get],λ h1 h2 S1 k=>S1.vm k]
 .let#[e,he,rfl]:=Au.mp hn;let#[j,_,_,hj]:=U.own e he;show BM hj
 .let#[j,hj]:=D9.mp hn;show U.all j n (by have:=(AX.mp hj).1;rw[AE];lia) hj
def Lp (hc:X.calm=true):yD X (.builtin "sorted") (λ xs H Q=>∃ l us,∃ ms:List Int,xs=[.ref l]/\H l=↑(.ext (yN X.w l us))/\IntsAre us ms/\ms.length<64/\
  ∀ (p:Addr) (ns:List Int),H p=none->ns.Perm ms->ns.Pairwise (·<=·)->Q (.ref p) (upd H p (.lst (ns.map V.int)))):=by
 intro E6 s Y H xs us0 Q I r h;let#[l,us,ms,rfl,hl,hm,GG,q]:=h;let#[u,rfl,ru]:=vals1 r;cases ru;obtain⟨⟨es,ep,t,S,eu⟩,-,-⟩:=(show yW X.prog X.w H s.heap l (.ext (yN X.w l us)) from I.zp l _ hl)
 have hlen:es.size=us.length:=by rw[<- eu];simp
 have EI:=hm.length;have hh:X.A.handled=none:=I.ok.hd hc;have hp:((comes X.w l es ep).toList.map (·.2)).Perm us:=by rw[<- eu];show (ma X.w l es ep).map _
 let#[GI,i1,i2]:=N4 hp hm;have CJ:=hp.length_eq;have hl24:sizeLine=16777216:=rfl;exact L4.da (N:=λ _=>False) (Out:=λ out=>∃ GH,IntsAre out.toList GH/\GH.Perm GI/\GH.Pairwise (·<=·)) (λ Q' h=>Zw (by show hh) S (by rw[hlen,EI];lia) Q' h) (by rw[CJ,EI];lia) (λ h2 s6 k=>L4.M_ i1 h2 (by rw[CJ,EI];show GG)) (λ h1=>#[GI,by simpa using i1,.refl _,?_]) λ out h' tk p ho hs Hv k DH=>?_
 .have:GI.length<2:=by rw[<- i1.length];show h1
  match GI,this with
  | [],_=>show .nil
  | [_],_=>show D6 _ _
 .let#[ns,g1,g2,g3]:=ho;let#[e,he]:=DH;exact#[.ref p,_,I.laid (t':=tk) (o:=.lst (ns.map V.int)) (λ b o e=>k b o id e) Hv ?_,rfl,q p ns (I.zp.fresh Hv) (g2.trans i2) g3];show#[by rw[AN,g2.length_eq,i2.length_eq];lia,out.toList,e,eI g1,by exists he]
end
end ST
namespace L5
open PySem PySem.Spec L2 L3
open PyProof.Rows hiding St
def insI (n:Int):List Int->List Int
 | []=>[n]
 | m::l=>if n<m then n::m::l else if n=m then m::l else m::insI n l
def wG:List Int->List Int
 | []=>[]
 | n::ns=>insI n (wG ns)
theorem i5 {n k:Int}:∀ {l:List Int},k∈insI n l↔k=n\/k∈l
 | []=>by simp[insI]
 | m::l=>by
  unfold insI;split
  .simp
  .split
   .rename_i h;subst h;simp
   .rw[Am,i5,Am];constructor
    .rintro (h | h | h)
     .show .inr (.inl h)
     .show .inl h
     .show .inr (.inr h)
    .rintro (h | h | h)
     .show .inr (.inl h)
     .show .inl h
     .show .inr (.inr h)
theorem lP {k:Int}:∀ {l:List Int},k∈wG l↔k∈l
 | []=>.rfl
 | n::l=>by unfold wG;rw[i5,lP,Am]
theorem ah {n:Int}:∀ {l:List Int},l.Pairwise (· < ·)->(insI n l).Pairwise (· < ·)
 | [],_=>D6 _ _
 | m::l,h=>by
  have h':=BK.mp h;unfold insI;split
  .rename_i c;exact BK.mpr #[λ x hx=>?_,h];rcases Am.mp hx with e | e
   .rw[e];show c
   .show Int.lt_trans c (h'.1 x e)
  .split
   .show h
   .rename_i c1 c2;exact BK.mpr #[λ x hx=>?_,ah h'.2];rcases i5.mp hx with e | e
    .rw[e];lia
    .show h'.1 x e
theorem eR:∀ l:List Int,(wG l).Pairwise (· < ·)
 | []=>.nil
 | n::l=>ah (eR l)
theorem Wh {l m:List Int}(h1:l.Nodup) (h2:l.Pairwise (·<=·)) (h3:m.Pairwise (· < ·)) (h:∀ k,k∈l↔k∈m):l=m:=by
 have nm:m.Nodup:=h3.imp λ h e=>⋯;exact L4.j_ (r:=λ a b:Int=>a<=b) (λ a b p q=>⋯) ((D_ h1 nm).mpr h) h2 (h3.imp λ h=>⋯)
section
variable {X:Cx}{K:Ac}{e:Expr}{tA:yh}{pos Gx p p2:Pos}
def nK:xF:=λ ds S Q=>uE ds S Q\/∃ d,∃ ns:List Int,ds=[d]/\(∀ ts,d≠.tup ts)/\zM d S=↑(ns.map D.int)/\ns.length<64/\∀ l,S l=none->Q (.ref l) (ups S l (.lst ((wG ns).map D.int)))
def qd:Al
 | [.lst ts]=>match uh ts with
  | some ns=>if ns.length<64 then ↑(.lst ((wG ns).map T.int)) else none
  | none=>l7 [.lst ts]
 | _=>none
def NM:vS zx qd nK:=λ S Z ys z ds Q hz hv e hq=>by
 unfold qd at e;split at e
 .split at e
  .rename_i ns BI;split at e
   .rename_i hc;cases e;cases nA BI;let#[d,rfl,h1]:=vy hv;let#[es,h2,h3]:=h1.seq rfl;cases tL.mp h3;exact .inr #[d,ns,rfl,?_,h2,hc,λ l hl=>hq _ _ (.new hl _) (tM hz hl (tL.mpr rfl))];obtain⟨_,q | ⟨a,q,_⟩,_⟩:=h1.lst <;> subst q <;> show λ _=>nofun
   .cases e
  .show .inl (NN S Z _ z ds Q hz hv e hq)
 .cases e
theorem nK.mo:vR nK:=λ ds S Q Q' hq h=>by
 rcases h with h | ⟨d,ns,h1,h2,h3,h4,h5⟩
 .show .inl (uE.mo ds S Q Q' hq h)
 .show .inr #[d,ns,h1,h2,h3,h4,λ l hl=>hq _ _ (h5 l hl)]
def Mm {w:World}{xs:List V}{H:Hp}{S:SS}{Q:VK}{d:D}{ns:List Int}(h0:zk K H [d] xs) (h2:zE K H S) (hn:∀ ts,d≠.tup ts) (e:zM d S=↑(ns.map D.int)) (GG:ns.length<64) (h:∀ l,S l=none->xS K H Q (.ref l) (ups S l (.lst ((wG ns).map D.int)))):
  ∃ p,∃ GH:List Int,xs=[.ref p]/\zO K H p (GH.map V.int)/\GH.length<64/\
   ∀ (l:Addr) (us:Ae) (ms:List Int),H l=none->IntsAre us ms->ms.Nodup->(∀ n,n∈ms↔n∈GH)->
    ∃ l' HX,∃ GI:List Int,[V.ref l]=[.ref l']/\(upd H l (.ext (ST.yN w l us))) l'=↑(.ext (ST.yN w l' HX))/\IntsAre HX GI/\GI.length<64/\
     ∀ (p:Addr) (ns:List Int),(upd H l (.ext (ST.yN w l us))) p=none->ns.Perm GI->ns.Pairwise (·<=·)->Q (.ref p) (upd (upd H l (.ext (ST.yN w l us))) p (.lst (ns.map V.int))):=by
 let#[x,hx,h1]:=h0.one;subst hx;let#[a,ys,rfl,g1,g2]:=sQ h1 h2 e hn;rw[g2.ints] at g1;exact#[a,ns,rfl,g1,GG,λ l us ms hf hi nd A4=>#[l,us,ms,rfl,zZ,hi,?_,λ p ns2 hp pm srt=>?_]]
 .have:=ST.iw ms ns nd λ x hx=>(A4 x).mp hx;lia
 .have x1:Ext H (upd H l (.ext (ST.yN w l us))):=.new hf _;have Ao:p≠l:=λ z=>by subst z;rw[zZ] at hp;cases hp
  have hpH:H p=none:=by rw[zI Ao] at hp;show hp
  have x2:Ext (upd H l (.ext (ST.yN w l us))) (upd (upd H l (.ext (ST.yN w l us))) p (.lst (ns2.map V.int))):=.new hp _;have heq:ns2=wG ns:=Wh (pm.nodup_iff.mpr nd) srt (eR ns) λ k=>by rw[pm.mem_iff,A4,lP]
  exact h p (h2.none hpH) _ _ (by simp![ze]) (x1.trans x2) ((h2.new hf).ups x2 #[_,zZ,?_]);rw[<- heq];show zk.iq ns2
def Sf {k:Nat}(hr:zX k X.A) (hm:X.mg "sorted"=none) (IG:X.mg "set"=none) (ha:xh X [e] tA) (hc:X.calm=true) (hg:Gl X "sorted") (G8:Gl X "set")
  (JI:Ay X e [])
  (he:starEach [.Call (.Name "set" p2) [e] [] Gx] X.env=(false,eval (.Call (.Name "set" p2) [e] [] Gx) X.env)::starEach [] X.env) (Ao:AG X pos []) (ID:AG X Gx []):
  PD X (.Call (.Name "sorted" p) [.Call (.Name "set" p2) [e] [] Gx] [] pos) (xE nK tA):=by
 have h:=uB (p:=p) (yD.or (ST.Lq hc) (ST.Lp hc)) hg hm boot_sorted (v9 (p7 (yD.or (ST.Lr hc hr.units) (ST.Ls hc)) G8 IG PyProof.Rows.boot_set ha.pa () () JI ID) uW he) () () he Ao;exact#[xE.mo nK.mo ha.mo,PE.imp h fun Y H Q hu=>?_];let#[L,S,r1,r2,z]:=hu;exact wq.go ha.mo r1 r2 z λ ds S1 xs H1 h1 q1 e1 p1=>?_;rcases h1 with h1 | ⟨d,ns,rfl,c1,c2,c3,h1⟩
 .let#[p,ys,rows,a1,a2,a3,a4,a5]:=uE.fits (w:=X.w) xs ds H1 S1 Q q1 p1 (uE.mo ds S1 _ _ (λ d S' z=>z.ext e1) h1);show .inl #[p,ys,rows,a1,a2,a3,a4,λ l us ps b1 b2 b3 b4 b5=>.inl (a5 l us ps b1 b2 b3 b4 b5)]
 .let#[p,GH,a1,a2,a3,a4]:=Mm (w:=X.w) q1 p1 c1 c2 c3 (λ l hl=>(h1 l hl).ext e1);show .inr #[p,GH,a1,a2,a3,λ l us ms b1 b2 b3 b4=>.inr (a4 l us ms b1 b2 b3 b4)]
end
end L5
namespace L5
open PySem L2 L3
def iX:Good2 zx ug gq:=ke (λ _ _ _=>wH) λ _ _ _=>nofun
def iZ:Good2 zx pQ gr:=ke (λ _ _ _=>wH) λ _ _ _=>nofun
def i_:Good2 zx nG km:=ke (λ _ _ _=>wH) λ _ _ _=>nofun
end L5
namespace L3
open PySem PyProof.Rows L2
section
variable {X:Cx}{pos:Pos}
def wE (E:tG) (W:Nat->z_->SS->Prop) (m:Nat):tG:={ E with nx:=fun L' S'=>∃ m',m'<m/\W m' L' S',ct:=fun L' S'=>∃ m',m'<m/\W m' L' S',bk:=E.nx }
def nV (c:yx) (tb:yf):yf:=λ E L S=>∃ W:Nat->z_->SS->Prop,(∃ m,W m L S)/\∀ m L S,W m L S->
 c L S λ b S1=>if b=true then tb (wE E W m) L S1 else E.nx L S1
def nV.mo {c:yx}{tb:yf}(hc:wU c) (hb:u6 tb):u6 (nV c tb):=λ E E' L S hE #[W,w0,ws]=>
 #[W,w0,λ m L S hw=>hc L S _ _ (λ b S1 z=>wy (λ z=>hb (wE E W m) (wE E' W m) L S1 #[λ _ _ q=>q,hE.rt,hE.nx,λ _ _ q=>q] z) (λ z=>hE.nx _ _ z) z) (ws m L S hw)]
def Tr {c:Expr}{body:List Stmt}{tc:yx}{tb:yf}(hp:PassesOwn (model X.prog X.w) X.A X.env X.xe) (hc:xb X c tc) (hb:vh X body tb):wD X (.While c body [] pos) (nV tc tb):=by
 exact#[nV.mo hc.mo hb.mo,PS.imp (VS hp hc.pt hb.ps) λ D Y H hu=>?_];let#[L,S,r1,r2,W,#[m0,w0],ws]:=hu;exact#[λ m Y' H'=>Ext H H'/\∃ L S,yu X.K H' L Y'/\zE X.K H' S/\W m L S,#[m0,.refl _,L,S,r1,r2,w0],?_];rintro m Y2 H2 ⟨x2,L2,S2,q1,q2,w2⟩;exact xV.go hc.mo q1 q2 (ws m L2 S2 w2) λ k S3 H3 h3 e3 p3=>wy (λ z=>?_) (λ z=>?_) h3
 .exact#[fun Y' H'=>Ext H H'/\∃ L S m',m'<m/\yu X.K H' L Y'/\zE X.K H' S/\W m' L S,fun Y' H' #[a,L',S',m',b,c,d,e]=>#[m',b,a,L',S',c,d,e],L2,S3,q1.ext e3,p3,?_];show hb.mo (wE (vM X.K H D) W m) _ L2 S3 #[fun L5 S5 #[m',b,w5] Y5 H5 b1 b2 b3=>#[(x2.trans e3).trans b2,L5,S5,m',b,b1,b3,w5],λ _ _ q=>xS.ext (x2.trans e3) q,λ _ _ q=>xM.ext (x2.trans e3) q,fun L5 S5 #[m',b,w5] Y5 H5 b1 b2 b3=>#[(x2.trans e3).trans b2,L5,S5,m',b,b1,b3,w5]] z
 .show z Y2 H3 (q1.ext e3) (x2.trans e3) p3
end
end L3
namespace L5
open PySem PyProof.Rows L2 L3
def xD (is:List Nat) (c:Ev->Option Bool) (b:Sm):Nat->Ev->Option Out
 | 0,_=>none
 | n+1,J=>(c (yC is J)).bind λ k=>if k=true then (b (yC is J)).bind λ o=>match o with
   | .nx J2=>xD is c b n J2
   | .ct J2=>xD is c b n J2
   | .bk J2=>↑(.nx (yC is J2))
   | .rt t=>↑(.rt t)
  else ↑(.nx (yC is J))
def rW (n:Nat) (is:List Nat) (c:Ev->Option Bool) (b:Sm):Sm:=xD is c b n
def RK {R:Rk} [Lo R] {n:Nat}{is:List Nat}{c:Ev->Option Bool}{tc:yx}{b:Sm}{tb:yf}(hc:wR c tc) (hb:yc R b tb):yc R (rW n is c b) (nV tc tb):=λ S0 Z0 S Z L J o E F e P=>by
 let#[SB,b1,FB,b2]:=F.rebase;have lo:∀ S' d y,R SB S' Z0 y d->R S0 S' Z0 y d:=λ S' d y r=>Lo.lo b1 (λ _ z=>z) r;exact#[λ m L' S'=>∃ Z' J',FR SB Z0 S' Z' L' J'/\xD is c b m J'=↑o,#[n,Z,J,FB,e],λ m L' S' #[Z',J',F',e']=>?_];cases m with
 | zero=>cases e'
 | succ m=>
  unfold xD at e';let#[k,c1,e']:=An.mp e';have G:=F'.yC is;exact hc S' Z' L' _ k _ G.er c1 λ S3 s3=>?_;cases k with
  | true=>
   rw[if_pos rfl] at e' ⊢;let#[o1,g2,e']:=An.mp e';exact hb SB Z0 S3 Z' L' _ o1 _ (G.grow s3) g2 ?_;cases o1 with
   | nx J2=>show λ S3 Z3 L3 F3=>#[m,Cy m,Z3,J2,F3,e']
   | ct J2=>show λ S3 Z3 L3 F3=>#[m,Cy m,Z3,J2,F3,e']
   | bk J2=>cases e';show λ S3 Z3 L3 F3=>P S3 Z3 L3 ((F3.yC is).back b1 F.z0)
   | rt y=>cases e';show λ d S3 s3 r3=>P d S3 (b1.trans s3) (lo _ _ _ r3)
  | false=>
   rw[if_neg ()] at e' ⊢;cases e';show P S3 Z' L' ((G.grow s3).back b1 F.z0)
end L5
namespace ZP
open PySem PyProof.Rows
def O3 (k:Bool) (l:Addr) (xs:Aw):Meets (Builtin.«enumerate.__new__» #[[.type "enumerate",.ref l],[]]) (λ _ R s=>SQ s.heap k l xs/\
   R (.ok (.ret (.ref (s.heap.push (vC k l)).objs.size))) { s with heap:=(s.heap.push (vC k l)).push { cls:=.type "enumerate",data:=.fields [.none,.bool false,.ref s.heap.objs.size,rawInt 0,.none,.none].toArray } }):=
 .of_wp λ prog w A R s h=>by
  let#[hp,g,d,tk,os]:=s;let#[q,h]:=h;have Eu:=sub_enumerate;have hL:SQ (Shared.heap #[hp,g,d,tk,os]) k l xs:=q;let#[#[c,zD,dt,sl],hl,hc]:=q.cls;replace hc:c=.type (cond k "tuple" "list"):=hc;subst hc
  wp_walk using AutoSeq1.wpAny_loadPart' hl
  exact wpAny_stack_any λ st=>Ad ?_;split
  .rename_i c _ _ _ _ _;cases (c == Value.type "enumerate")
   .wp_walk using AutoSeq1.wpAny_loadPart' hl,made hL
    show#[_,rfl,h]
   .wp_walk using AutoSeq1.wpAny_loadPart' hl,made hL
    show#[_,rfl,h]
  .wp_walk using AutoSeq1.wpAny_loadPart' hl,made hL
   show#[_,rfl,h]
section
variable {prog:Program}{w:World}{A:Around}{E:Af}{s:Shared}
def M1 {k:Bool}{l:Addr}{xs:Aw}{Q:Af}(hL:SQ s.heap k l xs)
  (h:∀ h',IsEnum h' (s.heap.objs.size+1) s.heap.objs.size 0 .none->SI h' k s.heap.objs.size l 0->(∀ b o,s.heap.get? b=↑o->h'.get? b=↑o)->Q (.ref (s.heap.objs.size+1)) { s with heap:=h' }):
  wpAny (model prog w) A (call (.type "enumerate") [.ref l]) Q E s:=by
 exact callType_new F.called_enumerate () (F.typeCall_enumerate_1 _) (F.newCall_enumerate_1 _) (λ obj=>F.args_object_init_2 obj _) F.entry_enumerate_new (O3 k l xs) #[hL,?_];have hz:(s.heap.push (vC k l)).objs.size=s.heap.objs.size+1:=Heap.size_push ..;change _/\_;rw[hz];have he:IsEnum ((s.heap.push (vC k l)).push { cls:=.type "enumerate",data:=.fields [.none,.bool false,.ref s.heap.objs.size,rawInt 0,.none,.none].toArray }) (s.heap.objs.size+1) s.heap.objs.size 0 .none:=by
  have:=AM (s.heap.push (vC k l)) (o:={ cls:=.type "enumerate",data:=.fields [.none,.bool false,.ref s.heap.objs.size,rawInt 0,.none,.none].toArray }) rfl;rw[hz] at this;show this
 show#[#[_,he,rfl],h _ he #[_,gV _ (AM _ rfl),rfl,rfl] λ b o x=>gV _ (gV _ x)]
def MC (hh:A.handled=none) (k:Bool) (it l:Addr) (Aq:l≠it) (xs:Aw):Draws prog w A it [it,l] xs.size (λ i v=>xs[i]?=↑v) (λ i h=>SI h k it l i/\SQ h k l xs) where
 live:=λ _ _ st=>let #[o,ho,_]:=st.1;#[o,ho]
 frame:=λ _ _ _ st hk=>#[st.1.on λ o e=>hk it #[] o e,st.2.on λ o e=>hk l #[] o e]
 item:=λ i s Q E hi st hQ=>draw st.1 st.2 (x:=xs[i]) (by simp[hi]) λ h' EO GR=>hQ _ h' s.toks (by simp[hi]) #[EO,st.2.on λ o e=>(GR.2 l Aq).trans e] GR
 done:=λ s Q E st hE=>kx hh st.1 st.2 #[] hE
end
end ZP
namespace L2
open PySem PySem.Spec PyProof.Rows ZP
section
variable {X:Cx}{E6:Ai}{Y:St}{H:Hp}{s:Shared}
def Yr (K:Ac) (k:Bool) (a:Addr):It:=
 #[λ i H=>∃ xs x,we K H k a xs/\xs[i]?=↑x,
   λ i H v H'=>∃ p x,v=.ref p/\H p=none/\H'=upd H p (.tup [.int i,x])/\∀ xs,we K H k a xs->xs[i]?=↑x,
   λ i H=>∃ xs,we K H k a xs/\xs.length<=i]
def Wv {P:Program}{w:World}{K:Ac}{es:List Expr}{kk} {pos:Pos}{k:Bool}{e it a:Addr}(EX:e≠it) (hea:e≠a) (hai:a≠it):
  Turn P w K (.Tuple es kk pos) (Yr K k a) [e,it] e (λ i h=>(∃ old,IsEnum h e it i old)/\SI h k it a i) where
 mem:=#[]
 obj:=λ i h st b hb=>by
  let#[#[old,q1],o1,q2,_,d1]:=st;simp![Am,AZ,or_false] at hb;rcases hb with e | e <;> subst e
  .show#[_,q1,λ v z=>by cases z]
  .show#[_,q2,λ v z=>by rw[d1] at z;cases z]
 keep:=λ i h h' st k=>#[let #[old,q]:=st.1;#[old,k e #[] _ q],st.2.on λ o q=>k it #[] o q]
 item:=by
  intro X hP hw hK hc i E6 s Y H E I hf st hg;subst hP hw hK;let#[xs,x,g1,hx]:=hg;let#[Aa,rv,q1]:=g1.of I;let#[u1,e1,r1]:=rv.get hx;let#[#[old,he],si]:=st;have AD:i<Aa.toArray.size:=by have:=(AX.mp e1).1;exists this
  have D:=MC (prog:=X.prog) (w:=X.w) (A:=X.A.in1) (show X.A.in1.handled=none from I.ok.hd hc) k it a hai Aa.toArray;exact wpAny_pyNext_enum_itemD D he #[si,q1] AD EX (by simp[EX,hea]) λ u h' tk hP ho GR hT hsz hk=>#[_,rfl,?_];have hu:u=u1:=by simp![List.getElem?_toArray,e1] at hP;show (Bb hP).symm
  subst hu;have nT:s.heap.objs.size∉[e,it]:=λ hb=>by
   simp![Am,AZ,or_false] at hb;let#[oi,qi,_]:=si;rcases hb with z | z
   .show absurd (Ap he) (by rw[<- z];show Ca _)
   .show absurd (Ap qi) (by rw[<- z];show Ca _)
  have ne:s.heap.objs.size≠e:=λ z=>nT (by simp[z]);exact wpAny_letOwnedTupleGo_enum ho λ h2 JI sb=>?_;have fr:H s.heap.objs.size=none:=I.zp.fresh (Ak _);have I1:Inv X E6 Y (upd H s.heap.objs.size (.tup [.int i,x])) { s with heap:=s.heap.push { cls:=.type "tuple",data:=.seq [.int i tk,u].toArray },toks:=s.toks }:=
   I.laid (o:=.tup [.int i,x]) (λ b u q=>gV _ q) (Ak _) #[#[by change 2<=sizeLine;decide,.new _],[.int i tk,u],.cons #[tk,rfl] (.cons r1 .nil),IsTup.new _ _]
  have Ho:∀ b∈[e,it],upd H s.heap.objs.size (.tup [.int i,x]) b=none:=λ b hb=>by
   rw[zI (λ z=>nT (by rw[<- z];show hb))];show (hf b hb).1
  have kk:∀ b o,b∉[e,it]->(s.heap.push { cls:=.type "tuple",data:=.seq [.int i tk,u].toArray }).get? b=↑o->h2.get? b=↑o:=λ b o hb q=>by
   have BD:b≠e:=λ z=>hb (by simp[z]);have hbi:b≠it:=λ z=>hb (by simp[z]);by_cases DG:b=s.heap.objs.size
   .subst DG;rw[AM _ rfl] at q;cases q;show sb.extBut _ _ BD hT
   .have q':s.heap.get? b=↑o:=by rw[Heap.get?_push_ne _ _ _ DG] at q;show q
    show sb.extBut _ _ BD (hk b o BD hbi q')
  have I2:=Inv.lj (h':=h2) (t':=tk+1) (fp:=[e,it]) I1 kk λ b hb=>#[Ho b hb,(hf b hb).2];exact#[.ref s.heap.objs.size,_,I2,rfl,#[_,x,rfl,fr,rfl,λ zs hz=>by rw[hz.inj I g1];show hx],#[#[_,by exists JI],GR.1.on λ o q=>(sb.2 it (Ne.symm EX)).trans q],Ho]
 done:=by
  intro X hP hw hK hc i E6 s Y H E I hf st hg;subst hP hw hK;let#[xs,g1,hx]:=hg;let#[Aa,rv,q1]:=g1.of I;have l1:=rv.length;let#[#[old,he],si]:=st;have hT:s.TypeIs (.ref e) "enumerate":=#[_,he,rfl];unfold pyNext;exact KW (wpAny_attempt (zaH (name:=Str.ofString "__next__") hT F.slot_enumerate_next
   (zaB F.slot_enumerate_next hT F.entry_enumerate_next ?_ (F.args_enumerate_next_1 _))))
  change wpAny _ _ (field (.ref e) 2 >>= _) _ _ _;exact KW (za4 he rfl (x:=.ref it) rfl ?_);exact KW (kx (show X.A.in1.handled=none from I.ok.hd hc) si q1 (by simp;lia) λ h' x he' Iz=>?_);let#[o,ho,hc]:=Iz;exact KW (wpAny_isInstance (T:="StopIteration") (b:=true) #[o,ho,hc] isSubtype_stop ?_);show Ad #[rfl,I.lj (t':=s.toks) (fp:=[e,it]) (λ b o hb q=>he' b o (λ z=>hb (by simp[z])) q) hf]
 self:=λ _ _ _ _ _ st h=>let #[_,q]:=st.1;wpAny_pyIter_enum q h
def NA (K:Ac) (ta:TA):TI:=fun Y H R=>ta Y H λ vs H1=>∃ a k,vs=[.ref a]/\(∃ xs,we K H1 k a xs)/\R (Yr K k a) H1
theorem Uo {a:Expr}{ta:TA}{p pos pos':Pos}{es:List Expr}{kk} (hg:Gl X "enumerate") (hm:X.mg "enumerate"=none) (ha:PA X [a] ta) (hs:starEach [a] X.env=[(false,eval a X.env)]:=by rfl):
  PI X (.Tuple es kk pos') (.Call (.Name "enumerate" p) [a] [] pos) (NA X.K ta):=by
 intro E6 s Y H R I h;exact Call_ (pF I hg hm boot_enumerate (PyProof.Rows.callWith_type1 (zu (ha pos E6 s Y H _ I h) λ us s1 #[vs,H1,I1,r1,q1]=>?_) (by rw[hs];rfl) rfl));let#[a1,k,rfl,#[xs,g1],q]:=q1;cases r1 with
 | cons r rr=>
  cases rr;cases r;let#[it1,_,q1]:=g1.of I1;have la:=q1.lt;exact ZP.M1 q1 λ h' E S up=>wpAny_pyIter_enum E ?_;have nw:∀ b∈[s1.heap.objs.size+1,s1.heap.objs.size],s1.heap.objs.size<=b:=λ b hb=>by
   simp![Am,AZ,or_false] at hb;rcases hb with z | z <;> rw[z]
   .show DJ _
   .show Ak _
  show#[_,[s1.heap.objs.size+1,s1.heap.objs.size],_,_,H1,rfl,I1.kept (t':=s1.toks) up,Wv (Nat.succ_ne_self _) (BW (Cj la)) (AB la),#[#[_,E],S],λ b hb=>I1.kg (nw b hb) (I1.zp.fresh (nw b hb)),q]
end
end L2
namespace L5
open PySem PySem.Spec L2 L3
open PyProof.Rows hiding St
def tq (k:Nat):List D->List D
 | []=>[]
 | d::ds=>.tup [.int k,d]::tq (k+1) ds
def tZ (k:Nat):List T->List T
 | []=>[]
 | d::ds=>.tup [.int k,d]::tZ (k+1) ds
theorem aY:∀ (ds:List D) (k i:Nat),(tq k ds)[i]?=(ds[i]?).map λ d=>D.tup [.int ((k+i:Nat):Int),d]
 | [],k,i=>by simp[tq]
 | d::ds,k,0=>by simp[tq]
 | d::ds,k,i+1=>by
  unfold tq;rw[DR,DR,aY ds (k+1) i,show k+1+i=k+(i+1) from by lia]
theorem aX:∀ (ds:List D) (k:Nat),(tq k ds).length=ds.length
 | [],k=>rfl
 | d::ds,k=>by unfold tq;rw[A9,aX ds];rfl
theorem jK {S:SS}:∀ {ts:List T}{ds:List D}(k:Nat),zi S ts ds->zi S (tZ k ts) (tq k ds)
 | [],ds,k,h=>by simp![zi] at h;subst h;show zi.nil
 | t::ts,ds,k,h=>by
  simp![zi] at h;let#[c,cs,rfl,h1,h2]:=h;show zi.cons (qe (zi.cons (by simp![Sn]) (zi.cons h1 zi.nil))) (jK (k+1) h2)
section
variable {X:Cx}{a:Expr}{tA:yh}{pos p pos':Pos}{es:List Expr}{kk:Nat}
def iJ (t:yh):wC:=fun L S R=>t L S λ ds S1=>∃ d xs,ds=[d]/\zM d S1=↑xs/\R #[tq 0 xs,λ S=>zM d S=↑xs] S1
def TH (hm:X.mg "enumerate"=none) (ha:xh X [a] tA) (hg:Gl X "enumerate") (hs:starEach [a] X.env=[(false,eval a X.env)]):
  uM X (.Tuple es kk pos') (.Call (.Name "enumerate" p) [a] [] pos) (iJ tA):=by
 exact#[fun L S Q Q' hq z=>ha.mo L S _ _ (λ ds S1 #[d,xs,h1,h2,h4]=>#[d,xs,h1,h2,hq _ _ h4]) z,PI.imp (Uo hg hm ha.pa hs) fun Y H R hu=>?_];let#[L,S,r1,r2,z]:=hu;exact wq.go ha.mo r1 r2 z λ ds S1 vs H1 h1 q1 e1 p1=>?_;let#[d,xs,rfl,s1,h]:=h1;let#[v,rfl,d1]:=q1.one;let#[a1,us,rfl,g1,g2]:=zM.k d1 p1 s1;exact#[a1,nr d,rfl,#[us,g1],h _ H1 e1 p1 λ i H2 S2 x1 x2 hk=>?_];let#[b1,Je,q1,m1,m2]:=zM.k (ze.ext x1 d d1) x2 hk;cases q1;have l1:=m2.length;exact#[λ dd hd=>?_,λ hl=>#[Je,m1,?_]]
 .rw[aY,C7] at hd;let#[dx,hx,rfl]:=AK.mp hd;let#[x,Iz,rx]:=m2.get hx;exact#[#[Je,x,m1,Iz],λ v H' q=>?_];let#[pp,x',rfl,hp,rfl,f1]:=q;have ex:x'=x:=by have:=f1 _ m1;rw[Iz] at this;show (Bb this).symm
  subst ex;exact#[.new hp _,x2.new hp,?_];simp![ze];show#[pp,_,rfl,zW.of zZ,zk.ext (.new hp _) _ (.cons (by simp![ze]) (.cons rx .nil))]
 .have GV:(tq 0 xs).length<=i:=hl;rw[aX] at GV;lia
@[simp] def vL:List T->Option (List T)
 | [x]=>(xX x).map λ xs=>tZ 0 xs
 | _=>none
def Qi {g:Ev->Option (List T)}(h:qJ g tA):rH false (wz vL g) (iJ tA):=λ S Z L J ts Q hE e hq=>by
 let#[ys,e1,e2]:=An.mp e;exact h S Z L J ys _ hE e1 λ ds S1 s1 r1=>?_;unfold vL at e2;split at e2
 .let#[xs,e3,rfl]:=AK.mp e2;let#[d,rfl,h1]:=vy r1;let#[es,g1,g2]:=h1.seq e3;show#[d,es,rfl,g1,hq _ S1 s1 (jK 0 g2) λ Ip s=>zM.sx g1 s]
 .cases e2
def Qj {g:Ev->Option (List T)}(h:rK g tA):rH true (wz vL g) (iJ tA):=λ S Z L J ts Q hE e hq=>by
 let#[ys,e1,e2]:=An.mp e;exact h S Z L J ys _ hE e1 λ ds S1 s1 r1=>?_;unfold vL at e2;split at e2
 .let#[xs,e3,rfl]:=AK.mp e2;simp![zi] at r1;let#[d,_,rfl,h1,rfl]:=r1;let#[es,g1,g2]:=zM.zN h1 e3;show#[d,es,rfl,zM.sx g1 (nC S1 Z),hq _ S1 s1 (jK 0 g2) λ Ip s=>zM.sx g1 s]
 .cases e2
end
end L5
namespace TM
open PySem PyProof.Rows
def MN (i:Int) (t:Tok) (l:Addr) (items:Aw) (n:Nat) (dd:Option Addr) (sl:Array (Option Value)):
  Meets (Builtin.«int.__rmul__» #[[.int i t,.ref l],[]]) (λ _ R s=>s.heap.get? l=↑{ cls:=.type "list",dict:=dd,data:=.seq items n,slots:=sl }/\R (.ok (.ret Value.notImplemented)) s):=
 .of_wp λ prog w A R s h=>by
  let#[hp,g,d,tk,os]:=s;let#[hl,h]:=h
  wp_walk
  show#[_,rfl,h]
def mulL (l:Addr) (items:Aw) (n:Nat) (x:Int) (u:Tok) (dd:Option Addr) (sl:Array (Option Value)) (hc0:¬(!Builtin.List.listFitsIndex x)=true) (JJ:¬items.size*x.toNat>(2 ^ 63-1)/8) (GZ:¬Builtin.List.listTooLong (items.size*x.toNat)=true):
  Meets (Builtin.«list.__mul__» #[[.ref l,.int x u],[]]) (λ _ R s=>s.heap.get? l=↑{ cls:=.type "list",dict:=dd,data:=.seq items n,slots:=sl }/\R (.ok (.ret (Value.ref s.heap.objs.size))) { s with heap:=s.heap.push { cls:=.type "list",data:=.seq (List.foldl (λ x1 x2=>x1++x2) [].toArray (List.replicate (if items.isEmpty=true then 0 else x.toNat) items)) } }):=
 .of_wp λ prog w A R s h=>by
  let#[hp,g,d,tk,os]:=s;let#[hl,h]:=h
  have hsz:=AutoListH.joined_fits GZ
  wp_walk;exact wpAny_ite_false (za5 (Nat.not_lt.mpr hsz)) ?_;wp_walk;show#[_,rfl,h]
section
variable {prog:Program}{w:World}{A:Around}{E:Af}{s:Shared}
def W5 {l:Addr}{Aa:Ae}{k:Int}{t:Tok}{Q:Af}(ht:PlainL s.heap l Aa.toArray) (Aq:Aa≠[]) (h0:0<=k) (hz:Aa.length*k.toNat<=sizeLine)  (hk:k<=1000000)
  (more:Q (.ref s.heap.objs.size) { s with heap:=s.heap.push { cls:=.type "list",data:=.seq (List.replicate k.toNat Aa).flatten.toArray } }):
  wpAny (model prog w) A (binaryOp .Mult (.ref l) (.int k t)) Q E s:=by
 let#[#[cls,dd,data,sl],n,ho,hc,he,hd]:=id ht;simp only at hc hd he;subst hc hd he;have hl:sizeLine=16777216:=rfl;have D4:Aa.toArray.isEmpty=false:=by cases Aa with
  | nil=>show absurd rfl Aq
  | cons a r=>rfl
 have hf:List.foldl (λ x1 x2=>x1++x2) [].toArray (List.replicate (if Aa.toArray.isEmpty=true then 0 else k.toNat) Aa.toArray)=(List.replicate k.toNat Aa).flatten.toArray:=by
  rw[D4,if_neg ()];have:=gj Aa k.toNat [].toArray;exists this
 exact wpAny_binaryOp_repeat_ref (T:="list") (U:="int") () #[_,ho,rfl] (λ s'=>typeIs_int s' k t) noFill_list_mul F.fills_int_mul F.slot_int_rmul repeat_list F.slot_int_index.lookup
  (call_meets F.slot_int_rmul (typeIs_int s k t) F.entry_int_rmul (F.args_int_rmul_2 _ _) (MN k t l Aa.toArray n none sl)
   #[ho,rfl,#[_,ho,rfl],call_meets F.slot_list_mul #[_,ho,rfl] F.entry_list_mul (F.args_list_mul_2 _ _)
    (mulL l Aa.toArray n k t none sl (by simp[Builtin.List.listFitsIndex];lia) (by simp;lia) (by simp[Builtin.List.listTooLong];lia)) #[ho,?_]])
 rw[hf];show more
end
end TM
namespace L2
open PySem PySem.Spec PyProof.Rows
def jT (K:Ac):R2:=λ x y H Q=>∃ a k xs,x=.ref a/\y=.int k/\zO K H a xs/\xs≠[]/\0<=k/\k<=1000000/\xs.length*k.toNat<=sizeLine/\∀ p,H p=none->Q (.ref p) (upd H p (.lst (List.replicate k.toNat xs).flatten))
theorem R6 {X:Cx}:zY X (binaryOp .Mult) (jT X.K):=by
 intro E6 s Y H x y v u Q I rx ry h;let#[a,k,xs,rfl,rfl,hx,Aq,h1,h2,hz,q]:=h;cases rx;let#[t,rfl]:=ry;let#[Aa,r,ht,_]:=I.list hx;have hl:=r.length;exact TM.W5 ht (λ z=>Aq (r.ng.mp z)) h1 (by rw[<- hl];show hz) h2 ?_;have hlen:(List.replicate k.toNat xs).flatten.length<=sizeLine:=by
  have:(List.replicate k.toNat xs).flatten.length=k.toNat*xs.length:=#[];rw[this,DU];show hz
 show#[.ref _,_,I.laid (t':=s.toks) (o:=.lst (List.replicate k.toNat xs).flatten) (λ b ob q=>gV _ q) (Ak _) #[hlen,_,0,r.rep k.toNat,AM _ rfl],rfl,q _ (I.zp.fresh (Ak _))]
end L2
namespace L5
open PySem PySem.Spec L2 L3
open PyProof.Rows hiding St
section
variable {X:Cx}{K:Ac}{a b:Expr}{ta tb:zr}{pos:Pos}
def Nr:D->Bool
 | .tup _=>true
 | _=>false
def kl:yF:=λ x y S Q=>∃ k ds,y=.int k/\Nr x=false/\zM x S=↑ds/\(ds≠[]/\0<=k/\k<=1000000/\ds.length*k.toNat<=sizeLine)/\∀ p,S p=none->Q (.ref p) (ups S p (.lst (List.replicate k.toNat ds).flatten))
def sY:yF:=λ x y S Q=>tj x y S Q\/kl x y S Q
def xc:T->T->Option T
 | .lst ts,.int k=>if ts≠[]/\0<=k/\k<=1000000/\ts.length*k.toNat<=sizeLine then ↑(.lst (List.replicate k.toNat ts).flatten) else none
 | x,y=>i3 x y
theorem sY.mo:xw sY:=λ x y S Q Q' hq h=>by
 rcases h with h | ⟨k,ds,h1,h2,h3,h4,h5⟩
 .show .inl (tj.mo x y S Q Q' hq h)
 .show .inr #[k,ds,h1,h2,h3,h4,λ p hp=>hq _ _ (h5 p hp)]
def kl.fits:xi K kl (jT K):=λ x y d e H S Q h1 h2 h3 h=>by
 let#[k,ds,rfl,ht,hs,#[c1,c2,c3,c4],h]:=h;simp![ze] at h2;let#[a,xs,rfl,g1,g2]:=sQ h1 h3 hs λ ts z=>by subst z;cases ht
 have hl:=g2.length;exact#[a,k,xs,rfl,h2,g1,λ z=>c1 (by subst z;cases ds with | nil=>rfl | cons _ _=>simp at hl),c2,c3,by rw[<- hl];show c4,λ p hp=>?_];show h p (h3.none hp) _ _ (by simp![ze]) (.new hp _) (h3.ups (.new hp _) #[_,zZ,zk.ext (.new hp _) _ (zk.rep g2 _)])
theorem sY.fits:xi K sY (λ x y H Q=>(rI wj (λ i j=>.int (i*j)) x y H Q\/jS K x y H Q)\/jT K x y H Q):=λ x y d e H S Q h1 h2 h3 h=>by
 rcases h with h | h
 .show .inl (tj.fits x y d e H S Q h1 h2 h3 h)
 .show .inr (kl.fits x y d e H S Q h1 h2 h3 h)
def NR:Good2 zx xc sY:=λ S Z x y z d e Q hz hx hy ef hq=>by
 unfold xc at ef;split at ef
 .rename_i ts k;split at ef
  .rename_i hc;cases ef;let#[ds,g1,g2]:=hx.seq (ts:=ts) rfl;cases hy.int;have hl:=g2.len;exact .inr #[_,ds,rfl,?_,g1,#[λ q=>hc.1 (by subst q;exists hl.symm),hc.2.1,hc.2.2.1,by rw[hl];show hc.2.2.2],λ p hp=>hq _ _ (.new hp _) (tM hz hp (zi.rep g2 _))];cases d with
   | tup es=>show absurd hx (by
     intro q;rcases q with q | ⟨us,p,Gi,_,q,_⟩
     .simp![Sn] at q;obtain⟨_,⟨q,_⟩ | ⟨_,q,_⟩,_⟩:=q <;> cases q
     .cases q)
   | _=>rfl
  .cases ef
 .show .inl (aq S Z x y z d e Q hz hx hy ef hq)
def Su (ha:PD X a ta) (hb:PD X b tb):PD X (.BinOp a .Mult b pos) (yr sY ta tb):=p8 ((R7.or R5).or R6) sY.fits sY.mo ha hb
end
end L5
namespace L3
open PySem PySem.Spec PyProof.Rows L2
section
variable {X:Cx}{K:Ac}{e o:Expr}{te to:zr}{apos Aj:Pos}
def rm (to te:zr):zr:=fun L S Q=>to L S λ x S1=>match x with
 | .ref p=>(∃ ds,S1 p=↑(.lst ds))/\te L S1 λ y S2=>∃ q ds es,y=.ref q/\S2 p=↑(.lst ds)/\S2 q=↑(.lst es)/\ds.length+es.length<=sizeLine/\Q .zh (ups S2 p (.lst (ds++es)))
 | _=>False
def rm.mo (h:yi to) (h':yi te):yi (rm to te):=fun L S Q Q' hq z=>h L S _ _ (λ x S1 z=>by
 cases x with
 | ref p=>show#[z.1,h' L S1 _ _ (λ y S2 #[q,ds,es,a,b,c,d,w]=>#[q,ds,es,a,b,c,d,hq _ _ w]) z.2]
 | _=>show z) z
theorem Rg {e0:Expr}(EC:PE X e0 (jE X.K "list" cf (zJ X.K to) (oH (zJ X.K te) oG))) (h:yi to) (h':yi te):PD X e0 (rm to te):=by
 exact#[rm.mo h h',PE.imp EC fun Y H Q hu=>?_];let#[L,S,r1,r2,z]:=hu;exact zJ.go h r1 r2 z λ x S1 v H1 h1 q1 e1 p1=>?_;cases x with
 | ref p=>
  let#[#[ds,hd],h1]:=h1;simp![ze] at q1;subst q1;let#[xs,g1,g2]:=p1 _ _ hd;exact#[.inl #[rfl,xs,zO.of g1],?_];exact zJ.go h' (r1.ext e1) p1 h1 λ y S2 w H2 h2 q2 e2 p2=>?_;let#[q,HN,es,rfl,b1,b2,b3,b4]:=h2;simp![ze] at q2;subst q2;let#[Fu,g3,g4]:=p2 _ _ b1;let#[Jb,g5,g6]:=p2 _ _ b2;exact#[p,q,Fu,Jb,rfl,rfl,g3,g5,by rw[<- g4.length,<- g6.length];show b3,?_];have e4:Ext H2 (upd H2 p (.lst (Fu++Jb))):=.lst g3 _;show b4 _ _ (by simp![ze]) ((e1.trans e2).trans e4) (p2.ups e4 #[_,zZ,zk.ext e4 _ (g4.append g6)])
 | _=>show h1.elim
def S7 (ho:PD X o to) (he:PD X e te)
  (FT:attributeBase o "extend" X.env (eval o X.env)=eval o X.env)
  (AU:((backTo Aj (starEach [e] X.env)).all (λ x=>!x.1)&&(backToKw Aj (keywordEach [] X.env)).all (λ x=>x.1.isSome)
   && decide ([e].length+([]:List Keyword).length+(if ([]:List Keyword).isEmpty then 0 else 1)<30))=true)
  (G0:(apos.endLine == Aj.line)=true) (hs:Ay X e []) (GA:AG X Aj []):
  PD X (.Call (.Attribute o "extend" apos) [e] [] Aj) (rm to te):=
 Rg (cA PySem.F.plainAttrs_list PySem.F.slot_list_extend PySem.F.type_list_extend Oz ho.pe (v9 he.pe uW hs) FT AU G0 hs GA) ho.mo he.mo
end
end L3
namespace L5
open PySem L2 L3
@[simp] def gs (i:Nat) (f:Ah):Sm:=fun J=>match J[i]? with
 | some ↑(.own (.lst ts))=>(f J).bind λ y=>match y with
  | .lst us=>if ts.length+us.length<=sizeLine then ↑(.nx (J.set i ↑(.own (.lst (ts++us))))) else none
  | _=>none
 | _=>none
section
variable {R:Rk}{f:Ah}{te:zr}
def RY (i:Nat) (hf:xG f te):yc R (gs i f) (k8 (rm (yq i) te)):=λ S0 Z0 S Z L J o E F e P=>by
 unfold gs at e;split at e
 .rename_i ts h;let#[y,e1,e2]:=An.mp e;split at e2
  .rename_i us;split at e2
   .rename_i hl;cases e2;let#[p,ob,h1,h2,h3,h4]:=F.er.ow i _ h;obtain⟨ds,rfl⟩:∃ ds,ob=.lst ds:=by
     cases ob with
     | lst ds=>show#[ds,rfl]
     | zD _=>show h3.elim
    replace h3:zi (zN S Z) ts ds:=h3;change rm (yq i) te L S _;unfold rm yq;rw[h1];exact#[#[ds,h2],hf S Z L J _ _ F.er e1 λ d S1 s1 r1=>?_];let#[q,es,rfl,g1,g2,g3]:=r1.2 us rfl;have F1:=F.grow s1;have g4:zi (zN S1 Z) us es:=zi.sx (uj λ a z=>.inl z) us g3;exact#[q,ds,es,rfl,s1 _ _ h2,g2,by rw[h3.len,g4.len];show hl,P _ Z L (F1.mut (us:=.lst (ts++us)) (es:=.lst (ds++es)) i h h1 ((zi.sx (wL s1) ts h3).append g4))]
   .cases e2
  .cases e2
 .cases e
end
end L5
namespace L5
open PySem PySem.Spec L2 L3
open PyProof.Rows hiding St
section
variable {X:Cx}{K:Ac}{e:Expr}{es:List Expr}{tA:yh}{pos p:Pos}
def tm:xF:=λ ds S Q=>match ds with
 | [.int i]=>Q (.int i) S
 | [.bl k]=>Q (.int (if k then 1 else 0)) S
 | _=>False
def tm.mo:vR tm:=λ ds S Q Q' hq h=>by
 unfold tm at h ⊢;split at h
 .show hq _ _ h
 .show hq _ _ h
 .show h.elim
def tm.fits:uN K tm (λ xs H Q=>(∃ i,xs=[.int i]/\Q (.int i) H)\/∃ k,xs=[.bl k]/\Q (.int (if k then 1 else 0)) H):=λ xs ds H S Q h0 h2 h=>by
 unfold tm at h;split at h
 .let#[x,rfl,h1]:=h0.one;simp![ze] at h1;subst h1;show .inl #[_,rfl,h _ H (by simp![ze]) (.refl H) h2]
 .let#[x,rfl,h1]:=h0.one;simp![ze] at h1;subst h1;show .inr #[_,rfl,h _ H (by simp![ze]) (.refl H) h2]
 .show h.elim
def SW (hm:X.mg "int"=none) (ha:xh X (e::es) tA) (hg:Gl X "int") (he:Ay X e es) (Ao:AG X pos es):PD X (.Call (.Name "int" p) (e::es) [] pos) (xE tm tA):=
 uV (p7 LD hg hm PyProof.Rows.boot_int ha.pa () () he Ao) tm.mo tm.fits ha.mo
@[simp] def iO:Al
 | [.int i]=>↑(.int i)
 | [.bl k]=>↑(.int (if k then 1 else 0))
 | _=>none
def good_int:vS zx iO tm:=λ S Z ys z ds Q hz hv e hq=>by
 unfold iO at e;split at e
 .cases e;let#[d,rfl,h1]:=vy hv;cases h1.int;show hq _ S (.refl S) (Cl.of (λ _=>nofun) wY)
 .cases e;let#[d,rfl,h1]:=vy hv;cases h1.bl;show hq _ S (.refl S) (Cl.of (λ _=>nofun) wY)
 .cases e
end
section
variable {α:Type}{P:List α->Prop}
def ZZ (h:∀ a,P [a]) (us:List α) (hl:us.length=1):P us:=match us,hl with | [a],_=>h a
def my (h:∀ a b,P [a,b]) (us:List α) (hl:us.length=2):P us:=match us,hl with | [a,b],_=>h a b
def ZY (h:∀ a b c,P [a,b,c]) (us:List α) (hl:us.length=3):P us:=match us,hl with | [a,b,c],_=>h a b c
def ZX (h:∀ a b c d,P [a,b,c,d]) (us:List α) (hl:us.length=4):P us:=match us,hl with | [a,b,c,d],_=>h a b c d
end
end L5
namespace L5
open PySem PySem.Spec L2 L3
open PyProof.Rows hiding St
section
variable {P:Program}{w:World}{K:Ac}{mg:Ar}{base h:Heap}{x:Str}{st:Stmt}
def Fx (K:Ac) (x:Str) (st:Stmt):Prop:=∃ (f:Addr) (oc:Value) (od:Option Addr) (kV dc pm:Value) (an:Option Addr) (cd ct:Value) (sl:Array (Option Value)),
 PySem.W.nsIn K mainGlobals x=↑↑(.ref f)/\K.lookup f=↑#[oc,od,.func (PySem.W.fnOf x x (vg st) (yZ st) (zL st) .none kV dc pm an cd ct),sl]/\PySem.W.codeIn K cd x=true/\PySem.W.keepIn K (.ref f)=true
def Fx.i {f:Addr}{oc:Value}{od:Option Addr}{kV dc pm:Value}{an:Option Addr}{cd ct:Value}{sl:Array (Option Value)}(a:PySem.W.nsIn K mainGlobals x=↑↑(.ref f)) (l:K.lookup f=↑#[oc,od,.func (PySem.W.fnOf x x (vg st) (yZ st) (zL st) .none kV dc pm an cd ct),sl]) (c:PySem.W.codeIn K cd x=true) (k:PySem.W.keepIn K (.ref f)=true):Fx K x st:=#[f,oc,od,kV,dc,pm,an,cd,ct,sl,a,l,c,k]
def Fy (K:Ac) (mg:Ar) (x:Str) (st:Stmt):Prop:=∃ (f:Addr) (fd:FuncData),wV K x x st f fd/\mg x=↑(.ref f)
def Fx.mk (H:Fx K x st) (X:K.In h) (G:h.Ns mainGlobals mg):Fy K mg x st:=by
 let#[f,oc,od,kV,dc,pm,an,cd,ct,sl,a,l,c,k]:=H;show#[f,_,gh l c k,PySem.W.mg_of X G a]
theorem Fx.law {fa:Addr}{p:Str}(H:Fx K "law" st) (X:K.In h) (G:h.Ns mainGlobals mg) (EW:mg "law"=↑(.ref fa)) (hb:∀ (kV dc pm:Value) (an:Option Addr) (cd ct:Value) (s:Shared) (v:Value),BindsTo s (PySem.W.fnOf "law" "law" (vg st) (yZ st) (zL st) .none kV dc pm an cd ct) #[[v],[]] [(p,v)]):∃ fd:FuncData,wV K "law" "law" st fa fd/\∀ (s:Shared) (v:Value),BindsTo s fd #[[v],[]] [(p,v)]:=by
 let#[f,oc,od,kV,dc,pm,an,cd,ct,sl,a,l,c,k]:=H;have e:=EW.symm.trans (PySem.W.mg_of X G a);cases e;show#[_,gh l c k,hb kV dc pm an cd ct]
def Cn (K:Ac) (x:Str) (t:V):Prop:=∃ u,PySem.W.nsIn K mainGlobals x=↑↑u/\L2.RelV t u
def Cn.i {t:V}{u:Value}(a:PySem.W.nsIn K mainGlobals x=↑↑u) (r:L2.RelV t u):Cn K x t:=#[u,a,r]
def Cn.mk {t:V}(H:Cn K x t) (X:K.In h) (G:h.Ns mainGlobals mg):∃ u,mg x=↑u/\L2.RelV t u:=by
 let#[u,a,r]:=H;show#[u,PySem.W.mg_of X G a,r]
def Mq {R:Rk} [Lo R] {N ps:List Str}{k n:Nat}{g:Sm}(F:Fy K mg x st) (Sc:vw N ps (zL st)) (hn:n=ps.length)
  (hb:∀ (kV doc pm:Value) (an:Option Addr) (Ag ct:Value) (us:Ae),us.length=ps.length->bindArgs (PySem.W.fnOf x x (vg st) (yZ st) (zL st) .none kV doc pm an Ag ct) #[us,[]]=pure (ps.zip us))
  (Fm:∀ (f:Addr) (Ag:Value) (A:Around) (outer:List Env) (s:Shared) (H:Hp) (E:XK),zX k (A.deeper (envOfC x (zL st) s.heap.objs.size f Ag))->
   ∃ t,vh (y_ yG P w K mg base N x (zL st) f Ag A outer s H E).xx (yZ st) t/\yc R g t):FD P w K mg base x (k+1) ps (zA R (zH N n g)):=by
 let#[f,fd,F,hm]:=F;show Mr F hm Sc hn hb (Fm f)
end
end L5
namespace PySem
section
variable {prog:Program}{w:World}{A:Around}{E:Af}{h:Heap}{g:Array GenState}{d:Drawn}{t:Nat}{os:OsState}
variable {nm q:Str}{C N:Addr}{bs bm Ft:Ae}{hdct:Bool}{sn:List Str}{sub:Ae}{ab:Bool}{col:Option Bool}{dd:Option Addr}{k0 k1 k2 k3 k5:Option Value}{B newId HC:String}
def XG (F:ExcBaseFacts B newId HC Ft) (T:OwnTail h Ft bm) {mN:Ar}{E9:Ae}{fI:Addr}{oI:Obj}{Q:Fin->Shared->Prop}
  (hC:h.get? C=↑(excClassObj nm q C N bs bm hdct sn sub ab col dd k0 k1 k2 k3 k5 newId)) (hn:h.Ns N mN) (hi:mN "__init__"=↑(.ref fI))
  (IH:h.get? fI=↑oI) (DC:oI.cls=.type "function")
  (hq:∀ h' e,h.objs.size<=e->Heap.MadeExcOf h h' e (.ref C) E9->
   wpAny (model prog w) A (call (.ref fI) (.ref e::E9)) (λ r s'=>r=.none/\Q (.done (.ret (.ref e))) s') E #[h',g,d,t,os]) (Gz:E9.length<=sizeLine):
  wpAny (model prog w) A (Builtin.«type.__call__» #[.ref C::E9,[]]) Q E #[h,g,d,t,os]:=by
 repeat (first | with_reducible exact za2 hC ?_ | with_reducible exact wpAny_madeBy_exc hC ?_ | wp_step)
 exact codeAny_call_builtin_code (Code.quiet_builtin _ F.quiet) (wpAny_check_new_subT F T hC ?_);exact codeAny_exc_new_subT F T hC ?_ Gz;change wpAny _ _ _ _ _ _;have up:∀ b o,h.get? b=↑o->((h.push { cls:=.type "tuple",data:=.seq E9.toArray }).push { cls:=.ref C,data:=.fields [.ref h.objs.size,.none,.none,.none,.bool false,.none].toArray }).get? b=↑o:=λ b o e=>gV _ (gV _ e);have hC₁:=up _ _ hC;have hfI₁:=up _ _ IH;have Dz:((h.push { cls:=.type "tuple",data:=.seq E9.toArray }).push
   { cls:=.ref C,data:=.fields [.ref h.objs.size,.none,.none,.none,.bool false,.none].toArray }).get? (h.objs.size+1)=some
   { cls:=.ref C,data:=.fields [.ref h.objs.size,.none,.none,.none,.bool false,.none].toArray }:=by heap_get
 have hcC:(Value.ref C::bm).contains (.ref C)=true:=#[];unfold isInstance
 repeat (first | with_reducible exact za2 Dz ?_ | (with_reducible exact zaE hC₁ ?_;rw[hcC]) | wp_step)
 change wpAny _ _ (typeLookup (.ref C) _) _ _ _;exact wpAny_typeLookup_tail hC₁ (hn.keeps up) (T.keeps up) F.mroIs F.init.lookup ?_;rw[hi];exact za6 (KW ?_);unfold bindSpecial;exact KW (zaI (T:="function") #[_,hfI₁,DC] ?_);rw[if_pos ()];exact Ad (KW (za3 (hq _ (h.objs.size+1) (DJ _) #[up,zaQ (DJ _),h.objs.size,Dz,zaQ (Ak _),?_]) (λ r s' hr=>?_) λ _ _ x=>x))
 .show gV _ (Heap.get?_push_at rfl rfl)
 .let#[rfl,hQ]:=hr
  wp_walk
  show hQ
def XW (F:ExcBaseFacts B newId HC Ft) (T:OwnTail h Ft bm) {mN:Ar}{E9:Ae}{fI:Addr}{oI:Obj}{Q:Af}
  (hC:h.get? C=↑(excClassObj nm q C N bs bm hdct sn sub ab col dd k0 k1 k2 k3 k5 newId)) (hn:h.Ns N mN) (hi:mN "__init__"=↑(.ref fI))
  (IH:h.get? fI=↑oI) (DC:oI.cls=.type "function")
  (hq:∀ h' e,h.objs.size<=e->Heap.MadeExcOf h h' e (.ref C) E9->
   wpAny (model prog w) (A.under (.builtin "type.__call__" #[.ref C::E9,[]])) (call (.ref fI) (.ref e::E9)) (λ r s'=>r=.none/\Q (.ref e) s') E #[h',g,d,t,os]) (Gz:E9.length<=sizeLine):
  wpAny (model prog w) A (call (.ref C) E9) Q E #[h,g,d,t,os]:=by
 have f1:=tc_lookup;have f2:=tc_bind (.ref C);have hT:(#[h,g,d,t,os]:Shared).TypeIs (.ref C) "type":=#[_,hC,rfl];exact wpAny_call (codeAny_of_tree ?_);change wpAny _ _ (callAny (.ref C) _) _ _ _
 repeat (any_goals (first | assumption | with_reducible exact za2 hC ?_ | wp_step))
 exact#[rfl,?_];show codeAny_call_builtin_at (Code.quiet_builtin _ (AO)) entry_typeCall (wpAny_check_type_call_sub hC (XG F T hC hn hi IH DC (λ h' e hl hm=>hq h' e hl hm) Gz))
def XJ {M:Model}{env:Env}{s:Shared}{x:Sem Value}{Q:Flow->Shared->Prop}(FT:bm.contains (.type "BaseException")=true) (hh:A.handled=none)
  (hx:wpAny M A x (λ v s₁=>∃ e zD vs sl,v=.ref e/\s₁.heap.get? C=↑(excClassObj nm q C N bs bm hdct sn sub ab col dd k0 k1 k2 k3 k5 newId)/\
   s₁.heap.get? e=↑{ cls:=.ref C,dict:=zD,data:=.fields [.ref vs,.none,.none,.none,.bool false,.none].toArray,slots:=sl }/\E (.ref e) s₁) E s):
  wpAny M A (raiseStmt env ↑x none) Q E s:=by
 have HV:(Value.ref C::bm).contains (.type "BaseException")=true:=by rw[Bu,FT,CL]
 unfold raiseStmt;exact KW (za3 hx (λ v s₁ h₁=>?_) λ _ _ x=>x);let#[e,zD,vs,sl,rfl,hC,he,hE]:=h₁;let#[hp,g,d,tk,os]:=s₁
 repeat (first | with_reducible exact za2 he ?_ | with_reducible exact za2 hC ?_ | (with_reducible exact zaE hC ?_;rw[HV]) | wp_step)
 show wpAny_raiseNew_none hh hE
end
end PySem
namespace PySem
open Builtin Builtin.ObjectAttr
section
variable {prog:Program}{w:World}{M:Model}{A:Around}{E:Af}{h:Heap}{g:Array GenState}{d:Drawn}{t:Nat}{os:OsState}
variable {nm q:Str}{C N P x:Addr}{bs Ft:Ae}{hdct:Bool}{sn:List Str}{sub:Ae}{ab:Bool}{col:Option Bool}{dd:Option Addr}{k0 k1 k2 k3 k5:Option Value}{B newId:String}
 {mN mP:Ar}{name:Str}{v:Value}
structure sg (h:Heap) (P:Addr) (mP:Ar):Prop where
 ex:∃ (c0:Value) (dd:Option Addr) (cd:ClassData) (sl:Array (Option Value)),h.get? P=↑{ cls:=c0,dict:=dd,data:=.cls cd,slots:=sl }/\h.Ns cd.ns mP
def sL {n:Str}{y:Option Value}{Q:Option Value->Shared->Prop}
  (hC:h.get? C=↑(excClassObj nm q C N bs (.ref P::Ft) hdct sn sub ab col dd k0 k1 k2 k3 k5 newId)) (hn:h.Ns N mN) (hP:sg h P mP) (hbm:mroOf (.type B)=pure Ft) (hB:typeLookup (.type B) n=pure y)
  (h1:mN n=none) (h2:mP n=none) (hq:Q y #[h,g,d,t,os]):wpAny M A (typeLookup (.ref C) n) Q E #[h,g,d,t,os]:=by
 let#[c0,pd,cd,sl,hA,hN]:=hP.ex;have Gz:lookupAlong Ft n=pure y:=by rw[typeLookup_eq,hbm] at hB;show hB
 rw[typeLookup_eq];exact KW (wpAny_mroOf_exc hC ?_);rw[lookupAlong_cons];exact KW (wpAny_classOwn_exc hC hn ?_);rw[h1];change wpAny M A (lookupAlong (.ref P::Ft) n) Q E _;rw[lookupAlong_cons];exact KW (wpAny_classOwn_cls hA hN ?_);rw[h2];change wpAny M A (lookupAlong Ft n) Q E _;rw[Gz];show Ad hq
def XU {o:Obj}{Gy:Value}{Q:Unit->Shared->Prop}{sa owner:String}(SF:StoreFacts B Ft sa owner)
  (hC:h.get? C=↑(excClassObj nm q C N bs (.ref P::Ft) true sn sub ab col dd k0 k1 k2 k3 k5 newId)) (hx:h.get? x=↑o) (hc:o.cls=.ref C) (hq:Q Unit.unit #[h,g,d,t,os]):
  wpAny M A (checkBuiltinCall sa #[[.ref x,Gy,v],[]]) Q E #[h,g,d,t,os]:=by
 have HV:(Value.ref C::.ref P::Ft).contains (.type owner)=true:=by rw[Bu,Bu,SF.hasOwner,CL,CL]
 have ha:=SF.args (.ref x) Gy v;simp![checkBuiltinCall,SF.kind,SF.split];exact KW ?_;unfold isInstance
 repeat (first | (with_reducible exact za2 hx ?_;rw[hc]) | (with_reducible exact zaE hC ?_;rw[HV]) | wp_step)
 cases Ex:Manifest.signature? sa with
 | none=>show Ad hq
 | some sig=>
  simp![argsOk,Ex] at ha;have h2:Bind.checkArgs sa sig #[[.ref x,Gy,v],[]]=pure Unit.unit:=ha;change wpAny M A (Bind.checkArgs sa sig #[[.ref x,Gy,v],[]]) Q E _;rw[h2];show Ad hq
def XH {tk:Tok}{Q:Fin->Shared->Prop}{sa owner:String}{o:Obj}(SF:StoreFacts B Ft sa owner)
  (hC:h.get? C=↑(excClassObj nm q C N bs (.ref P::Ft) true sn sub ab col dd k0 k1 k2 k3 k5 newId)) (hn:h.Ns N mN) (hP:sg h P mP) (BQ:mN name=none) (BO:mP name=none)
  (hB:typeLookup (.type B) name=pure none) (hx:h.get? x=↑o) (hc:o.cls=.ref C) (EZ:o.dict=none) (BP:∀ c,o.data≠.cls c)
  (hq:∀ h' Hx,h'.get? x=↑{ o with dict:=↑h.objs.size }->h'.Ns1 h.objs.size (λ y=>if y=name then ↑v else none)->
   (∀ b o,b≠x->h.get? b=↑o->h'.get? b=↑o)->Q (.done (.ret .none)) #[h',g,d,Hx,os]):
  wpAny (model prog w) A (Builtin.«object.__setattr__» #[[.ref x,.str name tk,v],[]]) Q E #[h,g,d,t,os]:=by
 have JA:=SF.passes (.ref x);unfold Builtin.«object.__setattr__»
 repeat (first | rw[refuse_eq] | (rw[refuseLoop_ref,refuseLoop_ref,JA]) | (with_reducible exact za2 hx ?_;rw[hc]) | with_reducible exact wpAny_mroOf_exc hC ?_ | (with_reducible exact sL hC hn hP SF.mro hB BQ BO ?_) | wp_step)
 rw[EZ,if_neg (by simp[typeHasDict])];split
 .rename_i Ba;cases Ba
 split
 .rename_i c Ba;show absurd Ba (BP c)
 .have hx₁:(h.push { cls:=.type "dict",data:=.dict [].toArray }).get? x=↑o:=gV _ hx;have hxs:x≠h.objs.size:=AB (Ap hx);exact KW (wpAny_alloc' ?_);exact KW (wpAny_update' hx₁ ?_);exact Ad ?_;have hgd:((h.push { cls:=.type "dict",data:=.dict [].toArray }).update x λ o=>{ cls:=o.cls,dict:=↑h.objs.size,data:=o.data,slots:=o.slots }).get? h.objs.size
    = ↑{ cls:=.type "dict",data:=.dict [].toArray }:=
   (zaL _ _ _ _ hxs.symm).trans (Heap.get?_push_at rfl rfl)
  have Bm:((h.push { cls:=.type "dict",data:=.dict [].toArray }).update x λ o=>{ cls:=o.cls,dict:=↑h.objs.size,data:=o.data,slots:=o.slots }).Ns h.objs.size (λ _=>none):=
   #[_,[].toArray,_,hgd,rfl,λ e he=>absurd he #[],λ _=>rfl]
  change wpAny _ _ (storeInDict h.objs.size (.str name tk) name v) _ _ _;unfold storeInDict newKeyGuard;exact KW (Ad (KW (wpAny_nsSet1 (Heap.Ns1.of_empty Bm) λ h' GU hs=>?_)));let#[oD,esD,epD,hoD,hdD,hcD]:=GU.count (Within.cons name v Within.nil);exact KW (wpAny_lookBehind hoD (by rw[hdD];show pastItsLine_dict (Bo hcD (by rw[A9,B9,sizeLine_eq];lia))) ?_)
  wp_walk
  exact hq h' _ ?_ GU λ b ob hbx hb=>?_
  .exact (hs.2 x hxs).trans (za7 _ hx₁ ?_);have AI:=(Heap.get?_some_iff.mp hx).2;let#[oc,od,odt,Hk]:=o;cases odt <;> first | rfl | show AI
  .show (hs.2 b (AB (Ap hb))).trans ((zaL _ _ _ _ hbx).trans (gV _ hb))
def XI {Q:Unit->Shared->Prop}{sa owner:String}{o:Obj}(SF:StoreFacts B Ft sa owner)
  (hC:h.get? C=↑(excClassObj nm q C N bs (.ref P::Ft) true sn sub ab col dd k0 k1 k2 k3 k5 newId)) (hn:h.Ns N mN) (hP:sg h P mP) (BI:mN "__setattr__"=none) (hps:mP "__setattr__"=none) (BQ:mN name=none) (BO:mP name=none)
  (hB:typeLookup (.type B) name=pure none) (hx:h.get? x=↑o) (hc:o.cls=.ref C) (EZ:o.dict=none) (BP:∀ c,o.data≠.cls c)
  (hq:∀ h' Hx,h'.get? x=↑{ o with dict:=↑h.objs.size }->h'.Ns1 h.objs.size (λ y=>if y=name then ↑v else none)->
   (∀ b o,b≠x->h.get? b=↑o->h'.get? b=↑o)->Q Unit.unit #[h',g,d,Hx,os]):
  wpAny (model prog w) A (setAttr (.ref x) name v) Q E #[h,g,d,t,os]:=by
 have f3:=SF.slot.bind (.ref x);unfold setAttr callSpecial? specialOf
 repeat (any_goals (first | assumption | (with_reducible exact za2 hx ?_;rw[hc]) | (with_reducible exact sL hC hn hP SF.mro SF.slot.lookup BI hps ?_) | wp_step))
 exact codeAny_call_builtin SF.slot.plain SF.entry (XU SF hC hx hc (XH SF hC hn hP BQ BO hB hx hc EZ BP λ h' Hx h1 h2 h3=>?_))
 repeat (any_goals (first | assumption | wp_step))
 show hq h' Hx h1 h2 h3
end
section
variable {prog:Program}{w:World}{M:Model}{A:Around}{E:Af}{h:Heap}{g:Array GenState}{d:Drawn}{t:Nat}{os:OsState}
variable {nm q:Str}{C N P x dx:Addr}{bs Ft:Ae}{sn:List Str}{sub:Ae}{ab:Bool}{col:Option Bool}{dd:Option Addr}{k0 k1 k2 k3 k5:Option Value}{B newId:String}
 {mN mP mA:Ar}{name:Str}{v:Value}{o:Obj}
def eB {Gy:Value}{Q:Unit->Shared->Prop}(hb:Ft.contains (.type "BaseException")=true) (hC:h.get? C=↑(excClassObj nm q C N bs (.ref P::Ft) true sn sub ab col dd k0 k1 k2 k3 k5 newId))
  (hx:h.get? x=↑o) (hc:o.cls=.ref C) (hq:Q Unit.unit #[h,g,d,t,os]):wpAny M A (checkBuiltinCall "BaseException.__getattribute__" #[[.ref x,Gy],[]]) Q E #[h,g,d,t,os]:=by
 have hk:builtinKind "BaseException.__getattribute__"=↑.slot:=by decide +kernel
 have IA:splitId "BaseException.__getattribute__"=↑("BaseException","__getattribute__"):=by decide +kernel
 have HV:(Value.ref C::.ref P::Ft).contains (.type "BaseException")=true:=by rw[Bu,Bu,hb];rfl
 have ha:=F.args_bexc_ga (.ref x) Gy;simp![checkBuiltinCall,hk,IA];exact KW ?_;unfold isInstance
 repeat (first | (with_reducible exact za2 hx ?_;rw[hc]) | (with_reducible exact zaE hC ?_;rw[HV]) | wp_step)
 show hq
def XM {tk:Tok}{Q:Fin->Shared->Prop}
  (hC:h.get? C=↑(excClassObj nm q C N bs (.ref P::Ft) true sn sub ab col dd k0 k1 k2 k3 k5 newId)) (hn:h.Ns N mN) (hP:sg h P mP) (hm:mroOf (.type B)=pure Ft) (BQ:mN name=none) (BO:mP name=none)
  (hB:typeLookup (.type B) name=pure none) (hx:h.get? x=↑o) (hc:o.cls=.ref C) (BP:∀ c,o.data≠.cls c) (CH:o.dict=↑dx) (BI:h.Ns1 dx mA) (hv:mA name=↑v) (hq:Q (.done (.ret v)) #[h,g,d,t,os]):
  wpAny (model prog w) A (Builtin.«object.__getattribute__» #[[.ref x,.str name tk],[]]) Q E #[h,g,d,t,os]:=by
 unfold Builtin.«object.__getattribute__»
 repeat (first | (with_reducible exact za2 hx ?_;rw[hc]) | (with_reducible exact sL hC hn hP hm hB BQ BO ?_) | wp_step)
 split
 .rename_i c Ba;show absurd Ba (BP c)
 unfold instanceDict
 repeat (first | (with_reducible exact za2 hx ?_;rw[hc]) | with_reducible exact za2 hC ?_ | wp_step)
 rw[CH]
 repeat (first | (with_reducible exact wpAny_nsGet BI.ns ?_;rw[hv]) | wp_step)
 show hq
def XO {expr:Bool}{Q:Af}(FB:ExcAttrBase B Ft)
  (hC:h.get? C=↑(excClassObj nm q C N bs (.ref P::Ft) true sn sub ab col dd k0 k1 k2 k3 k5 newId)) (hn:h.Ns N mN) (hP:sg h P mP) (HM:mN "__getattribute__"=none) (Jy:mP "__getattribute__"=none) (Jx:mN "__getattr__"=none) (Jw:mP "__getattr__"=none) (BQ:mN name=none) (BO:mP name=none)
  (hB:typeLookup (.type B) name=pure none) (hx:h.get? x=↑o) (hc:o.cls=.ref C) (BP:∀ c,o.data≠.cls c) (CH:o.dict=↑dx) (BI:h.Ns1 dx mA) (hv:mA name=↑v) (hh:handedOut v=pure v) (hq:Q v #[h,g,d,t+1,os]):
  wpAny (model prog w) A (getAttr (.ref x) name expr) Q E #[h,g,d,t,os]:=by
 have f3:=FB.ga.bind (.ref x);have hx0:(expr&&onTheHeap (Value.builtin "BaseException.__getattribute__"))=false:=by cases expr <;> rfl
 have hx2:(Value.builtin "BaseException.__getattribute__" == Value.builtin "object.__getattribute__")=false:=by decide +kernel
 have hx1:(onTheHeap (Value.ref C)&&Value.builtin "BaseException.__getattribute__" == Value.builtin "object.__getattribute__")=false:=by rw[hx2];rfl
 unfold getAttr getAttrBy
 repeat (any_goals (first | assumption | (with_reducible exact za2 hx ?_;rw[hc]) | with_reducible exact sL hC hn hP FB.mro FB.ga.lookup HM Jy ?_ | with_reducible exact sL hC hn hP FB.mro FB.noGetattr Jx Jw ?_ | wp_step))
 exact codeAny_call_builtin FB.ga.plain F.entry_bexc_ga (eB FB.hasBase hC hx hc (XM hC hn hP FB.mro BQ BO hB hx hc BP CH BI hv ?_))
 repeat (any_goals (first | assumption | (rw[hh];show Ad hq) | wp_step))
end
section
variable {prog:Program}{w:World}{A:Around}{E:Af}{h:Heap}{g:Array GenState}{d:Drawn}{t:Nat}{os:OsState}
variable {nm q:Str}{C N P x:Addr}{bs Ft:Ae}{sn:List Str}{sub:Ae}{ab:Bool}{col:Option Bool}{dd:Option Addr}{k0 k1 k2 k3 k5:Option Value}{B newId:String}
 {mN mP:Ar}{o:Obj}
def XQ {R:Result->Shared->Prop}(hb:Ft.contains (.type "object")=true) (hC:h.get? C=↑(excClassObj nm q C N bs (.ref P::Ft) true sn sub ab col dd k0 k1 k2 k3 k5 newId))
  (hx:h.get? x=↑o) (hc:o.cls=.ref C) (hq:R (.ok (.ret (.ref C))) #[h,g,d,t,os]):
  codeAny (model prog w) A (.call (.builtin "getset_descriptor.__get__") #[[.builtin "object.__class__",.ref x,.ref C],[]]) R #[h,g,d,t,os]:=by
 have hT5:(#[h,g,d,t,os]:Shared).TypeIs (.builtin "object.__class__") "getset_descriptor":=F.typeOf_object_class;have HV:(Value.ref C::.ref P::Ft).contains (.type (".".intercalate ("object.__class__".cutAt '.').dropLast))=true:=by rw[F.owner_object_class,Bu,Bu,hb];rfl
 exact codeAny_call_builtin F.slot_gs_get.plain F.entry_gs_get (F.slot_gs_get.check _ _ _ _ _ _ _ _ hT5 (F.args_gs_get _ _ _) ?_)
 repeat (any_goals (first | assumption | (with_reducible exact za2 hx ?_;rw[hc]) | (with_reducible exact zaE hC ?_;rw[HV]) | wp_step))
 exact#[Code.quiet_builtin _ (AO),codeAny_builtin F.entry_object_class ?_]
 repeat (any_goals (first | assumption | (with_reducible exact za2 hx ?_;rw[hc]) | wp_step))
def XR {tk:Tok}{Q:Fin->Shared->Prop}(hb:Ft.contains (.type "object")=true) (hC:h.get? C=↑(excClassObj nm q C N bs (.ref P::Ft) true sn sub ab col dd k0 k1 k2 k3 k5 newId)) (hn:h.Ns N mN) (hP:sg h P mP) (hm:mroOf (.type B)=pure Ft)
  (hB:typeLookup (.type B) "__class__"=pure ↑(.builtin "object.__class__")) (BQ:mN "__class__"=none) (BO:mP "__class__"=none)
  (hx:h.get? x=↑o) (hc:o.cls=.ref C) (hq:Q (.done (.ret (.ref C))) #[h,g,d,t,os]):
  wpAny (model prog w) A (Builtin.«object.__getattribute__» #[[.ref x,.str "__class__" tk],[]]) Q E #[h,g,d,t,os]:=by
 have hT5:(#[h,g,d,t,os]:Shared).TypeIs (.builtin "object.__class__") "getset_descriptor":=F.typeOf_object_class;have f5:=F.typeOf_object_class;have f6:=F.slot_gs_get.lookup;have f7:=F.slot_gs_set.lookup
 repeat (any_goals (first | assumption | (with_reducible exact za2 hx ?_;rw[hc]) | (with_reducible exact sL hC hn hP hm hB BQ BO ?_) | wp_step))
 exact XQ hb hC hx hc ?_
 repeat (any_goals (first | assumption | wp_step))
def XT {tk:Tok}{Q:Af}(FB:ExcAttrBase B Ft) (hb:Ft.contains (.type "object")=true) (hC:h.get? C=↑(excClassObj nm q C N bs (.ref P::Ft) true sn sub ab col dd k0 k1 k2 k3 k5 newId)) (hn:h.Ns N mN) (hP:sg h P mP)
  (hB:typeLookup (.type B) "__class__"=pure ↑(.builtin "object.__class__")) (HM:mN "__getattribute__"=none) (Jy:mP "__getattribute__"=none) (Jx:mN "__getattr__"=none) (Jw:mP "__getattr__"=none) (BQ:mN "__class__"=none) (BO:mP "__class__"=none)
  (hx:h.get? x=↑o) (hc:o.cls=.ref C) (hq:Q (.ref C) #[h,g,d,t,os]):wpAny (model prog w) A (getAttrBy (.ref x) (.str "__class__" tk) false) Q E #[h,g,d,t,os]:=by
 have f3:=FB.ga.bind (.ref x);have hx2:(Value.builtin "BaseException.__getattribute__" == Value.builtin "object.__getattribute__")=false:=by decide +kernel
 have hx1:(onTheHeap (Value.ref C)&&Value.builtin "BaseException.__getattribute__" == Value.builtin "object.__getattribute__")=false:=by rw[hx2];rfl
 repeat (any_goals (first | assumption | (with_reducible exact za2 hx ?_;rw[hc]) | with_reducible exact sL hC hn hP FB.mro FB.ga.lookup HM Jy ?_ | with_reducible exact sL hC hn hP FB.mro FB.noGetattr Jx Jw ?_ | wp_step))
 exact codeAny_call_builtin FB.ga.plain F.entry_bexc_ga (eB FB.hasBase hC hx hc (XR hb hC hn hP FB.mro hB BQ BO hx hc ?_))
 repeat (any_goals (first | assumption | wp_step))
def eA {Q:Option Value->Shared->Prop}(FB:ExcAttrBase B Ft) (hb:Ft.contains (.type "object")=true) (hC:h.get? C=↑(excClassObj nm q C N bs (.ref P::Ft) true sn sub ab col dd k0 k1 k2 k3 k5 newId)) (hn:h.Ns N mN) (hP:sg h P mP)
  (hB:typeLookup (.type B) "__class__"=pure ↑(.builtin "object.__class__")) (HM:mN "__getattribute__"=none) (Jy:mP "__getattribute__"=none) (Jx:mN "__getattr__"=none) (Jw:mP "__getattr__"=none) (BQ:mN "__class__"=none) (BO:mP "__class__"=none)
  (hx:h.get? x=↑o) (hc:o.cls=.ref C) (hq:Q ↑(.ref C) #[h,g,d,t+1,os]):wpAny (model prog w) A (getAttr? (.ref x) "__class__") Q E #[h,g,d,t,os]:=by
 unfold getAttr? getAttrBy?
 repeat (any_goals (first | assumption | with_reducible apply XT FB hb hC hn hP hB HM Jy Jx Jw BQ BO hx hc | wp_step))
end
section
variable {prog:Program}{w:World}{A:Around}{E:Af}{h:Heap}{g:Array GenState}{d:Drawn}{t:Nat}{os:OsState}
variable {nm q:Str}{C N P x D:Addr}{bs Ft:Ae}{sn:List Str}{sub:Ae}{ab:Bool}{col:Option Bool}{dd:Option Addr}{k0 k1 k2 k3 k5:Option Value}{B newId:String}
 {mN mP:Ar}{o:Obj}
structure fm (h:Heap) (C P:Addr) (B:String) (Ft:Ae):Prop where
 FB:ExcAttrBase B Ft
 hb:Ft.contains (.type "object")=true
 hB:typeLookup (.type B) "__class__"=pure ↑(.builtin "object.__class__")
 ex:∃ (nm q:Str) (N:Addr) (bs:Ae) (sn:List Str) (sub:Ae) (ab:Bool) (col:Option Bool) (dd:Option Addr) (k0 k1 k2 k3 k5:Option Value) (newId:String) (mN mP:Ar),
  h.get? C=↑(excClassObj nm q C N bs (.ref P::Ft) true sn sub ab col dd k0 k1 k2 k3 k5 newId)/\h.Ns N mN/\sg h P mP/\
  ∀ n∈(["__getattribute__","__getattr__","__class__"]:List Str),mN n=none/\mP n=none
def e9 {tk:Tok}{dep:Int}{Q:Fin->Shared->Prop}{oD:Obj}{cD:ClassData}(X:fm h C P B Ft) (hx:h.get? x=↑o) (hc:o.cls=.ref C) (hD:h.get? D=↑oD) (hDc:oD.cls=.type "type") (hDd:oD.data=.cls cD)
  (hq:∀ t',Q (.done (.ret (.bool ((Value.ref C::.ref P::Ft).contains (.ref D))))) #[h,g,d,t',os]):
  wpAny (model prog w) A (Builtin.«isinstance.nested» #[[.ref x,.ref D,.int dep tk],[]]) Q E #[h,g,d,t,os]:=by
 let#[FB,hb,hB,nm,q,N,bs,sn,sub,ab,col,dd,k0,k1,k2,k3,k5,newId,mN,mP,hC,hn,hP,hm]:=X;have m1:=hm "__getattribute__" (.head _);have m2:=hm "__getattr__" (.tail _ (.head _));have m3:=hm "__class__" (.tail _ (.tail _ (.head _)));by_cases he:C=D
 .subst he;have BJ:(Value.ref C::.ref P::Ft).contains (.ref C)=true:=#[];rw[BJ] at hq;have EY:(Value.ref C == Value.ref C)=true:=#[]
  repeat (any_goals (first | assumption | (with_reducible exact za2 hx ?_;rw[hc]) | wp_step))
  show hq _
 .have EY:(Value.ref C == Value.ref D)=false:=by exists he
  cases BJ:(Value.ref C::.ref P::Ft).contains (.ref D) with
  | true=>
   rw[BJ] at hq
   repeat (any_goals (first | assumption | (with_reducible exact za2 hx ?_;rw[hc]) | (with_reducible exact za2 hD ?_;rw[hDc]) | (with_reducible exact za2 hD ?_;rw[hDd]) | (with_reducible exact zaE hC ?_;rw[BJ]) | wp_step))
   show hq _
  | false=>
   rw[BJ] at hq
   repeat (any_goals (first | assumption | (with_reducible exact za2 hx ?_;rw[hc]) | (with_reducible exact za2 hD ?_;rw[hDc]) | (with_reducible exact za2 hD ?_;rw[hDd]) | (with_reducible exact zaE hC ?_;rw[BJ]) | with_reducible apply eA FB hb hC hn hP hB m1.1 m1.2 m2.1 m2.2 m3.1 m3.2 hx hc | with_reducible exact za2 hC ?_ | wp_step))
   show hq _
def ez {tk:Tok}{dep:Int}{Q:Fin->Shared->Prop}{T:String}(X:fm h C P B Ft) (hx:h.get? x=↑o) (hc:o.cls=.ref C) (hty:typeOf (.type T)=pure (.type "type"))
  (hq:∀ t',Q (.done (.ret (.bool (Ft.contains (.type T))))) #[h,g,d,t',os]):
  wpAny (model prog w) A (Builtin.«isinstance.nested» #[[.ref x,.type T,.int dep tk],[]]) Q E #[h,g,d,t,os]:=by
 let#[FB,hb,hB,nm,q,N,bs,sn,sub,ab,col,dd,k0,k1,k2,k3,k5,newId,mN,mP,hC,hn,hP,hm]:=X;have m1:=hm "__getattribute__" (.head _);have m2:=hm "__getattr__" (.tail _ (.head _));have m3:=hm "__class__" (.tail _ (.tail _ (.head _)));have EY:(Value.ref C == Value.type T)=false:=rfl;have BJ:(Value.ref C::.ref P::Ft).contains (.type T)=Ft.contains (.type T):=by rw[Bu,Bu];rfl
 cases hct:Ft.contains (.type T) with
 | true=>
  rw[hct] at hq BJ
  repeat (any_goals (first | assumption | (with_reducible exact za2 hx ?_;rw[hc]) | (with_reducible exact zaE hC ?_;rw[BJ]) | wp_step))
  show hq _
 | false=>
  rw[hct] at hq BJ
  repeat (any_goals (first | assumption | (with_reducible exact za2 hx ?_;rw[hc]) | (with_reducible exact zaE hC ?_;rw[BJ]) | with_reducible apply eA FB hb hC hn hP hB m1.1 m1.2 m2.1 m2.2 m3.1 m3.2 hx hc | with_reducible exact za2 hC ?_ | wp_step))
  show hq _
def jx {c:Value}{b:Bool}{s:Shared}{Q:Af}(hn:∀ (prog:Program) (w:World) (A:Around) (Q:Fin->Shared->Prop) (E:Af),(∀ t',Q (.done (.ret (.bool b))) { s with toks:=t' })->wpAny (model prog w) A (Builtin.«isinstance.nested» #[[.ref x,c,rawInt 0],[]]) Q E s)
  (hq:∀ t',Q (.bool b) { s with toks:=t' }):wpAny (model prog w) A (call (.builtin "isinstance") [.ref x,c]) Q E s:=
 call_isinstance (S:=λ _ R s'=>s'=s/\∀ t',R (.ok (.ret (.bool b))) { s with toks:=t' }) (λ prog w A R s' hs=>by
  let#[rfl,hs]:=hs;exact isinstance_outer (hn prog w _ _ _ λ t'=>?_) (λ e=>by cases e);show hs t') #[rfl,λ t'=>hq t']
end
namespace Heap
def p_ (h base:Heap) (e:Addr) (cls a0 fl:Value) (zD:Option Addr) (T:Addr):Prop:=
 ∃ oe vs oT ts,h.get? e=↑oe/\((oe.cls=cls/\oe.dict=zD)/\vs[0]?=↑a0)/\oe.data=.fields vs/\vs[1]?=↑(.ref T)/\base.get? T=none/\T≠e/\h.get? T=↑oT/\oT.data=.fields ts/\ts[3]?=↑fl
structure jd (base:Heap) (l:List Env) (e:Addr) (cls a0:Value) (zD:Option Addr) (h h':Heap):Prop where
 stays:base.StaysIn h'
 frames:h'.FunFrames base l
 tr:∃ T,h.objs.size<=T/\h'.p_ base e cls a0 .none zD T
 slots:h.UpToSlots h'
 qh:∀ b o vs,h.get? b=↑o->o.data=.fields vs->∃ o' G3,h'.get? b=↑o'/\o'.data=.fields G3
end Heap
def Obj.Zc (f:Array Value->Array Value) (o:Obj):(Obj.mapFields f o).dict=o.dict:=by
 let#[c,dc,dt,sl]:=o;cases dt <;> rfl
section
variable {M:Model}{A:Around}{E:Af}{s:Shared}
def ej {base:Heap}{env:Env}{outer:List Env}{L e:Addr}{oe:Obj}{vs:Aw}{head a0:Value}{GW:Bool}{Q:Unit->Shared->Prop}
  (AI:A.frames=↑(env::outer)) (hl:s.heap.FunFrames base (env::outer)) (hf:env.frame=↑L)
  (he:s.heap.get? e=↑oe) (B1:base.StaysIn s.heap) (Cf:base.get? e=none) (hd:oe.data=.fields vs) (hsz:1<vs.size) (h0:vs[0]?=↑a0)
  (h:∀ h',Heap.jd base (env::outer) e oe.cls a0 oe.dict s.heap h'->Q Unit.unit { s with heap:=h' }):
  wpAny M A (do let a <- frameOf env;let pl <- entryPlaceOf L GW;let b <- EntryCells.newEntry head a .none (rawInt L) .none pl;setField (.ref e) 1 b) (λ _ s'=>wpAny M A (setFlight (.ref e) none) Q E s') E s:=by
 have CG:e∉(env::outer).filterMap (·.frame):=λ hm=>by
  let#[_,o,ho,AF]:=hl.mem hm;rw[he] at ho;cases ho;show AF vs hd
 exact KW (wpAny_frameOf_fun AI hl hf λ h₁ Hm=>KW (wpAny_entryPlaceOf λ pl Ao=>?_));unfold EntryCells.newEntry newFields;exact KW (za8 ?_ (Ao.sizeOk5 _ _ _ _ _));have JH:h₁.get? e=↑oe:=(Hm.2.1 e CG).trans he;have Jr:base.StaysIn h₁:=λ b o AV=>(Hm.2.1 b λ hm=>by rw[(hl.mem hm).1] at AV;cases AV).trans (B1 b o AV);generalize Dn:({ cls:=.type "traceback",dict:=none,data:=.fields ([head,.ref L,.none,rawInt L,.none]++(if pl.isEmpty then List.replicate 6 Value.none else pl)).toArray }:Obj)=tb;have Jh:tb.data=.fields ([head,.ref L,.none,rawInt L,.none]++(if pl.isEmpty then List.replicate 6 Value.none else pl)).toArray:=by rw[<- Dn]
 have KY:tb.isFreed=false:=by rw[<- Dn];rfl
 have JG:(h₁.push tb).get? e=↑oe:=gV _ JH;exact zaD JG hd hsz ?_;have Hi:h₁.objs.size≠e:=BW (Ap JH);have Ig:=Obj.data_mapFields hd (·.setIfInBounds 1 (Value.ref h₁.objs.size));have IY:=za7 (Obj.mapFields (·.setIfInBounds 1 (Value.ref h₁.objs.size))) JG (Obj.isFreed_of_fields Ig);have J7:=(za9 (h₁.push tb) (Obj.mapFields (·.setIfInBounds 1 (Value.ref h₁.objs.size))) (Ne.symm Hi)).trans (AM h₁ KY);unfold setFlight;exact KW (za4 IY Ig (x:=.ref h₁.objs.size) (by simp[hsz]) ?_);rw[if_pos (show (Value.ref h₁.objs.size != Value.none)=true from by simp)];exact zaD J7 Jh (by simp![AE,Cb,A9,B9] <;> lia) (h _ ?_);have keep:∀ b o,b≠e->h₁.get? b=↑o->(((h₁.push tb).update e (Obj.mapFields (·.setIfInBounds 1 (Value.ref h₁.objs.size)))).update h₁.objs.size (Obj.mapFields (·.setIfInBounds 3 ((none:Option Addr).elim Value.none λ f=>rawInt f)))).get? b=↑o:=λ b o BD hb=>by
  rw[za9 _ _ (BW (Ap hb)),za9 _ _ (Ne.symm BD)];show gV _ hb
 have Ff:∀ b o,s.heap.get? b=↑o->(∀ vs,o.data≠.fields vs)->b≠e:=λ b o hb AF q=>by
  rw[q,he] at hb;cases hb;show AF vs hd
 exact#[λ b o AV=>keep b o (λ q=>by rw[q,Cf] at AV;cases AV) (Jr b o AV),hl.of_keeps λ b o hb AF=>?_,?_,λ b o hb AF=>?_,λ b o us hb Bn=>?_]
 .let#[sl,hs]:=Hm.2.2 b o hb;show#[_,keep b _ (Ff b o hb AF) hs,rfl]
 .exact#[h₁.objs.size,by rw[Hm.1];show Ak _,_,_,_,_,?_,#[#[Obj.cls_mapFields _ _,Obj.Zc _ _],by rw[zcE ()];show h0],Ig,by simp[hsz],Jr.fresh,Hi,za7 _ J7 (Obj.isFreed_of_fields (Obj.data_mapFields Jh _)),Obj.data_mapFields Jh _,by first | (simp;done) | (rcases Ao with rfl | ⟨_,_,_,_,_,_,_,rfl⟩ <;> simp)];rw[za9 _ _ Hi];show IY
 .let#[sl,hs]:=Hm.2.2 b o hb;show#[sl,keep b _ (Ff b o hb AF) hs]
 .by_cases q:b=e
  .subst q;show#[_,_,(by rw[za9 _ _ Hi];show IY),Ig]
  .have hb₁:h₁.get? b=↑o:=(Hm.2.1 b λ hm=>by
    let#[_,o',FQ,AF]:=hl.mem hm;rw[hb] at FQ;cases FQ;show AF us Bn).trans hb
   show#[o,us,keep b o q hb₁,Bn]
def XE {base:Heap}{env:Env}{outer:List Env}{L e:Addr}{oe:Obj}{vs:Aw}{a0:Value}{Q:Unit->Shared->Prop}
  (AI:A.frames=↑(env::outer)) (hl:s.heap.FunFrames base (env::outer)) (hf:env.frame=↑L)
  (he:s.heap.get? e=↑oe) (B1:base.StaysIn s.heap) (Cf:base.get? e=none) (hd:oe.data=.fields vs) (h1:vs[1]?=↑.none) (h0:vs[0]?=↑a0)
  (h:∀ h',Heap.jd base (env::outer) e oe.cls a0 oe.dict s.heap h'->Q Unit.unit { s with heap:=h' }):wpAny M A (leaving env (.ref e)) Q E s:=by
 unfold leaving noteFrame;simp![hf];exact KW (KW (za4 he hd h1 ?_));rw[if_neg ()];show ej AI hl hf he B1 Cf hd (Array.getElem?_eq_some_iff.mp h1).1 h0 h
def XB {base:Heap}{env:Env}{outer:List Env}{L e:Addr}{cls a0:Value}{zD:Option Addr}{T:Addr}{Q:Unit->Shared->Prop}
  (AI:A.frames=↑(env::outer)) (hl:s.heap.FunFrames base (env::outer)) (hf:env.frame=↑L) (ht:s.heap.p_ base e cls a0 .none zD T) (B1:base.StaysIn s.heap) (Cf:base.get? e=none)
  (h:∀ h',Heap.jd base (env::outer) e cls a0 zD s.heap h'->Q Unit.unit { s with heap:=h' }):wpAny M A (leaving env (.ref e)) Q E s:=by
 let#[oe,vs,oT,ts,he,#[#[rfl,rfl],h0],hd,h1,IV,Hi,hT,GY,h3]:=ht;unfold leaving noteFrame;simp![hf];exact KW (KW (za4 he hd h1 ?_));rw[if_pos (show (Value.ref T != Value.none)=true from by simp)];exact KW (za4 hT GY h3 ?_);rw[if_neg (show ¬ ((Value.none == rawInt L)=true) from by simp[rawInt])];exact KW (zaD hT GY (Array.getElem?_eq_some_iff.mp h3).1 ?_);have other:∀ b,b≠T->(s.heap.update T (Obj.mapFields (·.setIfInBounds 3 Value.none))).get? b=s.heap.get? b:=λ b hb=>za9 _ _ (Ne.symm hb);have Ff:∀ b o,s.heap.get? b=↑o->(∀ vs,o.data≠.fields vs)->b≠T:=λ b o hb AF q=>by
  rw[q,hT] at hb;cases hb;show AF ts GY
 exact ej AI (hl.of_keeps λ b o hb AF=>#[o,(other b (Ff b o hb AF)).trans hb,rfl]) hf ((other e (Ne.symm Hi)).trans he)
  (λ b o AV=>(other b λ q=>by rw[q,IV] at AV;cases AV).trans (B1 b o AV)) Cf hd (Array.getElem?_eq_some_iff.mp h1).1 h0
  λ h' x=>h h' #[x.stays,x.frames,(by
   let#[T',n,r]:=x.tr;show#[T',by rw[Heap.size_after_update] at n;show n,r]),λ b o hb AF=>x.slots b o ((other b (Ff b o hb AF)).trans hb) AF,λ b o us hb Bn=>(by
   by_cases q:b=T
   .subst q;show x.qh _ _ _ (za7 _ hT (Obj.isFreed_of_fields (Obj.data_mapFields GY _))) (Obj.data_mapFields GY _)
   .show x.qh b o us ((other b q).trans hb) Bn)]
end
structure Heap.Yk (base:Heap) (l:List Env) (e:Addr) (cls a0 fl:Value) (zD:Option Addr) (h h':Heap):Prop where
 stays:base.StaysIn h'
 frames:h'.FunFrames base l
 tr:∃ T,h.objs.size<=T/\h'.p_ base e cls a0 fl zD T
 slots:h.UpToSlots h'
 qh:∀ b o vs,h.get? b=↑o->o.data=.fields vs->∃ o' G3,h'.get? b=↑o'/\o'.data=.fields G3
section
variable {M:Model}{A:Around}{E:Af}{s:Shared}
def XF {base:Heap}{env:Env}{outer:List Env}{L e:Addr}{oe:Obj}{vs:Aw}{head a0:Value}{GW:Bool}{Q:Unit->Shared->Prop}
  (AI:A.frames=↑(env::outer)) (hl:s.heap.FunFrames base (env::outer)) (hf:env.frame=↑L)
  (he:s.heap.get? e=↑oe) (B1:base.StaysIn s.heap) (Cf:base.get? e=none) (hd:oe.data=.fields vs) (hsz:1<vs.size) (h0:vs[0]?=↑a0)
  (h:∀ h',Heap.Yk base (env::outer) e oe.cls a0 (rawInt L) oe.dict s.heap h'->Q Unit.unit { s with heap:=h' }):
  wpAny M A (do let a <- frameOf env;let pl <- entryPlaceOf L GW;let b <- EntryCells.newEntry head a .none (rawInt L) .none pl;setField (.ref e) 1 b) Q E s:=by
 have CG:e∉(env::outer).filterMap (·.frame):=λ hm=>by
  let#[_,o,ho,AF]:=hl.mem hm;rw[he] at ho;cases ho;show AF vs hd
 exact KW (wpAny_frameOf_fun AI hl hf λ h₁ Hm=>KW (wpAny_entryPlaceOf λ pl Ao=>?_));unfold EntryCells.newEntry newFields;exact KW (za8 ?_ (Ao.sizeOk5 _ _ _ _ _));have JH:h₁.get? e=↑oe:=(Hm.2.1 e CG).trans he;have Jr:base.StaysIn h₁:=λ b o AV=>(Hm.2.1 b λ hm=>by rw[(hl.mem hm).1] at AV;cases AV).trans (B1 b o AV);generalize Dn:({ cls:=.type "traceback",dict:=none,data:=.fields ([head,.ref L,.none,rawInt L,.none]++(if pl.isEmpty then List.replicate 6 Value.none else pl)).toArray }:Obj)=tb;have Jh:tb.data=.fields ([head,.ref L,.none,rawInt L,.none]++(if pl.isEmpty then List.replicate 6 Value.none else pl)).toArray:=by rw[<- Dn]
 have KY:tb.isFreed=false:=by rw[<- Dn];rfl
 have JG:(h₁.push tb).get? e=↑oe:=gV _ JH;exact zaD JG hd hsz (h _ ?_);have Hi:h₁.objs.size≠e:=BW (Ap JH);have Ig:=Obj.data_mapFields hd (·.setIfInBounds 1 (Value.ref h₁.objs.size));have IY:=za7 (Obj.mapFields (·.setIfInBounds 1 (Value.ref h₁.objs.size))) JG (Obj.isFreed_of_fields Ig);have J7:=(za9 (h₁.push tb) (Obj.mapFields (·.setIfInBounds 1 (Value.ref h₁.objs.size))) (Ne.symm Hi)).trans (AM h₁ KY);have keep:∀ b o,b≠e->h₁.get? b=↑o->((h₁.push tb).update e (Obj.mapFields (·.setIfInBounds 1 (Value.ref h₁.objs.size)))).get? b=↑o:=λ b o BD hb=>by
  rw[za9 _ _ (Ne.symm BD)];show gV _ hb
 have Ff:∀ b o,s.heap.get? b=↑o->(∀ vs,o.data≠.fields vs)->b≠e:=λ b o hb AF q=>by
  rw[q,he] at hb;cases hb;show AF vs hd
 exact#[λ b o AV=>keep b o (λ q=>by rw[q,Cf] at AV;cases AV) (Jr b o AV),hl.of_keeps λ b o hb AF=>?_,?_,λ b o hb AF=>?_,λ b o us hb Bn=>?_]
 .let#[sl,hs]:=Hm.2.2 b o hb;show#[_,keep b _ (Ff b o hb AF) hs,rfl]
 .show#[h₁.objs.size,by rw[Hm.1];show Ak _,_,_,_,_,IY,#[#[Obj.cls_mapFields _ _,Obj.Zc _ _],by rw[zcE ()];show h0],Ig,by simp[hsz],Jr.fresh,Hi,J7,Jh,#[]]
 .let#[sl,hs]:=Hm.2.2 b o hb;show#[sl,keep b _ (Ff b o hb AF) hs]
 .by_cases q:b=e
  .subst q;show#[_,_,IY,Ig]
  .have hb₁:h₁.get? b=↑o:=(Hm.2.1 b λ hm=>by
    let#[_,o',FQ,AF]:=hl.mem hm;rw[hb] at FQ;cases FQ;show AF us Bn).trans hb
   show#[o,us,keep b o q hb₁,Bn]
def XA {base:Heap}{env:Env}{outer:List Env}{L e:Addr}{cls a0:Value}{zD:Option Addr}{T:Addr}{Q:Unit->Shared->Prop}
  (AI:A.frames=↑(env::outer)) (hl:s.heap.FunFrames base (env::outer)) (hf:env.frame=↑L) (ht:s.heap.p_ base e cls a0 .none zD T) (B1:base.StaysIn s.heap) (Cf:base.get? e=none)
  (h:∀ h',Heap.Yk base (env::outer) e cls a0 (rawInt L) zD s.heap h'->Q Unit.unit { s with heap:=h' }):wpAny M A (noteFrame (.ref e) env) Q E s:=by
 let#[oe,vs,oT,ts,he,#[#[rfl,rfl],h0],hd,h1,IV,Hi,hT,GY,h3]:=ht;unfold noteFrame;simp![hf];exact KW (za4 he hd h1 ?_);rw[if_pos (show (Value.ref T != Value.none)=true from by simp)];exact KW (za4 hT GY h3 ?_);rw[if_neg (show ¬ ((Value.none == rawInt L)=true) from by simp[rawInt])];exact KW (zaD hT GY (Array.getElem?_eq_some_iff.mp h3).1 ?_);have other:∀ b,b≠T->(s.heap.update T (Obj.mapFields (·.setIfInBounds 3 Value.none))).get? b=s.heap.get? b:=λ b hb=>za9 _ _ (Ne.symm hb);have Ff:∀ b o,s.heap.get? b=↑o->(∀ vs,o.data≠.fields vs)->b≠T:=λ b o hb AF q=>by
  rw[q,hT] at hb;cases hb;show AF ts GY
 exact XF AI (hl.of_keeps λ b o hb AF=>#[o,(other b (Ff b o hb AF)).trans hb,rfl]) hf ((other e (Ne.symm Hi)).trans he)
  (λ b o AV=>(other b λ q=>by rw[q,IV] at AV;cases AV).trans (B1 b o AV)) Cf hd (Array.getElem?_eq_some_iff.mp h1).1 h0
  λ h' x=>h h' #[x.stays,x.frames,(by
   let#[T',n,r]:=x.tr;show#[T',by rw[Heap.size_after_update] at n;show n,r]),λ b o hb AF=>x.slots b o ((other b (Ff b o hb AF)).trans hb) AF,λ b o us hb Bn=>(by
   by_cases q:b=T
   .subst q;show x.qh _ _ _ (za7 _ hT (Obj.isFreed_of_fields (Obj.data_mapFields GY _))) (Obj.data_mapFields GY _)
   .show x.qh b o us ((other b q).trans hb) Bn)]
def ei {base:Heap}{l:List Env}{e:Addr}{cls a0 fl:Value}{zD:Option Addr}{T:Addr}{Q:Unit->Shared->Prop}
  (B1:base.StaysIn s.heap) (hl:s.heap.FunFrames base l) (ht:s.heap.p_ base e cls a0 fl zD T)
  (h:∀ h',base.StaysIn h'->h'.FunFrames base l->h'.p_ base e cls a0 .none zD T->s.heap.UpToSlots h'->(∀ b o vs,s.heap.get? b=↑o->o.data=.fields vs->∃ o' G3,h'.get? b=↑o'/\o'.data=.fields G3)->Q Unit.unit { s with heap:=h' }):wpAny M A (setFlight (.ref e) none) Q E s:=by
 let#[oe,vs,oT,ts,he,Bg,hd,h1,IV,Hi,hT,GY,h3]:=ht;have Jv:3<ts.size:=(Array.getElem?_eq_some_iff.mp h3).1;have other:∀ b,b≠T->(s.heap.update T (Obj.mapFields (·.setIfInBounds 3 ((none:Option Addr).elim Value.none λ f=>rawInt f)))).get? b=s.heap.get? b:=
  λ b hb=>za9 _ _ (Ne.symm hb)
 have Ff:∀ b o,s.heap.get? b=↑o->(∀ vs,o.data≠.fields vs)->b≠T:=λ b o hb AF q=>by
  rw[q,hT] at hb;cases hb;show AF ts GY
 unfold setFlight;exact KW (za4 he hd h1 ?_);rw[if_pos (show (Value.ref T != Value.none)=true from by simp)];exact zaD hT GY Jv (h _ (λ b o AV=>(other b λ q=>by rw[q,IV] at AV;cases AV).trans (B1 b o AV))
  (hl.of_keeps λ b o hb AF=>#[o,(other b (Ff b o hb AF)).trans hb,rfl]) ?_ (λ b o hb AF=>#[o.slots,(other b (Ff b o hb AF)).trans hb]) λ b o us hb Bn=>?_)
 .show#[oe,vs,_,_,(other e (Ne.symm Hi)).trans he,Bg,hd,h1,IV,Hi,za7 _ hT (Obj.isFreed_of_fields (Obj.data_mapFields GY _)),Obj.data_mapFields GY _,by simp[Jv]]
 .by_cases q:b=T
  .subst q;show#[_,_,za7 _ hT (Obj.isFreed_of_fields (Obj.data_mapFields GY _)),Obj.data_mapFields GY _]
  .show#[o,us,(other b q).trans hb,Bn]
end
end PySem
namespace PySem
open Calls Spec
section
variable {prog:Program}{w:World}{M:Model}{A:Around}{E:Af}{env:Env}
variable {nm q:Str}{C N:Addr}{bs bm:Ae}{hdct:Bool}{sn:List Str}{sub:Ae}{ab:Bool}{col:Option Bool}{dd:Option Addr}{k0 k1 k2 k3 k5:Option Value}{newId:String}
variable {nm' q':Str}{P N':Addr}{IL HW:Ae}{Ih:Bool}{Ir:List Str}{G5:Ae}{IM:Bool}{G9:Option Bool}{Hw:Option Addr}{l0 l1 l2 l3 l5:Option Value}{HB:String}
def XC {h:Heap}{g:Array GenState}{d:Drawn}{t:Nat}{os:OsState}{e:Addr}{oe:Obj}{Q:Bool->Shared->Prop}
  (hC:h.get? C=↑(excClassObj nm q C N bs bm hdct sn sub ab col dd k0 k1 k2 k3 k5 newId)) (hP:h.get? P=↑(excClassObj nm' q' P N' IL HW Ih Ir G5 IM G9 Hw l0 l1 l2 l3 l5 HB))
  (he:h.get? e=↑oe) (Bg:oe.cls=.ref C) (FT:HW.contains (.type "BaseException")=true) (hm:bm.contains (.ref P)=true)
  (hq:Q true #[h,g,d,t,os]):wpAny M A (excMatches (.ref e) (.ref P)) Q E #[h,g,d,t,os]:=by
 have HV:(Value.ref P::HW).contains (.type "BaseException")=true:=by rw[Bu,FT,CL]
 have hcP:(Value.ref C::bm).contains (.ref P)=true:=by rw[Bu,hm,CL]
 have f:=tc_notTuple;unfold excMatches
 repeat (first | (with_reducible exact za2 he ?_;rw[Bg]) | with_reducible exact za2 hP ?_ | (with_reducible exact zaE hP ?_;rw[HV]) | (with_reducible exact zaE hC ?_;rw[hcP]) | wp_step)
 show hq
def XD {s:Shared}{e:Addr}{t:Expr}{n:Str}{b₀:Stmt}{HY:List Stmt}{pos:Pos}{E9:List ExceptHandler}{Q:Flow->Shared->Prop}
  (FT:HW.contains (.type "BaseException")=true) (hm:bm.contains (.ref P)=true)
  (h:wpAny (model prog w) (A.mark ↑(.ref e)) (eval t env) (λ c s₁=>c=.ref P/\s₁.heap.get? C=↑(excClassObj nm q C N bs bm hdct sn sub ab col dd k0 k1 k2 k3 k5 newId)/\s₁.heap.get? P=↑(excClassObj nm' q' P N' IL HW Ih Ir G5 IM G9 Hw l0 l1 l2 l3 l5 HB)/\(∃ oe,s₁.heap.get? e=↑oe/\oe.cls=.ref C)/\
   wpAny (model prog w) (A.mark ↑(.ref e)) (setFlight (.ref e) none) (λ _ s₂=>
     wpAny (model prog w) (A.mark ↑(.ref e)) (storeName env n (.ref e)) (λ _ s₃=>
      wpAny (model prog w) (A.mark ↑(.ref e)) (execs (b₀::HY) env)
       (λ f s₄=>wpAny (model prog w) A (do bindName env n .none;unbindBehindTheSuite env n pos) (λ _ s₅=>Q f s₅) E s₄)
       (AsSuiteRaised (model prog w) (A.mark ↑(.ref e)) env n pos (notedBy (model prog w) (A.mark ↑(.ref e)) env (cameBackBy (model prog w) A env E))) s₃) (notedBy (model prog w) (A.mark ↑(.ref e)) env (cameBackBy (model prog w) A env E)) s₂) (notedBy (model prog w) (A.mark ↑(.ref e)) env (cameBackBy (model prog w) A env E)) s₁) (notedBy (model prog w) (A.mark ↑(.ref e)) env (cameBackBy (model prog w) A env E)) s):
  wpAny (model prog w) A (handleBy (.ref e) env (.ExceptHandler ↑t ↑n (b₀::HY) pos::E9)) Q E s:=by
 exact wpAny_handleBy_cons (codeAny_handlers_test (za3 h (λ c s₁ h₁=>?_) λ _ _ y=>y)) (by intro q;cases q);let#[rfl,hC,hP,#[oe,he,Bg],hk]:=h₁;let#[hh,g,d,tk,os]:=s₁;show XC hC hP he Bg FT hm (codeAny_handlers_suite_as hk)
end
end PySem
namespace L3
open PySem PySem.Spec L2
open PyProof.Rows hiding St
def wb (T:Addr):HO:=.ext λ h=>∃ oT ts,h.get? T=↑oT/\oT.data=.fields ts
def Yt (h:Heap) (e:Addr):Prop:=∃ oe vs a0,h.get? e=↑oe/\oe.data=.fields vs/\vs[1]?=↑.none/\vs[0]?=↑a0
def qK (h:Heap) (H:Hp) (e:Addr):Prop:=∃ oe vs a0 T oT ts,h.get? e=↑oe/\oe.data=.fields vs/\vs[0]?=↑a0/\vs[1]?=↑(.ref T)/\T≠e/\H T=↑(wb T)/\h.get? T=↑oT/\oT.data=.fields ts/\ts[3]?=↑.none
def mB (H:Hp) (e:Addr):Prop:=∃ C dx,H e=↑(wF e C dx)
section
variable {P:Program}{w:World}{H:Hp}{h h':Heap}
def gk {fs as:List Addr}(zp:yd P w H h) (hf:∀ b∈fs,H b=none/\∀ o,h.get? b=↑o->∀ vs,o.data≠.fields vs) (st:(PySem.W.hideAll h as).StaysIn h') (us:h.UpToSlots h')
  (has:∀ a∈as,a∈fs\/∃ φ:Heap->Prop,H a=↑(.ext φ)/\φ h'/\∃ o,h'.get? a=↑o):Un fs [] H H h h'/\yd P w H h':=by
 have GQ:∀ b o,b∉as->h.get? b=↑o->h'.get? b=↑o:=λ b o hb e=>st b o (PySem.W.hideAll_get _ e hb);exact#[#[λ b o e n hb _=>GQ b o (λ hm=>?_) e,λ b o e n hb _=>us b o e ((hf b hb).2 o e),λ _ _ _ n _=>n,λ b o e _=>?_,λ _ _ q=>q,λ _ _ _ q=>q,λ _ ps q=>#[[].toArray,by rw[q];simp]],λ a o e=>?_]
 .rcases has b hm with z | ⟨φ,z,_⟩
  .show hb z
  .rw[n] at z;cases z
 .by_cases hm:b∈as
  .rcases has b hm with z | ⟨φ,_,_,z⟩
   .let#[sl,q]:=us b o e ((hf b z).2 o e);show#[_,q]
   .show z
  .show#[o,GQ b o hm e]
 .by_cases hm:a∈as
  .rcases has a hm with z | ⟨φ,z,z1,z2⟩
   .rw[(hf a z).1] at e;cases e
   .rw[e] at z;cases z;show#[z1,z2,(zp a _ e).2.2]
  .exact (zp a o e).vm (λ b u hb q=>?_) (λ _ q=>q) λ _ _ q=>q;rcases hb with rfl | hb
   .show GQ _ u hm q
   .exact GQ _ u (λ IW=>?_) q;rcases has b IW with z | ⟨φ,z,_⟩
    .rw[(hf b z).1] at hb;cases hb
    .rw[hb] at z;cases z
def aD {fs:List Addr}{T:Addr}{oT:Obj}{ts:Aw}(u:Un fs [] H H h h') (zp:yd P w H h') (hk:yd P w H h) (hp:h.objs.size<=T) (e:h'.get? T=↑oT) (hd:oT.data=.fields ts):
  H T=none/\Un fs [] H (upd H T (wb T)) h h'/\yd P w (upd H T (wb T)) h':=by
 have hn:=hk.fresh hp;exact#[hn,#[u.keep,u.slot,λ b o q n x=>by rw[zI (AB (Bc (Ap q) hp))];show n,u.there,λ b xs q=>by rw[zI (xC q hn)];show q,λ b o xs q=>by rw[zI (xC q hn)];show q,λ b ps q=>#[[].toArray,by rw[zI (xC q hn),q];simp]],λ b o q=>?_];by_cases hb:b=T
 .subst hb;rw[zZ] at q;cases q;show#[#[oT,ts,e,hd],#[oT,e],λ h1 h2 #[o,ts,a,b] k=>#[o,ts,k _ a,b]]
 .rw[zI hb] at q;show (zp b o q).vm (λ _ _ _ z=>z) (λ c z=>by rw[zI (xC z hn)];show z) λ c xs z=>by rw[zI (xC z hn)];show z
end
section
variable {X:Cx}{E6:Ai}{Y:St}{H:Hp}{s:Shared}{e:Addr}
def gi (I:Inv X E6 Y H s):∀ b∈yP X.stack,H b=none/\∀ o,s.heap.get? b=↑o->∀ vs,o.data≠.fields vs:=λ b hb=>
 #[I.jG b hb,λ o ho=>by
  let#[_,o',FQ,hd]:=I.stack.mem hb;rw[ho] at FQ;cases FQ;show hd]
def aQ {H:Hp}{h:Heap}{P:Program}{w:World}{C dx:Addr}{oe:Obj}(zp:yd P w H h) (he:H e=↑(wF e C dx)) (q:h.get? e=↑oe):oe.cls=.ref C/\oe.dict=↑dx:=by
 let#[#[o',_,a,b,c,_],_]:=zp e _ he;rw[q] at a;cases a;show#[b,c]
def OI {M:Model}{E:Af}(I:Inv X E6 Y H s) (AH:X.stack=X.env::X.outer) (AI:X.env.frame=↑X.env.locals) (he:mB H e) (hf:Yt s.heap e\/qK s.heap H e) {Q:Unit->Shared->Prop}
  (hq:∀ h' T,H T=none->Un (yP X.stack) [] H (upd H T (wb T)) s.heap h'->yd X.prog X.w (upd H T (wb T)) h'->qK h' (upd H T (wb T)) e->Q Unit.unit { s with heap:=h' }):wpAny M X.A (leaving X.env (.ref e)) Q E s:=by
 let#[C,dx,hE]:=he;have hF:=I.ok.frames;rw[AH] at hF;have hS:=I.stack;rw[AH] at hS;have fin:∀ (as:List Addr) (oe:Obj) (a0:Value),s.heap.get? e=↑oe->(∀ a∈as,a=e\/a∈yP X.stack\/H a=↑(wb a))->
   ∀ h':Heap,Heap.jd (PySem.W.hideAll s.heap as) (X.env::X.outer) e oe.cls a0 oe.dict s.heap h'->Q Unit.unit { s with heap:=h' }:=λ as oe a0 g0 has h' x=>by
  let#[T,hp,Iy,G3,oT,ts,a1,#[#[a2,a3],a4],a5,a6,a7,a8,a9,JS,a11]:=x.tr;let#[z1,z2]:=aQ I.zp hE g0;let#[u,zp]:=gk (as:=as) I.zp (gi I) x.stays x.slots λ a ha=>by
   rcases has a ha with z | z | z
   .rw[z];show .inr #[_,hE,#[Iy,G3,a1,a2.trans z1,a3.trans z2,a5],Iy,a1]
   .show .inl z
   .let#[#[oT,ts,q1,q2],_]:=I.zp a _ z;let#[o',KU,q3,q4]:=x.qh _ _ _ q1 q2;show .inr #[_,z,#[o',KU,q3,q4],o',q3]
  let#[n,u',BA]:=aD u zp I.zp hp a9 JS;show hq h' T n u' BA #[Iy,G3,a0,T,oT,ts,a1,a5,a4,a6,a8,zZ,a9,JS,a11]
 have Bf:∀ (r:List Addr),∀ env∈X.env::X.outer,∀ a,env.frame=↑a->a∈r++yP X.stack:=λ r env hm a ha=>A3 _ (CT.mpr #[env,by rw[AH];show hm,ha]);rcases hf with ⟨oe,vs,a0,g0,g1,g2,g3⟩ | ⟨oe,vs,a0,T,oT,ts,g0,g1,g3,g2,g4,g5,g6,g7,g8⟩
 .exact XE (base:=PySem.W.hideAll s.heap ([e]++yP X.stack)) hF (PySem.W.funFrames_hide hS (Bf _)) AI g0 (λ b o q=>PySem.W.of_hideAll _ q) (PySem.W.hideAll_none _ #[]) g1 g2 g3 (fin _ oe a0 g0 λ a ha=>?_);rcases A1.mp ha with q | q
  .show .inl (A2.mp q)
  .show .inr (.inl q)
 .exact XB (base:=PySem.W.hideAll s.heap ([e,T]++yP X.stack)) hF (PySem.W.funFrames_hide hS (Bf _)) AI #[oe,vs,oT,ts,g0,#[#[rfl,rfl],g3],g1,g2,PySem.W.hideAll_none _ #[],g4,g6,g7,g8] (λ b o q=>PySem.W.of_hideAll _ q) (PySem.W.hideAll_none _ #[]) (fin _ oe a0 g0 λ a ha=>?_);rcases A1.mp ha with q | q
  .rcases Am.mp q with q | q
   .show .inl q
   .show .inr (.inr (by rw[A2.mp q];show g5))
  .show .inr (.inl q)
end
section
variable {X:Cx}{E6:Ai}{Y:St}{H:Hp}{s:Shared}{e:Addr}{M:Model}{A:Around}{E:Af}
def Ob (I:Inv X E6 Y H s) (AH:X.stack=X.env::X.outer) (AI:X.env.frame=↑X.env.locals) (he:mB H e) (hf:qK s.heap H e) {Q:Unit->Shared->Prop}
  (hq:∀ h' T,H T=none->Un (yP X.stack) [] H (upd H T (wb T)) s.heap h'->yd X.prog X.w (upd H T (wb T)) h'->qK h' (upd H T (wb T)) e->Q Unit.unit { s with heap:=h' }):
  wpAny M X.A (noteFrame (.ref e) X.env) (λ _ s₂=>wpAny M X.A (setFlight (.ref e) none) Q E s₂) E s:=by
 let#[C,dx,hE]:=he;have hF:=I.ok.frames;rw[AH] at hF;have hS:=I.stack;rw[AH] at hS;let#[oe,vs,a0,T,oT,ts,g0,g1,g3,g2,g4,g5,g6,g7,g8]:=hf;have Bf:∀ env∈X.env::X.outer,∀ a,env.frame=↑a->a∈[e,T]++yP X.stack:=λ env hm a ha=>A3 _ (CT.mpr #[env,by rw[AH];show hm,ha]);exact XA (base:=PySem.W.hideAll s.heap ([e,T]++yP X.stack)) hF (PySem.W.funFrames_hide hS Bf) AI #[oe,vs,oT,ts,g0,#[#[rfl,rfl],g3],g1,g2,PySem.W.hideAll_none _ #[],g4,g6,g7,g8] (λ b o q=>PySem.W.of_hideAll _ q) (PySem.W.hideAll_none _ #[]) λ h1 x=>?_;let#[T',hp,tr]:=x.tr;exact ei (s:={ s with heap:=h1 }) x.stays x.frames tr λ h2 y1 y2 y3 y4 y5=>?_;let#[Iy,G3,oT',KU,a1,#[#[a2,a3],a4],a5,a6,a7,a8,a9,JS,a11]:=y3;let#[z1,z2]:=aQ I.zp hE g0;let#[u,zp]:=gk (as:=[e,T]++yP X.stack) I.zp (gi I) y1 (x.slots.trans y4) λ a ha=>by
  rcases A1.mp ha with q | q
  .rcases Am.mp q with q | q
   .rw[q];show .inr #[_,hE,#[Iy,G3,a1,a2.trans z1,a3.trans z2,a5],Iy,a1]
   .rw[A2.mp q];let#[o1,t1,b1,b2]:=x.qh _ _ _ g6 g7;let#[o2,t2,b3,b4]:=y5 _ _ _ b1 b2;show .inr #[_,g5,#[o2,t2,b3,b4],o2,b3]
  .show .inl q
 let#[n,u',BA]:=aD u zp I.zp hp a9 JS;show hq h2 T' n u' BA #[Iy,G3,a0,T',oT',KU,a1,a5,a4,a6,a8,zZ,a9,JS,a11]
def OX (I:Inv X E6 Y H s) (he:mB H e) (hf:qK s.heap H e) {Q:Unit->Shared->Prop}
  (hq:∀ h',Un (yP X.stack) [] H H s.heap h'->yd X.prog X.w H h'->Q Unit.unit { s with heap:=h' }):wpAny M A (setFlight (.ref e) none) Q E s:=by
 let#[C,dx,hE]:=he;let#[oe,vs,a0,T,oT,ts,g0,g1,g3,g2,g4,g5,g6,g7,g8]:=hf;have Bf:∀ env∈X.stack,∀ a,env.frame=↑a->a∈[T]++yP X.stack:=λ env hm a ha=>A3 _ (CT.mpr #[env,hm,ha]);exact ei (base:=PySem.W.hideAll s.heap ([T]++yP X.stack)) (λ b o q=>PySem.W.of_hideAll _ q) (PySem.W.funFrames_hide I.stack Bf) #[oe,vs,oT,ts,g0,#[#[rfl,rfl],g3],g1,g2,PySem.W.hideAll_none _ #[],g4,g6,g7,g8] λ h2 y1 y2 y3 y4 y5=>?_;let#[u,zp]:=gk (as:=[T]++yP X.stack) I.zp (gi I) y1 y4 λ a ha=>by
  rcases A1.mp ha with q | q
  .rw[A2.mp q];let#[o2,t2,b3,b4]:=y5 _ _ _ g6 g7;show .inr #[_,g5,#[o2,t2,b3,b4],o2,b3]
  .show .inl q
 show hq h2 u zp
def Ma {i:Nat}{x:Str}{pos:Pos}{Q:Unit->Shared->Prop}(I:Inv X E6 Y H s) (hN:X.N.Nodup) (hi:X.N[i]?=↑x) (hk:X.env.kindOf x=↑.local)
  (h:∀ s',Inv X E6 (Y.set i none) H s'->Q Unit.unit s'):wpAny M A (do bindName X.env x .none;unbindBehindTheSuite X.env x pos) Q E s:=by
 let#[m,hn,hl]:=id I.loc;have Bg:(X.env.scope.kind == .class||(X.env.scope.kind == .module&&X.env.locals != X.env.globals))=false:=by rw[I.ok.kind];rfl
 have uK:=I.uK;let#[oL,_,_,JB,_]:=id hn;exact wpAny_nameGoes_keeps hk hn Bg λ h' v GU hs=>?_;exact h _ #[I.ok,I.os,I.bare,#[λ b o e n hb hx=>?_,λ b o e n hb hx=>?_,I.base.free,λ b o e hx=>?_,I.base.vj,I.base.vH,I.base.vX],#[_,GU,λ j y v' e1 e2 e3=>?_],λ y c e=>?_,I.free,I.vf,λ p hp=>?_,λ b ob e=>?_,by exists I.len]
 .show (hs.2 b (AB (Bc (Ap e) I.ok.above))).trans (I.base.keep b o e n hb hx)
 .let#[sl,e1]:=I.base.slot b o e n hb hx;show#[sl,(hs.2 b (AB (Bc (Ap e) I.ok.above))).trans e1]
 .let#[o',e1]:=I.base.there b o e hx;show#[o',(hs.2 b (AB (Bc (Ap e) I.ok.above))).trans e1]
 .by_cases hj:j=i
  .subst hj;rw[CP] at e2;simp at e2
  .rw[Eh (Ne.symm hj)] at e2;let#[u',r',q]:=hl j y v' e1 e2 e3;exact#[u',r',?_];rcases q with ⟨k,e⟩ | ⟨k,c,e,z⟩
   .exact .inl #[k,?_];have:y≠x:=λ e=>hj (ix hN e1 (e▸hi));simp[this,e]
   .show .inr #[k,c,e,z.sameBut hs (uK y c e)]
 .let#[w',z]:=I.cell y c e;show#[w',z.sameBut hs (uK y c e)]
 .let#[e,n,ne,nf,d]:=I.pin p hp;show#[(hs.2 p.1 ne).trans e,n,ne,nf,d]
 .exact (I.zp b ob e).vm (λ c w' hc q=>(hs.2 c ?_).trans q) (λ _ q=>q) λ _ _ q=>q;rintro rfl;rcases hc with rfl | hc
  .rw[I.free] at e;cases e
  .rw[I.free] at hc;cases hc
end
abbrev tW:List Str:=["place","pair","way","times","told","name","row"]
def ki {f:Str}(h:f∈tW):f∈sS:=by
 simp![Am,AZ,or_false] at h ⊢;rcases h with h | h | h | h | h | h | h <;> simp[h]
def eG {f:Str}(h:f∈tW):typeLookup (.type "ValueError") f=pure none:=by
 simp![Am,AZ,or_false] at h;rcases h with rfl | rfl | rfl | rfl | rfl | rfl | rfl <;> (rw[typeLookup_type,builtinLookup_eq_fast];kernel_rfl)
def Wg:typeLookup (.type "ValueError") "__class__"=pure ↑(.builtin "object.__class__"):=by rw[typeLookup_type,builtinLookup_eq_fast];kernel_rfl
section
variable {K:Ac}{h:Heap}{c:Str}{C P N NP:Addr}{bm:Ae}
def rG.at (o:rG K c C bm N) (X:K.In h):(∃ (q:Str) (bs:Ae) (sn:List Str) (sub:Ae) (ab:Bool) (col:Option Bool) (dd:Option Addr) (k0 k1 k2 k3 k5:Option Value),h.get? C=↑(excClassObj c q C N bs bm true sn sub ab col dd k0 k1 k2 k3 k5 "ValueError.__new__"))/\h.Ns N (h.nsMap N)/\∀ n∈sS,h.nsMap N n=none:=by
 let#[#[q,bs,sn,sub,ab,col,dd,k0,k1,k2,k3,k5,e],ok,hn]:=o;show#[#[q,bs,sn,sub,ab,col,dd,k0,k1,k2,k3,k5,X _ _ e],.of_isNs (PySem.W.isNs_of_in X ok),λ n m=>PySem.W.nsMap_none_of_in X ok (hn n m)]
theorem rS.mY (e:rS K c C P N NP) (X:K.In h):fm h C P "ValueError" vP:=by
 let#[#[q,bs,sn,sub,ab,col,dd,k0,k1,k2,k3,k5,hC],hN,hn]:=e.own.at X;let#[#[q',IL,Ir,G5,IM,G9,Hw,l0,l1,l2,l3,l5,hP],Il,GU]:=e.par.at X;exact#[PySem.F.attrBase_ValueError,(),Wg,c,q,N,bs,sn,sub,ab,col,dd,k0,k1,k2,k3,k5,_,_,_,hC,hN,#[#[_,_,_,_,hP,Il]],λ n m=>?_];have m':n∈sS:=by
  simp![Am,AZ,or_false] at m ⊢;rcases m with m | m | m <;> simp[m]
 show#[hn n m',GU n m']
end
def mQ (e C vs:Addr):HO:=.ext λ h=>h.get? e=↑{ cls:=.ref C,data:=.fields [.ref vs,.none,.none,.none,.bool false,.none].toArray }
def fJ (e C dx vs:Addr):HO:=.ext λ h=>h.get? e=↑{ cls:=.ref C,dict:=↑dx,data:=.fields [.ref vs,.none,.none,.none,.bool false,.none].toArray }
section
variable {P:Program}{w:World}{fs:List Addr}{H:Hp}{h h':Heap}{e dx:Addr}{φ ψ:Heap->Prop}{fv:List (Str×V)}
def Wm (zp:yd P w H h) (he:H e=↑(.ext φ)) (hd:h.objs.size<=dx) (k:∀ b o,b≠e->h.get? b=↑o->h'.get? b=↑o) (hψ:ψ h') (Ce:∃ o,h'.get? e=↑o)
  (st:∀ h1 h2:Heap,ψ h1->(∀ o,h1.get? e=↑o->h2.get? e=↑o)->ψ h2) (hx:∃ mA,h'.Ns1 dx mA/\∀ f,vQ (fv.lookup f) (mA f)):
  Un fs [] H (upd (upd H dx (.xd fv)) e (.ext ψ)) h h'/\yd P w (upd (upd H dx (.xd fv)) e (.ext ψ)) h':=by
 have hn:H dx=none:=zp.fresh hd;have up:∀ b,b≠e->b≠dx->upd (upd H dx (.xd fv)) e (.ext ψ) b=H b:=λ b a c=>by rw[zI a,zI c]
 have ue:∀ b,H b=none->b≠e:=λ b a z=>by rw[z,he] at a;cases a
 have ux:∀ b o,h.get? b=↑o->b≠dx:=λ b o q=>AB (Bc (Ap q) hd);have us:∀ b u,H b=↑u->(∀ φ,u≠.ext φ)->upd (upd H dx (.xd fv)) e (.ext ψ) b=↑u:=λ b u q n=>by
  rw[up b (uf q he (n _)) (xC q hn)];show q
 exact#[#[λ b o q n _ _=>k b o (ue b n) q,λ b o q n _ _=>#[o.slots,k b o (ue b n) q],λ b o q n _=>by rw[up b (ue b n) (ux b o q)];show n,λ b o q _=>?_,λ b xs q=>us b _ q (λ _ z=>by cases z),λ b o u q=>us b _ q (λ _ z=>by cases z),λ b ps q=>#[[].toArray,by rw[us b _ q (λ _ z=>by cases z)];simp]],λ a o q=>?_]
 .by_cases z:b=e
  .rw[z];show Ce
  .show#[o,k b o z q]
 .by_cases z:a=e
  .subst z;rw[zZ] at q;cases q;show#[hψ,Ce,st]
  .rw[zI z] at q;by_cases z':a=dx
   .subst z';rw[zZ] at q;cases q;show hx
   .rw[zI z'] at q;exact (zp a o q).vm (λ b u hb c=>k b u ?_ c) (λ b c=>us b _ c (λ _ z=>by cases z)) λ b xs c=>us b _ c (λ _ z=>by cases z);rcases hb with rfl | hb
    .show z
    .show uf hb he (by intro z;cases z)
def Wk (zp:yd P w H h) (he:H e=↑(.ext φ)) (hψ:ψ h) (st:∀ h1 h2:Heap,ψ h1->(∀ o,h1.get? e=↑o->h2.get? e=↑o)->ψ h2):
  Un fs [] H (upd H e (.ext ψ)) h h/\yd P w (upd H e (.ext ψ)) h:=by
 have ue:∀ b,H b=none->b≠e:=λ b a z=>by rw[z,he] at a;cases a
 have us:∀ b u,H b=↑u->(∀ φ,u≠.ext φ)->upd H e (.ext ψ) b=↑u:=λ b u q n=>by
  rw[zI (uf q he (n _))];show q
 exact#[#[λ b o q n _ _=>q,λ b o q n _ _=>#[o.slots,q],λ b o q n _=>by rw[zI (ue b n)];show n,λ b o q _=>#[o,q],λ b xs q=>us b _ q (λ _ z=>by cases z),λ b o u q=>us b _ q (λ _ z=>by cases z),λ b ps q=>#[[].toArray,by rw[us b _ q (λ _ z=>by cases z)];simp]],λ a o q=>?_];by_cases z:a=e
 .subst z;rw[zZ] at q;cases q;show#[hψ,(zp a _ he).2.1,st]
 .rw[zI z] at q;show (zp a o q).vm (λ b u hb c=>c) (λ b c=>us b _ c (λ _ z=>by cases z)) λ b xs c=>us b _ c (λ _ z=>by cases z)
end
def WB (K:Ac) (f:Str):TS:=λ D Y H=>∃ e C vs v c,Y[0]?=↑↑(.ref e)/\Y[1]?=↑↑v/\H e=↑(mQ e C vs)/\vU K c C/\
 ∀ dx,H dx=none->dx≠e->D.nx Y (upd (upd H dx (.xd [(f,v)])) e (fJ e C dx vs))
def VU {X:Cx}{o value:Expr}{f:Str}{pos pos':Pos}(hf:f∈tW) (ho:PE X o (oB 0)) (hv:PE X value (oB 1)) (hs:swapsWith value ↑(.Attribute o f pos') pos.line X.env=pure false):
  PS X (.Assign [.Attribute o f pos'] value pos) (WB X.K f):=by
 intro E6 s Y H D I h;let#[e,C,vs,v,c,h0,h1,h2,#[P,N,NP,hE],hq]:=h;exact plainObj_wpAny_Assign_Attribute (zu (hv E6 s Y H (λ x H'=>x=v/\H'=H) I #[v,h1,rfl,rfl]) λ u s1 #[y,H1,I1,ry,ey,eH]=>?_) hs;subst ey eH;exact zu (ho E6 s1 Y H1 (λ x H'=>x=.ref e/\H'=H1) I1 #[_,h0,rfl,rfl]) λ ov s2 #[x,H2,I2,rx,ex,eH2]=>?_;subst ex eH2;obtain rfl:ov=Value.ref e:=rx;let#[hh,g,d,t,os]:=s2;let#[#[q,bs,sn,sub,ab,col,dd,k0,k1,k2,k3,k5,hC],hN,hn]:=hE.own.at I2.yo;let#[#[q',IL,Ir,G5,IM,G9,Hw,l0,l1,l2,l3,l5,hP],Il,GU]:=hE.par.at I2.yo;have hsa:("__setattr__":Str)∈sS:=#[];have h3:hh.get? e=↑{ cls:=.ref C,data:=.fields [.ref vs,.none,.none,.none,.bool false,.none].toArray }:=(I2.zp e _ h2).1;exact XI PySem.F.store_ValueError hC hN #[#[_,_,_,_,hP,Il]] (hn _ hsa) (GU _ hsa) (hn _ (ki hf)) (GU _ (ki hf)) (eG hf) h3 rfl rfl (λ _=>nofun) λ h' Hx z1 z2 z3=>?_;have dn:=I2.zp.fresh (Ak hh.objs.size);let#[u',BA]:=Wm (fs:=X.fs) (fv:=[(f,y)]) (ψ:=λ h=>h.get? e=↑{ cls:=.ref C,dict:=↑hh.objs.size,data:=.fields [.ref vs,.none,.none,.none,.bool false,.none].toArray }) I2.zp h2 (Ak _) z3 z1 #[_,z1] (λ h1 h2 a b=>b _ a) #[_,z2,λ f'=>by
  by_cases EV:f'=f
  .subst EV;simp![Bv,beq_self_eq_true,if_true];show ry
  .have:(f' == f)=false:=by exists EV
   simp![Bv,this,List.lookup_nil,if_neg EV]
   trivial]
 show#[Y,_,I2.un (t':=Hx) u' BA,hq _ dn (xC h2 dn).symm]
def Vd (K:Ac) (f:Str):Sp:=λ vs H Q _=>∃ e C va v c,vs=[.ref e,v]/\H e=↑(mQ e C va)/\vU K c C/\∀ dx,H dx=none->dx≠e->Q .zh (upd (upd H dx (.xd [(f,v)])) e (fJ e C dx va))
structure yR (K:Ac) (mg:Ar) (c f:Str) (st:Stmt):Prop where
 fl:f∈tW
 ex:∃ (C P N NP fI:Addr) (fd:FuncData),rS K c C P N NP/\mg c=↑(.ref C)/\PySem.W.keepIn K (.ref C)=true/\PySem.W.nsIn K N "__init__"=↑↑(.ref fI)/\PySem.W.isFn K (.ref fI)=true/\wV K "__init__" (c++".__init__") st fI fd
structure rM (f:Str) (st:Stmt):Prop where
 sc:vw ["self",f] ["self",f] (zL st)
 bd:∃ p1 p2 p3 p4,yZ st=[.Assign [.Attribute (.Name "self" p1) f p2] (.Name f p3) p4]/\∀ env:Env,swapsWith (.Name f p3) ↑(.Attribute (.Name "self" p1) f p2) p4.line env=pure false
 bn:∀ (x q:Str) (kV doc pm:Value) (an:Option Addr) (Ag ct:Value) (us:Ae),us.length=2->bindArgs (PySem.W.fnOf x q (vg st) (yZ st) (zL st) .none kV doc pm an Ag ct) #[us,[]]=pure ((["self",f]:List Str).zip us)
theorem aE {f:Str}(h:f∈tW):(f == ("__debug__":Str))=false/\(f == ("__classdict__":Str))=false:=by
 simp![Am,AZ,or_false] at h;rcases h with rfl | rfl | rfl | rfl | rfl | rfl | rfl <;> show#[(),()]
def N5 {P:Program}{w:World}{K:Ac}{mg:Ar}{base:Heap}{c f:Str}{st:Stmt}{fI:Addr}{fd:FuncData}(hf:f∈tW) (F:wV K "__init__" (c++".__init__") st fI fd) (S:rM f st):
  xl P w K mg base yG 1 fI fd ["self",f] (Vd K f):=by
 let#[p1,p2,p3,p4,hb,hs]:=S.bd;exact F.ok (k:=0) S.sc (λ vs H Q E #[e,C,va,v,c,h,_]=>by rw[h];rfl) λ Ag A outer s H vs Q E hr h=>?_;rw[hb];let#[e,C,va,v,c',h1,h2,h3,h4]:=h;subst h1;have vis:∀ x∈(["self",f]:List Str),m5 (zL st) x:=λ x m=>(S.sc.par x m).elim .inl (λ z=>.inr (.inl z));show#[_,jW (VU hf (pv 0 rfl (vis _ #[])) (pv 1 rfl (vis _ #[]) (aE hf).1 (aE hf).2) (hs _)),e,C,va,v,c',rfl,rfl,h2,h3,h4]
def Oa {K:Ac}{h:Heap}{N:Addr}{mg:Ar}{n:Str}{v:Value}(X:K.In h) (G:h.Ns N mg) (e:PySem.W.nsIn K N n=↑↑v):mg n=↑v:=by
 let#[o,es,ep,ho,hd,_,hf]:=G;unfold PySem.W.nsIn at e;split at e
 .rename_i c d Gi n' sl q;have:=X _ _ q;rw[ho] at this;cases this;cases hd;split at e
  .rename_i en he;cases e;rw[<- hf];unfold nsFind findBy;rw[<- Array.find?_toList,he];rfl
  .split at e <;> cases e
 .cases e
def XP (X:Cx) (E6:Ai) (fl:Bool) (Y:St) (Q:Addr->Hp->Prop) (v:Value) (s':Shared):Prop:=
 ∃ e FH Y' H',v=.ref e/\(fl=true->FH=E6/\Y'=Y)/\Inv X FH Y' H' s'/\mB H' e/\((fl=false/\Yt s'.heap e)\/qK s'.heap H' e)/\Q e H'
def fC (K:Ac) (c f:Str) (x:V) (e:Addr) (H':Hp):Prop:=∃ C dx,vU K c C/\H' e=↑(wF e C dx)/\H' dx=↑(.xd [(f,x)])
def wp_raise {X:Cx}{c f:Str}{st:Stmt}{e:Expr}{te:TE}{p pos Iv:Pos}{E6:Ai}{Y:St}{H:Hp}{s:Shared}{Q:Addr->Hp->Prop}{R:Flow->Shared->Prop}
  (G:yR X.K X.mg c f st) (S:rM f st) (hr:zX 2 X.A) (hc:X.calm=true) (hn:∀ v s,¬ X.xe v s) (hg:Gl X c) (A_:(c == ("__debug__":Str))=false) (he:PE X e te)
  (hs:Ay X e []) (Ao:AG X pos [])
  {W:Af}(hW:∀ v s',XP X E6 false Y Q v s'->W v s') (I:Inv X E6 Y H s) (h:te Y H λ x H1=>∀ a H',m7 H1 H'->fC X.K c f x a H'->Q a H'):
  wpAny (model X.prog X.w) X.A (exec (.Raise ↑(.Call (.Name c p) [e] [] pos) none Iv) X.env) R W s:=by
 let#[C,P,N,NP,fI,fd,hE,hm,hk,hi,B2,F]:=G.ex;let#[#[q,bs,sn,sub,ab,col,dd,k0,k1,k2,k3,k5,lk],_,_]:=id hE.own;rw[arm_exec_Raise];exact KW (wpAny_standAt (XJ (C:=C) (nm:=c) (q:=q) (N:=N) (bs:=bs) (bm:=.ref P::vP) (hdct:=true) (sn:=sn) (sub:=sub) (ab:=ab) (col:=col) (dd:=dd) (k0:=k0) (k1:=k1) (k2:=k2) (k3:=k3) (k5:=k5) (newId:="ValueError.__new__")
  (by rw[Bu,show vP.contains (.type "BaseException")=true from by decide,CL]) (I.ok.hd hc) (KW (za3 ?_ (λ v s₃ h₃=>KW (wpAny_standAt (Ad h₃))) λ _ _ x=>x))))
 exact zaN (nk I hg hm ?_ A_);have ha:PA X [e] (oH te oG):=v9 he uW hs;exact PySem.W.callWith_K (h₀:=X.base) I.ok.mod.pG hk (za3 (ha pos E6 s Y H (λ vs H1=>match vs with
  | [x]=>∀ a H',m7 H1 H'->fC X.K c f x a H'->Q a H'
  | _=>False) I h) (λ us s1 #[vs,H1,I1,r,q]=>#[I1.yo,?_]) λ _ _ z=>(hn _ _ z).elim) hs Ao
 obtain⟨x,rfl,q⟩:∃ x,vs=[x]/\∀ a H',m7 H1 H'->fC X.K c f x a H'->Q a H':=by
  match vs,q with
  | [x],q=>show#[x,rfl,q]
 obtain⟨u,rfl,r1⟩:∃ u,us=[u]/\RelV x u:=by
  cases r with
  | cons r1 r2=>
   cases r2;show#[_,rfl,r1]
 let#[hh,g,d,t,os]:=s1;have hC:=I1.yo _ _ lk;let#[_,hN,hnn]:=hE.own.at I1.yo;let#[#[q',IL,Ir,G5,IM,G9,Hw,l0,l1,l2,l3,l5,hP],Il,GU]:=hE.par.at I1.yo;have IH:∃ oI,hh.get? fI=↑oI/\oI.cls=.type "function":=by
  let#[oc,od,_,_,_,_,_,_,Hk,_,lf,_]:=F.ex;have z:=beq_iff_eq.mp B2;simp![PySem.W.typeIn,lf,Option.map_some] at z;show#[_,I1.yo _ _ lf,Bb z]
 let#[oI,IH,DC]:=IH;have T:OwnTail hh vP (.ref P::vP):=.own hP Il (PySem.W.ns_none_of I1.yo Il hE.Ug) .base;exact XW PySem.F.excBase_ValueError T hC hN (Oa I1.yo hN hi) IH DC (λ h' e hle M=>?_) (by change 1<=sizeLine;decide);let#[va,m1,m2,m3]:=M.there;have I2:Inv X E6 Y (upd H1 e (mQ e C va)) #[h',g,d,t,os]:=I1.laid (t':=t) M.keeps hle #[m1,#[_,m1],λ h1 h2 a b=>b _ a];have en:H1 e=none:=I1.zp.fresh hle;have r2:Vals [V.ref e,x] [Value.ref e,u]:=.cons rfl (.cons r1 .nil);have F2:=N5 (P:=X.prog) (w:=X.w) (mg:=X.mg) (base:=X.base) G.fl F S;exact wpAny_call (codeAny_mono (F2.run _ X.stack _ _ #[[.ref e,u],[]] [.ref e,u] [.ref e,x] (λ v H2=>v=.zh/\∃ dx,upd H1 e (mQ e C va) dx=none/\dx≠e/\H2=upd (upd (upd H1 e (mQ e C va)) dx (.xd [(f,x)])) e (fJ e C dx va)) E0 ((hr.make C [u] []).mono ()) (I2.gy.make C [u] [])
  (F.binds (ps:=["self",f]) (S.bn _ _) _ _ I2.yo rfl) r2 #[e,C,va,x,c,rfl,zZ,#[P,N,NP,hE],λ dx n ne=>#[rfl,dx,n,ne,rfl]]) λ r s' IC=>?_)
 cases r with
 | error e=>show IC.elim
 | ok fl=>
  cases fl with
  | ret u'=>
   let#[v,H',I3,rv,ev,dx,n,ne,eH]:=I2.after IC;subst ev eH;have g3:=(I3.zp e _ zZ).1;let#[u3,ok3]:=Wk (fs:=X.fs) (ψ:=λ h=>∃ oe vs,h.get? e=↑oe/\oe.cls=.ref C/\oe.dict=↑dx/\oe.data=.fields vs) I3.zp zZ #[_,_,g3,rfl,rfl,rfl] (λ h1 h2 #[oe,vs,a,b] k=>#[oe,vs,k _ a,b]);have I4:=I3.un (t':=s'.toks) u3 ok3;exact#[rv,e,↑dx,va,_,rfl,I3.yo _ _ lk,g3,hW _ _ #[e,E6,Y,_,rfl,nofun,I4,#[C,dx,zZ],.inl #[rfl,_,_,_,g3,rfl,rfl,rfl],q e _ (λ b o z=>?_) #[C,dx,#[P,N,NP,hE],zZ,by rw[zI ne,zI ne,zZ]]]];have b1:b≠e:=λ y=>by rw[y,en] at z;cases z
   have b2:b≠dx:=λ y=>by rw[<- y,zI b1,z] at n;cases n
   rw[zI b1,zI b1,zI b2,zI b1];show z
  | _=>show False.elim IC
def Un.out {fs:List Addr}{L:Addr}{H H1 H2:Hp}{h h1 h2:Heap}(a:Un fs [] H H1 h h1) (b:Un (L::fs) [] H1 H2 h1 h2) (hL:h.get? L=none):Un fs [] H H2 h h2 where
 keep:=λ c o q n hc hx=>b.keep c o (a.keep c o q n hc hx) (a.free c o q n hx) (λ z=>(Am.mp z).elim (λ y=>by rw[y,hL] at q;cases q) hc) hx
 slot:=λ c o q n hc hx=>by
  let#[sl,e]:=a.slot c o q n hc hx;let#[K_,e']:=b.slot c _ e (a.free c o q n hx) (AA _ hc) hx;show#[K_,e']
 free:=λ c o q n hx=>by
  let#[o',e]:=a.there c o q hx;show b.free c o' e (a.free c o q n hx) hx
 there:=λ c o q hx=>by
  let#[o',e]:=a.there c o q hx;show b.there c o' e hx
 vj:=λ c xs q=>b.vj c xs (a.vj c xs q)
 vH:=λ c o xs q=>b.vH c o xs (a.vH c o xs q)
 vX:=λ c ps q=>by
  let#[m1,e1]:=a.vX c ps q;let#[m2,e2]:=b.vX c _ e1;show#[m1++m2,by rw[e2,Ek]]
def o8 (P:Program) (w:World):vV:=λ outer H s E v s'=>∃ e H',v=.ref e/\s'.os=s.os/\AllBare s'.gens/\Un (yP outer) [] H H' s.heap s'.heap/\yd P w H' s'.heap/\mB H' e/\qK s'.heap H' e/\E v none H'
def xl.never {P:Program}{w:World}{K:Ac}{mg:Ar}{base:Heap}{k:Nat}{f:Addr}{fd:FuncData}{ps:List Str}{sp:Sp}(F:xl P w K mg base (o8 P w) k f fd ps sp):
  xl P w K mg base yG k f fd ps (λ vs H Q _=>sp vs H Q λ _ _ _=>False):=
 #[λ vs H Q E h=>F.len _ _ _ _ h,λ A outer s H args us vs Q E hr he hb hv hs=>codeAny_mono (F.run A outer s H args us vs Q _ hr he hb hv hs) λ r s' hq=>by
  cases r with
  | error e=>
   let#[_,_,_,_,_,_,_,_,_,z]:=hq;show z.elim
  | ok fl=>cases fl <;> show hq]
section
variable {X:Cx}{k:Nat}{f:Addr}{fd:FuncData}{ps:List Str}{sp:Sp}{x:Str}{p pos:Pos}{e:Expr}{es:List Expr}{t:TA}{E6:Ai}{Y:St}{H:Hp}{s:Shared}{Q:VK}{Qx:Addr->Hp->Prop}{fl:Bool}
def XY (F:xl X.prog X.w X.K X.mg X.base (o8 X.prog X.w) k f fd ps sp) (hr:zX k X.A) (hg:Gl X x) (hm:X.mg x=↑(.ref f)) (hk:PySem.W.keepIn X.K (.ref f)=true) (hb:Binds X.K fd ps []) (hn:∀ v s,¬ X.xe v s)
  (ha:PA X (e::es) t) (A_:(x == ("__debug__":Str))=false) (he:Ay X e es) (Ao:AG X pos es)
  {W:Af}(hW:∀ v s',XP X E6 fl Y Qx v s'->W v s') (I:Inv X E6 Y H s) (h:t Y H λ vs H1=>sp vs H1 Q λ v _ H'=>∃ a,v=.ref a/\Qx a H'):
  wpAny (model X.prog X.w) X.A (eval (.Call (.Name x p) (e::es) [] pos) X.env) (EP X E6 Y Q) W s:=by
 exact zaN (nk I hg hm ?_ A_);exact PySem.W.callWith_K (h₀:=X.base) I.ok.mod.pG hk (za3 (ha pos E6 s Y H _ I h) (λ us s1 #[vs,H1,I1,r,q]=>#[I1.yo,?_]) λ _ _ z=>(hn _ _ z).elim) he Ao;have hl:us.length=ps.length:=by rw[<- r.length];show F.len _ _ _ _ q
 have Bn:=hb s1 us I1.yo (by rw[Co];show hl);rw[Co] at Bn;exact wpAny_call (codeAny_mono (F.run X.A X.stack s1 H1 #[us,[]] us vs Q _ hr I1.gy Bn r q) λ r s' hq=>?_);cases r with
 | error v=>
  let#[a,H',rfl,os,bare,un,zp,ie,f1,a',ea,z]:=hq;cases ea;show hW _ _ #[a,E6,Y,H',rfl,λ _=>#[rfl,rfl],I1.ZE (ch:=[]) os un zp bare (λ b z=>absurd z #[]),ie,.inr f1,z]
 | ok fl=>
  cases fl with
  | ret u=>show I1.after hq
  | _=>show False.elim hq
end
abbrev nh (X:Cx) (e:Addr):Cx:={ X with A:=X.A.mark ↑(.ref e),calm:=false }
section
variable {X:Cx}{E6:Ai}{Y Y':St}{H H':Hp}{s s':Shared}{e:Addr}
def bV (I:Inv X E6 Y H s) (e:Addr):Inv (nh X e) E6 Y H s:=
 #[#[I.ok.mod,I.ok.kind,I.ok.glob,I.ok.blt,I.ok.above,I.ok.inj,I.ok.has,I.ok.qB,nofun,I.ok.frames,I.ok.qV,I.ok.nL,I.ok.bs,I.ok.t5,I.ok.ql,I.ok.qv,I.ok.vn,I.ok.tV],I.os,I.bare,I.base,I.loc,I.cell,I.free,I.vf,I.pin,I.zp,I.len]
def Nx (I:Inv X E6 Y H s) (J:Inv (nh X e) E6 Y' H' s'):Inv X E6 Y' H' s':=#[I.ok,J.os,J.bare,J.base,J.loc,J.cell,J.free,J.vf,J.pin,J.zp,J.len]
def XX {i j:Nat}{n c:Str}{body:List Stmt}{p1 p2 p3 p4 B0 pos:Pos}{D:Ends}{Qx:Addr->Hp->Prop}(hn:∀ v s,¬ X.xe v s) (AH:X.stack=X.env::X.outer) (AI:X.env.frame=↑X.env.locals)
  (hg:Gl X "PurseError") (hN:X.N.Nodup) (hi:X.N[i]?=↑n) (Bf:X.env.kindOf n=↑.local) (hj:X.N[j]?=↑c) (Dm:Loc X.env.scope c) (DB:X.fn c=true\/X.env.scope.names.lookup c=↑.local) (A7:i≠j)
  (Bm:(n == ("__debug__":Str))=false) (BP:(n == ("__classdict__":Str))=false) (Bz:swapsWith (.Name n p3) ↑(.Name c p2) p4.line X.env=pure false)
  (I:Inv X E6 Y H s) (hb:wpAny (model X.prog X.w) X.A (execs body X.env) (SP X E6 D) (XP X E6 true Y Qx) s)
  (hx:∀ a H',Qx a H'->(∃ cn C dx,vU X.K cn C/\H' a=↑(wF a C dx))/\∀ T,H' T=none->D.nx (((Y.set i ↑(.ref a)).set j ↑(.ref a)).set i none) (upd H' T (wb T))):
  wpAny (model X.prog X.w) X.A (exec (.Try body [.ExceptHandler ↑(.Name "PurseError" p1) ↑n [.Assign [.Name c p2] (.Name n p3) p4] B0] [] [] pos) X.env) (SP X E6 D) X.xe s:=by
 exact wpAny_Try_except (za3 hb (λ f s₁ q=>?_) λ v s₁ #[a,FH,Y',H1,ev,es,I1,ie,fly,q]=>?_)
 .cases f with
  | next=>show zaJ q
  | _=>show q
 subst ev;let#[rfl,rfl]:=es rfl;let#[#[cn,C,dx,#[P,N,NP,hE],hEo],q]:=hx a H1 q;have f1:=fly.resolve_left (λ z=>by cases z.1);exact Ob I1 AH AI ie f1 λ h' T hT un zp f2=>?_;have I2:Inv X FH Y' (upd H1 T (wb T)) { s₁ with heap:=h' }:=I1.call (g':=s₁.gens) (d':=s₁.drawn) (t':=s₁.toks) (ch:=[]) un zp I1.bare (λ b z=>absurd z #[]);have JM:upd H1 T (wb T) a=↑(wF a C dx):=by rw[zI (xC hEo hT)];show hEo
 let#[#[qn,bs,sn,sub,ab,col,dd,k0,k1,k2,k3,k5,lk],_,_]:=id hE.own;let#[#[q',IL,Ir,G5,IM,G9,Hw,l0,l1,l2,l3,l5,lp],_,_]:=id hE.par;have mP:X.mg "PurseError"=↑(.ref P):=PySem.W.mg_of I.ok.mod.pG I.ok.mod.glob hE.cu;have aoe:∃ oe,h'.get? a=↑oe/\oe.cls=.ref C:=by
  let#[#[oe,vs,z1,z2,_],_]:=I2.zp a _ JM;show#[oe,z1,z2]
 exact XD (bm:=.ref P::vP) (HW:=vP) () (by rw[Bu];simp) (nk (X:=nh X a) (bV I2 a) hg mP #[rfl,I2.yo _ _ lk,I2.yo _ _ lp,aoe,?_]);exact OX I2 #[C,dx,JM] f2 λ h2 un2 hok2=>?_;have I3:Inv X FH Y' (upd H1 T (wb T)) { s₁ with heap:=h2 }:=Inv.call (s:={ s₁ with heap:=h' }) (g':=s₁.gens) (d':=s₁.drawn) (t':=s₁.toks) (ch:=[]) I2 un2 hok2 I1.bare (λ b z=>absurd z #[]);exact lx I3 hN hi (.inl Bf) (v:=.ref a) rfl (λ s4 I4=>?_) (.inr Bf);have st:=jW (cw (X:=nh X a) (i:=j) (pos:=p4) (pos':=p2) hN hj Dm (pv (X:=nh X a) i (pos:=p3) hi (.inl Bf) Bm BP) Bz DB);have hl:i < Y'.length:=by rw[I1.len];show (AX.mp hi).1
 exact za3 (st FH s4 _ _ { nx:=fun Y2 H2=>Y2=(Y'.set i ↑(.ref a)).set j ↑(.ref a)/\H2=upd H1 T (wb T),rt:=λ _ _=>False } (bV I4 a) #[.ref a,by rw[Ej hl],rfl,rfl]) (λ fl s5 q5=>?_) λ _ _ z=>(hn _ _ z).elim;cases fl with
 | next=>
  let#[Y5,H5,I5,rfl,rfl]:=q5;show Ma (Nx I I5) hN hi Bf λ s6 I6=>#[_,_,I6,q T hT]
 | ret _=>let#[_,_,_,_,_,z]:=q5;show z.elim
 | _=>let#[_,_,_,z]:=q5;show z.elim
end
def vE:D->Bool
 | .err _ _ _=>true
 | _=>false
def tw (K:Ac) (H:Hp) (R:VK) (Q:Addr->Hp->Prop):DK:=λ d S'=>(vE d=false->xS K H R d S')/\(vE d=true->∀ a H',ze K H' d (.ref a)->Ext H H'->zE K H' S'->Q a H')
theorem tw.ext {K:Ac}{H H':Hp}{R:VK}{Q:Addr->Hp->Prop}(e:Ext H H') {d:D}{S:SS}(h:tw K H R Q d S):tw K H' R Q d S:=#[λ z=>xS.ext e (h.1 z),λ z a H2 r x q=>h.2 z a H2 r (e.trans x) q]
def t_ (K:Ac) (H:Hp) (D:Ends) (Q:Addr->Hp->Prop):tG:=#[xM K H D.nx,tw K H D.rt Q,xM K H D.bk,xM K H D.ct]
theorem t_.ext {K:Ac}{H H':Hp}{D:Ends}{Q:Addr->Hp->Prop}(e:Ext H H'):(t_ K H D Q).Le (t_ K H' D Q):=#[λ _ _ h=>xM.ext e h,λ _ _ h=>tw.ext e h,λ _ _ h=>xM.ext e h,λ _ _ h=>xM.ext e h]
def o9 (K:Ac) (t:yf) (Q:Addr->Hp->Prop):TS:=λ D Y H=>∃ L S,yu K H L Y/\zE K H S/\t (t_ K H D Q) L S
structure pY (X:Cx) (E6:Ai) (Y:St) (fl:Bool) (Q:Addr->Hp->Prop) (W:Af):Prop where
 xp:∀ v s',XP X E6 fl Y Q v s'->W v s'
 own:fl=false->PassesOwn (model X.prog X.w) X.A X.env W
def pY.any {X:Cx}{E6 FH:Ai}{Y Y':St}{Q:Addr->Hp->Prop}{W:Af}(h:pY X E6 Y false Q W):pY X FH Y' false Q W:=
 #[λ v s' #[e,p,q,H',h1,_,h3]=>h.xp v s' #[e,p,q,H',h1,nofun,h3],h.own]
structure rF (X:Cx) (fl:Bool) (st:Stmt) (t:yf):Prop where
 mo:u6 t
 px:∀ E6 s Y H D Q W,pY X E6 Y fl Q W->Inv X E6 Y H s->o9 X.K t Q D Y H->wpAny (model X.prog X.w) X.A (exec st X.env) (SP X E6 D) W s
structure u0 (X:Cx) (fl:Bool) (sts:List Stmt) (t:yf):Prop where
 mo:u6 t
 px:∀ E6 s Y H D Q W,pY X E6 Y fl Q W->Inv X E6 Y H s->o9 X.K t Q D Y H->wpAny (model X.prog X.w) X.A (execs sts X.env) (SP X E6 D) W s
section
variable {X:Cx}{fl:Bool}{st:Stmt}{E9:List Stmt}{t u:yf}{pos:Pos}{e:Expr}{te:zr}
def UR:u0 X fl [] gJ:=#[λ _ _ _ _ hE h=>hE.nx _ _ h,λ E6 s Y H D Q W hW I #[L,S,r1,r2,z]=>zaJ #[Y,H,I,z Y H r1 (.refl H) r2]]
def UQ (h:rF X fl st t):u0 X fl [st] t:=#[h.mo,λ E6 s Y H D Q W hW I hu=>by
 exact wpAny_execs_cons (zu (h.px E6 s Y H D Q W hW I hu) λ f s1 q=>?_);cases f with
 | next=>show zaJ q
 | ret v=>show q
 | brk=>show q
 | cont=>show q]
def UU (h:rF X false st t) (h':u0 X false E9 u):u0 X false (st::E9) (qx t u):=#[qx.mo h.mo h'.mo,λ E6 s Y H D Q W hW I #[L,S,r1,r2,z]=>by
 exact wpAny_execs_cons (zu (h.px E6 s Y H { D with nx:=o9 X.K u Q D } Q W hW I #[L,S,r1,r2,h.mo { t_ X.K H D Q with nx:=u (t_ X.K H D Q) } _ L S #[fun L' S' q Y' H' q1 q2 q3=>#[L',S',q1,q3,h'.mo _ _ L' S' (t_.ext q2) q],λ _ _ q=>q,λ _ _ q=>q,λ _ _ q=>q] z]) λ f s1 q=>?_);cases f with
 | next=>
  let#[Y',H',I',q]:=q;show h'.px E6 s1 Y' H' D Q W hW.any I' q
 | ret v=>show q
 | brk=>show q
 | cont=>show q]
def US {c:Expr}{p q:List Stmt}{tc:yx}(hc:xb X c tc) (h:u0 X fl p t) (h':u0 X fl q u) (hn:∀ v s,¬ X.xe v s):rF X fl (.If c p q pos) (k7 tc t u):=by
 exact#[λ E E' L S hE z=>hc.mo L S _ _ (λ k S1 z=>wy (h.mo _ _ L S1 hE) (h'.mo _ _ L S1 hE) z) z,λ E6 s Y H D Q W hW I #[L,S,r1,r2,z]=>?_];exact wpAny_If (za3 (hc.pt E6 s Y H (λ k H1=>if k=true then o9 X.K t Q D Y H1 else o9 X.K u Q D Y H1) I (xV.go hc.mo r1 r2 z λ k S1 H1 h1 e1 p1=>wy (λ z=>?_) (λ z=>?_) h1)) (λ k s1 #[H1,I1,q1]=>?_) λ _ _ z=>(hn _ _ z).elim)
 .show#[L,S1,r1.ext e1,p1,h.mo _ _ L S1 (t_.ext e1) z]
 .show#[L,S1,r1.ext e1,p1,h'.mo _ _ L S1 (t_.ext e1) z]
 .cases k with
  | true=>show h.px E6 s1 Y H1 D Q W hW I1 q1
  | false=>show h'.px E6 s1 Y H1 D Q W hW I1 q1
def gG (te:zr):yf:=λ E L S=>te L S λ d S1=>vE d=false/\E.rt d S1
def UO (he:PD X e te) (hn:∀ v s,¬ X.xe v s):rF X fl (.Return ↑e pos) (gG te):=by
 exact#[λ E E' L S hE z=>he.mo L S _ _ (λ _ _ q=>#[q.1,hE.rt _ _ q.2]) z,λ E6 s Y H D Q W hW I #[L,S,r1,r2,z]=>?_];show wpAny_Return_some (za3 (he.pe E6 s Y H D.rt I (zJ.go he.mo r1 r2 z λ x S1 v H1 h1 q1 e1 p1=>h1.2.1 h1.1 v H1 q1 e1 p1)) (λ v s1 #[x,H1,I1,r1,q1]=>#[x,Y,H1,I1,r1,q1]) λ _ _ z=>(hn _ _ z).elim)
def Ext.same {H H':Hp}(e:m7 H H'):Ext H H':=#[λ b xs q=>e _ _ q,λ b o u q=>e _ _ q,λ b u q=>e _ _ q,λ b u q=>e _ _ q]
def gI (c f:Str) (te:zr):yf:=λ E L S=>te L S λ d S1=>E.rt (.err c f d) S1
def UP {c f:Str}{si:Stmt}{p Aj:Pos}{k:Nat}(G:yR X.K X.mg c f si) (Sh:rM f si) (hr:zX k X.A) (he:PD X e te) (hk:2<=k) (hg:Gl X c) (hc:X.calm=true) (A_:(c == ("__debug__":Str))=false)
  (hs:Ay X e []) (Ao:AG X Aj []) (hn:∀ v s,¬ X.xe v s):
  rF X false (.Raise ↑(.Call (.Name c p) [e] [] Aj) none pos) (gI c f te):=by
 exact#[λ E E' L S hE z=>he.mo L S _ _ (λ _ _ q=>hE.rt _ _ q) z,λ E6 s Y H D Q W hW I #[L,S,r1,r2,z]=>?_];exact wp_raise G Sh (hr.mono hk) hc hn hg A_ he.pe hs Ao hW.xp I (zJ.go he.mo r1 r2 z λ x S1 v H1 h1 q1 e1 p1 a H' sm #[C,dx,hE,h2,h3]=>?_);exact h1.2 rfl a H' ?_ (e1.trans (.same sm)) (p1.same sm);simp![ze];show#[a,C,dx,v,rfl,#[hE,h2,h3],ze.ext (.same sm) x q1]
end
def eP (K:Ac) (sp:wg):Sp:=λ vs H Q E=>∃ ds S,zk K H ds vs/\zE K H S/\sp ds S (tw K H Q λ a H'=>E (.ref a) none H')
structure vx (P:Program) (w:World) (K:Ac) (mg:Ar) (base:Heap) (x:Str) (k:Nat) (ps:List Str) (sp:wg):Prop where
 ex:∃ (f:Addr) (fd:FuncData),xl P w K mg base (o8 P w) k f fd ps (eP K sp)/\mg x=↑(.ref f)/\PySem.W.keepIn K (.ref f)=true/\Binds K fd ps []
 mo:oj sp
def lM (sp:wg):wg:=λ ds S Q=>sp ds S λ d S'=>vE d=false/\Q d S'
def lM.mo {sp:wg}(h:oj sp):oj (lM sp):=λ ds S Q Q' hq z=>h ds S _ _ (λ d S' q=>#[q.1,hq _ _ q.2]) z
theorem vx.fd {P:Program}{w:World}{K:Ac}{mg:Ar}{base:Heap}{x:Str}{k:Nat}{ps:List Str}{sp:wg}(F:vx P w K mg base x k ps sp):FD P w K mg base x k ps (lM sp):=by
 let#[#[f,fd,h1,h2],hm]:=F;exact#[#[f,fd,(xl.never h1).imp λ vs H Q E #[ds,S,r1,r2,z]=>#[ds,S,r1,r2,hm ds S _ _ (λ d S' q=>#[λ _=>q.2,λ z=>?_]) z],h2],lM.mo hm];rw[q.1] at z;cases z
section
variable {X:Cx}{fl:Bool}{pos Aj p:Pos}{e:Expr}{es:List Expr}{tA:yh}{x:Str}{k:Nat}{ps:List Str}{sp:wg}
def XZ {E6:Ai}{s:Shared}{Y:St}{H:Hp}{Q:Addr->Hp->Prop}{W:Af}{R:DK}{RV:VK}{L:z_}{S:SS}(F:vx X.prog X.w X.K X.mg X.base x k ps sp) (hr:zX k X.A) (ha:xh X (e::es) tA) (hg:Gl X x) (A_:(x == ("__debug__":Str))=false)
  (he:Ay X e es) (Ao:AG X Aj es) (hn:∀ v s,¬ X.xe v s) (hW:pY X E6 Y fl Q W) (I:Inv X E6 Y H s) (r1:yu X.K H L Y) (r2:zE X.K H S)
  (z:tA L S λ ds S1=>sp ds S1 R) (hR:∀ d S',R d S'->tw X.K H RV Q d S'):
  wpAny (model X.prog X.w) X.A (eval (.Call (.Name x p) (e::es) [] Aj) X.env) (EP X E6 Y RV) W s:=by
 let#[#[f,fd,h1,h2,h3,h4],hm]:=F;exact XY (Qx:=Q) h1 hr hg h2 h3 h4 hn ha.pa A_ he Ao hW.xp I (wq.go ha.mo r1 r2 z λ ds S1 xs H1 z1 q1 e1 p1=>#[ds,S1,q1,p1,hm ds S1 _ _ (λ d S' q=>?_) z1]);have q':=tw.ext e1 (hR d S' q);show#[q'.1,λ y a H' c1 c2 c3=>#[a,rfl,q'.2 y a H' c1 c2 c3]]
def Zh (sp:wg) (tA:yh):yf:=λ E L S=>tA L S λ ds S1=>sp ds S1 λ d S2=>(vE d=true->E.rt d S2)/\(vE d=false->E.nx L S2)
variable (F:vx X.prog X.w X.K X.mg X.base x k ps sp)
include F
theorem UT {k':Nat}(hr:zX k' X.A) (ha:xh X (e::es) tA) (hk:k<=k') (hg:Gl X x) (A_:(x == ("__debug__":Str))=false)
  (he:Ay X e es) (Ao:AG X Aj es) (hn:∀ v s,¬ X.xe v s) (hs:swapsWith (.Call (.Name x p) (e::es) [] Aj) none pos.line X.env=pure false):
  rF X fl (.Expr (.Call (.Name x p) (e::es) [] Aj) pos) (Zh sp tA):=by
 exact#[λ E E' L S hE z=>ha.mo L S _ _ (λ ds S1 z=>F.mo ds S1 _ _ (λ d S2 q=>#[λ y=>hE.rt _ _ (q.1 y),λ y=>hE.nx _ _ (q.2 y)]) z) z,λ E6 s Y H D Q W hW I #[L,S,r1,r2,z]=>?_];exact wpAny_Expr_any (zu (XZ (RV:=λ _ H'=>D.nx Y H') F (hr.mono hk) ha hg A_ he Ao hn hW I r1 r2 z λ d S' q=>#[λ y v H' a1 a2 a3=>q.2 y Y H' (r1.ext a2) a2 a3,λ y=>(q.1 y).2 y]) λ v s1 #[x,H1,I1,_,q1]=>#[Y,H1,I1,q1]) I.quiet hs
end
section
variable {P:Program}{w:World}{K:Ac}{mg:Ar}{base:Heap}
def fnX {x qual:Str}{st:Stmt}{f:Addr}{fd:FuncData}{N ps:List Str}{k:Nat}{sp:wg}(F:wV K x qual st f fd) (Sc:vw N ps (zL st)) (len:∀ ds S Q,sp ds S Q->ds.length=ps.length)
  (Fm:∀ (Ag:Value) (A:Around) (outer:List Env) (s:Shared) (H:Hp) (E:XK),zX k (A.deeper (envOfC qual (zL st) s.heap.objs.size f Ag))->
   ∃ t,u0 (y_ yG P w K mg base N qual (zL st) f Ag A outer s H E).xx false (yZ st) t/\∀ ds S Q,sp ds S Q->t { nx:=λ _ S'=>Q .zh S',rt:=Q } (u9 N ds) S):
  xl P w K mg base (o8 P w) (k+1) f fd ps (eP K sp):=by
 let#[oc,od,kV,doc,pm,an,Ag,ct,Hk,rfl,lk,Ba]:=F.ex;exact aB lk Ba Sc (λ vs H Q E #[ds,S,r1,_,z]=>by rw[<- r1.length];show len _ _ _ z) λ A outer s H vs Q E hr B5=>#[λ D Y H'=>D={ nx:=λ _ H'=>Q .zh H',rt:=Q }/\Y=start N vs/\H'=H,λ E6 s1 Y H' D I #[e1,e2,e3]=>?_,rfl,rfl,rfl];subst e1 e2 e3;let#[t,hp,ht]:=Fm Ag A outer s H' E hr;let#[ds,S,r1,r2,z]:=B5;have cv:∀ {E6:Ai}{Y':St}{H'':Hp}{s':Shared},Inv (y_ yG P w K mg base N qual (zL st) f Ag A outer s H' E).xx E6 Y' H'' s'->Inv (y_ (o8 P w) P w K mg base N qual (zL st) f Ag A outer s H' E) E6 Y' H'' s':=λ J=>
  #[I.ok,J.os,J.bare,J.base,J.loc,J.cell,J.free,J.vf,J.pin,J.zp,J.len]
 have ok0:(y_ yG P w K mg base N qual (zL st) f Ag A outer s H' E).xx.Ok:=#[I.ok.mod,I.ok.kind,I.ok.glob,I.ok.blt,I.ok.above,I.ok.inj,I.ok.has,I.ok.qB,I.ok.hd,I.ok.frames,I.ok.qV,I.ok.nL,I.ok.bs,I.ok.t5,I.ok.ql,I.ok.qv,I.ok.vn,I.ok.tV];have I0:Inv (y_ yG P w K mg base N qual (zL st) f Ag A outer s H' E).xx E6 (start N vs) H' s1:=#[ok0,I.os,I.bare,I.base,I.loc,I.cell,I.free,I.vf,I.pin,I.zp,I.len];exact za3 (hp.px E6 s1 (start N vs) H' { nx:=λ _ H'=>Q .zh H',rt:=Q } (λ e H2=>∀ T,H2 T=none->E (.ref e) none (upd H2 T (wb T))) (y_ (o8 P w) P w K mg base N qual (zL st) f Ag A outer s H' E).xe #[λ v s' #[e,FH,Y',H2,ev,_,J,ie,hf,q]=>?_,λ _=>PassesOwn.leaving] I0
  #[u9 N ds,S,yu.init r1,r2,hp.mo { nx:=λ _ S'=>tw K H' Q (λ a H2=>E (.ref a) none H2) .zh S',rt:=tw K H' Q λ a H2=>E (.ref a) none H2 } _ _ S #[fun L S' q Y2 H2 a1 a2 a3=>q.1 rfl .zh H2 (by simp![ze]) a2 a3,λ d S' q=>#[q.1,λ y a H2 a1 a2 a3 T hT=>?_],λ _ _ q=>q.elim,λ _ _ q=>q.elim] (ht ds S _ z)]) (λ fl s' q=>?_) λ _ _ z=>z
 .subst ev;have J':=cv J;exact OI J' rfl rfl ie (hf.imp And.right id) λ h' T hT un zp f1=>?_;let#[C,dx,hE]:=ie;show#[e,_,rfl,J'.os,J'.bare,Un.out J'.base un (zaQ (Ak _)),zp,#[C,dx,by rw[zI (xC hE hT)];show hE],f1,q T hT]
 .have xT:Ext H2 (upd H2 T (wb T)):=.new hT _;show q.2 y a _ (ze.ext xT d a1) (a2.trans xT) (a3.keep xT λ b u o _ c=>by rw[zI (xC c hT)];show c)
 .cases fl with
  | ret u=>let#[v,Y',H',J,r,q]:=q;show#[v,Y',H',cv J,r,q]
  | _=>let#[Y',H',J,q]:=q;show#[Y',H',cv J,q]
end
def yu.hole {K:Ac}{H:Hp}{L:z_}{Y:St}(i:Nat) (r:yu K H L Y):yu K H (L.set i none) (Y.set i none):=by
 exact#[by rw[CS,CS];show r.1,λ j c hc=>?_];rw[CP] at hc ⊢;by_cases hj:i=j
 .subst hj;rw[if_pos rfl] at hc;split at hc <;> cases hc
 .rw[if_neg hj] at hc ⊢;show r.2 j c hc
def gF (i j:Nat) (t:yf):yf:=λ E L S=>t #[E.nx,λ d S'=>vE d=true/\E.nx (((L.set i ↑d).set j ↑d).set i none) S',λ _ _=>False,λ _ _=>False] L S
def Tt {X:Cx}{t:yf}(i j:Nat) {n c:Str}{body:List Stmt}{p1 p2 p3 p4 B0 pos:Pos}(hN:X.N.Nodup) (hb:u0 X true body t) (A7:i≠j) (hi:X.N[i]?=↑n) (hj:X.N[j]?=↑c)
  (hg:Gl X "PurseError") (Bf:X.env.kindOf n=↑.local) (Dm:Loc X.env.scope c) (DB:X.fn c=true\/X.env.scope.names.lookup c=↑.local)
  (Bm:(n == ("__debug__":Str))=false) (BP:(n == ("__classdict__":Str))=false) (Bz:swapsWith (.Name n p3) ↑(.Name c p2) p4.line X.env=pure false)
  (AH:X.stack=X.env::X.outer) (AI:X.env.frame=↑X.env.locals) (hn:∀ v s,¬ X.xe v s):
  wD X (.Try body [.ExceptHandler ↑(.Name "PurseError" p1) ↑n [.Assign [.Name c p2] (.Name n p3) p4] B0] [] [] pos) (gF i j t):=by
 exact#[λ E E' L S hE z=>hb.mo #[E.nx,λ d S'=>vE d=true/\E.nx (((L.set i ↑d).set j ↑d).set i none) S',λ _ _=>False,λ _ _=>False] #[E'.nx,λ d S'=>vE d=true/\E'.nx (((L.set i ↑d).set j ↑d).set i none) S',λ _ _=>False,λ _ _=>False] L S #[hE.nx,λ d S' q=>#[q.1,hE.nx _ _ q.2],λ _ _ q=>q,λ _ _ q=>q] z,λ E6 s Y H D I #[L,S,r1,r2,z]=>?_];exact XX (Qx:=λ a H'=>∃ d S',vE d=true/\ze X.K H' d (.ref a)/\Ext H H'/\zE X.K H' S'/\(vM X.K H D).nx (((L.set i ↑d).set j ↑d).set i none) S') hn AH AI hg hN hi Bf hj Dm DB A7 Bm BP Bz I
  (hb.px E6 s Y H D _ _ #[λ _ _ q=>q,nofun] I #[L,S,r1,r2,hb.mo #[(vM X.K H D).nx,λ d S'=>vE d=true/\(vM X.K H D).nx (((L.set i ↑d).set j ↑d).set i none) S',λ _ _=>False,λ _ _=>False] _ L S #[λ _ _ q=>q,λ d S' q=>#[λ y=>?_,λ y a H' a1 a2 a3=>#[d,S',y,a1,a2,a3,q.2]],λ _ _ q=>q.elim,λ _ _ q=>q.elim] z]) λ a H' #[d,S',hd,a1,a2,a3,q]=>#[?_,λ T hT=>?_]
 .rw[q.1] at y;cases y
 .cases d with
  | err cn f x=>
   simp![ze] at a1;let#[e,C,dx,w,e1,#[h1,h2,h3],_]:=a1;cases e1;show#[cn,C,dx,h1,h2]
  | _=>cases hd
 .have xT:Ext H' (upd H' T (wb T)):=.new hT _;have rd:=ze.ext xT d a1;show q _ _ ((((r1.ext (a2.trans xT)).set i rd).set j rd).hole i) (a2.trans xT) (a3.keep xT λ b u o _ c=>by rw[zI (xC c hT)];show c)
end L3
namespace L5
open PySem PySem.Spec L2 L3
open PyProof.Rows hiding St
def yk:T->Bool
 | .err _ _ _=>true
 | _=>false
@[simp] theorem zai (c f:Str) (t:T):yk (.err c f t)=true:=rfl
@[simp] theorem zaf:yk .zh=false:=rfl
@[simp] theorem zak (b:Bool):yk (.bl b)=false:=rfl
@[simp] theorem zah (b:Int):yk (.int b)=false:=rfl
@[simp] theorem zae (b:Str):yk (.str b)=false:=rfl
@[simp] theorem zad (b:List T):yk (.tup b)=false:=rfl
@[simp] theorem zag (b:List T):yk (.lst b)=false:=rfl
@[simp] theorem zaj:yk .yQ=false:=rfl
def oK {S:SS}{y:T}{d:D}(h:Sn S y d):vE d=yk y:=by
 cases y with
 | tup _=>simp![Sn] at h;let#[_,h,_]:=h;subst h;rfl
 | lst _=>
  simp![Sn] at h;obtain⟨_,h | ⟨_,h,_⟩,_⟩:=h
  .rw[h.1];rfl
  .subst h;rfl
 | yQ=>simp![Sn] at h;let#[_,_,#[h,_],_]:=h;subst h;rfl
 | err _ _ _=>simp![Sn] at h;let#[_,h,_]:=h;subst h;rfl
 | _=>simp![Sn] at h;subst h;rfl
def Mz {y:T}(h:yk y=true):∀ ts,y≠.lst ts:=λ ts e=>by subst e;cases h
@[simp] def jL (c f:Str) (g:Ah):Sm:=fun J=>(g J).map λ y=>.rt (.err c f y)
@[simp] def ph (g:Ah):Sm:=fun J=>(g J).bind λ y=>if yk y=true then none else ↑(.rt y)
@[simp] def uP (F:Al) (g:Ev->Option (List T)):Sm:=fun J=>(g J).bind λ ys=>(F ys).map λ y=>if yk y=true then .rt y else .nx J
@[simp] def jB (i j:Nat) (g:Sm):Sm:=fun J=>(g J).bind λ o=>match o with
 | .nx J'=>↑(.nx J')
 | .rt y=>if yk y=true then ↑(.nx (((J.set i none).set j ↑(.im y)).set i none)) else none
 | _=>none
@[simp] def iy (F:Al):Al:=λ ys=>(F ys).bind λ y=>if yk y=true then none else ↑y
section
variable {R:Rk}{g h:Sm}{t u:yf}{f:Ah}{te:zr}{S0 S:SS}{Z0 Z:Addr->Prop}{L:z_}{J:Ev}
def RP [Cl R] {c x:Str}(hf:vi f te):yc R (jL c x f) (gI c x te):=λ S0 Z0 S Z L J o E F e P=>by
 let#[y,e1,rfl]:=AK.mp e;exact hf S Z L J y _ F.er e1 λ d S1 s1 r1=>P _ S1 (F.sx.trans s1) (Cl.of (λ _=>nofun) ?_);simp![Sn];show#[d,rfl,Sn.sx (uj F.zz) y r1]
def RQ [Sr R] (hf:xu R f te):yc R (ph f) (gG te):=λ S0 Z0 S Z L J o E F e P=>by
 let#[y,e1,e2]:=An.mp e;split at e2
 .cases e2
 .rename_i hy;cases e2;show hf S Z L J y _ F.er e1 λ d S1 s1 r1=>#[by rw[oK (Sr.sn r1)];simpa using hy,P d S1 (F.sx.trans s1) (Lo.lo F.sx F.zz r1)]
def cV (i:Nat):yc zx (qg i) (gG (yq i)):=λ S0 Z0 S Z L J o E F e P=>by
 have q:=ik i S0 Z0 S Z L J o E F e P;unfold qg at e;split at e
 .rename_i ts h;let#[p,ob,h1,_]:=F.er.ow i _ h;have q':yq i L S E.rt:=q;change yq i L S λ d S1=>vE d=false/\E.rt d S1;unfold yq at q' ⊢;rw[h1] at q' ⊢;show#[rfl,q']
 .cases e
def Yg (S0:SS) (Z0:Addr->Prop) (S:SS) (Z:Addr->Prop) (o:Out) (E:tG):Prop:=match o with
 | .nx J'=>∀ S' Z' L',FR S0 Z0 S' Z' L' J'->E.nx L' S'
 | .rt y=>yk y=true->∀ d S',Sx S S'->Sn (zN S' Z) y d->E.rt d S'
 | _=>True
def rJ (g:Sm) (t:yf):Prop:=∀ S0 Z0 S Z L J o E,FR S0 Z0 S Z L J->g J=↑o->Yg S0 Z0 S Z o E->t E L S
theorem rJ.s [Cl R] (h:rJ g t):yc R g t:=λ S0 Z0 S Z L J o E F e P=>by
 exact h S0 Z0 S Z L J o E F e ?_;cases o with
 | nx J'=>show P
 | rt y=>show λ hy d S' s r=>P d S' (F.sx.trans s) (Cl.of (Mz hy) (Sn.sx (uj F.zz) y r))
 | _=>trivial
def cW [Sr R] {F:Al}{ga:Ev->Option (List T)}{ua:yh}(h:rK ga ua):rJ (uP F ga) (Zh (zA R F) ua):=λ S0 Z0 S Z L J o E Fr e P=>by
 let#[ys,e1,e2]:=An.mp e;let#[y,e3,rfl]:=AK.mp e2;exact h S Z L J ys _ Fr.er e1 λ ds S1 s1 r1=>#[Z,ys,y,(Fr.er.grow s1).zd,r1,e3,λ d S2 s2 r2=>#[λ he=>?_,λ he=>?_]]
 .rw[oK (Sr.sn r2)] at he;rw[if_pos he] at P;show P he d S2 (s1.trans s2) (Sr.sn r2)
 .rw[oK (Sr.sn r2)] at he;rw[if_neg (by rw[he];decide)] at P;show P S2 Z L (Fr.grow (s1.trans s2))
def Qo {c:Ev->Option Bool}{tc:yx}(hc:wR c tc) (hg:rJ g t) (hh:rJ h u):rJ (zT c g h) (k7 tc t u):=λ S0 Z0 S Z L J o E F e P=>by
 let#[b,e1,e2]:=An.mp e;exact hc S Z L J b _ F.er e1 λ S1 s1=>?_;have P':Yg S0 Z0 S1 Z o E:=by
  cases o with
  | nx J'=>show P
  | rt y=>show λ hy d S' s r=>P hy d S' (s1.trans s) r
  | _=>trivial
 split at e2
 .rename_i hb;rw[if_pos hb];show hg S0 Z0 S1 Z L J o E (F.grow s1) e2 P'
 .rename_i hb;rw[if_neg hb];show hh S0 Z0 S1 Z L J o E (F.grow s1) e2 P'
def FR.hole (h:FR S0 Z0 S Z L J) (i:Nat) (v:Option D):FR S0 Z0 S Z (L.set i v) (J.set i none):=by
 exact#[#[h.er.zd,λ j t e=>?_,λ j ts e=>?_],by simp[h.len],h.sx,h.z0,h.zz,h.zn,λ j ts p e e'=>?_,λ j k ts us p n e1 e2 e3 e4=>?_]
 .rcases yy e with ⟨rfl,hl,e⟩ | ⟨n,e⟩
  .cases e
  .rw[xK n];show h.er.im j t e
 .rcases yy e with ⟨rfl,hl,e⟩ | ⟨n,e⟩
  .cases e
  .rw[xK n];show h.er.ow j ts e
 .rcases yy e with ⟨rfl,hl,e⟩ | ⟨n,e⟩
  .cases e
  .rw[xK n] at e';show h.fr j ts p e e'
 .rcases yy e1 with ⟨rfl,hl,e⟩ | ⟨n1,e1⟩
  .cases e
  rcases yy e2 with ⟨rfl,hl,e⟩ | ⟨n2,e2⟩
  .cases e
  rw[xK n1] at e3;rw[xK n2] at e4;show h.dj j k ts us p n e1 e2 e3 e4
def RL (i j:Nat) (hg:rJ g t):yc R (jB i j g) (gF i j t):=λ S0 Z0 S Z L J o E F e P=>by
 let#[o1,e1,e2]:=An.mp e;exact hg S0 Z0 S Z L J o1 _ F e1 ?_;cases o1 with
 | nx J'=>cases e2;show P
 | rt y=>
  dsimp only at e2 ⊢;split at e2
  .rename_i hy;cases e2;show λ _ d S' s r=>#[by rw[oK r];show hy,P S' Z _ ((((F.grow s).hole i ↑d).q_ j r).hole i none)]
  .cases e2
 | _=>trivial
end
section
variable {P:Program}{w:World}{K:Ac}{mg:Ar}{base:Heap}{x:Str}{st:Stmt}
def Mp {R:Rk} [Lo R] {N ps:List Str}{k n:Nat}{g:Sm}(F:Fy K mg x st) (Sc:vw N ps (zL st)) (hn:n=ps.length)
  (hb:∀ (kV doc pm:Value) (an:Option Addr) (Ag ct:Value) (us:Ae),us.length=ps.length->bindArgs (PySem.W.fnOf x x (vg st) (yZ st) (zL st) .none kV doc pm an Ag ct) #[us,[]]=pure (ps.zip us))
  (Fm:∀ (f:Addr) (Ag:Value) (A:Around) (outer:List Env) (s:Shared) (H:Hp) (E:XK),zX k (A.deeper (envOfC x (zL st) s.heap.objs.size f Ag))->
   ∃ t,u0 (y_ yG P w K mg base N x (zL st) f Ag A outer s H E).xx false (yZ st) t/\yc R g t):vx P w K mg base x (k+1) ps (zA R (zH N n g)):=by
 let#[f,fd,F,hm]:=F;exact#[#[f,fd,fnX F Sc (λ ds S Q h=>by rw[h.len,hn]) λ Ag A outer s H E hr=>?_,hm,F.kp,F.binds hb],zA.mo];let#[t,h1,h2]:=Fm f Ag A outer s H E hr;show#[t,h1,λ ds S Q h=>ZL h2 h]
def vx.no {R:Rk} [Sr R] {k:Nat}{ps:List Str}{F:Al}(G:vx P w K mg base x k ps (zA R F)):FD P w K mg base x k ps (zA R (iy F)):=by
 let#[#[f,fd,h1,h2],hm]:=G.fd;exact#[#[f,fd,h1.imp λ vs H Q E #[ds,S,r1,r2,Z,ys,y,a1,a2,a3,a4]=>#[ds,S,r1,r2,?_],h2],zA.mo];let#[z,b1,b2]:=An.mp a3;split at b2
 .cases b2
 .rename_i hy;cases b2;show#[Z,ys,y,a1,a2,b1,λ d S' s r=>#[by rw[oK (Sr.sn r)];simpa using hy,a4 d S' s r]]
end
end L5
namespace L3
open PySem PySem.Spec L2
open PyProof.Rows hiding St
structure fy (K:Ac) (cn:Str) (D:Addr):Prop where
 top:PySem.W.nsIn K mainGlobals cn=↑↑(.ref D)
 own:∃ bm N,rG K cn D bm N
def Ot (o:Obj):Option Str:=match o.data with
 | .cls cd=>↑cd.name
 | _=>none
def rG.nm {K:Ac}{c:Str}{C N:Addr}{bm:Ae}(h:rG K c C bm N):(K.lookup C).bind Ot=↑c:=by
 let#[#[q,bs,sn,sub,ab,col,dd,k0,k1,k2,k3,k5,e],_]:=h;rw[e];rfl
def bN {K:Ac}{c cn:Str}{C P N NP D:Addr}(E:rS K c C P N NP) (G:fy K cn D):(Value.ref C::.ref P::vP).contains (.ref D)=(decide (cn=c)||decide (cn="PurseError")):=by
 let#[bm,N',g]:=G.own;by_cases h1:cn=c
 .subst h1;have:=G.top.symm.trans E.top;cases this;simp
 .by_cases h2:cn="PurseError"
  .subst h2;have:=G.top.symm.trans E.cu;cases this;simp
  .have d1:D≠C:=λ z=>by
    subst z;have:=g.nm.symm.trans E.own.nm;cases this;show h1 rfl
   have d2:D≠P:=λ z=>by
    subst z;have:=g.nm.symm.trans E.par.nm;cases this;show h2 rfl
   have b1:(Value.ref D == Value.ref C)=false:=by exists d1
   have b2:(Value.ref D == Value.ref P)=false:=by exists d2
   rw[Bu,Bu,b1,b2,za5 h1,za5 h2];rfl
inductive rN (K:Ac) (c:Str):V->Bool->Prop where
 | own {cn:Str}{D:Addr}(g:fy K cn D):rN K c (.ref D) (decide (cn=c)||decide (cn="PurseError"))
 | val:rN K c (.ty "ValueError") true
theorem LC {X:Cx}:yD X (.builtin "isinstance") (λ xs H Q=>∃ e C dx c k b,xs=[.ref e,k]/\H e=↑(wF e C dx)/\vU X.K c C/\rN X.K c k b/\Q (.bl b) H):=by
 intro E6 s Y H xs us Q I r h;let#[e,C,dx,c,k,b,rfl,h1,#[P,N,NP,h2],h3,q]:=h;cases r with
 | cons ra rb=>
 cases rb with
 | cons rb rc=>
 cases rc;rename_i u1 u2;obtain rfl:u1=Value.ref e:=ra;let#[hh,g,d,t,os]:=s;let#[#[oe,vs,he,hc,CH,CI],_]:=I.zp e _ h1;cases h3 with
 | @own cn D G=>
  obtain rfl:u2=Value.ref D:=rb;let#[bm,N',o]:=id G.own;let#[#[q1,bs,sn,sub,ab,col,dd,k0,k1,k2,k3,k5,hD],_]:=o.at I.yo;exact jx (b:=(Value.ref C::.ref P::vP).contains (.ref D)) (λ prog w A Q' E hq=>e9 (h2.mY I.yo) he hc hD rfl rfl hq) λ t'=>#[.bl _,H,I.tok t',rfl,?_];rw[bN h2 G];show q
 | val=>
  obtain rfl:u2=Value.type "ValueError":=rb;show jx (b:=true) (λ prog w A Q' E hq=>ez (T:="ValueError") (h2.mY I.yo) he hc (by kernel_rfl) hq) λ t'=>#[.bl _,H,I.tok t',rfl,q]
def pU (k:Str->Bool) (te:zr):zr:=fun L S Q=>te L S λ x S1=>match x with
 | .err c _ _=>Q (.bl (k c)) S1
 | _=>False
def Zn (f:Str) (te:zr):zr:=fun L S Q=>te L S λ x S1=>match x with
 | .err _ f' d=>f'=f/\Q d S1
 | _=>False
section
variable {X:Cx}{e:Expr}{te:zr}{p q pos:Pos}
def cG {cn:Str}{V0:V}{k:Str->Bool}(hk:∀ c,rN X.K c V0 (k c)) (hp:PE X (.Name cn q) (tC V0)) (T:Bt X.mg) (he:PD X e te) (hg:Gl X "isinstance") (h1:Ay X e [.Name cn q]) (h2:AG X pos [.Name cn q]) (h3:Ay X (.Name cn q) []):
  PD X (.Call (.Name "isinstance" p) [e,.Name cn q] [] pos) (pU k te):=by
 exact#[fun L S Q Q' hq z=>he.mo L S _ _ (λ y S1 z=>?_) z,PE.imp (uB LC hg T.isinstance boot_isinstance (v9 he.pe (v9 hp uW h3) h1) () () h1 h2) fun Y H Q hu=>?_]
 .split at z
  .show hq _ _ z
  .show z.elim
 .let#[L,S,r1,r2,z]:=hu;exact zJ.go he.mo r1 r2 z λ x S1 v H1 h1 q1 e1 p1=>?_;cases x with
  | err c f d=>
   simp![ze] at q1;let#[a,C,dx,w,rfl,#[hE,h2,h3],_]:=q1;show#[a,C,dx,c,V0,k c,rfl,h2,hE,hk c,h1 _ H1 (by simp![ze]) e1 p1]
  | _=>show h1.elim
theorem Rc {f:Str}(he:PD X e te) (hf:f∈tW) (hb:attributeBase e f X.env (eval e X.env)=eval e X.env):PD X (.Attribute e f pos) (Zn f te):=by
 exact#[fun L S Q Q' hq z=>he.mo L S _ _ (λ y S1 z=>?_) z,λ E6 s Y H Q I hu=>?_]
 .split at z
  .show#[z.1,hq _ _ z.2]
  .show z.elim
 let#[L,S,r1,r2,z]:=hu;exact LV hb (zu (he.pe E6 s Y H (λ x H1=>∃ a C dx c w,x=.ref a/\vU X.K c C/\H1 a=↑(wF a C dx)/\H1 dx=↑(.xd [(f,w)])/\Q w H1) I (zJ.go he.mo r1 r2 z λ x S1 v H1 h1 q1 e1 p1=>?_)) λ u s1 #[x,H1,I1,rx,a,C,dx,c,w,ex,#[P,N,NP,hE],h1,h2,q]=>?_)
 .cases x with
  | err c f' d=>
   simp![ze] at q1;let#[a,C,dx,w,rfl,#[hE,h2,h3],h4]:=q1;let#[rfl,h1]:=h1;show#[a,C,dx,c,w,rfl,hE,h2,h3,h1 w H1 h4 e1 p1]
  | _=>show h1.elim
 .subst ex;obtain rfl:u=Value.ref a:=rx;let#[hh,g,d,t,os]:=s1;let#[#[oe,vs,he,hc,CH,CI],_]:=I1.zp a _ h1;let#[mA,BI,hr]:=I1.zp dx _ h2;have hv:=hr f;simp![Bv,beq_self_eq_true,if_true] at hv;obtain⟨u',Ib,ru⟩:∃ u',mA f=↑u'/\RelV w u':=by
   cases z:mA f with
   | none=>rw[z] at hv;show hv.elim
   | some u'=>rw[z] at hv;show#[u',rfl,hv]
  let#[#[q1,bs,sn,sub,ab,col,dd,k0,k1,k2,k3,k5,hC],hN,hn]:=hE.own.at I1.yo;let#[#[q',IL,Ir,G5,IM,G9,Hw,l0,l1,l2,l3,l5,hP],Il,GU]:=hE.par.at I1.yo;have m1:("__getattribute__":Str)∈sS:=#[];have m2:("__getattr__":Str)∈sS:=#[];show XO PySem.F.attrBase_ValueError hC hN #[#[_,_,_,_,hP,Il]] (hn _ m1) (GU _ m1) (hn _ m2) (GU _ m2) (hn _ (ki hf)) (GU _ (ki hf)) (eG hf) he hc (λ c z=>by rw[CI] at z;cases z) CH BI Ib (PySem.W.handedOut_of (NI ru)) #[w,H1,I1.tok _,ru,q]
end
end L3
namespace L5
open PySem PySem.Spec L2 L3
open PyProof.Rows hiding St
@[simp] def ny (k:Str->Bool) (g:Ah):Ah:=fun J=>(g J).bind λ x=>match x with
 | .err c _ _=>↑(.bl (k c))
 | _=>none
@[simp] def gp (f:Str) (g:Ah):Ah:=fun J=>(g J).bind λ x=>match x with
 | .err _ f' t=>if f'=f then ↑t else none
 | _=>none
def Pj {k:Str->Bool}{g:Ah}{te:zr}(hf:y9 g te):xG (ny k g) (pU k te):=λ S Z L J y Q hE e hq=>by
 let#[x,e1,e2]:=An.mp e;exact hf S Z L J x _ hE e1 λ d S1 s1 r1=>?_;split at e2
 .cases e2;let#[d',rfl,_]:=Vw.err r1;show hq _ S1 s1 (Cl.of (λ _=>nofun) wH)
 .cases e2
def cY {f:Str}{g:Ah}{te:zr}(hf:y9 g te):vi (gp f g) (Zn f te):=λ S Z L J y Q hE e hq=>by
 let#[x,e1,e2]:=An.mp e;exact hf S Z L J x _ hE e1 λ d S1 s1 r1=>?_;split at e2
 .split at e2
  .rename_i h;cases e2;let#[d',rfl,h2]:=Vw.err r1;show#[h,hq _ S1 s1 h2]
  .cases e2
 .cases e2
end L5
namespace L3
open PySem PySem.Spec L2
open PyProof.Rows hiding St
def Ec (K:Ac) (c:Str):Prop:=∃ C P N NP,rS K c C P N NP
def Ec.i {K:Ac}{c:Str}{C P:Addr}{o1 o2:Value}{d1 d2:Option Addr}{c1 c2:ClassData}{s1 s2:Array (Option Value)}(_:PySem.W.nsIn K mainGlobals c=↑↑(.ref C)) (_:PySem.W.nsIn K mainGlobals "PurseError"=↑↑(.ref P)) (_:K.lookup C=↑#[o1,d1,.cls c1,s1]) (_:K.lookup P=↑#[o2,d2,.cls c2,s2])
  (h:kq K c=↑(C,P,c1.ns,c2.ns)):Ec K c:=#[C,P,_,_,aP h]
def Ei (K:Ac) (c f:Str) (st:Stmt):Prop:=∃ (C P N NP fI:Addr) (fd:FuncData),rS K c C P N NP/\PySem.W.keepIn K (.ref C)=true/\PySem.W.nsIn K N "__init__"=↑↑(.ref fI)/\PySem.W.isFn K (.ref fI)=true/\wV K "__init__" (c++".__init__") st fI fd
def Ei.i {K:Ac}{c f:Str}{st:Stmt}{C P fI:Addr}{o1 o2:Value}{d1 d2:Option Addr}{c1 c2:ClassData}{s1 s2:Array (Option Value)}(_:PySem.W.nsIn K mainGlobals c=↑↑(.ref C)) (_:PySem.W.nsIn K mainGlobals "PurseError"=↑↑(.ref P)) (_:K.lookup C=↑#[o1,d1,.cls c1,s1]) (_:K.lookup P=↑#[o2,d2,.cls c2,s2])
  (h:kq K c=↑(C,P,c1.ns,c2.ns)) (k:PySem.W.keepIn K (.ref C)=true) (n:PySem.W.nsIn K c1.ns "__init__"=↑↑(.ref fI)) (g:PySem.W.isFn K (.ref fI)=true)
  {oc:Value}{od an:Option Addr}{Hk:Array (Option Value)}{kV doc pm Ag ct:Value}(l:K.lookup fI=↑#[oc,od,.func (PySem.W.fnOf "__init__" (c++".__init__") (vg st) (yZ st) (zL st) .none kV doc pm an Ag ct),Hk])
  (cd:PySem.W.codeIn K Ag (c++".__init__")=true) (k2:PySem.W.keepIn K (.ref fI)=true):Ei K c f st:=#[C,P,_,_,fI,_,aP h,k,n,g,gh l cd k2]
def Og (K:Ac) (mg:Ar) (cn:Str):Prop:=∃ D,fy K cn D/\mg cn=↑(.ref D)
section
variable {K:Ac}{mg:Ar}{h:Heap}{c f:Str}{st:Stmt}
def Ei.mk (H:Ei K c f st) (X:K.In h) (G:h.Ns mainGlobals mg) (hf:f∈tW:=by simp):yR K mg c f st:=by
 let#[C,P,N,NP,fI,fd,e,k,n,g,F]:=H;show#[hf,C,P,N,NP,fI,fd,e,PySem.W.mg_of X G e.top,k,n,g,F]
def Ec.mk (H:Ec K c) (X:K.In h) (G:h.Ns mainGlobals mg):Og K mg c:=by
 let#[C,P,N,NP,e]:=H;show#[C,#[e.top,_,_,e.own],PySem.W.mg_of X G e.top]
end
def ve (cn:Str) (c:Str):Bool:=decide (cn=c)||decide (cn="PurseError")
section
variable {X:Cx}{e:Expr}{te:zr}{p q pos:Pos}
def SV {cn:Str}(O:Og X.K X.mg cn) (T:Bt X.mg) (he:PD X e te) (hd:(cn == ("__debug__":Str))=false) (G8:Gl X cn) (hg:Gl X "isinstance") (h1:Ay X e [.Name cn q]) (h2:AG X pos [.Name cn q]) (h3:Ay X (.Name cn q) []):
  PD X (.Call (.Name "isinstance" p) [e,.Name cn q] [] pos) (pU (ve cn) te):=by
 let#[D,o,hm]:=O;show cG (V0:=.ref D) (λ c=>.own o) (ia G8 hm rfl hd) T he hg h1 h2 h3
def LP:bootBuiltins "ValueError"=↑(.type "ValueError"):=by decide +kernel
def ib (hm:X.mg "ValueError"=none) (T:Bt X.mg) (he:PD X e te) (G8:Gl X "ValueError") (hg:Gl X "isinstance") (h1:Ay X e [.Name "ValueError" q]) (h2:AG X pos [.Name "ValueError" q]) (h3:Ay X (.Name "ValueError" q) []):
  PD X (.Call (.Name "isinstance" p) [e,.Name "ValueError" q] [] pos) (pU (λ _=>true) te):=
 cG (V0:=.ty "ValueError") (λ c=>.val) (cB G8 hm LP rfl () ()) T he hg h1 h2 h3
end
end L3
namespace L5
open PySem PySem.Spec L2 L3
open PyProof.Rows hiding St
def Zx:Stmt->List Stmt
 | .ClassDef _ _ _ b _ _ _ _ _ _ _=>b
 | _=>[]
def Ms {P:Program}{w:World}{K:Ac}{mg:Ar}{base:Heap}{x:Str}{st:Stmt}{R:Rk}{ps:List Str}{k:Nat}(F:Fy K mg x st)
  (hb:∀ (kV doc pm:Value) (an:Option Addr) (Ag ct:Value) (us:Ae),us.length=ps.length->bindArgs (PySem.W.fnOf x x (vg st) (yZ st) (zL st) .none kV doc pm an Ag ct) #[us,[]]=pure (ps.zip us)):FD P w K mg base x k ps (zA R λ _=>none):=by
 let#[f,fd,F,hm]:=F;show#[#[f,fd,#[λ vs H Q E #[ds,S,r1,r2,Z,ys,y,_,_,e,_]=>(nomatch e),λ A outer s H args us vs Q E _ _ _ _ #[ds,S,_,_,Z,ys,y,_,_,e,_]=>(nomatch e)],hm,F.kp,F.binds hb],zA.mo]
end L5
namespace L3
open PySem PySem.Spec L2
open PyProof.Rows hiding St
section
def YZ (_ j:Int):Prop:=0<j/\j<2 ^ 200
def YY (i j:Int):Prop:=i.natAbs<2 ^ 200/\j.natAbs<2 ^ 200
instance (i j:Int):Decidable (YZ i j):=by unfold YZ;infer_instance
instance (i j:Int):Decidable (YY i j):=by unfold YY;infer_instance
end
end L3
namespace PySem
section
variable {prog:Program}{w:World}{A:Around}{E:Af}{h:Heap}{g:Array GenState}{d:Drawn}{t:Nat}{os:OsState}{x C tp:Addr}{o:Obj}{c:Value}{b:Bool}
def eC (hn:∀ (prog:Program) (w:World) (A:Around) (Q:Fin->Shared->Prop) (E:Af) (g:Array GenState) (d:Drawn) (t:Nat) (os:OsState) (dep:Int) (tk:Tok),(∀ t',Q (.done (.ret (.bool b))) #[h,g,d,t',os])->wpAny (model prog w) A (Builtin.«isinstance.nested» #[[.ref x,c,.int dep tk],[]]) Q E #[h,g,d,t,os]):Answers (λ s=>s.heap=h) (.ref x) c b:=λ dep tk prog w A R s #[e,q]=>by
 let#[hh,g,d,t,os]:=s;subst e;show hn _ _ _ _ _ _ _ _ _ _ _ λ t'=>q t'
def XN {tk:Tok}{Q:Fin->Shared->Prop}{cs:Ae}{bs:List Bool}(hx:h.get? x=↑o) (hc:o.cls=.ref C) (Aq:C≠tp) {ot:Obj}{n:Nat}(ht:h.get? tp=↑ot) (CZ:ot.cls=.type "tuple") (htd:ot.data=.seq cs.toArray n)
  (Az:AnswersAll (λ s=>s.heap=h) (.ref x) cs bs) (hq:∀ t',Q (.done (.ret (.bool (bs.any id)))) #[h,g,d,t',os]):
  wpAny (model prog w) A (Builtin.«isinstance.nested» #[[.ref x,.ref tp,.int 0 tk],[]]) Q E #[h,g,d,t,os]:=by
 have EY:(Value.ref C == Value.ref tp)=false:=by exists Aq
 have hs:=F.isi_sub_tuple;have hl:¬ (0:Int)≥Builtin.Builtins.nestingLimit:=()
 repeat (any_goals (first | assumption | (with_reducible exact za2 hx ?_;rw[hc]) | (with_reducible exact za2 ht ?_;rw[CZ]) | (with_reducible exact za2 ht ?_;rw[htd]) | (with_reducible exact wpAny_load' ht ?_;rw[htd]) | wp_step))
 exact wpAny_arrayLoop (isinstance_items (P:=λ s=>s.heap=h) (λ _ _ e=>e) cs bs _ _ Az rfl λ t'=>?_);have:=hq t';generalize bs.any id=z at *;cases z <;> show Ad this
end
end PySem
namespace L3
open PySem PySem.Spec L2
open PyProof.Rows hiding St
theorem NF {X:Cx}{E6:Ai}{Y:St}{H:Hp}{s:Shared}(I:Inv X E6 Y H s) {e C:Addr}{c:Str}{k:V}{b:Bool}{u:Value}{oe:Obj}(he:s.heap.get? e=↑oe) (hc:oe.cls=.ref C) (hE:vU X.K c C) (hk:rN X.K c k b) (ru:RelV k u):Answers (λ z=>z.heap=s.heap) (.ref e) u b:=by
 let#[P,N,NP,h2]:=hE;cases hk with
 | @own cn D G=>
  obtain rfl:u=Value.ref D:=ru;let#[bm,N',o]:=id G.own;let#[#[q1,bs,sn,sub,ab,col,dd,k0,k1,k2,k3,k5,hD],_]:=o.at I.yo;exact eC λ prog w A Q E g d t os dep tk hq=>?_;rw[<- bN h2 G] at hq;show e9 (h2.mY I.yo) he hc hD rfl rfl hq
 | val=>
  obtain rfl:u=Value.type "ValueError":=ru;show eC λ prog w A Q E g d t os dep tk hq=>ez (T:="ValueError") (h2.mY I.yo) he hc (by kernel_rfl) hq
def LB {X:Cx}:yD X (.builtin "isinstance") (λ xs H Q=>∃ e C dx c tp ks bs,xs=[.ref e,.ref tp]/\H e=↑(wF e C dx)/\vU X.K c C/\H tp=↑(.tup ks)/\Paired (rN X.K c) ks bs/\Q (.bl (bs.any id)) H):=by
 intro E6 s Y H xs us Q I r h;let#[e,C,dx,c,tp,ks,bs,rfl,h1,hE,h3,hp,q]:=h;cases r with
 | cons ra rb=>
 cases rb with
 | cons rb rc=>
 cases rc;rename_i u1 u2;obtain rfl:u1=Value.ref e:=ra;obtain rfl:u2=Value.ref tp:=rb;let#[#[oe,vs,he,hc,CH,CI],_]:=I.zp e _ h1;let#[hz,us,rv,ot,ht,CZ,n,hts]:=I.zp tp _ h3;let#[hh,g,d,t,os]:=s;have Aq:C≠tp:=λ z=>by
  subst z;let#[P,N,NP,h2]:=hE;let#[#[q1,bs,sn,sub,ab,col,dd,k0,k1,k2,k3,k5,hD],_]:=h2.own.at I.yo;have:=hD.symm.trans ht;cases this;have CZ:Value.type "type"=.type "tuple":=CZ
  revert CZ;decide
 have Az:AnswersAll (λ z=>z.heap=hh) (.ref e) us bs:=by
  clear h3 ht hts q hz
  induction hp generalizing us with
  | nil=>cases rv;trivial
  | cons a _ ih=>cases rv with | cons m n=>show#[NF I he hc hE a m,ih _ n]
 show jx (b:=bs.any id) (λ prog w A Q' E hq=>XN he hc Aq ht CZ hts Az hq) λ t'=>#[.bl _,H,I.tok t',rfl,q]
def qc:List V->TA
 | []=>oG
 | v::vs=>oH (tC v) (qc vs)
theorem qc.go {Y:St}{H:Hp}{Q:List V->Hp->Prop}:∀ {vs:List V},Q vs H->qc vs Y H Q
 | [],h=>h
 | _::vs,h=>qc.go (vs:=vs) (Q:=λ xs H=>Q (_::xs) H) h
def SR {X:Cx}{e:Expr}{te:zr}{p q pos:Pos}{es:List Expr}{x1} {vs:List V}{ks:List (Str->Bool)}(hk:∀ c,Paired (rN X.K c) vs (ks.map λ k=>k c)) (hp:PA X es (qc vs)) (T:Bt X.mg) (he:PD X e te) (hl:vs.length<=sizeLine) (hg:Gl X "isinstance") (h1:Ay X e [.Tuple es x1 q]) (h2:AG X pos [.Tuple es x1 q]) (h3:Ay X (.Tuple es x1 q) []):
  PD X (.Call (.Name "isinstance" p) [e,.Tuple es x1 q] [] pos) (pU (λ c=>ks.any λ k=>k c) te):=by
 exact#[fun L S Q Q' hq z=>he.mo L S _ _ (λ y S1 z=>?_) z,PE.imp (uB LB hg T.isinstance boot_isinstance (v9 he.pe (v9 (c9 hp) uW h3) h1) () () h1 h2) fun Y H Q hu=>?_]
 .split at z
  .show hq _ _ z
  .show z.elim
 .let#[L,S,r1,r2,z]:=hu;exact zJ.go he.mo r1 r2 z λ x S1 v H1 h1 q1 e1 p1=>?_;cases x with
  | err c f d=>
   simp![ze] at q1;let#[a,C,dx,w,rfl,#[hE,h2,h3],_]:=q1;exact qc.go #[hl,λ tp ht=>#[a,C,dx,c,tp,vs,_,rfl,?_,hE,zZ,hk c,?_]]
   .rw[zI λ z=>by rw[z,ht] at h2;cases h2];show h2
   .rw[List.any_map];show h1 _ _ (by simp![ze];rfl) (e1.trans (.new ht _)) (p1.new ht)
  | _=>show h1.elim
structure qR (X:Cx) (es:List Expr) (vs:List V) (ks:List (Str->Bool)):Prop where
 h:∀ c,Paired (rN X.K c) vs (ks.map λ k=>k c)
 p:PA X es (qc vs)
theorem qR.nil {X:Cx}:qR X [] [] []:=#[λ _=>.nil,uW]
theorem qR.cons {X:Cx}{cn:Str}{q:Pos}{es:List Expr}{ks:List (Str->Bool)}(O:Og X.K X.mg cn) (H:∃ vs,qR X es vs ks) (hd:(cn == ("__debug__":Str))=false) (hg:Gl X cn) (hs:starEach (.Name cn q::es) X.env=(false,eval (.Name cn q) X.env)::starEach es X.env):∃ vs,qR X (.Name cn q::es) vs (ve cn::ks):=by
 let#[D,o,hm]:=O;let#[vs,H]:=H;show#[.ref D::vs,λ c=>.cons (.own o) (H.h c),v9 (ia hg hm rfl hd) H.p hs]
def SU {X:Cx}{e:Expr}{te:zr}{p q pos:Pos}{es:List Expr}{x1} {ks:List (Str->Bool)}(H:∃ vs,qR X es vs ks) (T:Bt X.mg) (he:PD X e te) (hl:ks.length<=sizeLine) (hg:Gl X "isinstance") (h1:Ay X e [.Tuple es x1 q]) (h2:AG X pos [.Tuple es x1 q]) (h3:Ay X (.Tuple es x1 q) []):
  PD X (.Call (.Name "isinstance" p) [e,.Tuple es x1 q] [] pos) (pU (λ c=>ks.any λ k=>k c) te):=by
 let#[vs,H]:=H;exact SR H.h H.p T he ?_ hg h1 h2 h3;rw[(H.h "").length,AN];show hl
section
variable {X:Cx}{e:Expr}{es:List Expr}{tA:yh}{pos p:Pos}
def v8 (i:Nat) {x:Str}(hN:X.N[i]?=↑x:=by rfl) (hv:m5 X.env.scope x:=by first | show Or.inl rfl | show Or.inr (Or.inl rfl) | show Or.inr (Or.inr rfl)) (hd:(x == ("__debug__":Str))=false:=by decide) (Ba:(x == ("__classdict__":Str))=false:=by decide):PD X (.Name x pos) (yq i):=TY i (pv i hN hv hd Ba)
def cH {x:Str}{k k':Nat}{ps:List Str}{sp:wg}(F:FD X.prog X.w X.K X.mg X.base x k ps sp) (hr:zX k' X.A) (ha:xh X (e::es) tA) (hk:k<=k') (hg:Gl X x) (A_:(x == ("__debug__":Str))=false)
  (he:Ay X e es) (Ao:AG X pos es):PD X (.Call (.Name x p) (e::es) [] pos) (k9 sp tA):=Ro F (hr.mono hk) ha hg A_ he Ao
end
def nH {N P:List Str}{sc:Scope}(h1:sc.kind=.function:=by rfl) (h2:sc.isCoroutine=false:=by rfl) (h3:sc.isGenerator=false:=by rfl) (h4:N.Nodup:=by decide +kernel) (h5:N.take P.length=P:=by rfl) (h6:∀ x∈P,sc.names.lookup x=↑.local\/sc.names.lookup x=↑.cell:=by decide +kernel) (h7:∀ y∈sc.names,y.2≠.free:=by decide +kernel):vw N P sc:=#[h1,h2,h3,h4,h5,h6,h7]
end L3
namespace L5
open L2 L3
theorem ip {R:Rk}{g:Sm}{t:yf}(h:yc R g t:=by
 repeat' first
  | (with_reducible first | show Q2 _ | apply PX | apply QH | apply Pm)
  | (with_reducible first | show cX _ | exact qk (R:=xt) ar ?_ ?_ | exact il (R:=xt) ?_ | apply cY | apply cZ | apply c_)
  | ((try first | exact xu.fr ?_ | exact xu.fe ?_);with_reducible first | show Pk _ | exact qk (R:=zx) (by with_reducible first | show good_add | show iW | show NZ | show NY | show NX | show iX | show iZ | show i_ | show NR | show aq) ?_ ?_ | exact il (R:=zx) ?_ | exact PJ (R:=zx) (by with_reducible first | show NW | show NL | show NV | show NT | show NS | show N_ | show NQ | show NM | show NU | show good_int) ?_ | apply Q3 | apply Q8 | apply QM | apply Pp | apply QN | show PU _ | show Q9 _ | show QI | apply QQ | apply Pl | apply QL | exact PH (by with_reducible first | show iW | show iX | show iZ | show i_) (by with_reducible first | show iW | show iX | show iZ | show i_) ?_ ?_ ?_ | apply QE | apply QC | show Px _ | apply Pj)
  | (exact xu.er ?_;with_reducible first | show cX _ | exact qk (R:=xt) ar ?_ ?_ | exact il (R:=xt) ?_ | apply cY | apply cZ | apply c_)
  | (with_reducible first | apply RO | apply Qc | apply RU | show RM | apply RS | apply Qd | apply Qb | apply RX | apply RK | show ik _ | apply RZ | apply RW | apply RY | show Qa _ | apply R_ | apply RT | apply RP | apply RQ | apply RL | apply Qo | apply cW)
  | (exact rJ.s ?_;with_reducible first | apply cW)
  | show cV _
  | (with_reducible first | show Qy | apply Qz | show Qv | apply Qw | apply Q4 | apply Q6 | apply Pt | apply Pq | apply Pw | show Q5 | show Qn _ | show Qk | apply Ql | show Qp | apply Qq | apply Qh | apply Qf | apply Qg | apply Qi | apply Qj | apply Qe | show Qu | apply Qt)
  | (first | show Qs _ | apply Qm | apply Qr)
  | show yc.fv (ik _)
  | show yc.fv (cV _)
  | show Bool.false):yc R g t:=h
end L5
namespace L5
open PySem PySem.Spec L2 L3
open PyProof.Rows hiding St
def Cm (mg:Ar) (x:Str) (t:V):Prop:=∃ u,mg x=↑u/\L2.RelV t u
def Hs (_:List (List Str×List (Option Nat))):Prop:=True
def Hq (s:Scope) (n:List Str):Bool:=s.names.all (λ y=>!(decide (y.2=.local)||decide (y.2=.free))||y.1 == ".0"||n.elem y.1)&&(s.names.filter λ y=>decide (y.2=.local)||decide (y.2=.free)).length == n.length+1
def Ht (_:List Str) (_:List (Option Nat)):Prop:=True
section
variable {n:List Str}{p:List (Option Nat)}{x:List Str×List (Option Nat)}{r:List (List Str×List (Option Nat))}
def Hs.a (_:Hs ((n,p)::r)):Ht n p:=trivial
def Hs.b (_:Hs (x::(n,p)::r)):Ht n p:=trivial
end
section
variable {X:Cx}{N' N:List Str}{pick:List (Option Nat)}{scope Ja:Scope}{tg iter elt:Expr}{ifs:List Expr}{ti:wC}{g:xB}{G4:yx}{te:zr}{pos:Pos}
def pl (_:Ht N' pick) (_:X.env.scope=Ja) (_:X.N=N) (Sc:sI X N' pick scope) (_:Hq scope N'=true) (hi:uM X tg iter ti) (hg:∀ cl C s H fp,N'.Nodup->u5 (yw X N' scope cl C s H fp) tg g) (hf:∀ cl C s H fp,N'.Nodup->oh (yw X N' scope cl C s H fp) ifs G4) (he:∀ cl C s H fp,N'.Nodup->PD (yw X N' scope cl C s H fp) elt te)
  (nd:N'.Nodup) (hc:X.calm=true) (hs:∀ x,foldedSetIterable iter X.env x=pure x):
  PD X (.ListComp elt [#[tg,iter,ifs,0]] scope pos) (uG pick ti g G4 te):=S9 Sc hc hi (λ cl C s H fp=>hg cl C s H fp nd) (λ cl C s H fp=>hf cl C s H fp nd) (λ cl C s H fp=>he cl C s H fp nd) hs
def Uw {a b:Expr}{k:Nat}{t:wc}(h:og X [a,b] t) (hc:X.calm=true) (hn:(assignEach [a,b] X.env).length=2) (AH:(assignEach [a,b] X.env).findIdx? (·.1)=none):u5 X (.Tuple [a,b] k pos) (pP 2 t):=cF h hc hn AH
def Uv {a b c:Expr}{k:Nat}{t:wc}(h:og X [a,b,c] t) (hc:X.calm=true) (hn:(assignEach [a,b,c] X.env).length=3) (AH:(assignEach [a,b,c] X.env).findIdx? (·.1)=none):u5 X (.Tuple [a,b,c] k pos) (pP 3 t):=cF h hc hn AH
def Ra {x y:Str}(h:Cm X.mg x (.str y)) (hg:Gl X x:=by rfl) (hd:(x == ("__debug__":Str))=false:=by decide):PD X (.Name x pos) (dC (.str y)):=let #[_,a,b]:=h;S_ a b hg hd
def UN {c f:Str}{si:Stmt}{p Aj Iv:Pos}{k:Nat}{e:Expr}(h:yR X.K X.mg c f si/\rM f si) (hr:zX k X.A) (he:PD X e te) (hk:2<=k) (hg:Gl X c) (hc:X.calm=true) (A_:(c == ("__debug__":Str))=false)
  (hs:Ay X e []) (Ao:AG X Aj []) (hn:∀ v s,¬ X.xe v s):rF X false (.Raise ↑(.Call (.Name c p) [e] [] Aj) none Iv) (gI c f te):=UP h.1 h.2 hr he hk hg hc A_ hs Ao hn
def Ts {t:yf}{i j:Nat}{n c:Str}{body:List Stmt}{p1 p2 p3 p4 B0:Pos}(hN:X.N.Nodup) (hb:u0 X true body t) (hi:X.N[i]?=↑n) (hj:X.N[j]?=↑c) (A7:i≠j)
  (hg:Gl X "PurseError") (Bf:X.env.kindOf n=↑.local) (Dm:Loc X.env.scope c) (DB:X.fn c=true\/X.env.scope.names.lookup c=↑.local) (Bm:(n == ("__debug__":Str))=false) (BP:(n == ("__classdict__":Str))=false) (Bz:swapsWith (.Name n p3) ↑(.Name c p2) p4.line X.env=pure false)
  (AH:X.stack=X.env::X.outer) (AI:X.env.frame=↑X.env.locals) (hn:∀ v s,¬ X.xe v s):wD X (.Try body [.ExceptHandler ↑(.Name "PurseError" p1) ↑n [.Assign [.Name c p2] (.Name n p3) p4] B0] [] [] pos) (gF i j t):=Tt i j hN hb A7 hi hj hg Bf Dm DB Bm BP Bz AH AI hn
def cx {i:Nat}{y:Str}{py Bl:Pos}(_:Ht N' pick) (_:X.env.scope=Ja) (_:X.N=N) (hn:X.N.Nodup) (Sc:sI X N' pick scope)
  (Bz:swapsWith (.ListComp elt [#[tg,iter,ifs,0]] scope pos) ↑(.Name y py) Bl.line X.env=pure true) (_:Hq scope N'=true)
  (hi:uM X tg iter ti) (hg:∀ cl C s H fp,N'.Nodup->u5 (yw X N' scope cl C s H fp) tg g) (hf:∀ cl C s H fp,N'.Nodup->oh (yw X N' scope cl C s H fp) ifs G4) (he:∀ cl C s H fp,N'.Nodup->PD (yw X N' scope cl C s H fp) elt te)
  (nd:N'.Nodup) (hc:X.calm=true) (hy:X.N[i]?=↑y) (hx:Loc X.env.scope y)
  (B2:X.fn y=true\/X.env.scope.names.lookup y=↑.local) (hs:∀ x,foldedSetIterable iter X.env x=pure x):
  wD X (.Assign [.Name y py] (.ListComp elt [#[tg,iter,ifs,0]] scope pos) Bl) (uI (uG pick ti g G4 te) (hName i)):=Tx Sc hc hi (λ cl C s H fp=>hg cl C s H fp nd) (λ cl C s H fp=>hf cl C s H fp nd) (λ cl C s H fp=>he cl C s H fp nd) hn hy hx Bz B2 hs
end
theorem pA {p:Prop}(h:p:=by
 repeat' first
  | show rfl
  | (change PD _ _ _;first | (change PD _ (.Name _ _) _;first | show v8 0 | show v8 1 | show v8 2 | show v8 3 | show v8 4 | show v8 5 | show v8 6 | show v8 7 | show v8 8 | show v8 9 | show v8 10 | show v8 11 | show v8 12 | show Ra (by assumption)) | show SX | show Rq | show Sd | show Sq | (change PD _ (.Subscript (.Name "lows" _) _ _) _;apply Rj hr) | (change PD _ (.Call _ [.Name "lows" _] _ _) _;apply Ri T.len) | show Rl | apply Rm hr | apply Si | apply SJ | apply T_ | apply SD | (change PD _ (.Call _ _ _ _) _;first | (apply cH;assumption) | (apply cH;show vx.no (by assumption)) | apply SH T.len | apply SE T.list T.range | apply SG T.list | apply TZ T.tuple | apply Sz T.max | apply Sy T.min | apply Rt T.any | apply Rv T.all | apply Sf hr T.sorted U.set | apply Sg T.sorted | apply SW T.int | apply SN T | apply SO T | apply SM T | apply S8 | apply S7 | (apply SV;assumption) | apply L3.ib JL | apply SU) | (change PD _ (.BinOp _ _ _ _) _;first | apply Rw | apply Sb | apply Sv | apply Rf | apply Su | apply Sj) | (change PD _ (.Compare _ _ _ _) _;first | apply SA hr | apply Rh hr | apply Rb | apply L5.ib | apply SK | apply Rn nc nc fit_le fit_le xf.mo xf.mo) | apply Ru | apply Sk | apply So | apply Ss | apply SY | apply Rc | (apply pl (Hs.a hc) hS hN;show kA hS hN;decide +kernel) | (apply pl (Hs.b hc) hS hN;show kA hS hN;decide +kernel))
  | (change xh _ _ _;first | show TV | apply TX)
  | (change xb _ _ _;first | (change xb _ (.Compare _ _ _ _) _;first | apply Ta hr | apply Th hr | apply U_ hr | apply Tb | apply Tg | apply Tf | apply Te hr | apply Td | apply Tc | apply Ti nc nc fit_le fit_le xf.mo xf.mo) | apply UZ | (apply sk.pt;first | apply cC | apply cE) | apply UY)
  | apply cC | apply cE | apply UW | apply UX
  | (change vh _ _ _;first | show Tn | apply Tj | apply Tq)
  | (change wD _ _ _;first | apply Tw | apply T2 | apply T3 PassesOwn.never rfl | apply Tr PassesOwn.never | (apply cx (Hs.a hc) hS hN nd;show kA hS hN;rfl;decide +kernel) | (apply cx (Hs.b hc) hS hN nd;show kA hS hN;rfl;decide +kernel) | (change wD _ (.Assign [.Subscript (.Name "lows" _) _ _] _ _) _;apply T5 hr) | apply Ts | apply Tu | apply Tz | apply T4)
  | apply TN | apply Uw | apply Uv | apply TK | show TJ
  | (change uM _ _ _ _;first | apply TC T.range | apply T9 U.zip | apply TH U.enumerate | apply TB)
  | show TU | show T7 | apply TR | apply T6
  | (change u0 _ _ _ _;first | show UR | apply UQ | apply UU)
  | (change rF _ _ _ _;first | (apply UT;assumption) | (apply UN;assumption) | apply UO | apply US)
  | (apply qR.cons;assumption) | show#[_,.nil] | (change _∈tW;simp) | show λ _ _ z=>z | show T | show Ak _
  | show hr | show nd | intro _ _ _ _ _ nd | show λ _=>rfl | show λ _ _=>rfl | show Or.inl rfl | show Or.inr rfl | show#[rfl,rfl,rfl,rfl] | decide
  | show (rfl:(_:List Str)[0]?=_) | show (rfl:(_:List Str)[1]?=_) | show (rfl:(_:List Str)[2]?=_) | show (rfl:(_:List Str)[3]?=_) | show (rfl:(_:List Str)[4]?=_) | show (rfl:(_:List Str)[5]?=_) | show (rfl:(_:List Str)[6]?=_) | show (rfl:(_:List Str)[7]?=_) | show (rfl:(_:List Str)[8]?=_) | show (rfl:(_:List Str)[9]?=_) | show (rfl:(_:List Str)[10]?=_) | show (rfl:(_:List Str)[11]?=_) | show (rfl:(_:List Str)[12]?=_)):p:=h
section
variable {P:Program}{w:World}{K:Ac}{mg:Ar}{base:Heap}{x:Str}{st:Stmt}{N ps:List Str}{k n:Nat}{g:Sm}{R:Rk}[Lo R]
def yg (hs:List (List Str×List (Option Nat))) (F:Fy K mg x st)
  (Fm:∀ (f:Addr) (Ag:Value) (A:Around) (outer:List Env) (s:Shared) (H:Hp) (E:XK),Hs hs->N.Nodup->(y_ yG P w K mg base N x (zL st) f Ag A outer s H E).xx.N=N->(y_ yG P w K mg base N x (zL st) f Ag A outer s H E).xx.env.scope=zL st->zX k (A.deeper (envOfC x (zL st) s.heap.objs.size f Ag))->
   ∃ t,vh (y_ yG P w K mg base N x (zL st) f Ag A outer s H E).xx (yZ st) t/\yc R g t:=by intro f Ag A outer s H E hc nd hN hS hr;show#[_,pA,ip])
  (Sc:vw N ps (zL st):=by show nH) (hn:n=ps.length:=by rfl)
  (hb:∀ (kV doc pm:Value) (an:Option Addr) (Ag ct:Value) (us:Ae),us.length=ps.length->bindArgs (PySem.W.fnOf x x (vg st) (yZ st) (zL st) .none kV doc pm an Ag ct) #[us,[]]=pure (ps.zip us):=by intro _ _ _ _ _ _;first | show ZZ λ _=>rfl | show my λ _ _=>rfl | show ZY λ _ _ _=>rfl | show ZX λ _ _ _ _=>rfl):FD P w K mg base x (k+1) ps (zA R (zH N n g)):=
 Mq F Sc hn hb λ f Ag A outer s H E hr=>Fm f Ag A outer s H E trivial Sc.nd rfl rfl hr
def nJ (hs:List (List Str×List (Option Nat))) (F:Fy K mg x st)
  (Fm:∀ (f:Addr) (Ag:Value) (A:Around) (outer:List Env) (s:Shared) (H:Hp) (E:XK),Hs hs->N.Nodup->(y_ yG P w K mg base N x (zL st) f Ag A outer s H E).xx.N=N->(y_ yG P w K mg base N x (zL st) f Ag A outer s H E).xx.env.scope=zL st->zX k (A.deeper (envOfC x (zL st) s.heap.objs.size f Ag))->
   ∃ t,u0 (y_ yG P w K mg base N x (zL st) f Ag A outer s H E).xx false (yZ st) t/\yc R g t:=by intro f Ag A outer s H E hc nd hN hS hr;show#[_,pA,ip])
  (Sc:vw N ps (zL st):=by show nH) (hn:n=ps.length:=by rfl)
  (hb:∀ (kV doc pm:Value) (an:Option Addr) (Ag ct:Value) (us:Ae),us.length=ps.length->bindArgs (PySem.W.fnOf x x (vg st) (yZ st) (zL st) .none kV doc pm an Ag ct) #[us,[]]=pure (ps.zip us):=by intro _ _ _ _ _ _;first | show ZZ λ _=>rfl | show my λ _ _=>rfl | show ZY λ _ _ _=>rfl | show ZX λ _ _ _ _=>rfl):vx P w K mg base x (k+1) ps (zA R (zH N n g)):=
 Mp F Sc hn hb λ f Ag A outer s H E hr=>Fm f Ag A outer s H E trivial Sc.nd rfl rfl hr
def Mk {f:Addr}{fd:FuncData}(hs:List (List Str×List (Option Nat))) (F:wV K x x st f fd)
  (Fm:∀ (Ag:Value) (A:Around) (outer:List Env) (s:Shared) (H:Hp) (E:XK),Hs hs->N.Nodup->(y_ yG P w K mg base N x (zL st) f Ag A outer s H E).xx.N=N->(y_ yG P w K mg base N x (zL st) f Ag A outer s H E).xx.env.scope=zL st->zX k (A.deeper (envOfC x (zL st) s.heap.objs.size f Ag))->
   ∃ t,vh (y_ yG P w K mg base N x (zL st) f Ag A outer s H E).xx (yZ st) t/\yc R g t:=by intro Ag A outer s H E hc nd hN hS hr;show#[_,pA,ip])
  (Sc:vw N ps (zL st):=by show nH) (hn:n=ps.length:=by rfl):xl P w K mg base yG (k+1) f fd ps (uR K (zA R (zH N n g))):=
 aC F Sc hn λ Ag A outer s H E hr=>Fm Ag A outer s H E trivial Sc.nd rfl rfl hr
end
end L5
namespace RN
open L5
abbrev Bd:=List (Int×Int)
def yY (b c:Bd):Prop:=∀ q,zG b q=true->zG c q=true
def yY.refl (b:Bd):yY b b:=λ _ h=>h
def yY.of {b c:Bd}(h:∀ p∈b,∃ r∈c,r.1<=p.1/\r.2<=p.2):yY b c:=λ q x=>by
 let#[p,hp,h1,h2]:=y6.mp x;let#[r,hr,h3,h4]:=h p hp;show y6.mpr #[r,hr,⋯,⋯]
def yY.at {b c:Bd}(h:yY b c) {p:Int×Int}(hp:p∈b):∃ r∈c,r.1<=p.1/\r.2<=p.2:=y6.mp (h p (y6.mpr #[p,hp,AW _,AW _]))
structure Gd (A B:Int) (b:Bd):Prop where
 lY:vv b
 xJ:∀ p∈b,(0<=p.1/\p.1<=A)/\0<=p.2/\p.2<=B
def xr:Bd:=[(0,0)]
def Zu {q:Int×Int}:zG xr q=true↔0<=q.1/\0<=q.2:=by
 rw[y6];unfold xr;simp
theorem Gd.xr {A B:Int}(hA:0<=A) (hB:0<=B):Gd A B xr:=#[by unfold RN.xr vv;simp,λ p hp=>by
 unfold RN.xr at hp;cases A2.mp hp;show#[#[AW _,hA],AW _,hB]]
def Gd.OM {A B:Int}{b:Bd}(h:Gd A B b):yY b RN.xr:=yY.of λ p hp=>#[(0,0),by unfold RN.xr;simp,(h.xJ p hp).1.1,(h.xJ p hp).2.1]
theorem Gd.eq {A B:Int}{b c:Bd}(h:Gd A B b) (h':Gd A B c) (x:yY b c) (y:yY c b):b=c:=vv.eq h.lY h'.lY λ q=>by
 rw[Bh];show#[x q,y q]
def Gd.least {A B:Int}{ps:Bd}(h:∀ p∈ps,(0<=p.1/\p.1<=A)/\0<=p.2/\p.2<=B):Gd A B (vc ps):=#[iG ps,λ p hp=>h p (OJ hp)]
def bA {ps qs:Bd}(h:∀ p∈ps,∃ r∈qs,r.1<=p.1/\r.2<=p.2):yY (vc ps) (vc qs):=λ q x=>by
 rw[pD] at x ⊢;show yY.of h q x
theorem bP:∀ {b:Bd}{lo hi:Int},vv b->(∀ p∈b,lo<=p.1/\p.1<=hi)->(b.length:Int)<=hi+1-lo\/b=[]
 | [],_,_,_,_=>.inr rfl
 | p::b,lo,hi,h,hb=>by
  have h1:=BK.mp h;have hp:=hb p Av;exact .inl ?_;rcases bP (lo:=p.1+1) (hi:=hi) h1.2 (λ q hq=>#[by have:=(h1.1 q hq).1;lia,(hb q (AA _ hq)).2]) with x | x
  .rw[A9];lia
  .subst x;simp;lia
theorem bO:∀ {b:Bd}{lo hi:Int},vv b->(∀ p∈b,lo<=p.2/\p.2<=hi)->(b.length:Int)<=hi+1-lo\/b=[]
 | [],_,_,_,_=>.inr rfl
 | p::b,lo,hi,h,hb=>by
  have h1:=BK.mp h;have hp:=hb p Av;exact .inl ?_;rcases bO (lo:=lo) (hi:=p.2-1) h1.2 (λ q hq=>#[(hb q (AA _ hq)).1,by have:=(h1.1 q hq).2;lia]) with x | x
  .rw[A9];lia
  .subst x;simp;lia
def Gd.u_ {A B:Int}{b:Bd}(h:Gd A B b) (hA:0<=A):(b.length:Int)<=A+1:=by
 rcases bP (lo:=0) (hi:=A) h.lY (λ p hp=>(h.xJ p hp).1) with x | x
 .lia
 .subst x;simp;lia
def Gd.OH {A B:Int}{b:Bd}(h:Gd A B b) (hB:0<=B):(b.length:Int)<=B+1:=by
 rcases bO (lo:=0) (hi:=B) h.lY (λ p hp=>(h.xJ p hp).2) with x | x
 .lia
 .subst x;simp;lia
def yB (x:Int):Int:=if x>0 then x else 0
def lO (x:Int):0<=yB x:=by unfold yB;split <;> lia
def iz {x y:Int}(h:x<=y):yB x<=yB y:=by unfold yB;split <;> split <;> lia
def Ou {x g:Int}(h:0<=x) (hg:0<=g):yB (x-g)<=x:=by unfold yB;split <;> lia
def xa (a b:Int) (p:Int×Int):Int×Int:=(yB (p.1-a),yB (p.2-b))
def vo (A B:Int) (p:Int×Int):Bool:=decide (p.1<=A)&&decide (p.2<=B)
def rA (A B a b:Int) (bd:Bd):Bd:=vc ((bd.map (xa a b)).filter (vo A B))
def Ka (A B a b:Int) (bd:Bd):Gd A B (rA A B a b bd):=Gd.least λ p hp=>by
 let#[h1,h2]:=Be.mp hp;let#[q,_,rfl]:=Au.mp h1;have h3:(xa a b q).1<=A/\(xa a b q).2<=B:=by simpa [vo] using h2
 show#[#[lO _,h3.1],lO _,h3.2]
def Yc (A B a b:Int) {bd bd':Bd}(h:yY bd bd'):yY (rA A B a b bd) (rA A B a b bd'):=bA λ p hp=>by
 let#[h1,h2]:=Be.mp hp;let#[q,hq,rfl]:=Au.mp h1;let#[r,hr,r1,r2]:=h.at hq;have h3:(xa a b q).1<=A/\(xa a b q).2<=B:=by simpa [vo] using h2
 have m1:(xa a b r).1<=(xa a b q).1:=iz ⋯;have m2:(xa a b r).2<=(xa a b q).2:=iz ⋯;show#[xa a b r,Be.mpr #[Au.mpr #[r,hr,rfl],by simp[vo];lia],m1,m2]
def ur (b c:Bd):Bd:=vc (b++c)
def M8 (b c:Bd) (q:Int×Int):zG (ur b c) q=(zG b q||zG c q):=by unfold ur;rw[pD,MX]
def M7 {A B:Int}{b c:Bd}(h:Gd A B b) (h':Gd A B c):Gd A B (ur b c):=Gd.least λ p hp=>by
 rcases A1.mp hp with x | x
 .show h.xJ p x
 .show h'.xJ p x
def lR (p q:Int×Int):Int×Int:=(if q.1>p.1 then q.1 else p.1,if q.2>p.2 then q.2 else p.2)
def vO (b c:Bd):Bd:=vc (b.flatMap λ p=>c.map (lR p))
def ZJ (b c:Bd) (q:Int×Int):zG (vO b c) q=(zG b q&&zG c q):=by
 unfold vO;rw[pD,Bh,Bw,y6,y6,y6];constructor
 .rintro⟨p,hp,h1,h2⟩;let#[x,hx,hp]:=B7.mp hp;let#[y,hy,rfl]:=Au.mp hp;unfold lR at h1 h2;dsimp only at h1 h2;exact#[#[x,hx,?_,?_],#[y,hy,?_,?_]] <;> (first | (split at h1 <;> lia) | (split at h2 <;> lia))
 .rintro⟨⟨x,hx,h1,h2⟩,⟨y,hy,h3,h4⟩⟩;exact#[lR x y,B7.mpr #[x,hx,Au.mpr #[y,hy,rfl]],?_,?_]
  .change (if y.1>x.1 then y.1 else x.1)<=q.1;split <;> lia
  .change (if y.2>x.2 then y.2 else x.2)<=q.2;split <;> lia
def LO {A B:Int}{b c:Bd}(h:Gd A B b) (h':Gd A B c):Gd A B (vO b c):=Gd.least λ p hp=>by
 let#[x,hx,hp]:=B7.mp hp;let#[y,hy,rfl]:=Au.mp hp;have a1:=h.xJ x hx;have a2:=h'.xJ y hy;unfold lR;dsimp only;exact#[#[?_,?_],?_,?_] <;> split <;> lia
def uu (bs:List Bd):Bd:=bs.foldl ur []
def pW (bs:List Bd):Bd:=bs.foldl vO xr
theorem gA:∀ (bs:List Bd) (b:Bd) (q:Int×Int),zG (bs.foldl ur b) q=true↔zG b q=true\/∃ c∈bs,zG c q=true
 | [],b,q=>#[]
 | c::bs,b,q=>by
  rw[DP,gA bs,M8,D7];constructor
  .rintro ((h | h) | ⟨d,hd,h⟩)
   .show .inl h
   .show .inr #[c,Av,h]
   .show .inr #[d,AA _ hd,h]
  .rintro (h | ⟨d,hd,h⟩)
   .show .inl (.inl h)
   .rcases Am.mp hd with e | e
    .subst e;show .inl (.inr h)
    .show .inr #[d,e,h]
theorem nM {A B:Int}:∀ (bs:List Bd) (b:Bd),Gd A B b->(∀ c∈bs,Gd A B c)->Gd A B (bs.foldl ur b)
 | [],b,h,_=>h
 | c::bs,b,h,hb=>nM bs _ (M7 h (hb c Av)) λ d hd=>hb d (AA _ hd)
def Gd.nil {A B:Int}:Gd A B []:=#[by unfold vv;simp,λ p hp=>by cases hp]
theorem gR:∀ (bs:List Bd) (b:Bd) (q:Int×Int),zG (bs.foldl vO b) q=true↔zG b q=true/\∀ c∈bs,zG c q=true
 | [],b,q=>#[]
 | c::bs,b,q=>by
  rw[DP,gR bs,ZJ,Bw];constructor
  .rintro⟨⟨h1,h2⟩,h3⟩;show#[h1,λ d hd=>by
    rcases Am.mp hd with e | e
    .subst e;show h2
    .show h3 d e]
  .rintro⟨h1,h2⟩;show#[#[h1,h2 c Av],λ d hd=>h2 d (AA _ hd)]
theorem gQ {A B:Int}:∀ (bs:List Bd) (b:Bd),Gd A B b->(∀ c∈bs,Gd A B c)->Gd A B (bs.foldl vO b)
 | [],b,h,_=>h
 | c::bs,b,h,hb=>gQ bs _ (LO h (hb c Av)) λ d hd=>hb d (AA _ hd)
def yL (pu:Bool) (g t:Int):Int×Int:=if pu=true then (t,g) else (g,t)
def zP (pu:Bool) (p:Int×Int):Int:=if pu=true then p.2 else p.1
def yp (pu:Bool) (p:Int×Int):Int:=if pu=true then p.1 else p.2
def xN (pu:Bool) (zS give get:Int):Nat->Int->Int->Bd
 | 0,_,_=>[]
 | n+1,g,t=>if g<=zS then yL pu g t::xN pu zS give get n (g+give) (yB (t-get)) else []
def Ua {pu:Bool}{g t g' t':Int}(h:g'<=g) (h':t'<=t):(yL pu g' t').1<=(yL pu g t).1/\(yL pu g' t').2<=(yL pu g t).2:=by
 cases pu
 .show#[h,h']
 .show#[h',h]
theorem Z8 (pu:Bool) (zS give get:Int):∀ (n:Nat) (g t g' t':Int),g'<=g->t'<=t->∀ e∈xN pu zS give get n g t,∃ r∈xN pu zS give get n g' t',r.1<=e.1/\r.2<=e.2
 | 0,_,_,_,_,_,_,e,he=>by cases he
 | n+1,g,t,g',t',h1,h2,e,he=>by
  unfold xN at he ⊢;split at he
  .rw[if_pos ⋯];rcases Am.mp he with x | x
   .subst x;show#[_,Av,Ua h1 h2]
   .let#[r,hr,r1]:=Z8 pu zS give get n _ _ (g' + give) (yB (t'-get)) ⋯ (iz ⋯) e x;show#[r,AA _ hr,r1]
  .cases he
theorem gN (pu:Bool) (zS give get most:Int) (hg:1<=give) (Dy:0<=get):∀ (n:Nat) (g t:Int),0<=g->0<=t->t<=most->∀ e∈xN pu zS give get n g t,(0<=zP pu e/\zP pu e<=zS)/\0<=yp pu e/\yp pu e<=most
 | 0,_,_,_,_,_,e,he=>by cases he
 | n+1,g,t,h1,h2,h3,e,he=>by
  unfold xN at he;split at he
  .rcases Am.mp he with x | x
   .subst x;cases pu <;> show#[#[h1,by assumption],h2,h3]
   .show gN pu zS give get most hg Dy n _ _ ⋯ (lO _) (Int.le_trans (Ou h2 Dy) h3) e x
  .cases he
theorem Z9 (pu:Bool) (zS give get:Int) (hg:1<=give):∀ (n:Nat) (g t:Int),g<=zS+1->((xN pu zS give get n g t).length:Int)<=zS+1-g
 | 0,g,t,h=>by simp[xN];lia
 | n+1,g,t,h=>by
  unfold xN;split
  .rw[A9];by_cases hh:g+give<=zS+1
   .have:=Z9 pu zS give get hg n (g+give) (yB (t-get)) hh;lia
   .have e:xN pu zS give get n (g+give) (yB (t-get))=[]:=by
     cases n with
     | zero=>rfl
     | succ n=>unfold xN;rw[if_neg ⋯]
    rw[e];simp;lia
  .simp;lia
structure Wy where
 f:Nat
 t:Nat
 a:Int
 b:Int
structure Sl where
 p:Nat
 pu:Bool
 gv:Int
 gt:Int
structure zt where
 A:Int
 B:Int
 os:List Bool
 ws:List Wy
 ss:List Sl
structure zt.Ok (F:zt):Prop where
 a0:0<=F.A
 a1:F.A<=12
 b0:0<=F.B
 b1:F.B<=12
 n1:1<=F.os.length
 n8:F.os.length<=8
 ws:∀ w∈F.ws,w.f<F.os.length/\w.t<F.os.length
 sM:F.ws.length<=60
 ss:∀ s∈F.ss,1<=s.gv/\0<=s.gt
 sl:F.ss=[]\/(F.A+1)*(F.B+1)<64
 s8:F.ss.length<=60
def zt.zS (F:zt) (pu:Bool):Int:=if pu=true then F.B else F.A
def yU (F:zt) (s:Sl) (p:Int×Int):Bd:=xN s.pu (F.zS s.pu) s.gv s.gt 100 (zP s.pu p) (yp s.pu p)
def q8 (F:zt) (s:Sl) (bd:Bd):Bd:=vc (bd.flatMap (yU F s))
def Li (F:zt) (s:Sl) {b c:Bd}(h:yY b c):yY (q8 F s b) (q8 F s c):=bA λ p hp=>by
 let#[x,hx,hp]:=B7.mp hp;let#[r,hr,r1,r2]:=h.at hx;let#[e,he,e1]:=Z8 s.pu (F.zS s.pu) s.gv s.gt 100 (zP s.pu x) (yp s.pu x) (zP s.pu r) (yp s.pu r) (by unfold zP;split <;> assumption) (by unfold yp;split <;> assumption) p hp;show#[e,B7.mpr #[r,hr,he],e1]
def Lh {F:zt}{s:Sl}(hs:1<=s.gv/\0<=s.gt) {p:Int×Int}(hp:(0<=p.1/\p.1<=F.A)/\0<=p.2/\p.2<=F.B):∀ e∈yU F s p,(0<=e.1/\e.1<=F.A)/\0<=e.2/\e.2<=F.B:=λ e he=>by
 let#[p,pu,gv,gt]:=s;unfold yU zt.zS at he;cases pu with
 | true=>show (gN true F.B gv gt F.A hs.1 hs.2 100 _ _ hp.2.1 hp.1.1 hp.1.2 e he).symm
 | false=>show gN false F.A gv gt F.B hs.1 hs.2 100 _ _ hp.1.1 hp.2.1 hp.2.2 e he
def Lj {F:zt}{s:Sl}(hs:1<=s.gv/\0<=s.gt) {b:Bd}(h:Gd F.A F.B b):Gd F.A F.B (q8 F s b):=Gd.least λ p hp=>by
 let#[x,hx,hp]:=B7.mp hp;show Lh hs (h.xJ x hx) p hp
def xO (F:zt) (E7:List Bd) (p:Nat):List Bd:=(F.ws.filter λ w=>decide (w.f=p)).map λ w=>rA F.A F.B w.a w.b (E7.getD w.t [])
def zt.FN (F:zt) (p:Nat):Option Sl:=F.ss.find? λ s=>decide (s.p=p)
def yA (F:zt) (E7:List Bd) (p:Nat):Bd:=
 if F.os.getD p false=true then match F.FN p with
  | none=>uu (xO F E7 p)
  | some s=>q8 F s (uu (xO F E7 p))
 else pW (xO F E7 p)
def kT (F:zt) (E7:List Bd) (p:Nat):∀ c∈xO F E7 p,Gd F.A F.B c:=λ c hc=>by
 let#[w,_,rfl]:=Au.mp hc;show Ka ..
def bo {F:zt}(ok:F.Ok) (E7:List Bd) (p:Nat):Gd F.A F.B (yA F E7 p):=by
 unfold yA;have h1:Gd F.A F.B (uu (xO F E7 p)):=nM _ _ Gd.nil (kT F E7 p);split
 .split
  .show h1
  .rename_i s e;show Lj (ok.ss s (C6 e)) h1
 .show gQ _ _ (Gd.xr ok.a0 ok.b0) (kT F E7 p)
theorem Oo (F:zt) {l m:List Bd}(p:Nat) (h:∀ w∈F.ws,w.f=p->yY (l.getD w.t []) (m.getD w.t [])):yY (yA F l p) (yA F m p):=by
 have h1:yY (uu (xO F l p)) (uu (xO F m p)):=λ q hq=>by
  unfold uu at hq ⊢;rw[gA] at hq ⊢;rcases hq with x | ⟨c,hc,x⟩
  .show .inl x
  .let#[w,hw,rfl]:=Au.mp hc;let#[w1,w2]:=Be.mp hw;show .inr #[_,Au.mpr #[w,hw,rfl],Yc _ _ _ _ (h w w1 (by exists w2)) q x]
 unfold yA;split
 .split
  .show h1
  .show Li F _ h1
 .intro q hq;unfold pW at hq ⊢;rw[gR] at hq ⊢;exact#[hq.1,λ c hc=>?_];let#[w,hw,rfl]:=Au.mp hc;let#[w1,w2]:=Be.mp hw;show Yc _ _ _ _ (h w w1 (by exists w2)) q (hq.2 _ (Au.mpr #[w,hw,rfl]))
theorem Om (F:zt) {l m:List Bd}(p:Nat) (h:∀ w∈F.ws,w.f=p->l.getD w.t []=m.getD w.t []):yA F l p=yA F m p:=by
 have:xO F l p=xO F m p:=by
  unfold xO;exact DW λ w hw=>?_;let#[w1,w2]:=Be.mp hw;rw[h w w1 (by exists w2)]
 unfold yA;rw[this]
def box:List (Int×Int):=(List.range 13).flatMap λ(i:Nat)=>(List.range 13).map λ(j:Nat)=>((i:Int),(j:Int))
def mu (b:Bd):Nat:=box.countP (zG b)
theorem LJ {p:Int×Int}(h:(0<=p.1/\p.1<=12)/\0<=p.2/\p.2<=12):p∈box:=by
 let#[x,y]:=p;dsimp only at h;exact B7.mpr #[x.toNat,AL.mpr ⋯,Au.mpr #[y.toNat,AL.mpr ⋯,?_]];rw[Cw h.1.1,Cw h.2.1]
theorem Zv {α:Type}{p q:α->Bool}:∀ {l:List α},(∀ x,q x=true->p x=true)->(∃ x∈l,p x=true/\q x=false)->l.countP q<l.countP p
 | [],_,#[x,hx,_]=>by cases hx
 | a::l,h,#[x,hx,h1,h2]=>by
  have hle:l.countP q<=l.countP p:=List.countP_mono_left λ y _=>h y;rw[List.countP_cons,List.countP_cons];rcases Am.mp hx with e | e
  .subst e;rw[if_neg (by rw[h2];decide),if_pos h1];lia
  .have:=Zv h #[x,e,h1,h2];by_cases c:q a=true
   .rw[if_pos c,if_pos (h a c)];lia
   .rw[if_neg c];split <;> lia
theorem Ox {A B:Int}(hA:A<=12) (hB:B<=12) {b c:Bd}(hb:Gd A B b) (hc:Gd A B c) (h:yY b c) (Aq:b≠c):mu b<mu c:=by
 exact Zv h ?_;by_cases x:∃ p∈c,zG b p=false
 .let#[p,hp,e]:=x;have q:=hc.xJ p hp;show#[p,LJ #[#[q.1.1,⋯],q.2.1,⋯],y6.mpr #[p,hp,AW _,AW _],e]
 .show absurd (hb.eq hc h (yY.of λ p hp=>by
   cases e:zG b p with
   | true=>show y6.mp e
   | false=>show absurd #[p,hp,e] x)) Aq
theorem Oy (b:Bd):mu b<=169:=by
 have:box.length=169:=()
 rw[<- this];show List.countP_le_length
def vB (l:List Bd):Nat:=(l.map mu).sum
theorem bq:∀ (l:List Bd),vB l<=169*l.length
 | []=>by simp[vB]
 | b::l=>by
  have h1:=bq l;have h2:=Oy b;unfold vB at h1 ⊢;rw[Ax,List.sum_cons,A9];lia
theorem i4 {A B:Int}(hA:A<=12) (hB:B<=12):∀ {l m:List Bd},l.length=m.length->(∀ b∈l,Gd A B b)->(∀ b∈m,Gd A B b)->(∀ i,yY (l.getD i []) (m.getD i []))->l≠m->vB l<vB m
 | [],[],_,_,_,_,h=>absurd rfl h
 | [],_::_,h,_,_,_,_=>by simp at h
 | _::_,[],h,_,_,_,_=>by simp at h
 | b::l,c::m,hl,gb,gc,h,Aq=>by
  have GV:l.length=m.length:=by exists hl
  have h0:yY b c:=h 0;have hs:∀ i,yY (l.getD i []) (m.getD i []):=λ i=>by exists h (i+1)
  have key:vB l<=vB m:=by
   by_cases e:l=m
   .rw[e];show Ak _
   .show BS (i4 hA hB GV (λ x hx=>gb x (AA _ hx)) (λ x hx=>gc x (AA _ hx)) hs e)
  change (List.map mu (b::l)).sum<(List.map mu (c::m)).sum;rw[Ax,List.sum_cons,Ax,List.sum_cons];by_cases e:b=c
  .subst e;have:l≠m:=λ q=>Aq (by rw[q]);have:=i4 hA hB GV (λ x hx=>gb x (AA _ hx)) (λ x hx=>gc x (AA _ hx)) hs this;unfold vB at this;lia
  .have:=Ox hA hB (gb b Av) (gc c Av) h0 e;unfold vB at key;lia
def uD (F:zt) (fresh:List Nat) (p:Nat):Bool:=F.ws.any λ w=>decide (w.f=p)&&fresh.contains w.t
def yb (F:zt) (E7:List Bd) (fresh:List Nat):List Bd:=(List.range E7.length).map λ p=>if uD F fresh p=true then yA F E7 p else E7.getD p []
def x8 (E7 GN:List Bd):List Nat:=(List.range GN.length).filter λ p=>decide (GN.getD p []≠E7.getD p [])
def sR (F:zt):Nat->List (List Bd)->List Bd->List Nat->Option (List (List Bd))
 | 0,_,_,_=>none
 | n+1,Fc,E7,fresh=>if fresh=[] then ↑(Fc++[E7]) else
   let fo:=yb F E7 fresh
   let fr:=x8 E7 fo
   if fr=[] then ↑(Fc++[E7]) else sR F n (Fc++[E7]) fo fr
structure St (F:zt) (E7:List Bd) (fresh:List Nat):Prop where
 len:E7.length=F.os.length
 gd:∀ b∈E7,Gd F.A F.B b
 fr:∀ p<F.os.length,uD F fresh p=false->(∃ w∈F.ws,w.f=p)->yA F E7 p=E7.getD p []
 le:∀ p<F.os.length,(∃ w∈F.ws,w.f=p)->yY (yA F E7 p) (E7.getD p [])
def nF {α:Type}(f:Nat->α) (n p:Nat) (d:α) (h:p<n):((List.range n).map f).getD p d=f p:=by
 rw[A6,AJ,Ea h];rfl
def sT (F:zt) (E7:List Bd) (fresh:List Nat):(yb F E7 fresh).length=E7.length:=by unfold yb;simp
theorem St.at {F:zt}{E7:List Bd}{fresh:List Nat}(s:St F E7 fresh) {p:Nat}(hp:p<F.os.length) (hw:∃ w∈F.ws,w.f=p):(yb F E7 fresh).getD p []=yA F E7 p:=by
 unfold yb;rw[nF _ _ _ _ (by rw[s.len];show hp)];split
 .rfl
 .rename_i h;show (s.fr p hp (by exists h) hw).symm
def NH {F:zt}{fresh:List Nat}{p:Nat}(h:uD F fresh p=true):∃ w∈F.ws,w.f=p:=by
 unfold uD at h;let#[w,h1,h2]:=A8.mp h;show#[w,h1,by simp at h2;show h2.1]
theorem St.no {F:zt}{E7:List Bd}{fresh:List Nat}(s:St F E7 fresh) {p:Nat}(hp:p<F.os.length) (hw:¬ ∃ w∈F.ws,w.f=p):(yb F E7 fresh).getD p []=E7.getD p []:=by
 unfold yb;rw[nF _ _ _ _ (by rw[s.len];show hp),if_neg (λ h=>hw (NH h))]
theorem St.Z2 {F:zt}{E7:List Bd}{fresh:List Nat}(s:St F E7 fresh) (p:Nat):yY ((yb F E7 fresh).getD p []) (E7.getD p []):=by
 by_cases hp:p<F.os.length
 .by_cases hw:∃ w∈F.ws,w.f=p
  .rw[s.at hp hw];show s.le p hp hw
  .rw[s.no hp hw];show yY.refl _
 .have h1:(yb F E7 fresh).getD p []=[]:=by
   rw[A6,Df (by rw[sT,s.len];lia)];rfl
  rw[h1];intro q x;cases x
def St.next {F:zt}(ok:F.Ok) {E7:List Bd}{fresh:List Nat}(s:St F E7 fresh):St F (yb F E7 fresh) (x8 E7 (yb F E7 fresh)) where
 len:=by rw[sT,s.len]
 gd:=λ b hb=>by
  unfold yb at hb;let#[p,hp,rfl]:=Au.mp hb;split
  .show bo ok E7 p
  .have AD:=AL.mp hp;rw[A6,AR AD];show s.gd _ (Bp AD)
 fr:=λ p hp hn hw=>by
  rw[s.at hp hw];exact Om F p λ w w1 w2=>?_;have hwt:=(ok.ws w w1).2;by_cases e:(yb F E7 fresh).getD w.t []=E7.getD w.t []
  .show e
  .have:uD F (x8 E7 (yb F E7 fresh)) p=true:=by
    unfold uD;exact A8.mpr #[w,w1,?_];have:w.t∈x8 E7 (yb F E7 fresh):=by
     unfold x8;show Be.mpr #[AL.mpr (by rw[sT,s.len];show hwt),by exists e]
    simp[w2,this]
   rw[this] at hn;cases hn
 le:=λ p hp hw=>by
  rw[s.at hp hw];show Oo F p λ w w1 w2=>s.Z2 w.t
def Mg {E7 fo:List Bd}(hl:fo.length=E7.length) (h:x8 E7 fo≠[]):fo≠E7:=λ e=>h (by
 subst e;unfold x8;simp)
def start (F:zt):List Bd:=List.replicate F.os.length xr
theorem St.start {F:zt}(ok:F.Ok):St F (start F) (List.range F.os.length) where
 len:=by unfold RN.start;simp
 gd:=λ b hb=>by rw[List.eq_of_mem_replicate hb];show Gd.xr ok.a0 ok.b0
 fr:=λ p hp hn #[w,w1,w2]=>by
  have:uD F (List.range F.os.length) p=true:=by
   unfold uD;exact A8.mpr #[w,w1,?_];have:=(ok.ws w w1).2;simp[w2,this]
  rw[this] at hn;cases hn
 le:=λ p hp hw=>by
  have e:(RN.start F).getD p []=xr:=by
   unfold RN.start;rw[A6,Dh,if_pos hp];rfl
  rw[e];show (bo ok _ p).OM
theorem dM {F:zt}(ok:F.Ok):∀ (n:Nat) (Fc:List (List Bd)) (E7:List Bd) (fresh:List Nat),St F E7 fresh->vB E7<n->
  ∃ more Hc,sR F n Fc E7 fresh=↑(Fc++E7::more)/\(∀ r∈E7::more,r.length=F.os.length/\∀ b∈r,Gd F.A F.B b)/\(E7::more).getLast?=↑Hc/\more.length<=vB E7
 | 0,_,_,_,_,h=>⋯
 | n+1,Fc,E7,fresh,s,h=>by
  unfold sR;split
  .show#[[],E7,rfl,λ r hr=>by cases A2.mp hr;show#[s.len,s.gd],rfl,A0 _]
  .dsimp only;split
   .show#[[],E7,rfl,λ r hr=>by cases A2.mp hr;show#[s.len,s.gd],rfl,A0 _]
   .rename_i hf;have s':=s.next ok;have AD:vB (yb F E7 fresh)<vB E7:=i4 ok.a1 ok.b1 (sT ..) s'.gd s.gd s.Z2 (Mg (sT ..) hf);let#[more,Hc,e1,e2,e3,e4]:=dM ok n (Fc++[E7]) _ _ s' ⋯;exact#[yb F E7 fresh::more,Hc,by rw[e1];simp,λ r hr=>?_,by rw[List.getLast?_cons_cons];show e3,by rw[A9];lia];rcases Am.mp hr with e | e
    .subst e;show#[s.len,s.gd]
    .show e2 r e
theorem Kb {A B a b:Int}{bd:Bd}(h0:∀ p∈bd,0<=p.1/\0<=p.2) {q:Int×Int}(hq:(0<=q.1/\q.1<=A)/\0<=q.2/\q.2<=B):zG (rA A B a b bd) q=true↔zG bd (q.1+a,q.2+b)=true:=by
 unfold rA;rw[pD,y6,y6];constructor
 .rintro⟨p,hp,h1,h2⟩;let#[hp,_]:=Be.mp hp;let#[r,hr,rfl]:=Au.mp hp;exact#[r,hr,?_,?_]
  .unfold xa yB at h1;dsimp only at h1 ⊢;split at h1 <;> lia
  .unfold xa yB at h2;dsimp only at h2 ⊢;split at h2 <;> lia
 .rintro⟨r,hr,h1,h2⟩;dsimp only at h1 h2;have e1:(xa a b r).1<=q.1:=by unfold xa yB;dsimp only;split <;> lia
  have e2:(xa a b r).2<=q.2:=by unfold xa yB;dsimp only;split <;> lia
  exact#[xa a b r,Be.mpr #[Au.mpr #[r,hr,rfl],?_],e1,e2];unfold vo;rw[zaA ⋯,zaA ⋯];rfl
theorem gO (pu:Bool) (zS give get:Int) (hg:1<=give) (Dy:0<=get):∀ (n:Nat) (g t:Int),0<=t->zS-g<n->∀ (G T:Int),G<=zS->
  ((∃ e∈xN pu zS give get n g t,zP pu e<=G/\yp pu e<=T)↔∃ k:Nat,g+k*give<=G/\yB (t-k*get)<=T)
 | 0,g,t,ht,hn,G,T,hG=>by
  constructor
  .rintro⟨e,he,_⟩;cases he
  .rintro⟨k,h1,_⟩;exfalso;have:0<=(k:Int)*give:=Cp ⋯ ⋯;lia
 | n+1,g,t,ht,hn,G,T,hG=>by
  have gv:∀ x y,zP pu (yL pu x y)=x:=λ x y=>by cases pu <;> rfl
  have gt:∀ x y,yp pu (yL pu x y)=y:=λ x y=>by cases pu <;> rfl
  have ih:=gO pu zS give get hg Dy n (g+give) (yB (t-get)) (lO _) ⋯ G T hG;have mm:∀ k:Nat,yB (yB (t-get)-k*get)=yB (t-(k+1:Nat)*get):=λ k=>by
   have:0<=(k:Int)*get:=Cp ⋯ Dy;have e:((k+1:Nat):Int)*get=k*get+get:=by rw[BV,Ci];lia
   rw[e];unfold yB;split <;> split <;> (try split) <;> lia
  have gg:∀ k:Nat,g+give+k*give=g+(k+1:Nat)*give:=λ k=>by
   rw[BV,Ci];lia
  unfold xN;split
  .rename_i hgb;constructor
   .rintro⟨e,he,h1,h2⟩;rcases Am.mp he with rfl | he
    .rw[gv] at h1;rw[gt] at h2;exact#[0,by simpa using h1,?_];unfold yB;split <;> simp at * <;> lia
    .let#[k,k1,k2]:=ih.mp #[e,he,h1,h2];show#[k+1,by rw[<- gg];show k1,by rw[<- mm];show k2]
   .rintro⟨k,k1,k2⟩;cases k with
    | zero=>
     exact#[_,Av,by rw[gv];simpa using k1,?_];rw[gt];unfold yB at k2;split at k2 <;> simp at * <;> lia
    | succ k=>
     let#[e,he,h1]:=ih.mpr #[k,by rw[gg];show k1,by rw[mm];show k2];show#[e,AA _ he,h1]
  .rename_i hgb;constructor
   .rintro⟨e,he,_⟩;cases he
   .rintro⟨k,h1,_⟩;exfalso;have:0<=(k:Int)*give:=Cp ⋯ ⋯;lia
def tU {pu:Bool}{p q:Int×Int}:(p.1<=q.1/\p.2<=q.2)↔zP pu p<=zP pu q/\yp pu p<=yp pu q:=by
 cases pu
 .show Iff.rfl
 .show And.comm
def Lk {F:zt}{s:Sl}(hs:1<=s.gv/\0<=s.gt) (hA:F.A<=12) (hB:F.B<=12) {b:Bd}(hb:∀ p∈b,0<=p.1/\0<=p.2) {q:Int×Int}(hq:(0<=q.1/\q.1<=F.A)/\0<=q.2/\q.2<=F.B):
  zG (q8 F s b) q=true↔∃ k:Nat,zG b (yL s.pu (zP s.pu q-k*s.gv) (yp s.pu q+k*s.gt))=true:=by
 have E4:F.zS s.pu<=12:=by unfold zt.zS;split <;> assumption
 have hqb:zP s.pu q<=F.zS s.pu:=by unfold zP zt.zS;split <;> lia
 have hq0:0<=zP s.pu q/\0<=yp s.pu q:=by unfold zP yp;split <;> lia
 have gv:∀ x y,zP s.pu (yL s.pu x y)=x:=λ x y=>by cases s.pu <;> rfl
 have gt:∀ x y,yp s.pu (yL s.pu x y)=y:=λ x y=>by cases s.pu <;> rfl
 unfold q8;rw[pD,y6];constructor
 .rintro⟨e,he,JN⟩;let#[p,hp,he]:=B7.mp he;let#[h1,h2]:=tU (pu:=s.pu).mp JN;have p0:=hb p hp;have g0:0<=zP s.pu p/\0<=yp s.pu p:=by unfold zP yp;split <;> lia
  let#[k,k1,k2]:=(gO s.pu (F.zS s.pu) s.gv s.gt hs.1 hs.2 100 _ _ g0.2 ⋯ _ _ hqb).mp #[e,he,h1,h2];exact#[k,y6.mpr #[p,hp,tU (pu:=s.pu).mpr #[by rw[gv];lia,?_]]];rw[gt];unfold yB at k2;split at k2 <;> lia
 .rintro⟨k,hk⟩;let#[p,hp,JN]:=y6.mp hk;let#[h1,h2]:=tU (pu:=s.pu).mp JN;rw[gv] at h1;rw[gt] at h2;have p0:=hb p hp;have g0:0<=zP s.pu p/\0<=yp s.pu p:=by unfold zP yp;split <;> lia
  let#[e,he,h3]:=(gO s.pu (F.zS s.pu) s.gv s.gt hs.1 hs.2 100 (zP s.pu p) (yp s.pu p) g0.2 ⋯ (zP s.pu q) (yp s.pu q) hqb).mpr #[k,⋯,by unfold yB;split <;> lia];show#[e,B7.mpr #[p,hp,he],tU (pu:=s.pu).mpr h3]
def zC (F:zt):Nat->List Bd
 | 0=>start F
 | k+1=>(List.range F.os.length).map λ p=>yA F (zC F k) p
theorem pJ (F:zt):∀ k,(zC F k).length=F.os.length
 | 0=>by unfold zC start;simp
 | k+1=>by unfold zC;simp
theorem Ol {F:zt}{E7:List Bd}{fresh:List Nat}(s:St F E7 fresh) (hw:∀ p<F.os.length,∃ w∈F.ws,w.f=p):yb F E7 fresh=(List.range F.os.length).map λ p=>yA F E7 p:=by
 exact Dd (by rw[sT,s.len];simp) λ i h1 h2=>?_;have hi:i<F.os.length:=by exists h2
 have e:=s.at hi (hw i hi);rw[A6,AR h1] at e;exists e
def Mh {E7 fo:List Bd}(hl:fo.length=E7.length) (h:x8 E7 fo=[]):fo=E7:=by
 exact Dd hl λ i h1 h2=>?_;have:i∉x8 E7 fo:=by rw[h];simp
 unfold x8 at this;rw[Be] at this;have e:fo.getD i []=E7.getD i []:=Classical.byContradiction λ Aq=>this #[AL.mpr h1,by exists Aq];rw[A6,AR h1,A6,AR h2] at e;exists e
theorem dN {F:zt}(ok:F.Ok) (hw:∀ p<F.os.length,∃ w∈F.ws,w.f=p):∀ (n:Nat) (Fc:List (List Bd)) (k:Nat) (fresh:List Nat) (res:List (List Bd)),St F (zC F k) fresh->fresh≠[]->Fc=(List.range k).map (zC F)->
  sR F n Fc (zC F k) fresh=↑res->∃ m,res=(List.range (m+1)).map (zC F)/\zC F (m+1)=zC F m
 | 0,_,_,_,_,_,_,_,h=>by cases h
 | n+1,Fc,k,fresh,res,s,hf,ht,h=>by
  unfold sR at h;rw[if_neg hf] at h;dsimp only at h;have e:yb F (zC F k) fresh=zC F (k+1):=Ol s hw;have et:Fc++[zC F k]=(List.range (k+1)).map (zC F):=by rw[ht,List.range_succ,B_];rfl
  rw[e,et] at h;split at h
  .rename_i AI;cases h;show#[k,rfl,Mh (by rw[pJ,pJ]) AI]
  .rename_i AI;have s':=s.next ok;rw[e] at s';show dN ok hw n _ (k+1) _ res s' AI rfl h
def yR (F:zt) (q:Int×Int):Prop:=(0<=q.1/\q.1<=F.A)/\0<=q.2/\q.2<=F.B
def oJ (F:zt) (q:Int×Int) (w:Wy):Option (Int×Int):=if q.1+w.a<0\/q.2+w.b<0 then none else ↑(min (q.1+w.a) F.A,min (q.2+w.b) F.B)
def yI (F:zt) (E7:List Bd) (q:Int×Int) (w:Wy):Bool:=match oJ F q w with
 | none=>false
 | some r=>zG (E7.getD w.t []) r
def tI (F:zt) (p:Nat):List Wy:=F.ws.filter λ w=>decide (w.f=p)
def vN (F:zt) (s:Sl):Nat->Int×Int->List (Int×Int)
 | 0,q=>[q]
 | n+1,q=>q::if s.gv<=zP s.pu q then vN F s n (yL s.pu (zP s.pu q-s.gv) (min (yp s.pu q+s.gt) (F.zS (!s.pu)))) else []
def xq (F:zt) (p:Nat) (q:Int×Int):List (Int×Int):=match F.FN p with
 | none=>[q]
 | some s=>vN F s 20 q
def kf (F:zt) (E7:List Bd) (p:Nat) (q:Int×Int):Bool:=
 if F.os.getD p false=true then (xq F p q).any λ r=>(tI F p).any (yI F E7 r) else (tI F p).all (yI F E7 q)
def MW {A B:Int}{b:Bd}(hb:Gd A B b) (x y:Int):zG b (min x A,min y B)=zG b (x,y):=by
 rw[Bh,y6,y6];constructor
 .rintro⟨p,hp,h1,h2⟩;dsimp only at h1 h2;show#[p,hp,by dsimp only;lia,by dsimp only;lia]
 .rintro⟨p,hp,h1,h2⟩;have:=hb.xJ p hp;dsimp only at h1 h2;show#[p,hp,by dsimp only;lia,by dsimp only;lia]
def OL {F:zt}{E7:List Bd}{w:Wy}(hb:Gd F.A F.B (E7.getD w.t [])) (q:Int×Int):yI F E7 q w=zG (E7.getD w.t []) (q.1+w.a,q.2+w.b):=by
 unfold yI oJ;by_cases h:q.1+w.a<0\/q.2+w.b<0
 .rw[if_pos h]
  symm
  rw[<- DI,y6];rintro⟨p,hp,h1,h2⟩;have:=hb.xJ p hp;dsimp only at h1 h2;lia
 .rw[if_neg h];show MW hb _ _
def lU {F:zt}{E7:List Bd}{w:Wy}(hb:Gd F.A F.B (E7.getD w.t [])) {q:Int×Int}(hq:yR F q):zG (rA F.A F.B w.a w.b (E7.getD w.t [])) q=yI F E7 q w:=by
 rw[OL hb,Bh];show Kb (λ p hp=>#[(hb.xJ p hp).1.1,(hb.xJ p hp).2.1]) hq
def g9 {F:zt}{E7:List Bd}(hg:∀ p,Gd F.A F.B (E7.getD p [])) {p:Nat}{q:Int×Int}(hq:yR F q):zG (uu (xO F E7 p)) q=(tI F p).any (yI F E7 q):=by
 rw[Bh,uu,gA,A8];constructor
 .rintro (h | ⟨c,hc,h⟩)
  .cases h
  .unfold xO at hc;let#[w,hw,rfl]:=Au.mp hc;show#[w,hw,by rw[<- lU (hg w.t) hq];show h]
 .rintro⟨w,hw,h⟩;show .inr #[_,Au.mpr #[w,hw,rfl],by rw[lU (hg w.t) hq];show h]
def LN {F:zt}{E7:List Bd}(hg:∀ p,Gd F.A F.B (E7.getD p [])) {p:Nat}{q:Int×Int}(hq:yR F q):zG (pW (xO F E7 p)) q=(tI F p).all (yI F E7 q):=by
 rw[Bh,pW,gR,Bj];constructor
 .rintro⟨_,h⟩ w hw;rw[<- lU (hg w.t) hq];show h _ (Au.mpr #[w,hw,rfl])
 .intro h;exact#[Zu.mpr #[hq.1.1,hq.2.1],λ c hc=>?_];unfold xO at hc;let#[w,hw,rfl]:=Au.mp hc;rw[lU (hg w.t) hq];show h w hw
def vG (pu:Bool) (x y:Int):zP pu (yL pu x y)=x:=by cases pu <;> rfl
def tT (pu:Bool) (x y:Int):yp pu (yL pu x y)=y:=by cases pu <;> rfl
def oS (pu:Bool) (q:Int×Int):yL pu (zP pu q) (yp pu q)=q:=by cases pu <;> rfl
def vF {F:zt}{pu:Bool}{q:Int×Int}:yR F q↔(0<=zP pu q/\zP pu q<=F.zS pu)/\0<=yp pu q/\yp pu q<=F.zS (!pu):=by
 unfold yR zt.zS;cases pu
 .show Iff.rfl
 .show And.comm
theorem gM {F:zt}{s:Sl}(hs:1<=s.gv/\0<=s.gt):∀ (n:Nat) {q:Int×Int},yR F q->∀ r∈vN F s n q,yR F r
 | 0,q,h,r,hr=>by cases A2.mp hr;show h
 | n+1,q,h,r,hr=>by
  unfold vN at hr;rcases Am.mp hr with rfl | hr
  .show h
  .split at hr
   .rename_i hg;exact gM hs n ?_ r hr;have h':=vF (pu:=s.pu).mp h;rw[vF (pu:=s.pu),vG,tT];lia
   .cases hr
theorem Z7 {F:zt}{s:Sl}(hs:1<=s.gv/\0<=s.gt) {b:Bd}(hb:Gd F.A F.B b):∀ (n:Nat) {q:Int×Int},yR F q->zP s.pu q<n->
  ((∃ k:Nat,zG b (yL s.pu (zP s.pu q-k*s.gv) (yp s.pu q+k*s.gt))=true)↔(vN F s n q).any (zG b)=true)
 | 0,q,h,hn=>by
  have:=(vF (pu:=s.pu).mp h).1.1;lia
 | n+1,q,h,hn=>by
  have h':=vF (pu:=s.pu).mp h;have cut:∀ x y,zG b (yL s.pu x y)=zG b (yL s.pu x (min y (F.zS (!s.pu)))):=λ x y=>by
   rw[Bh,y6,y6];constructor
   .rintro⟨p,hp,h1⟩;have h2:=tU (pu:=s.pu).mp h1;have h3:=vF (pu:=s.pu).mp (show yR F p from hb.xJ p hp);rw[vG,tT] at h2;show#[p,hp,tU (pu:=s.pu).mpr (by rw[vG,tT];lia)]
   .rintro⟨p,hp,h1⟩;have h2:=tU (pu:=s.pu).mp h1;rw[vG,tT] at h2;show#[p,hp,tU (pu:=s.pu).mpr (by rw[vG,tT];lia)]
  unfold vN;rw[BE,D7];by_cases hg:s.gv<=zP s.pu q
  .rw[if_pos hg];have hi:yR F (yL s.pu (zP s.pu q-s.gv) (min (yp s.pu q+s.gt) (F.zS (!s.pu)))):=by
    rw[vF (pu:=s.pu),vG,tT];lia
   have ih:=Z7 hs hb n hi (by rw[vG];lia);rw[vG,tT] at ih;have sh:∀ k:Nat,zG b (yL s.pu (zP s.pu q-s.gv-k*s.gv) (min (yp s.pu q+s.gt) (F.zS (!s.pu))+k*s.gt))=zG b (yL s.pu (zP s.pu q-(k+1:Nat)*s.gv) (yp s.pu q+(k+1:Nat)*s.gt)):=λ k=>by
    have e1:((k+1:Nat):Int)*s.gv=k*s.gv+s.gv:=by rw[BV,Ci];lia
    have e2:((k+1:Nat):Int)*s.gt=k*s.gt+s.gt:=by rw[BV,Ci];lia
    have k0:0<=(k:Int)*s.gt:=Cp ⋯ hs.2;rw[e1,e2,cut,cut (zP s.pu q-(k*s.gv+s.gv))];congr 2
    .lia
    .lia
   rw[<- ih];constructor
   .rintro⟨k,hk⟩;cases k with
    | zero=>show .inl (by simpa [oS] using hk)
    | succ k=>show .inr #[k,by rw[sh];show hk]
   .rintro (hk | ⟨k,hk⟩)
    .show#[0,by simpa [oS] using hk]
    .show#[k+1,by rw[<- sh];show hk]
  .rw[if_neg hg];constructor
   .rintro⟨k,hk⟩;cases k with
    | zero=>show .inl (by simpa [oS] using hk)
    | succ k=>
     exfalso;let#[p,hp,h1]:=y6.mp hk;have h2:=tU (pu:=s.pu).mp h1;have h3:=vF (pu:=s.pu).mp (show yR F p from hb.xJ p hp);rw[vG] at h2;have e1:((k+1:Nat):Int)*s.gv=k*s.gv+s.gv:=by rw[BV,Ci];lia
     have k0:0<=(k:Int)*s.gv:=Cp ⋯ ⋯;rw[e1] at h2;lia
   .rintro (hk | hk)
    .show#[0,by simpa [oS] using hk]
    .cases hk
theorem bj {F:zt}(ok:F.Ok) {E7:List Bd}(hg:∀ p,Gd F.A F.B (E7.getD p [])) (p:Nat) {q:Int×Int}(hq:yR F q):zG (yA F E7 p) q=kf F E7 p q:=by
 have ge:Gd F.A F.B (uu (xO F E7 p)):=nM _ _ Gd.nil (kT F E7 p);unfold yA kf xq;by_cases ho:F.os.getD p false=true
 .rw[if_pos ho,if_pos ho];cases hs:F.FN p with
  | none=>simp![BE,List.any_nil,Bool.or_false];show g9 hg hq
  | some s=>
   have GR:=ok.ss s (C6 hs);have hgv:zP s.pu q<20:=by
    have:=vF (pu:=s.pu).mp hq;have:F.zS s.pu<=12:=by have:=ok.a1;have:=ok.b1;unfold zt.zS;split <;> assumption
    lia
   rw[Bh];dsimp only;rw[Lk GR ok.a1 ok.b1 (λ p hp=>#[(ge.xJ p hp).1.1,(ge.xJ p hp).2.1]) hq,Z7 GR ge 20 hq ⋯,A8,A8];constructor
   .rintro⟨r,hr,h⟩;show#[r,hr,by rw[<- g9 hg (gM GR 20 hq r hr)];show h]
   .rintro⟨r,hr,h⟩;show#[r,hr,by rw[g9 hg (gM GR 20 hq r hr)];show h]
 .rw[if_neg ho,if_neg ho];show LN hg hq
end RN
namespace ya
open PySem L2 L3 L5
abbrev fY:Sm:=
 (retS (r9 (Fw "int" (zc 0)) (iu (Fw "bool" (zc 0)))))
def o3:Al:=zH ["thing"] 1 fY
abbrev Xd:Sm:=
 (retS (zq xZ (za (zb zj (zc 0) (cI 1)) zf)))
def qL:Al:=zH ["floor"] 1 Xd
abbrev X4:Sm:=
 (retS (r9 (zb nG (zb zj (zc 0) (cI 0)) (zb zj (zc 1) (cI 0))) (zb nG (zb zj (zc 0) (cI 1)) (zb zj (zc 1) (cI 1)))))
def o6:Al:=zH ["pair","other"] 2 X4
abbrev mv:Sm:=
 (zT (w9 (wA (yE (zc 1))) (zy (zb yz (zb zj (zc 2) (cI 1)) (zb zj (zb zj (zc 1) (lN (cI 1))) (cI 1))))) (uv 1 (zg 2)) zU)
abbrev Xh:Sm:=
 (zo (t8 1 (yO zf))
 (zo (wN [2] (xy (zq qX (za (zc 0) zf))) (zB 2) mv)
 (retS (zq rZ (za (zc 1) zf)))))
def sC:Al:=zH ["pairs","least","pair"] 1 Xh
abbrev qC:Sm:=
 (zo (uv 4 (aj (zy (zb (zw false) (zc 3) (cI 0))) (tupS (za (zg 5) (za (zg 6) zf))) (tupS (za (zg 6) (za (zg 5) zf)))))
 (zo (zv 5 (zb yj (zc 5) (zb zj (zc 1) (cI 2))))
 (zv 6 (zq qm (za (cI 0) (za (zb xP (zc 6) (zb zj (zc 1) (cI 3))) zf))))))
abbrev Xe:Sm:=
 (zo (zv 3 (zb zj (zc 1) (cI 1)))
 (zo (t8 4 (yO zf))
 (zo (zv 5 (zb zj (zc 2) (zc 3)))
 (zo (zv 6 (zb zj (zc 2) (zb xP (cI 1) (zc 3))))
 (zo (rW 1000000 [] (zy (zb ug (zc 5) (zb zj (zc 0) (zc 3)))) qC)
 (qg 4))))))
def mC:Al:=zH ["brims","stall","pair","purse","pairs","given","got"] 3 Xe
abbrev Xa:Sm:=
 (zo (zv 3 (dv (zb zj (zb zj (zc 0) (cI 2)) (zc 2)) ↑(cI 2) none))
 (zo (zv 4 (zb yj (zb zj (zc 1) (cI 0)) (zb zj (zc 3) (cI 0))))
 (zo (zv 5 (zb yj (zb zj (zc 1) (cI 1)) (zb zj (zc 3) (cI 1))))
 (zo (zT (w9 (zy (zb yz (zc 4) (cI 0))) (zy (zb yz (zc 5) (cI 0)))) (retS (cS .zh)) zU)
 (retS (tupS (za (zq uC (za (zc 4) (za (zb zj (zb zj (zc 0) (cI 0)) (cI 0)) zf))) (za (zq uC (za (zc 5) (za (zb zj (zb zj (zc 0) (cI 0)) (cI 1)) zf))) zf))))))))
def oq:Al:=zH ["floor","pair","way","coins","first","second"] 3 Xa
abbrev Xx:Sm:=
 (zo (zv 4 (zb zj (zc 1) (cI 1)))
 (zo (zv 5 (zb xP (zb zj (zc 2) (zc 4)) (zb xc (zc 3) (zb zj (zc 1) (cI 2)))))
 (zo (zT (zy (zb yz (zc 5) (cI 0))) (retS (cS .zh)) zU)
 (zo (zv 6 (zq uC (za (zb yj (zb zj (zc 2) (zb xP (cI 1) (zc 4))) (zb xc (zc 3) (zb zj (zc 1) (cI 3)))) (za (zb zj (zc 0) (zb xP (cI 1) (zc 4))) zf))))
 (zo (zT (zy (zb (zw false) (zc 4) (cI 0))) (retS (tupS (za (zg 5) (za (zg 6) zf)))) zU)
 (retS (tupS (za (zg 6) (za (zg 5) zf)))))))))
def qN:Al:=zH ["brims","stall","pair","times","purse","left","got"] 4 Xx
abbrev Xo:Sm:=
 (zo (zT (zy (zb yz (zc 1) (zq xZ (za (zc 0) zf)))) (retS (zb zR (zb zj (zc 0) (zc 1)) (zb lG (cI 10) (cI 40)))) zU)
 (retS (cI 0)))
def yX:Al:=zH ["_law_script","_law_k"] 2 Xo
abbrev fX:Sm:=
 (zo (zT (zy (zb (zw false) (zb zR (zc 0) (cI 5)) (cI 1))) (retS (zb xP (zb zR (zb yt (zc 0) (cI 5)) (cI 25)) (cI 12))) zU)
 (retS (zb xP (zb zR (zb zR (zb yt (zc 0) (cI 5)) (cI 25)) (cI 7)) (cI 3))))
def sE:Al:=zH ["_law_number"] 1 fX
abbrev fV:Sm:=
 (zo (zT (zy (zb (zw true) (zb zR (zc 0) (cI 3)) (cI 1))) (retS (zb zR (zb yt (zc 0) (cI 3)) (zc 1))) zU)
 (retS (zb zj (yO (za (zg 1) (za (zb xP (cI 0) (cI 1)) (za (zb yj (zc 1) (zb zR (zb yt (zc 0) (cI 30)) (zb lG (cI 10) (cI 20)))) (za (cS (.bl true)) (za (cS (.bl false)) (za (cS .zh) (za (cS (.str "0")) (za (tupS (za (cI 0) zf)) (za (yO (za (cI 0) zf)) (za (cI 8) zf))))))))))) (zb zR (zb yt (zc 0) (cI 3)) (cI 10)))))
def ox:Al:=zH ["_law_cell_here","_law_many"] 2 fV
abbrev fW:Sm:=
 (zo (zv 2 (zb zR (zb yt (zc 0) (cI 3)) (zb yj (zb zj (zc 1) (cI 0)) (cI 1))))
 (zo (zv 3 (zb zR (zb yt (zc 0) (cI 39)) (zb yj (zb zj (zc 1) (cI 1)) (cI 1))))
 (zo (zT (zy (zb (zw true) (zb zR (zc 0) (cI 3)) (cI 1))) (retS (tupS (za (zg 2) (za (zg 3) zf)))) zU)
 (zo (zv 4 (yO (za (tupS (za (zb yj (zb zj (zc 1) (cI 0)) (cI 1)) (za (zg 3) zf))) (za (tupS (za (zg 2) (za (zb yj (zb zj (zc 1) (cI 1)) (cI 1)) zf))) (za (tupS (za (zb xP (cI 0) (cI 1)) (za (zg 3) zf))) (za (tupS (za (zg 2) (za (zb xP (cI 0) (cI 1)) zf))) (za (yO (za (zg 2) (za (zg 3) zf))) (za (tupS (za (zg 2) zf)) (za (tupS (za (zg 2) (za (zg 3) (za (cI 0) zf)))) (za (tupS (za (cS (.bl true)) (za (zg 3) zf))) zf))))))))))
 (zo (zv 4 (zb yj (zc 4) (yO (za (tupS (za (zg 2) (za (cS (.bl false)) zf))) (za (tupS (za (cS .zh) (za (zg 3) zf))) (za (tupS (za (zg 2) (za (cS (.str "0")) zf))) (za (cS .zh) (za (cI 7) (za (cS (.str "00")) (za (tupS zf) (za (tupS (za (zg 2) (za (tupS (za (zg 3) zf)) zf))) (za (tupS (za (cI 13) (za (cI 13) zf))) (za (tupS (za (zb yj (zb zj (zc 1) (cI 0)) (zb lG (cI 10) (cI 20))) (za (zg 3) zf))) zf)))))))))))))
 (retS (zb zj (zc 4) (zb zR (zb yt (zc 0) (cI 507)) (cI 18)))))))))
def oy:Al:=zH ["_law_cell_here","_law_brims_here","_law_x","_law_y","_law_some"] 2 fW
abbrev Xi:Sm:=
 (retS (r9 (Fw "int" (zc 0)) (iu (Fw "bool" (zc 0)))))
def qM:Al:=zH ["_law_thing"] 1 Xi
abbrev js:Sm:=
 (retS (r9 (zq o3 (za (zg 0) zf)) (md ug ug (zc 1) (zc 0) (zc 2))))
def rP:Al:=zH ["thing","least","most"] 3 js
abbrev kH:Ah:=
 x_ [none,↑1] (xy (zc 0)) (zB 0) se (zq o6 (za (zg 1) (za (zg 0) zf)))
abbrev Xs:Sm:=
 (retS (zq (ml λ bs=>bs.any id) (za kH zf)))
def sF:Al:=zH ["border","pair"] 2 Xs
abbrev ZG:Ah:=
 x_ [none] (xy (zc 0)) (zB 0) se (tupS (za (zb zj (zc 0) (cI 0)) (za (cI 0) (za (zb zj (zc 0) (cI 1)) zf))))
abbrev ZF:Ah:=
 x_ [none] (xy (zc 1)) (zB 0) se (tupS (za (zb zj (zc 0) (cI 0)) (za (cI 1) (za (zb zj (zc 0) (cI 1)) zf))))
abbrev gW:Sm:=
 (zo (gC 3 (zc 6) (zq uC (za (zc 7) (za (gD 3 (zc 6) (zg 7)) zf))))
 (zT (zy (zb (zw false) (nU 3) (cI 2))) (uv 4 (tupS (za (zg 5) (za (zq qm (za (qw 3 (cI 0)) (za (qw 3 (cI 1)) zf))) zf)))) zU))
abbrev Xy:Sm:=
 (zo (zv 2 (zb yj ZG ZF))
 (zo (Zb 3)
 (zo (t8 4 (yO zf))
 (zo (wN [5,6,7] (xy (zq qX (za (zc 2) zf))) (vk 3 (xg (zB 5) (xg (zB 6) (xg (zB 7) ud)))) gW)
 (h_ 4 (retS (zq sC (za (zg 4) zf))))))))
def mK:Al:=zH ["border","other","steps","lows","shared","first","side","second"] 2 Xy
abbrev Xu:Sm:=
 (retS (zq sC (za (zb yj (zq listS (za (zc 0) zf)) (zq listS (za (zc 1) zf))) zf)))
def mI:Al:=zH ["border","other"] 2 Xu
abbrev kI:Ah:=
 x_ [none,↑1] (xy (zc 2)) (zB 0) se (tupS (za (zq qm (za (cI 0) (za (zb xP (zb zj (zc 0) (cI 0)) (zb zj (zc 1) (cI 2))) zf))) (za (zq qm (za (cI 0) (za (zb xP (zb zj (zc 0) (cI 1)) (zb zj (zc 1) (cI 3))) zf))) zf)))
abbrev kC:Ah:=
 x_ [none,↑0] (xy (zc 3)) (zB 0) (yE (zq o6 (za (zg 1) (za (zg 0) zf)))) (zg 0)
abbrev X3:Sm:=
 (zo (zv 3 kI)
 (retS (zq sC (za kC zf))))
def mO:Al:=zH ["brims","way","border","pairs"] 3 X3
abbrev Xq:Sm:=
 (zo (zv 2 (zq yX (za (zg 0) (za (cI 1) zf))))
 (zo (zv 3 (yO (za (zb zj (yO (za (cI 3) (za (cI 2) (za (cI 4) (za (cI 1) (za (cI 5) (za (cI 2) (za (cI 3) (za (cI 0) zf))))))))) (zb zR (zc 2) (cI 8))) (za (zb zj (yO (za (cI 2) (za (cI 3) (za (cI 1) (za (cI 4) (za (cI 2) (za (cI 5) (za (cI 3) (za (cI 0) zf))))))))) (zb zR (zb yt (zc 2) (cI 8)) (cI 8))) zf))))
 (zo (zT (zy (zb pQ (zc 1) (cI 4))) (retS (tupS (za (zq uC (za (zb zj (zc 3) (cI 0)) (za (cI 2) zf))) (za (zq uC (za (zb zj (zc 3) (cI 1)) (za (cI 2) zf))) zf)))) zU)
 (zo (zT (zy (zb (zw false) (zb zR (zb yt (zc 2) (cI 64)) (cI 10)) (cI 1))) (retS (tupS (za (cI 12) (za (zb zR (zb zj (zc 3) (cI 1)) (cI 3)) zf)))) zU)
 (zo (zT (zy (zb (zw false) (zb zR (zb yt (zc 2) (cI 64)) (cI 10)) (cI 2))) (retS (tupS (za (zb zR (zb zj (zc 3) (cI 0)) (cI 3)) (za (cI 12) zf)))) zU)
 (zo (zT (tu (zy (zb (zw false) (zb zR (zb yt (zc 2) (cI 64)) (cI 10)) (cI 3))) (zy (zb yz (zc 1) (cI 3)))) (retS (tupS (za (cI 12) (za (cI 12) zf)))) zU)
 (retS (zq rZ (za (zc 3) zf)))))))))
def jk:Al:=zH ["_law_script","_law_many","_law_number","_law_found"] 2 Xq
abbrev kN:Sm:=
 (zo (uv 3 (zb zj (yO (za (cS (.str "keeper")) (za (cS (.str "taker")) zf))) (zb zR (zc 2) (cI 2))))
 (zv 2 (zb yt (zc 2) (cI 2))))
abbrev Xl:Sm:=
 (zo (zv 2 (zq yX (za (zg 0) (za (cI 2) zf))))
 (zo (t8 3 (yO zf))
 (zo (wN [4] (wz uT (za (zc 1) zf)) (zB 4) kN)
 (retS (zq rZ (za (zc 3) zf))))))
def jj:Al:=zH ["_law_script","_law_many","_law_number","_law_found","_law_place"] 2 Xl
abbrev pX:Sm:=
 (zo (zv 8 (zb yj (zb xc (zc 3) (zc 5)) (zc 7)))
 (zo (zv 9 (zb zR (zb yj (zb yj (zb xc (zq yX (za (zg 0) (za (zb yj (cI 4) (zc 8)) zf))) (cI 2957)) (zb xc (cI 61) (zc 8))) (cI 17)) (cI 999983)))
 (zo (zv 10 (zb yt (zc 9) (cI 8)))
 (uv 4 (tupS (za (zg 5) (za (zb zR (zb zR (zc 9) (cI 8)) (zc 1)) (za (zq sE (za (zg 10) zf)) (za (zq sE (za (zb yt (zc 10) (cI 125)) zf)) zf)))))))))
abbrev kK:Sm:=
 (zo (zv 6 (zb yj (cI 1) (zb zR (zc 2) (cI 3))))
 (zo (zT (tu (zy (zb yz (zc 1) (cI 3))) (zy (zb (zw false) (zb zR (zb yt (zc 2) (cI 3)) (cI 8)) (cI 1)))) (zv 6 (zb yj (cI 9) (zc 6))) zU)
 (zo (wN [7,8,9,10] (wz uT (za (zc 6) zf)) (zB 7) pX)
 (zv 2 (zb yt (zc 2) (cI 24))))))
abbrev Xj:Sm:=
 (zo (zv 2 (zq yX (za (zg 0) (za (cI 3) zf))))
 (zo (zv 3 (zb zj (yO (za (cI 3) (za (cI 12) zf))) (zq iO (za (zb yz (zc 1) (cI 3)) zf))))
 (zo (t8 4 (yO zf))
 (zo (wN [5,6,7,8,9,10] (wz uT (za (zc 1) zf)) (zB 5) kK)
 (retS (zq rZ (za (zq qd (za (zc 4) zf)) zf)))))))
def jh:Al:=zH ["_law_script","_law_many","_law_number","_law_wide","_law_found","_law_place","_law_size","_law_k","_law_at","_law_drawn","_law_rest"] 2 Xj
abbrev mx:Sm:=
 (zo (zv 4 (zb zR (zb yj (zb yj (zb xc (zq yX (za (zg 0) (za (zb yj (cI 28) (zc 3)) zf))) (cI 3571)) (zb xc (cI 29) (zc 3))) (cI 5)) (cI 999979)))
 (zT (tu (zy (zb (zw false) (zb zj (zc 1) (zc 3)) (cS (.str "keeper")))) (zy (zb (zw false) (zb zR (zc 4) (cI 3)) (cI 1)))) (zo (zv 5 (zb yt (zc 4) (cI 6)))
 (zo (zv 6 (zb yj (cI 1) (zb zj (yO (za (zb zR (zc 5) (cI 3)) (za (zb zR (zc 5) (cI 3)) (za (zb zR (zc 5) (cI 12)) zf)))) (zb zR (zb yt (zc 5) (cI 12)) (cI 3)))))
 (zo (zv 7 (zb zj (yO (za (zb zR (zb yt (zc 5) (cI 36)) (cI 4)) (za (zb zR (zb yt (zc 5) (cI 36)) (cI 4)) (za (zb zR (zb yt (zc 5) (cI 36)) (cI 13)) zf)))) (zb zR (zb yt (zc 5) (cI 468)) (cI 3))))
 (uv 2 (tupS (za (zg 3) (za (zb zR (zb yt (zc 4) (cI 3)) (cI 2)) (za (zg 6) (za (zg 7) zf))))))))) zU))
abbrev Xk:Sm:=
 (zo (t8 2 (yO zf))
 (zo (wN [3,4,5,6,7] (wz uT (za (zq xZ (za (zc 1) zf)) zf)) (zB 3) mx)
 (retS (zq rZ (za (zc 2) zf)))))
def ji:Al:=zH ["_law_script","_law_owners_here","_law_found","_law_place","_law_drawn","_law_rest","_law_give","_law_get"] 2 Xk
abbrev Xn:Sm:=
 (zo (zT (w9 (wA (yE (zq qM (za (zg 1) zf)))) (w9 (zy (zb yz (zc 1) (cI 0))) (zy (zb nG (zc 1) (zq xZ (za (zb zj (zc 0) (cI 1)) zf)))))) (retS (cI 0)) zU)
 (zo (zT (w9 (wA (yE (Fw "tuple" (zc 2)))) (w9 (zy (zb (zw true) (zq xZ (za (zc 2) zf)) (cI 2))) (w9 (wA (yE (zq qM (za (zb zj (zc 2) (cI 0)) zf)))) (wA (yE (zq qM (za (zb zj (zc 2) (cI 1)) zf))))))) (retS (cI 1)) zU)
 (zo (zT (tu (zy (md ug ug (cI 0) (zb zj (zc 2) (cI 0)) (zb zj (zb zj (zc 0) (cI 0)) (cI 0)))) (zy (md ug ug (cI 0) (zb zj (zc 2) (cI 1)) (zb zj (zb zj (zc 0) (cI 0)) (cI 1))))) (retS (cS .zh)) zU)
 (retS (cI 1)))))
def mF:Al:=zH ["_law_floor_here","_law_place","_law_pair"] 3 Xn
abbrev gP:Ah:=
 x_ [none,none] (wz jv (za (zc 0) (za (zc 1) zf))) (vk 2 (xg (zB 0) (xg (zB 1) ud))) se (zq rP (za (zg 0) (za (zb zj (zc 1) (cI 0)) (za (zb zj (zc 1) (cI 1)) zf))))
abbrev fZ:Sm:=
 (zo (zT (w9 (wA (yE (Fw "tuple" (zc 0)))) (zy (zb (zw true) (zq xZ (za (zc 0) zf)) (zq xZ (za (zc 1) zf))))) (retS (cS (.bl false))) zU)
 (retS (zq (ml λ bs=>bs.all id) (za gP zf))))
def mH:Al:=zH ["thing","bounds"] 2 fZ
abbrev f_:Sm:=
 (zT (wA (yE (zq rP (za (zg 1) (za (cI 0) (za (zb xP (zq qL (za (zg 0) zf)) (cI 1)) zf)))))) (jL "NoPlace" "place" (zg 1)) zU)
def wW:Al:=zH ["floor","place"] 2 f_
abbrev kQ:Sm:=
 (zv 1 (zq mI (za (zg 1) (za (zg 2) zf))))
abbrev X0:Sm:=
 (zo (zv 1 (tupS zf))
 (zo (wN [2] (xy (zg 0)) (zB 2) kQ)
 (retS (zg 1))))
def mL:Al:=zH ["borders","joined","border"] 1 X0
abbrev kR:Sm:=
 (zv 1 (zq mK (za (zg 1) (za (zg 2) zf))))
abbrev X2:Sm:=
 (zo (zv 1 (tupS (za (tupS (za (cI 0) (za (cI 0) zf))) zf)))
 (zo (wN [2] (xy (zg 0)) (zB 2) kR)
 (retS (zg 1))))
def mM:Al:=zH ["borders","joined","border"] 1 X2
abbrev kP:Sm:=
 (zT (wA (yE (zq sF (za (zb zj (zc 4) (zc 1)) (za (zg 2) zf))))) (retS (zg 3)) zU)
abbrev Xt:Sm:=
 (zo (wN [3,4] (wz vL (za (zg 0) zf)) (vk 2 (xg (zB 3) (xg (zB 4) ud))) kP)
 (retS (cS .zh)))
def o4:Al:=zH ["told","place","pair","number","held"] 3 Xt
abbrev fT:Sm:=
 (zo (zv 4 (zq oq (za (zg 0) (za (zg 1) (za (zg 2) zf)))))
 (retS (r9 (zb (yM true) (zc 4) (cS .zh)) (zq sF (za (zb zj (zc 3) (zb zj (zb zj (zb zj (zc 0) (cI 2)) (zc 2)) (cI 1))) (za (zg 4) zf))))))
def sD:Al:=zH ["floor","pair","way","held","behind"] 4 fT
abbrev Xm:Sm:=
 (zo (zv 1 (zq yX (za (zg 0) (za (cI 0) zf))))
 (zo (zv 2 (zb zj (yO (za (cI 2) (za (cI 3) (za (cI 1) (za (cI 4) (za (cI 3) (za (cI 2) (za (cI 4) (za (zb yj (cI 5) (zb zR (zb yt (zc 1) (cI 8)) (cI 4))) zf))))))))) (zb zR (zc 1) (cI 8))))
 (zo (zv 3 (zq jj (za (zg 0) (za (zg 2) zf))))
 (zo (zv 4 (zq jk (za (zg 0) (za (zg 2) zf))))
 (zo (zv 5 (zq jh (za (zg 0) (za (zg 2) zf))))
 (zo (zv 6 (zq ji (za (zg 0) (za (zg 3) zf))))
 (zo (zT (tu (zy (zb (zw false) (zc 4) (tupS (za (cI 12) (za (cI 12) zf))))) (w9 (zy (zb pQ (zq xZ (za (zc 5) zf)) (cI 6))) (zy (zb pQ (zq xZ (za (zc 6) zf)) (cI 0))))) (zv 4 (tupS (za (cI 12) (za (cI 3) zf)))) zU)
 (retS (tupS (za (zg 4) (za (zg 3) (za (zg 5) (za (zg 6) zf)))))))))))))
def mE:Al:=zH ["_law_script","_law_number","_law_many","_law_owners_here","_law_brims_here","_law_ways_here","_law_stalls_here"] 1 Xm
abbrev Xw:Sm:=
 (zT (wA (yE (zq mH (za (zg 1) (za (tupS (za (tupS (za (cI 0) (za (zb zj (zb zj (zc 0) (cI 0)) (cI 0)) zf))) (za (tupS (za (cI 0) (za (zb zj (zb zj (zc 0) (cI 0)) (cI 1)) zf))) zf))) zf))))) (jL "NoPair" "pair" (zg 1)) zU)
def uO:Al:=zH ["floor","pair"] 2 Xw
abbrev kD:Ah:=
 x_ [none,none,↑1] (wz vL (za (zb zj (zc 0) (cI 2)) zf)) (vk 2 (xg (zB 0) (xg (zB 1) ud))) (zy (zb (zw false) (zb zj (zc 1) (cI 0)) (zc 2))) (zg 0)
abbrev Y_:Sm:=
 (zo (gB (zq (iy wW) (za (zg 0) (za (zg 1) zf))))
 (retS kD))
def u7:Al:=zH ["floor","place"] 2 Y_
abbrev mr:Sm:=
 (zT (zy (zb (zw false) (zb zj (zc 2) (cI 0)) (zc 1))) (retS (zg 2)) zU)
abbrev Xb:Sm:=
 (zo (gB (zq (iy wW) (za (zg 0) (za (zg 1) zf))))
 (zo (wN [2] (xy (zb zj (zc 0) (cI 3))) (zB 2) mr)
 (retS (cS .zh))))
def tE:Al:=zH ["floor","place","stall"] 2 Xb
abbrev kS:Sm:=
 (gs 4 (zq mC (za (zb zj (zc 0) (cI 0)) (za (zg 3) (za (zg 5) zf)))))
abbrev eg:Sm:=
 (zo (zv 3 (zq tE (za (zg 0) (za (zg 1) zf))))
 (zo (zT (zy (zb (yM false) (zc 3) (cS .zh))) (retS (zg 2)) zU)
 (zo (t8 4 (yO zf))
 (zo (wN [5] (xy (zg 2)) (zB 5) kS)
 (h_ 4 (retS (zq sC (za (zg 4) zf))))))))
def o5:Al:=zH ["floor","place","border","stall","pairs","pair"] 3 eg
abbrev ju:Sm:=
 (zo (zT (zy (zb (zw false) (zc 3) (cI 0))) (retS (tupS (za (zb zj (zc 2) (cI 0)) (za (zb zj (zc 2) (cI 1)) zf)))) zU)
 (zo (zv 4 (zq tE (za (zg 0) (za (zg 1) zf))))
 (zo (zT (zy (zb (yM false) (zc 4) (cS .zh))) (retS (cS .zh)) zU)
 (retS (zq qN (za (zb zj (zc 0) (cI 0)) (za (zg 4) (za (zg 2) (za (zg 3) zf)))))))))
def qO:Al:=zH ["floor","place","pair","times","stall"] 4 ju
abbrev mf:Ah:=
 x_ [none,↑0,↑2,↑3,↑4] (xy (zq u7 (za (zg 0) (za (zg 1) zf)))) (zB 0) (wA (yE (zq sD (za (zg 1) (za (zg 2) (za (zg 0) (za (zb zj (zc 3) (zb xP (zc 4) (cI 1))) zf))))))) (zg 0)
abbrev fS:Sm:=
 (zo (zv 4 (zq o4 (za (zg 3) (za (zg 1) (za (zg 2) zf)))))
 (zo (zT (zy (zb (yM false) (zc 4) (cS .zh))) (retS (cS .zh)) zU)
 (retS (zb zj mf (cI 0)))))
def om:Al:=zH ["floor","place","pair","told","steps"] 4 fS
abbrev kF:Ah:=
 x_ [none,↑0] (xy (zq u7 (za (zg 0) (za (zg 1) zf)))) (zB 0) se (zb zj (zb zj (zc 1) (cI 2)) (zc 0))
abbrev kB:Ah:=
 x_ [none,↑0,↑2] (xy (zc 3)) (zB 0) se (zq mO (za (zb zj (zc 1) (cI 0)) (za (zg 0) (za (zb zj (zc 2) (zb zj (zc 0) (cI 1))) zf))))
abbrev Xg:Sm:=
 (zo (zv 3 kF)
 (zo (zv 4 kB)
 (zo (zT (zy (zb (zw false) (zb zj (zb zj (zc 0) (cI 1)) (zc 1)) (cS (.str "keeper")))) (retS (zq o5 (za (zg 0) (za (zg 1) (za (zq mL (za (zg 4) zf)) zf))))) zU)
 (retS (zq mM (za (zg 4) zf))))))
def mD:Al:=zH ["floor","place","last","ways","ahead"] 3 Xg
abbrev qD:Sm:=
 (zT (yE (zq sD (za (zg 0) (za (zg 6) (za (zg 7) (za (zg 3) zf)))))) (retS (tupS (za (zg 5) (za (zg 7) zf)))) zU)
abbrev rp:Sm:=
 (zo (wN [7] (xy (zg 4)) (zB 7) qD)
 (zo (zv 5 (zb yj (zc 5) (cI 1)))
 (zv 6 (zq qO (za (zg 0) (za (zg 1) (za (zg 2) (za (zg 5) zf))))))))
abbrev Xv:Sm:=
 (zo (zv 4 (zq u7 (za (zg 0) (za (zg 1) zf))))
 (zo (zv 5 (cI 0))
 (zo (zv 6 (zg 2))
 (zo (rW 1000000 [7] (zy (zb (yM true) (zc 6) (cS .zh))) rp)
 (retS (cS .zh))))))
def mJ:Al:=zH ["floor","place","pair","held","ways","times","ready","way"] 4 Xv
abbrev kE:Ah:=
 x_ [none,↑2] (xy (zb zj (zc 0) (cI 2))) (zB 0) (zy (zb (pL false) (zb zj (zc 0) (cI 1)) (zc 1))) (zb zj (zc 0) (cI 0))
abbrev kM:Sm:=
 (bw 3 (zc 4) (zq mD (za (zg 0) (za (zg 4) (za (zg 1) zf)))))
abbrev Xf:Sm:=
 (zo (t8 3 (zq listS (za (zc 1) zf)))
 (zo (wN [4] (xy (zq qd (za kE zf))) (zB 4) kM)
 (qg 3)))
def ou:Al:=zH ["floor","last","fresh","following","place"] 3 Xf
abbrev kG (xm:Al):Ah:=
 x_ [none,↑0,↑1] (wz uT (za (zq xZ (za (zc 0) zf)) zf)) (zB 0) se (zq xm (za (zb zj (zc 1) (zc 0)) (za (zb zj (zc 2) (zc 0)) zf)))
abbrev fU (xm:Al):Sm:=
 (zo (zT (tu (yE (Fw "tuple" (zc 0))) (yE (Fw "tuple" (zc 1)))) (zo (zT (zy (zb (zw true) (zq xZ (za (zc 0) zf)) (zq xZ (za (zc 1) zf)))) (retS (cS (.bl false))) zU)
 (retS (zq (ml λ bs=>bs.all id) (za (kG xm) zf)))) zU)
 (zo (zT (w9 (zy (zb (zw true) (Fw "bool" (zc 0)) (Fw "bool" (zc 1)))) (zy (zb (zw true) (Fw "int" (zc 0)) (Fw "int" (zc 1))))) (retS (cS (.bl false))) zU)
 (retS (r9 (zb (zw false) (Fw "tuple" (zc 0)) (Fw "tuple" (zc 1))) (zb (zw false) (zc 0) (zc 1))))))
def xm:Nat->List T->Option T
 | 0=>λ _=>none
 | n+1=>zH ["_law_thing","_law_other"] 2 (fU (xm n))
abbrev mh:Ah:=
 x_ [none,none,↑3] (wz vL (za (zc 4) zf)) (vk 2 (xg (zB 0) (xg (zB 1) ud))) (zy (zb (zw true) (zc 1) (zb zj (zc 2) (zc 0)))) (zg 0)
abbrev t7:Sm:=
 (zo (zv 3 (zb zj (zc 1) (lN (cI 1))))
 (zo (zv 4 (zq ou (za (zg 0) (za (zg 3) (za (zg 2) zf)))))
 (zo (zv 2 mh)
 (zT (yE (zc 2)) (uv 1 (zg 4)) zU))))
abbrev Xc:Sm:=
 (zo (t8 1 (yO (za (zb xc (yO (za (tupS (za (tupS (za (cI 0) (za (cI 0) zf))) zf)) zf)) (zq qL (za (zg 0) zf))) zf)))
 (zo (zv 2 (zq ni (za (zq qL (za (zg 0) zf)) zf)))
 (zo (rW 1000000 [3,4] (yE (zc 2)) t7)
 (qg 1))))
def sA:Al:=zH ["floor","told","fresh","last","following"] 1 Xc
abbrev jq:Sm:=
 (zo (zT (w9 (zy (zb (yM false) (zc 1) (cS .zh))) (zy (zb (yM false) (zc 0) (cS .zh)))) (retS (r9 (zb (yM false) (zc 1) (cS .zh)) (zb (yM false) (zc 0) (cS .zh)))) zU)
 (zo (zv 4 (yO (za (ny (ve "NoPlace") (zc 0)) (za (ny (ve "NoPair") (zc 0)) zf))))
 (zo (zT (w9 (zy (zb (zw true) (zc 4) (yO (za (zb (zw false) (zc 1) (cI 0)) (za (zb (zw false) (zc 1) (cI 1)) zf))))) (wA (yE (ny (λ _=>true) (zc 0))))) (retS (cS (.bl false))) zU)
 (zo (zT (yE (ny (λ c=>[ve "NoFloor",ve "NoMore",ve "NoWay",ve "NoChange",ve "NoCount",ve "NoName",ve "NoRow"].any λ k=>k c) (zc 0))) (retS (cS (.bl false))) zU)
 (zo (zT (zy (zb (zw false) (zc 1) (cI 0))) (retS (zq (xm 6) (za (gp "place" (zc 0)) (za (zg 2) zf)))) zU)
 (retS (zq (xm 6) (za (gp "pair" (zc 0)) (za (zg 3) zf)))))))))
def tF:Al:=zH ["_law_caught_here","_law_due_here","_law_place","_law_pair","_law_some"] 4 jq
abbrev Xz:Sm:=
 (retS (zb zj (zq sA (za (zg 0) zf)) (lN (cI 1))))
def sG:Al:=zH ["floor"] 1 Xz
abbrev mV:Sm:=
 (zo (uP wW (za (zg 0) (za (zg 1) zf)))
 (zo (uP uO (za (zg 0) (za (zg 2) zf)))
 (zo (zT (zy (zb (zw false) (zb zj (zb zj (zc 0) (cI 1)) (zc 1)) (cS (.str "keeper")))) (ph (cS .zh)) zU)
 (ph (zq om (za (zg 0) (za (zg 1) (za (zg 2) (za (zq sA (za (zg 0) zf)) zf)))))))))
def sy:Al:=zH ["floor","place","pair"] 3 mV
abbrev jt:Sm:=
 (zo (uP wW (za (zg 0) (za (zg 1) zf)))
 (zo (uP uO (za (zg 0) (za (zg 2) zf)))
 (ph (zq sF (za (zb zj (zq sG (za (zg 0) zf)) (zc 1)) (za (zg 2) zf))))))
def rQ:Al:=zH ["floor","place","pair"] 3 jt
abbrev jr:Sm:=
 (zo (uP wW (za (zg 0) (za (zg 1) zf)))
 (zo (uP uO (za (zg 0) (za (zg 2) zf)))
 (zo (zT (zy (zb (zw true) (zb zj (zb zj (zc 0) (cI 1)) (zc 1)) (cS (.str "keeper")))) (ph (cS .zh)) zU)
 (ph (zq mJ (za (zg 0) (za (zg 1) (za (zg 2) (za (zq sG (za (zg 0) zf)) zf)))))))))
def rO:Al:=zH ["floor","place","pair"] 3 jr
abbrev Xp:Sm:=
 (zo (zv 4 (cS .zh))
 (zo (jB 5 4 (zT (zy (zb (zw false) (zc 0) (cI 0))) (uP rQ (za (zg 1) (za (zg 2) (za (zg 3) zf)))) (zT (zy (zb (zw false) (zc 0) (cI 1))) (uP rO (za (zg 1) (za (zg 2) (za (zg 3) zf)))) (uP sy (za (zg 1) (za (zg 2) (za (zg 3) zf)))))))
 (retS (zg 4))))
def mG:Al:=zH ["_law_way","_law_floor_here","_law_place","_law_pair","_law_caught_here","e"] 4 Xp
abbrev kO:Sm:=
 (zT (wA (yE (zq tF (za (zq mG (za (zg 6) (za (zg 1) (za (zg 3) (za (zg 4) zf))))) (za (zg 5) (za (zg 3) (za (zg 4) zf))))))) (retS (cS (.bl false))) zU)
abbrev mq:Sm:=
 (zo (zv 3 (zq ox (za (zq yX (za (zg 0) (za (zb yj (cI 36) (zb xc (cI 2) (zc 2))) zf))) (za (zq xZ (za (zb zj (zc 1) (cI 1)) zf)) zf))))
 (zo (zv 4 (zq oy (za (zq yX (za (zg 0) (za (zb yj (cI 37) (zb xc (cI 2) (zc 2))) zf))) (za (zb zj (zc 1) (cI 0)) zf))))
 (zo (zv 5 (zq mF (za (zg 1) (za (zg 3) (za (zg 4) zf)))))
 (wN [6] (wz uT (za (cI 3) zf)) (zB 6) kO))))
abbrev Xr:Sm:=
 (zo (zv 1 (zq mE (za (zg 0) zf)))
 (zo (wN [2,3,4,5,6] (wz uT (za (cI 3) zf)) (zB 2) mq)
 (retS (cS (.bl true)))))
def oz:Al:=zH ["_law_script","_law_floor_here","_law_k","_law_place","_law_pair","_law_due_here","_law_way"] 1 Xr
def Vh (ps:List (Int×Int)) (h:ps.length<64):qX [.lst (ps.map zl)]=↑(.lst ((tK ps).map zl)):=by
 change (vY (ps.map zl)).bind _=_;rw[Vz,BL,if_pos #[by simpa using h,λ r hr=>by let#[p,_,rfl]:=Au.mp hr;simp[v5]],<- dg,A5];rfl
def cell (ns:List Int) (k:Nat):Int:=if k<ns.length then ns.getD k 0%10 ^ 40 else 0
theorem rR (ns:List Int) (k:Nat):yX [zK ns,.int (k:Int)]=↑(.int (cell ns k)):=by
 unfold yX Xo cell zK;by_cases h:k<ns.length
 .have e:L2.zQ (ns.map T.int) (k:Int)=↑(.int (ns.getD k 0)):=wB (by simp[h]);simp[h,e,sJ,yz]
 .simp[h,yz]
def NJ {qs p:List (Int×Int)}{x:Int×Int}(hr:∀ r,qs++yJ r (qs.getLast?.map (·.2))=yJ (p++r) none) (hb:t6 (qs.getLast?.map (·.2)) x.2=true) (r:List (Int×Int)):
  (qs++[x])++yJ r ((qs++[x]).getLast?.map (·.2))=yJ (p++[x]++r) none:=by
 have:=hr (x::r);rw[show yJ (x::r) (qs.getLast?.map (·.2))=x::yJ r ↑x.2 by rw[yJ,if_pos hb]] at this;exists this
def NK {qs p:List (Int×Int)}{x:Int×Int}(hr:∀ r,qs++yJ r (qs.getLast?.map (·.2))=yJ (p++r) none) (hb:t6 (qs.getLast?.map (·.2)) x.2=false) (r:List (Int×Int)):
  qs++yJ r (qs.getLast?.map (·.2))=yJ (p++[x]++r) none:=by
 have:=hr (x::r);rw[show yJ (x::r) (qs.getLast?.map (·.2))=yJ r (qs.getLast?.map (·.2)) by rw[yJ,if_neg (by rw[hb];nofun)]] at this;exists this
theorem jg (ps:List (Int×Int)) (hl:ps.length<64):sC [.lst (ps.map zl)]=↑(.tup ((vc ps).map zl)):=by
 let#[J',h1,qs,h2,h3,h4]:=uZ (is:=[2]) (g:=zB 2) (b:=mv) zl (λ p J=>∃ qs:List (Int×Int),J=[↑(.im (.lst (ps.map zl))),↑(.own (.lst (qs.map zl))),none]/\qs.length<=p.length/\
   ∀ r,qs++yJ r (qs.getLast?.map (·.2))=yJ (p++r) none) (tK ps) [↑(.im (.lst (ps.map zl))),↑(.own (.lst [])),none] #[[],#[],#[],λ r=>#[]] (by
  rintro p x q e J ⟨qs,rfl,hq,hr⟩;have hlen:p.length<64:=by
   have:=congrArg List.length e;rw[(jJ ps).length_eq] at this;simp at this;lia
  have app:t6 (qs.getLast?.map (·.2)) x.2=true->∃ HR:List (Int×Int),yC [2] [↑(.im (.lst (ps.map zl))),↑(.own (.lst (qs.map zl++[zl x]))),↑(.im (zl x))]=[↑(.im (.lst (ps.map zl))),↑(.own (.lst (HR.map zl))),none]/\HR.length<=(p++[x]).length/\∀ r,HR++yJ r (HR.getLast?.map (·.2))=yJ (p++[x]++r) none:=λ hb=>
   #[qs++[x],#[],by simp;lia,NJ hr hb]
  rcases List.eq_nil_or_concat qs with rfl | ⟨init,l,rfl⟩
  .exact#[_,?_,app (by simp[t6])];simp[turn,mv]
  .simp![List.concat_eq_append] at *;by_cases hb:x.2<l.2
   .exact#[_,?_,app (by simp[t6,hb])];simp at hq;simp[turn,mv,zl,hb,yz];lia
   .exact#[[↑(.im (.lst (ps.map zl))),↑(.own (.lst ((init++[l]).map zl))),↑(.im (zl x))],?_,init++[l],#[],by simp at hq ⊢;lia,NK hr (by simp[t6];lia)];simp[turn,mv,zl,hb,yz])
 have h5:=h4 [];simp[yJ] at h5;unfold sC Xh;simp[Vh ps hl,h1,h2,h5,vc]
theorem K4 (b o:List (Int×Int)) (hl:b.length+o.length<64):mI [.tup (b.map zl),.tup (o.map zl)]=↑(.tup ((vc (b++o)).map zl)):=by
 have h:=jg (b++o) (by exists hl);rw[B_] at h;have:b.length+o.length<=16777216:=⋯;unfold mI Xu;simp[h,this]
def r0 (p:Int×Int):List Int:=[p.1,0,p.2]
def r1 (p:Int×Int):List Int:=[p.1,1,p.2]
def yv (l:Option Int) (v:Int):Int:=match l with
 | none=>v
 | some m=>if m<v then m else v
def vZ (l:Option Int) (sh:List (Int×Int)) (f:Int->Int×Int):List (Int×Int):=match l with
 | some m=>sh++[f m]
 | none=>sh
structure Sw (b o:List (Int×Int)) (p:List (List Int)) (l0 l1:Option Int) (sh:List (Int×Int)):Prop where
 i9:∀ x,r0 x∈p->∃ m,l0=↑m/\m<=x.2
 i8:∀ x,r1 x∈p->∃ m,l1=↑m/\m<=x.2
 g_:∀ m,l0=↑m->∃ x,r0 x∈p/\x.2=m
 gZ:∀ m,l1=↑m->∃ x,r1 x∈p/\x.2=m
 len:sh.length<=p.length
 snd:∀ s∈sh,(∃ x,r0 x∈p/\x.1<=s.1/\x.2<=s.2)/\∃ x,r1 x∈p/\x.1<=s.1/\x.2<=s.2
 all:∀ x y,r0 x∈p->r1 y∈p->∃ s∈sh,(s.1<=x.1\/s.1<=y.1)/\(s.2<=x.2\/s.2<=y.2)
def lD {x y:Int×Int}(h:r0 x=r0 y):x=y:=by
 unfold r0 at h;injection h with h1 h2;injection h2 with _ h2;injection h2 with h2 _;show Prod.ext h1 h2
def lC {x y:Int×Int}(h:r1 x=r1 y):x=y:=by
 unfold r1 at h;injection h with h1 h2;injection h2 with _ h2;injection h2 with h2 _;show Prod.ext h1 h2
def pj {x y:Int×Int}(h:r0 x=r1 y):False:=by
 unfold r0 r1 at h;injection h with h1 h2;injection h2 with h2 _;lia
def uX {p:List (List Int)}{a x:List Int}(h:a∈p++[x]):a∈p\/a=x:=by exists h
def Sw.W_ {b o:List (Int×Int)}{p:List (List Int)}{l0 l1:Option Int}{sh:List (Int×Int)}(h:Sw b o p l0 l1 sh) (x:Int×Int) (hx:∀ y,r0 y∈p->y.1<=x.1) (hy:∀ y,r1 y∈p->y.1<=x.1):
  Sw b o (p++[r0 x]) ↑(yv l0 x.2) l1 (vZ l1 sh λ m=>(x.1,if m>yv l0 x.2 then m else yv l0 x.2)):=by
 have lo:yv l0 x.2<=x.2/\∀ m,l0=↑m->yv l0 x.2<=m:=by
  unfold yv;cases l0 with
  | none=>show#[AW _,nofun]
  | some m=>dsimp only;split <;> exact#[⋯,λ m' e=>?_] <;> cases e <;> lia
 have la:∃ y,r0 y∈p++[r0 x]/\y.2=yv l0 x.2:=by
  unfold yv;cases l0 with
  | none=>show#[x,#[],rfl]
  | some m=>
   dsimp only;split
   .let#[y,h1,h2]:=h.g_ m rfl;show#[y,by simp[h1],h2]
   .show#[x,#[],rfl]
 have Hy:∀ s∈sh,(∃ x',r0 x'∈p++[r0 x]/\x'.1<=s.1/\x'.2<=s.2)/\∃ x',r1 x'∈p++[r0 x]/\x'.1<=s.1/\x'.2<=s.2:=λ s hs=>by
  let#[#[a,a1,a2],c,c1,c2]:=h.snd s hs;show#[#[a,by simp[a1],a2],c,by simp[c1],c2]
 exact#[λ y hm=>?_,λ y hm=>?_,λ m e=>?_,λ m e=>?_,?_,λ s hs=>?_,λ y z hm hz=>?_]
 .rcases uX hm with q | q
  .let#[m,e,q2]:=h.i9 y q;show#[_,rfl,by have:=lo.2 m e;lia]
  .cases lD q;show#[_,rfl,lo.1]
 .rcases uX hm with q | q
  .show h.i8 y q
  .show (pj q.symm).elim
 .cases e;show la
 .let#[y,q1,q2]:=h.gZ m e;show#[y,by simp[q1],q2]
 .have:=h.len;cases l1 <;> simp[vZ] <;> lia
 .cases l1 with
  | none=>show Hy s hs
  | some m=>
   rcases A1.mp hs with q | q
   .show Hy s q
   .obtain rfl:s=_:=by exists q
    let#[y,y1,y2]:=la;let#[z,z1,z2]:=h.gZ m rfl;have El:=hy z z1;exact#[#[y,y1,?_,by dsimp only;split <;> lia],z,by simp[z1],El,by dsimp only;split <;> lia];rcases uX y1 with w | w
    .show hx y w
    .cases lD w;show AW _
 .have J4:r1 z∈p:=by
   rcases uX hz with q | q
   .show q
   .show (pj q.symm).elim
  rcases uX hm with q | q
  .let#[s,s1,s2]:=h.all y z q J4;exact#[s,?_,s2];cases l1 <;> simp[vZ,s1]
  .cases lD q;let#[m,e,hm]:=h.i8 z J4;subst e;exact#[_,A3 _ Av,.inl (AW _),?_];have:=lo.1;dsimp only;split <;> lia
def Sw.swap {b o:List (Int×Int)}{p:List (List Int)}{l0 l1:Option Int}{sh:List (Int×Int)}(x:Int×Int) (h:Sw b o p l0 l1 sh) (hx:∀ y,r0 y∈p->y.1<=x.1) (hy:∀ y,r1 y∈p->y.1<=x.1):
  Sw b o (p++[r1 x]) l0 ↑(yv l1 x.2) (vZ l0 sh λ m=>(x.1,if yv l1 x.2>m then yv l1 x.2 else m)):=by
 have lo:yv l1 x.2<=x.2/\∀ m,l1=↑m->yv l1 x.2<=m:=by
  unfold yv;cases l1 with
  | none=>show#[AW _,nofun]
  | some m=>dsimp only;split <;> exact#[⋯,λ m' e=>?_] <;> cases e <;> lia
 have la:∃ y,r1 y∈p++[r1 x]/\y.2=yv l1 x.2:=by
  unfold yv;cases l1 with
  | none=>show#[x,#[],rfl]
  | some m=>
   dsimp only;split
   .let#[y,h1,h2]:=h.gZ m rfl;show#[y,by simp[h1],h2]
   .show#[x,#[],rfl]
 have Hy:∀ s∈sh,(∃ x',r0 x'∈p++[r1 x]/\x'.1<=s.1/\x'.2<=s.2)/\∃ x',r1 x'∈p++[r1 x]/\x'.1<=s.1/\x'.2<=s.2:=λ s hs=>by
  let#[#[a,a1,a2],c,c1,c2]:=h.snd s hs;show#[#[a,by simp[a1],a2],c,by simp[c1],c2]
 exact#[λ y hm=>?_,λ y hm=>?_,λ m e=>?_,λ m e=>?_,?_,λ s hs=>?_,λ y z hm hz=>?_]
 .rcases uX hm with q | q
  .show h.i9 y q
  .show (pj q).elim
 .rcases uX hm with q | q
  .let#[m,e,q2]:=h.i8 y q;show#[_,rfl,by have:=lo.2 m e;lia]
  .cases lC q;show#[_,rfl,lo.1]
 .let#[y,q1,q2]:=h.g_ m e;show#[y,by simp[q1],q2]
 .cases e;show la
 .have:=h.len;cases l0 <;> simp[vZ] <;> lia
 .cases l0 with
  | none=>show Hy s hs
  | some m=>
   rcases A1.mp hs with q | q
   .show Hy s q
   .obtain rfl:s=_:=by exists q
    let#[y,y1,y2]:=la;let#[z,z1,z2]:=h.g_ m rfl;have El:=hx z z1;exact#[#[z,by simp[z1],El,by dsimp only;split <;> lia],y,y1,?_,by dsimp only;split <;> lia];rcases uX y1 with w | w
    .show hy y w
    .cases lC w;show AW _
 .have IW:r0 y∈p:=by
   rcases uX hm with q | q
   .show q
   .show (pj q).elim
  rcases uX hz with q | q
  .let#[s,s1,s2]:=h.all y z IW q;exact#[s,?_,s2];cases l0 <;> simp[vZ,s1]
  .cases lC q;let#[m,e,hm]:=h.i9 y IW;subst e;exact#[_,A3 _ Av,.inr (AW _),?_];have:=lo.1;dsimp only;split <;> lia
structure Lw (d:List (Key×T)) (l0 l1:Option Int):Prop where
 v0:yS d (.inl 0)=l0.map T.int
 v1:yS d (.inl 1)=l1.map T.int
 len:d.length=(if l0.isSome then 1 else 0)+if l1.isSome then 1 else 0
def Lw.VJ {d:List (Key×T)}{l0 l1:Option Int}(h:Lw d l0 l1) (v:Int):Lw (vb d (.inl 0) (.int v)) ↑v l1:=by
 exact#[by rw[mZ];simp,by rw[mZ];simpa using h.v1,?_];rw[b9,h.v0,h.len];cases l0 <;> cases l1 <;> simp
def Lw.VI {d:List (Key×T)}{l0 l1:Option Int}(h:Lw d l0 l1) (v:Int):Lw (vb d (.inl 1) (.int v)) l0 ↑v:=by
 exact#[by rw[mZ];simpa using h.v0,by rw[mZ];simp,?_];rw[b9,h.v1,h.len];cases l0 <;> cases l1 <;> simp
def kj {rows p q:List (List Int)}{x:List Int}(e:L4.xH rows=p++x::q) {a:List Int}(ha:a∈p) {i j:Int}{as xs:List Int}(h1:a=i::as) (h2:x=j::xs):i<=j:=by
 have h:=L4.jI rows;rw[e,Ed] at h;have:=h.2.2 a ha x Av;subst h1 h2;rw[HT.sU] at this;by_cases c:j=i
 .lia
 .rw[if_neg c] at this;have:=of_decide_eq_false this;lia
def LK {a0 a1 a2:W}{d:List (Key×T)}{S:List T}{x k y:Int}{lk:Option Int}(hv:yS d (.inl k)=lk.map T.int) (hd:d.length<16777216):
  gC 3 (zc 6) (zq uC (za (zc 7) (za (gD 3 (zc 6) (zg 7)) zf))) [↑a0,↑a1,↑a2,↑(.own (.zD d)),↑(.own (.lst S)),↑(.im (.int x)),↑(.im (.int k)),↑(.im (.int y))] =
   ↑(.nx [↑a0,↑a1,↑a2,↑(.own (.zD (vb d (.inl k) (.int (yv lk y))))),↑(.own (.lst S)),↑(.im (.int x)),↑(.im (.int k)),↑(.im (.int y))]):=by
 have hm:uC [.int y,(yS d (.inl k)).getD (.int y)]=↑(.int (yv lk y)):=by rw[hv];cases lk <;> simp[yv]
 change (uC [.int y,(yS d (.inl k)).getD (.int y)]).bind _=_;rw[hm];show if_pos hd
def bS (S:List T) (x:Int):Option Int->Option Int->List T
 | some u,↑v=>S++[.tup [.int x,.int (if v>u then v else u)]]
 | _,_=>S
def LM {a0 a1 a2:W}{d:List (Key×T)}{S:List T}{x:Int}{f g:Option W}{l0 l1:Option Int}(h:Lw d l0 l1) (hs:S.length<16777216):
  zT (zy (zb (zw false) (nU 3) (cI 2))) (uv 4 (tupS (za (zg 5) (za (zq qm (za (qw 3 (cI 0)) (za (qw 3 (cI 1)) zf))) zf)))) zU [↑a0,↑a1,↑a2,↑(.own (.zD d)),↑(.own (.lst S)),↑(.im (.int x)),f,g] =
   ↑(.nx [↑a0,↑a1,↑a2,↑(.own (.zD d)),↑(.own (.lst (bS S x l0 l1))),↑(.im (.int x)),f,g]):=by
 have ht:zw false (.int d.length) (.int 2)=↑(.bl (l0.isSome&&l1.isSome)):=by
  rw[h.len];cases l0 <;> cases l1 <;> rfl
 have hT:zy (zb (zw false) (nU 3) (cI 2)) [↑a0,↑a1,↑a2,↑(.own (.zD d)),↑(.own (.lst S)),↑(.im (.int x)),f,g]=↑(l0.isSome&&l1.isSome):=by
  change ((zw false (.int d.length) (.int 2)).bind _)=_;rw[ht];rfl
 exact (congrArg (Option.bind · _) hT).trans ?_;cases l0 with
 | none=>rfl
 | some u=>
  cases l1 with
  | none=>rfl
  | some v=>
   have hf:tupS (za (zg 5) (za (zq qm (za (qw 3 (cI 0)) (za (qw 3 (cI 1)) zf))) zf)) [↑a0,↑a1,↑a2,↑(.own (.zD d)),↑(.own (.lst S)),↑(.im (.int x)),f,g]=↑(.tup [.int x,.int (if v>u then v else u)]):=by simp[h.v0,h.v1]
   show (congrArg (Option.bind · _) hf).trans (if_pos hs)
def ZI {a0 a1 a2:W}{d:List (Key×T)}{S:List T}{x k y:Int}{lk l0 l1:Option Int}(hv:yS d (.inl k)=lk.map T.int) (hd:d.length<16777216) (h:Lw (vb d (.inl k) (.int (yv lk y))) l0 l1) (hs:S.length<16777216):
  turn (vk 3 (xg (zB 5) (xg (zB 6) (xg (zB 7) ud)))) gW (.tup [.int x,.int k,.int y]) [↑a0,↑a1,↑a2,↑(.own (.zD d)),↑(.own (.lst S)),none,none,none] =
   ↑(.nx [↑a0,↑a1,↑a2,↑(.own (.zD (vb d (.inl k) (.int (yv lk y))))),↑(.own (.lst (bS S x l0 l1))),↑(.im (.int x)),↑(.im (.int k)),↑(.im (.int y))]):=
 (congrArg (Option.bind · _) (LK hv hd)).trans (LM h hs)
theorem KN (b o:List (Int×Int)) (hl:b.length+o.length<64):∃ sh:List (Int×Int),mK [.tup (b.map zl),.tup (o.map zl)]=↑(.tup ((vc sh).map zl))/\sh.length<64/\∀ q,zG sh q=(zG b q&&zG o q):=by
 let a0:W:=.im (.tup (b.map zl))
 let a1:W:=.im (.tup (o.map zl))
 let rows:=b.map r0++o.map r1
 let a2:W:=.im (.lst (rows.map yn))
 have hlen:rows.length<64:=by simp[rows];show hl
 have hs:qX [.lst (rows.map yn)]=↑(.lst ((L4.xH rows).map yn)):=by
  change ((vY (rows.map yn)).bind λ rs=>_)=_;rw[jO,BL,if_pos #[hlen,λ r hr=>by
   rcases A1.mp hr with h | h <;> let#[_,_,rfl]:=Au.mp h <;> simp[r0,r1]]]
 have plen:(L4.xH rows).length=rows.length:=(L4.uA rows).length_eq;let#[J1,h1,d,l0,l1,sh,e1,w1,s1]:=uZ (is:=[5,6,7]) (g:=vk 3 (xg (zB 5) (xg (zB 6) (xg (zB 7) ud)))) (b:=gW) yn (λ p J=>∃ d l0 l1 sh,J=[↑a0,↑a1,↑a2,↑(.own (.zD d)),↑(.own (.lst (sh.map zl))),none,none,none]/\Lw d l0 l1/\Sw b o p l0 l1 sh) (L4.xH rows) [↑a0,↑a1,↑a2,↑(.own (.zD [])),↑(.own (.lst [])),none,none,none]
  #[[],none,none,[],#[],#[rfl,rfl,rfl],#[nofun,nofun,nofun,nofun,#[],nofun,nofun]] (by
  rintro p x q e J ⟨d,l0,l1,sh,rfl,hw,Bz⟩;have hx:x∈rows:=(L4.uA rows).mem_iff.mp (by rw[e];simp);have Ao:p.length<64:=by
   have:=congrArg List.length e;rw[plen] at this;simp at this;lia
  have Bs:sh.length<16777216:=by have:=Bz.len;lia
  have DD:d.length<16777216:=by rw[hw.len];split <;> split <;> lia
  rcases A1.mp hx with hm | hm
  .let#[y,_,rfl]:=Au.mp hm;have st:=Bz.W_ y (λ z hz=>kj e hz rfl rfl) (λ z hz=>kj e hz rfl rfl);have Js:=hw.VJ (yv l0 y.2);exact#[[↑a0,↑a1,↑a2,↑(.own (.zD (vb d (.inl 0) (.int (yv l0 y.2))))),↑(.own (.lst ((vZ l1 sh λ m=>(y.1,if m>yv l0 y.2 then m else yv l0 y.2)).map zl))),↑(.im (.int y.1)),↑(.im (.int 0)),↑(.im (.int y.2))],?_,_,_,_,_,#[],Js,st];rw[show ((vZ l1 sh λ m=>(y.1,if m>yv l0 y.2 then m else yv l0 y.2)).map zl)=bS (sh.map zl) y.1 ↑(yv l0 y.2) l1 by cases l1 <;> simp[vZ,bS,zl]];show ZI hw.v0 DD Js (by exists Bs)
  .let#[y,_,rfl]:=Au.mp hm;have st:=Bz.swap y (λ z hz=>kj e hz rfl rfl) (λ z hz=>kj e hz rfl rfl);have Js:=hw.VI (yv l1 y.2);exact#[[↑a0,↑a1,↑a2,↑(.own (.zD (vb d (.inl 1) (.int (yv l1 y.2))))),↑(.own (.lst ((vZ l0 sh λ m=>(y.1,if yv l1 y.2>m then yv l1 y.2 else m)).map zl))),↑(.im (.int y.1)),↑(.im (.int 1)),↑(.im (.int y.2))],?_,_,_,_,_,#[],Js,st];rw[show ((vZ l0 sh λ m=>(y.1,if yv l1 y.2>m then yv l1 y.2 else m)).map zl)=bS (sh.map zl) y.1 l0 ↑(yv l1 y.2) by cases l0 <;> simp[vZ,bS,zl]];show ZI hw.v1 DD Js (by exists Bs))
 have D1:sh.length<64:=by have:=s1.len;lia
 exact#[sh,?_,D1,λ q=>?_]
 .subst e1;have JJ:ZG [↑a0,↑a1,none,none,none,none,none,none]=↑(.lst ((b.map r0).map yn)):=by
   rw[A5];show sV zl (yn ∘ r0) b (by simp[a0]) ⋯ λ y _=>by simp[zl,yn,r0]
  have GZ:ZF [↑a0,↑a1,none,none,none,none,none,none]=↑(.lst ((o.map r1).map yn)):=by
   rw[A5];show sV zl (yn ∘ r1) o (by simp[a1]) ⋯ λ y _=>by simp[zl,yn,r1]
  have hF:=jg sh D1;have z:b.length+o.length<=16777216:=⋯;simp![a0,a1,a2,rows,B_] at JJ GZ hs h1;unfold mK Xy;simp[JJ,GZ,z,hs,h1,hF] at JJ GZ hs h1 ⊢;simp[JJ,GZ,z,hs,h1,hF]
 .have m0:∀ x,r0 x∈L4.xH rows↔x∈b:=λ x=>by
   rw[(L4.uA rows).mem_iff];constructor
   .intro h;rcases A1.mp h with h | h <;> let#[y,hy,e]:=Au.mp h
    .cases lD e;show hy
    .show (pj e.symm).elim
   .show λ h=>Cu _ (List.mem_map_of_mem h)
  have m1:∀ x,r1 x∈L4.xH rows↔x∈o:=λ x=>by
   rw[(L4.uA rows).mem_iff];constructor
   .intro h;rcases A1.mp h with h | h <;> let#[y,hy,e]:=Au.mp h
    .show (pj e).elim
    .cases lC e;show hy
   .show λ h=>A3 _ (List.mem_map_of_mem h)
  rw[Bh,Bw,y6,y6,y6];constructor
  .rintro⟨s,hs,g1,g2⟩;let#[#[x,x1,x2,x3],y,y1,y2,y3]:=s1.snd s hs;show#[#[x,(m0 x).mp x1,⋯,⋯],y,(m1 y).mp y1,⋯,⋯]
  .rintro⟨⟨x,x1,x2,x3⟩,y,y1,y2,y3⟩;let#[s,s1,g1,g2]:=s1.all x y ((m0 x).mpr x1) ((m1 y).mpr y1);show#[s,s1,⋯,⋯]
theorem gE {α:Type}(enc:α->T) (n:Nat) (h:∀ x,dep (enc x)<=n):∀ xs:List α,xA (xs.map enc)<=n
 | []=>by simp[xA]
 | x::xs=>by
  have:=h x;have:=gE enc n h xs;simp![Ax,xA];lia
def MK (p:Int×Int):dep (zl p)<=1:=by simp[zl,dep,xA]
def Ze (ps:List (Int×Int)):dep (.tup (ps.map zl))<=60:=by
 have:=gE zl 1 MK ps;simp![dep];lia
end ya
namespace ya
open PySem L2 L3 L5 RN
def bT (b:Bd):T:=.tup (b.map zl)
def rT (r:List Bd):T:=.lst (r.map bT)
def kt (b:Bool):T:=if b=true then .str "keeper" else .str "taker"
def ye (w:Wy):T:=.tup [.int w.f,.int w.t,.int w.a,.int w.b]
def wu (b:Bool):Int:=if b=true then 1 else 0
def ym (s:Sl):T:=.tup [.int s.p,.int (wu s.pu),.int s.gv,.int s.gt]
def zm (F:zt):T:=.tup [.tup [.int F.A,.int F.B],.tup (F.os.map kt),.tup (F.ws.map ye),.tup (F.ss.map ym)]
def eq_int (i j:Int) (neg:Bool):zw neg (.int i) (.int j)=↑(.bl (cond neg (!decide (i=j)) (decide (i=j)))):=by
 simp[zw,dep,eqT];cases neg <;> simp[Bool.beq_eq_decide_eq]
def fG (F:zt):qL [zm F]=↑(.int F.os.length):=by
 simp[qL,Xd,zm]
def Y0 (q p:Int×Int):o6 [zl q,zl p]=↑(.bl (wM q p)):=by
 by_cases h1:p.1<=q.1 <;> by_cases h2:p.2<=q.2 <;> simp[o6,X4,zl,wM,h1,h2]
def ZM {α:Type}(g:α->Bool) (xs:List α):sf (xs.map λ x=>T.bl (g x))=↑(xs.map g):=by
 have:=ZO (xs.map g)
 rwa [A5] at this
theorem fH (ps:List (Int×Int)) (q:Int×Int) (hl:ps.length<=10000):sF [bT ps,zl q]=↑(.bl (zG ps q)):=by
 have hc:kH [↑(.im (bT ps)),↑(.im (zl q))]=↑(.lst (ps.map λ p=>T.bl (wM q p))):=by
  unfold kH;exact sV zl _ ps (by simp[bT]) ⋯ λ p _=>?_;simp[Y0]
 unfold sF Xs;generalize kH=cc at hc ⊢;simp[hc,ZM];rfl
theorem KP (A B:Int) (w:Wy) (bd:Bd) (hl:bd.length<64):mO [.tup [.int A,.int B],ye w,bT bd]=↑(bT (rA A B w.a w.b bd)):=by
 have h1:kI [↑(.im (.tup [.int A,.int B])),↑(.im (ye w)),↑(.im (bT bd)),none]=↑(.lst ((bd.map (xa w.a w.b)).map zl)):=by
  rw[A5];unfold kI;exact sV zl _ bd (by simp[bT]) ⋯ λ p _=>?_;simp[zl,ye,xa,yB,qu]
 have h2:kC [↑(.im (.tup [.int A,.int B])),↑(.im (ye w)),↑(.im (bT bd)),↑(.im (.lst ((bd.map (xa w.a w.b)).map zl)))]=↑(.lst (((bd.map (xa w.a w.b)).filter (vo A B)).map zl)):=by
  have:=nq zl (λ p=>if vo A B p=true then ↑(zl p) else none) (pick:=[none,↑0]) (it:=xy (zc 3)) (g:=zB 0) (c:=yE (zq o6 (za (zg 1) (za (zg 0) zf)))) (f:=zg 0) (J:=[↑(.im (.tup [.int A,.int B])),↑(.im (ye w)),↑(.im (bT bd)),↑(.im (.lst ((bd.map (xa w.a w.b)).map zl)))]) (bd.map (xa w.a w.b)) #[] (by simp;lia) (λ p _=>by
   have e:T.tup [.int A,.int B]=zl (A,B):=rfl;have ga:wM (A,B) p=vo A B p:=rfl;simp![qq,e];simp[Y0,ga];cases vo A B p <;> simp)
  unfold kC;rw[this,show ∀ l:List (Int×Int),l.filterMap (λ p=>if vo A B p=true then ↑(zl p) else none)=(l.filter (vo A B)).map zl from λ l=>by
   induction l with
   | nil=>rfl
   | cons a l ih=>by_cases h:vo A B a=true <;> simp[Cv,h,ih]]
 have h3:=jg ((bd.map (xa w.a w.b)).filter (vo A B)) (Nat.lt_of_le_of_lt (C5 _ _) (by exists hl));unfold mO X3;generalize kI=d1 at h1 ⊢;generalize kC=d2 at h2 ⊢;generalize sC=ff at h3 ⊢;generalize (bd.map (xa w.a w.b)).map zl=L1 at h1 h2;generalize (((bd.map (xa w.a w.b)).filter (vo A B)).map zl)=L2 at h2 h3;simp[h1,h2,h3];rfl
def K3 (b c:Bd) (hl:b.length+c.length<64):mI [bT b,bT c]=↑(bT (ur b c)):=K4 b c hl
def KL (b c:Bd) (hl:b.length+c.length<64):mK [bT b,bT c]=↑(bT (vO b c)):=by
 let#[sh,h1,_,h2]:=KN b c hl;have:vc sh=vO b c:=vv.eq (iG _) (iG _) λ q=>by
  rw[pD,h2,<- ZJ]
 rw[<- this];show h1
theorem K2 {A B:Int}(hA:0<=A/\A<=12) (bs:List Bd) (h:∀ b∈bs,Gd A B b):mL [.lst (bs.map bT)]=↑(bT (uu bs)):=by
 let#[J',h1,h2]:=uZ (is:=[2]) (g:=zB 2) (b:=kQ) bT (λ p J=>J=[↑(.im (.lst (bs.map bT))),↑(.im (bT (p.foldl ur []))),none]) bs [↑(.im (.lst (bs.map bT))),↑(.im (bT [])),none] rfl (by
  rintro p x q e J rfl;have g1:Gd A B (p.foldl ur []):=nM p [] Gd.nil λ c hc=>h c (by rw[e];simp[hc]);have g2:Gd A B x:=h x (by rw[e];simp);have l1:=g1.u_ hA.1;have l2:=g2.u_ hA.1;exact#[[↑(.im (.lst (bs.map bT))),↑(.im (bT (ur (p.foldl ur []) x))),↑(.im (bT x))],?_,#[]];simp[turn,kQ,K3 (p.foldl ur []) x ⋯])
 subst h2;unfold mL X0;generalize kQ=bb at h1 ⊢;have e:bT []=.tup []:=rfl;rw[e] at h1;simp[h1,uu]
theorem KJ {A B:Int}(hA:0<=A/\A<=12) (hB:0<=B) (bs:List Bd) (h:∀ b∈bs,Gd A B b):mM [.lst (bs.map bT)]=↑(bT (pW bs)):=by
 let#[J',h1,h2]:=uZ (is:=[2]) (g:=zB 2) (b:=kR) bT (λ p J=>J=[↑(.im (.lst (bs.map bT))),↑(.im (bT (p.foldl vO xr))),none]) bs [↑(.im (.lst (bs.map bT))),↑(.im (bT xr)),none] rfl (by
  rintro p x q e J rfl;have g1:Gd A B (p.foldl vO xr):=gQ p xr (Gd.xr hA.1 hB) λ c hc=>h c (by rw[e];simp[hc]);have g2:Gd A B x:=h x (by rw[e];simp);have l1:=g1.u_ hA.1;have l2:=g2.u_ hA.1;exact#[[↑(.im (.lst (bs.map bT))),↑(.im (bT (vO (p.foldl vO xr) x))),↑(.im (bT x))],?_,#[]];simp[turn,kR,KL (p.foldl vO xr) x ⋯])
 subst h2;unfold mM X2;generalize kR=bb at h1 ⊢;have e:bT xr=.tup [.tup [.int 0,.int 0]]:=rfl;rw[e] at h1;simp[h1,pW]
theorem lT {α:Type}{is:List Nat}{g:T->Ev->Option Ev}{b:Sm}(enc ret:α->T) (test:α->Bool) (J0:Ev):∀ (xs:List α) (J:Ev),yC is J=J0->
  (∀ x∈xs,∃ J',yC is J'=J0/\turn g b (enc x) J0=↑(if test x=true then .rt (ret x) else .nx J'))->
  xY is g b (xs.map enc) J=↑(match xs.find? test with | some x=>.rt (ret x) | none=>.nx J0)
 | [],J,h,_=>by rw[Bi,List.find?_nil,xY,h]
 | x::xs,J,h,ht=>by
  rw[Ax,iB,h];let#[J',h1,h2]:=ht x Av;rw[h2,Cs];by_cases c:test x=true
  .rw[if_pos c,c];rfl
  .rw[if_neg c];rw[DI] at c;rw[c];show lT enc ret test J0 xs J' h1 λ y hy=>ht y (AA _ hy)
def Kl (i a b:Int):rP [.int i,.int a,.int b]=↑(.bl (decide (a<=i)&&decide (i<=b))):=by
 have h:o3 [.int i]=↑(.bl true):=by simp[o3,fY,xR]
 by_cases h1:a<=i <;> by_cases h2:i<=b <;> simp[rP,js,h,h1,h2]
theorem Yz (F:zt) (p:Nat) (h:p<F.os.length):wW [zm F,.int p]=↑.zh:=by
 have h1:=Kl p 0 ((F.os.length:Int)-1);rw[show decide ((0:Int)<=p)=true from zaA ⋯,show decide ((p:Int)<=(F.os.length:Int)-1)=true from zaA ⋯] at h1;have h2:=fG F;unfold wW f_;generalize zm F=fl at *;simp[h1,h2]
def Lg (pu:Bool) (A B:Int) (sp gv gt:Int) (x y:Int) (hg:1<=gv) (b0 b1:T) (hb:zj b0 (.int (wu pu))=↑(.int (if pu=true then B else A))) (IB:zj b1 (.int 2)=↑(.int gv)) (hs3:zj b1 (.int 3)=↑(.int gt)) (pr:T):
  ∀ (n m:Nat) (g t:Int) (acc:Bd),(if pu=true then B else A)+1-g<=n->n<m->acc.length+n<=1000->
  ∃ g' t',xD [] (zy (zb ug (zc 5) (zb zj (zc 0) (zc 3)))) qC m [↑(.im b0),↑(.im b1),↑(.im pr),↑(.im (.int (wu pu))),↑(.own (.lst (acc.map zl))),↑(.im (.int g)),↑(.im (.int t))]
   = ↑(.nx [↑(.im b0),↑(.im b1),↑(.im pr),↑(.im (.int (wu pu))),↑(.own (.lst ((acc++xN pu (if pu=true then B else A) gv gt n g t).map zl))),↑(.im (.int g')),↑(.im (.int t'))]):=by
 have BC:∀ (m:Nat) (g t:Int) (acc:Bd),¬ g<=(if pu=true then B else A)->xD [] (zy (zb ug (zc 5) (zb zj (zc 0) (zc 3)))) qC (m+1) [↑(.im b0),↑(.im b1),↑(.im pr),↑(.im (.int (wu pu))),↑(.own (.lst (acc.map zl))),↑(.im (.int g)),↑(.im (.int t))]
   = ↑(.nx [↑(.im b0),↑(.im b1),↑(.im pr),↑(.im (.int (wu pu))),↑(.own (.lst (acc.map zl))),↑(.im (.int g)),↑(.im (.int t))]):=λ m g t acc hn=>by
  unfold xD;simp![zj] at hb;simp[hb,hn]
 intro n
 induction n with
 | zero=>
  intro m g t acc h1 h2 h3;obtain⟨m,rfl⟩:∃ k,m=k+1:=#[m-1,⋯];exact#[g,t,?_];rw[BC m g t acc ⋯];simp[xN]
 | succ n ih=>
  intro m g t acc h1 h2 h3;obtain⟨m,rfl⟩:∃ k,m=k+1:=#[m-1,⋯];by_cases hc:g<=(if pu=true then B else A)
  .let#[g',t',e]:=ih m (g+gv) (yB (t-gt)) (acc++[yL pu g t]) ⋯ ⋯ (by simp;lia);exact#[g',t',?_];have hb1:qC [↑(.im b0),↑(.im b1),↑(.im pr),↑(.im (.int (wu pu))),↑(.own (.lst (acc.map zl))),↑(.im (.int g)),↑(.im (.int t))]=↑(.nx [↑(.im b0),↑(.im b1),↑(.im pr),↑(.im (.int (wu pu))),↑(.own (.lst ((acc++[yL pu g t]).map zl))),↑(.im (.int (g+gv))),↑(.im (.int (yB (t-gt))))]):=by
    simp![zj] at IB hs3;have hl:acc.length<16777216:=⋯;unfold qC;cases pu <;> simp[wu,eq_int,IB,hs3,hl,qu,yB,yL,zl]
   unfold xD;simp![zj] at hb;generalize qC=bb at *;have e2:xN pu (if pu=true then B else A) gv gt (n+1) g t=yL pu g t::xN pu (if pu=true then B else A) gv gt n (g+gv) (yB (t-gt)):=by
    rw[xN,if_pos hc]
   rw[e2];simp![List.append_assoc,List.singleton_append] at e;simp[hb,hc,hb1];exists e
  .exact#[g,t,?_];rw[BC m g t acc hc,xN,if_neg hc,Co]
theorem KD {F:zt}(ok:F.Ok) (s:Sl) (hs:1<=s.gv/\0<=s.gt) (p:Int×Int) (h0:0<=p.1/\0<=p.2):mC [.tup [.int F.A,.int F.B],ym s,zl p]=↑(.lst ((yU F s p).map zl)):=by
 let#[sp,pu,gv,gt]:=s;have a1:=ok.a1;have b1:=ok.b1;let#[g',t',h]:=Lg pu F.A F.B sp gv gt p.1 p.2 hs.1 (.tup [.int F.A,.int F.B]) (ym #[sp,pu,gv,gt]) (by cases pu <;> simp[wu]) (by simp[ym]) (by simp[ym]) (zl p) 100 1000000 (zP pu p) (yp pu p) [] (by cases pu <;> simp[zP] <;> lia) () #[];unfold mC Xe rW;generalize hb:qC=bb at h ⊢;unfold yU zt.zS;simp![Bi,List.nil_append] at h;cases pu <;> simp[ym,wu,zl,zP,yp] at h ⊢ <;> simp[h]
theorem Yw (F:zt) (p:Nat) (h:p<F.os.length) (hl:F.ss.length<=60):tE [zm F,.int p]=↑(match F.FN p with | some s=>ym s | none=>.zh):=by
 have GV:=lT (is:=[2]) (g:=zB 2) (b:=mr) ym ym (λ s=>decide (s.p=p)) [↑(.im (zm F)),↑(.im (.int p)),none] F.ss [↑(.im (zm F)),↑(.im (.int p)),none] #[] λ s _=>#[[↑(.im (zm F)),↑(.im (.int p)),↑(.im (ym s))],#[],by
  by_cases c:s.p=p
  .simp[turn,mr,ym,eq_int,c]
  .have c':¬ ((s.p:Int)=(p:Int)):=⋯;simp[turn,mr,ym,eq_int,c,c']]
 have h1:=Yz F p h;have h2:zj (zm F) (.int 3)=↑(.tup (F.ss.map ym)):=by simp[zm]
 unfold tE Xb;generalize mr=bb,zm F=fl at *;simp![zj] at h2;unfold zt.FN;generalize F.ss.find? _=o at *;simp[h1,h2,GV];cases o <;> simp
theorem aW:∀ (ws:List Wy) (k:Nat),tZ k (ws.map ye)=(ws.zipIdx k).map λ wi=>T.tup [.int (wi.2:Int),ye wi.1]
 | [],k=>rfl
 | w::ws,k=>by
  rw[Ax,tZ,aW ws (k+1),DL,Ax]
theorem mX (f:Wy->Bool):∀ (ws:List Wy) (k:Nat),((ws.zipIdx k).filter λ wi=>f wi.1).map (λ wi=>wi.1)=ws.filter f
 | [],k=>rfl
 | w::ws,k=>by
  rw[DL,List.filter_cons,List.filter_cons];by_cases c:f w=true
  .rw[if_pos (by show c),if_pos c,Ax,mX f ws]
  .rw[if_neg (by show c),if_neg c,mX f ws]
theorem fF (F:zt) (p:Nat) (h:p<F.os.length) (hl:F.ws.length<=60):u7 [zm F,.int p]=↑(.lst (((F.ws.zipIdx).filter λ wi=>decide (wi.1.f=p)).map λ wi=>T.int (wi.2:Int))):=by
 have hc:kD [↑(.im (zm F)),↑(.im (.int p))]=↑(.lst (((F.ws.zipIdx).filter λ wi=>decide (wi.1.f=p)).map λ wi=>T.int (wi.2:Int))):=by
  have:=nq (λ wi:Wy×Nat=>T.tup [.int (wi.2:Int),ye wi.1]) (λ wi=>if wi.1.f=p then ↑(T.int (wi.2:Int)) else none) (pick:=[none,none,↑1]) (it:=wz vL (za (zb zj (zc 0) (cI 2)) zf)) (g:=vk 2 (xg (zB 0) (xg (zB 1) ud))) (c:=zy (zb (zw false) (zb zj (zc 1) (cI 0)) (zc 2))) (f:=zg 0) (J:=[↑(.im (zm F)),↑(.im (.int p))]) (F.ws.zipIdx) (by
   rw[<- aW];simp[zm]) (by simp;lia) (λ wi _=>by
   by_cases c:wi.1.f=p
   .simp[ye,eq_int,c]
   .have c':¬ ((wi.1.f:Int)=(p:Int)):=⋯;simp[ye,eq_int,c,c'])
  unfold kD;rw[this];congr 2
  induction F.ws.zipIdx with
  | nil=>rfl
  | cons a l ih=>by_cases c:a.1.f=p <;> simp[Cv,c,ih]
 have h1:=Yz F p h;unfold u7 Y_;generalize kD=cc,zm F=fl at *;generalize List.map (λ wi:Wy×Nat=>T.int (wi.2:Int)) _=LL at *;simp[h1,hc]
theorem aU:∀ (b c:Bd),x9 (b.map zl) (c.map zl)=decide (b=c)
 | [],[]=>by simp[x9]
 | [],_::_=>by simp[x9]
 | _::_,[]=>by simp[x9]
 | p::b,q::c=>by
  have h:=aU b c;have e:eqT (zl p) (zl q)=decide (p=q):=by
   let#[p1,p2]:=p;let#[q1,q2]:=q;by_cases h1:p1=q1 <;> by_cases h2:p2=q2 <;> simp[zl,eqT,x9,h1,h2]
  rw[Ax,Ax,x9,e,h];by_cases h1:p=q <;> by_cases h2:b=c <;> simp[h1,h2]
def Oq (b c:Bd):zw true (bT b) (bT c)=↑(.bl (decide (b≠c))):=by
 have h1:dep (bT b)<=60:=Ze b;have h2:dep (bT c)<=60:=Ze c;unfold zw;rw[if_pos #[h1,h2]];change ↑(T.bl (!(x9 (b.map zl) (c.map zl))))=_;rw[aU];by_cases h:b=c <;> simp[h]
def nu (l:List Bd) (p:Nat) (h:p<l.length):zj (rT l) (.int p)=↑(bT (l.getD p [])):=by
 change L2.zQ (l.map bT) (p:Int)=_;exact wB ?_;rw[AJ,AR h,A6,AR h];rfl
theorem KC {F:zt}(ok:F.Ok) (p:Nat) (hp:p<F.os.length) (b:Bd) (hb:Gd F.A F.B b):o5 [zm F,.int p,bT b]=↑(bT (match F.FN p with | none=>b | some s=>q8 F s b)):=by
 have h1:=Yw F p hp ok.s8;cases hs:F.FN p with
 | none=>
  rw[hs] at h1;unfold o5 eg;generalize tE=f1 at h1 ⊢;generalize zm F=fl,bT b=bb at *;have is1:yM false .zh .zh=↑(.bl true):=rfl;simp[h1,is1]
 | some s=>
  rw[hs] at h1;replace h1:tE [zm F,.int p]=↑(ym s):=h1;have A4:s∈F.ss:=C6 hs;have hsz:=ok.ss s A4;have GG:(F.A+1)*(F.B+1)<64:=by
   rcases ok.sl with x | x
   .rw[x] at A4;cases A4
   .show x
  have a0:=ok.a0;have b0:=ok.b0;have EF:∀ x∈b,((yU F s x).length:Int)<=F.zS s.pu+1:=λ x hx=>by
   have q:=hb.xJ x hx;have:=Z9 s.pu (F.zS s.pu) s.gv s.gt hsz.1 100 (zP s.pu x) (yp s.pu x) (by unfold zt.zS zP;split <;> lia);have g0:0<=zP s.pu x:=by unfold zP;split <;> lia
   unfold yU;lia
  have Az:∀ q:Bd,(∀ x∈q,x∈b)->((q.flatMap (yU F s)).length:Int)<=q.length*(F.zS s.pu+1):=λ q=>by
   induction q with
   | nil=>intro _;simp
   | cons x q ih=>
    intro hq;have i1:=ih λ y hy=>hq y (AA _ hy);have i2:=EF x (hq x Av);rw[List.flatMap_cons,Cb,A9,C4,C4,Ci];lia
  have hlen:(b.flatMap (yU F s)).length<64:=by
   have h2:=Az b λ _ h=>h;have l1:=hb.u_ a0;have l2:=hb.OH b0;have:((b.flatMap (yU F s)).length:Int)<64:=by
    exact Int.lt_of_le_of_lt h2 (Int.lt_of_le_of_lt ?_ GG);unfold zt.zS;split
    .show zcF l1 ⋯
    .rw[Int.mul_comm (F.A+1)];show zcF l2 ⋯
   lia
  have E4:zj (zm F) (.int 0)=↑(.tup [.int F.A,.int F.B]):=by simp[zm]
  let#[J',h2,h3]:=uZ (is:=[5]) (g:=zB 5) (b:=kS) zl (λ q J=>J=[↑(.im (zm F)),↑(.im (.int p)),↑(.im (bT b)),↑(.im (ym s)),↑(.own (.lst ((q.flatMap (yU F s)).map zl))),none]) b [↑(.im (zm F)),↑(.im (.int p)),↑(.im (bT b)),↑(.im (ym s)),↑(.own (.lst [])),none] rfl (by
   rintro q x r e J rfl;have hx:x∈b:=by rw[e];simp
   have q1:=hb.xJ x hx;have hF:=KD ok s hsz x #[q1.1.1,q1.2.1];have IX:(q.flatMap (yU F s)).length+(yU F s x).length<=16777216:=by
    have e2:(b.flatMap (yU F s)).length=(q.flatMap (yU F s)).length+((yU F s x).length+(r.flatMap (yU F s)).length):=by rw[e];simp
    lia
   exact#[[↑(.im (zm F)),↑(.im (.int p)),↑(.im (bT b)),↑(.im (ym s)),↑(.own (.lst (((q++[x]).flatMap (yU F s)).map zl))),↑(.im (zl x))],?_,#[]];have e3:((q++[x]).flatMap (yU F s)).map zl=(q.flatMap (yU F s)).map zl++(yU F s x).map zl:=#[];rw[e3];unfold turn kS;have l3:((q.flatMap (yU F s)).map zl).length+((yU F s x).map zl).length<=16777216:=by exists IX
   generalize mC=ff,(q.flatMap (yU F s)).map zl=L1,(yU F s x).map zl=L2,zm F=fl at *;simp![zj] at E4;simp[E4,hF,l3])
  subst h3;have hF:=jg (b.flatMap (yU F s)) hlen;have nn:yM false (ym s) .zh=↑(.bl false):=rfl;unfold o5 eg;generalize kS=bb,sC=ff,tE=f1,(b.flatMap (yU F s)).map zl=L1 at *;have hbT:xX (bT b)=↑(b.map zl):=rfl;generalize bT b=bt,zm F=fl,ym s=st at *;simp[h1,nn,hbT,h2,hF];rfl
theorem Kz {F:zt}(ok:F.Ok) (p:Nat) (hp:p<F.os.length) (l:List Bd) (hl:l.length=F.os.length) (hg:∀ b∈l,Gd F.A F.B b):mD [zm F,.int p,rT l]=↑(bT (yA F l p)):=by
 have h1:=fF F p hp ok.sM;have Hl:zj (zm F) (.int 2)=↑(.tup (F.ws.map ye)):=by simp[zm]
 have Ia:zj (zm F) (.int 0)=↑(.tup [.int F.A,.int F.B]):=by simp[zm]
 have HD:zj (zm F) (.int 1)=↑(.tup (F.os.map kt)):=by simp[zm]
 have c1:kF [↑(.im (zm F)),↑(.im (.int p)),↑(.im (rT l)),none,none]=↑(.lst ((F.ws.filter λ w=>decide (w.f=p)).map ye)):=by
  rw[<- mX (λ w=>decide (w.f=p)) F.ws 0,A5];unfold kF;exact sV (λ wi:Wy×Nat=>T.int (wi.2:Int)) _ ((F.ws.zipIdx).filter λ wi=>decide (wi.1.f=p)) ?_ (Bo (C5 _ _) (by rw[List.length_zipIdx];have:=ok.sM;lia)) λ wi CW=>?_
  .generalize u7=ff at *;simp[h1]
  .have hm:=(Be.mp CW).1;have hg:=zcG.mp hm;have:L2.zQ (F.ws.map ye) (wi.2:Int)=↑(ye wi.1):=by
    show wB (by rw[AJ,hg];rfl)
   generalize zm F=fl at *;simp![zj] at Hl;simp[Hl,this]
 have c2:kB [↑(.im (zm F)),↑(.im (.int p)),↑(.im (rT l)),↑(.im (.lst ((F.ws.filter λ w=>decide (w.f=p)).map ye))),none]=↑(.lst ((xO F l p).map bT)):=by
  unfold xO;rw[A5];unfold kB;exact sV ye _ (F.ws.filter λ w=>decide (w.f=p)) #[] (Bo (C5 _ _) (by have:=ok.sM;lia)) λ w hw=>?_;have hm:=(Be.mp hw).1;have ht:w.t<l.length:=by rw[hl];show (ok.ws w hm).2
  have e1:=nu l w.t ht;have gb:Gd F.A F.B (l.getD w.t []):=by
   rw[A6,AR ht];show hg _ (Bp ht)
  have l13:=gb.u_ ok.a0;have a12:=ok.a1;have hF:=KP F.A F.B w (l.getD w.t []) ⋯;have e2:zj (ye w) (.int 1)=↑(.int (w.t:Int)):=by simp[ye]
  obtain⟨bd,Bn⟩:∃ bd,l.getD w.t []=bd:=#[_,rfl];rw[Bn] at e1 gb hF;have E5:(l[w.t]?).getD []=bd:=by rw[<- Bn,A6]
  generalize mO=ff,zm F=fl,rT l=rt,ye w=wt at *;simp![zj] at Ia e1 e2;simp[Ia,e1,e2,hF,E5]
 have gah:=kT F l p;have c3:=K2 #[ok.a0,ok.a1] (xO F l p) gah;have c4:=KJ #[ok.a0,ok.a1] ok.b0 (xO F l p) gah;have c5:=KC ok p hp (uu (xO F l p)) (nM _ _ Gd.nil gah);have ho:L2.zQ (F.os.map kt) (p:Int)=↑(kt (F.os.getD p false)):=by
  exact wB ?_;rw[AJ,AR hp,A6,AR hp];rfl
 have hk:∀ b:Bool,zw false (kt b) (.str "keeper")=↑(.bl b):=λ b=>by cases b <;> rfl
 unfold mD Xg;generalize kF=d1,kB=d2,mL=f1,mM=f2,o5=f3,((F.ws.filter λ w=>decide (w.f=p)).map ye)=L1,zm F=fl,rT l=rt at *;unfold yA;have GX:=hk (F.os.getD p false);generalize F.os.getD p false=kb at *;generalize kt kb=ktb at *;generalize (T.str "keeper")=ks at *;simp![zj] at HD;cases kb with
 | true=>
  simp[c1,c2,HD,ho,GX,c3,c5]
  all_goals (cases F.FN p <;> rfl)
 | false=>simp[c1,c2,HD,ho,GX,c4]
theorem kh {α β:Type}(c:α->Bool) (g:α->β):∀ l:List α,l.filterMap (λ x=>if c x=true then ↑(g x) else none)=(l.filter c).map g
 | []=>rfl
 | a::l=>by by_cases h:c a=true <;> simp[Cv,h,kh c g l]
theorem N6 (t:Nat) (fr:List Nat):pL false (.int t) (.lst (fr.map λ(k:Nat)=>T.int (k:Int)))=↑(.bl (fr.contains t)):=by
 have d1:xA (fr.map λ(k:Nat)=>T.int (k:Int))<=60:=by
  exact gE _ 60 (λ x=>?_) fr;simp[dep]
 have d0:dep (.int (t:Int))<=60:=by simp[dep]
 unfold pL;change (if dep (.int (t:Int))<=60/\xA (fr.map λ(k:Nat)=>T.int (k:Int))<=60 then _ else _)=_;rw[if_pos #[d0,d1]];change ↑(T.bl ((fr.map λ(k:Nat)=>T.int (k:Int)).any λ x=>eqT x (.int t)))=_;congr 2;rw[Bh,A8,List.contains_iff_mem];constructor
 .rintro⟨x,hx,h⟩;let#[k,hk,rfl]:=Au.mp hx;have:(k:Int)=(t:Int):=by simpa [eqT] using h
  have:k=t:=⋯;subst this;show hk
 .intro h;show#[_,Au.mpr #[t,h,rfl],by simp[eqT]]
def Ky {F:zt}(ok:F.Ok) (E7:List Bd) (fr:List Nat) (hl:E7.length=F.os.length) (hg:∀ b∈E7,Gd F.A F.B b):
  ou [zm F,rT E7,.lst (fr.map λ(k:Nat)=>T.int (k:Int))]=↑(rT (yb F E7 fr)):=by
 have Hl:zj (zm F) (.int 2)=↑(.tup (F.ws.map ye)):=by simp[zm]
 have c1:kE [↑(.im (zm F)),↑(.im (rT E7)),↑(.im (.lst (fr.map λ(k:Nat)=>T.int (k:Int)))),↑(.own (.lst (E7.map bT))),none]=↑(.lst (((F.ws.filter λ w=>fr.contains w.t).map λ w=>(w.f:Int)).map T.int)):=by
  have:=nq ye (λ w=>if fr.contains w.t=true then ↑(T.int (w.f:Int)) else none) (pick:=[none,↑2]) (it:=xy (zb zj (zc 0) (cI 2))) (g:=zB 0) (c:=zy (zb (pL false) (zb zj (zc 0) (cI 1)) (zc 1))) (f:=zb zj (zc 0) (cI 0)) (J:=[↑(.im (zm F)),↑(.im (rT E7)),↑(.im (.lst (fr.map λ(k:Nat)=>T.int (k:Int)))),↑(.own (.lst (E7.map bT))),none]) F.ws (by
    generalize zm F=fl at *;simp![zj] at Hl;simp[Hl]) (by have:=ok.sM;lia) (λ w _=>by
   have hi:=N6 w.t fr;generalize (T.lst (fr.map λ(k:Nat)=>T.int (k:Int)))=ft,fr.contains w.t=cb at *;cases cb <;> simp[ye,hi])
  unfold kE;rw[this];rw[kh (λ w:Wy=>fr.contains w.t) (λ w:Wy=>T.int (w.f:Int)),A5];rfl
 have Dp:qd [.lst (((F.ws.filter λ w=>fr.contains w.t).map λ w=>(w.f:Int)).map T.int)]=↑(.lst ((wG ((F.ws.filter λ w=>fr.contains w.t).map λ w=>(w.f:Int))).map T.int)):=by
  change (match uh (((F.ws.filter λ w=>fr.contains w.t).map λ w=>(w.f:Int)).map T.int) with | some ns=>_ | none=>_)=_;rw[af];exact if_pos ?_;have:=C5 (λ w:Wy=>fr.contains w.t) F.ws;have:=ok.sM;simp![AN];lia
 have A4:∀ k∈wG ((F.ws.filter λ w=>fr.contains w.t).map λ w=>(w.f:Int)),∃ p:Nat,k=(p:Int)/\p<F.os.length/\uD F fr p=true:=λ k hk=>by
  let#[w,hw,rfl]:=Au.mp (lP.mp hk);let#[w1,w2]:=Be.mp hw;show#[w.f,rfl,(ok.ws w w1).1,A8.mpr #[w,w1,by exists w2]]
 have Ep:∀ p:Nat,uD F fr p=true->(p:Int)∈wG ((F.ws.filter λ w=>fr.contains w.t).map λ w=>(w.f:Int)):=λ p h=>by
  let#[w,w1,w2]:=A8.mp h;have w3:w.f=p/\fr.contains w.t=true:=by exists w2
  show lP.mpr (Au.mpr #[w,Be.mpr #[w1,w3.2],by rw[w3.1]])
 generalize wG ((F.ws.filter λ w=>fr.contains w.t).map λ w=>(w.f:Int))=up at *;have ft:∃ t,(T.lst (fr.map λ(k:Nat)=>T.int (k:Int)))=t:=#[_,rfl];let#[J',h1,h2]:=uZ (is:=[4]) (g:=zB 4) (b:=kM) T.int (λ pre J=>J=[↑(.im (zm F)),↑(.im (rT E7)),↑(.im (.lst (fr.map λ(k:Nat)=>T.int (k:Int)))),↑(.own (.lst (((List.range E7.length).map λ(p:Nat)=>if (p:Int)∈pre then yA F E7 p else E7.getD p []).map bT))),none]) up
   [↑(.im (zm F)),↑(.im (rT E7)),↑(.im (.lst (fr.map λ(k:Nat)=>T.int (k:Int)))),↑(.own (.lst (E7.map bT))),none] (by
  have e:(List.range E7.length).map (λ(p:Nat)=>if (p:Int)∈([]:List Int) then yA F E7 p else E7.getD p [])=E7:=by
   exact Dd #[] λ i h1 h2=>?_;simp[h2]
  rw[e];rfl) (by
  rintro pre k q e J rfl;let#[p,rfl,hp,hw]:=A4 k (by rw[e];simp);have hF:=Kz ok p hp E7 hl hg;exact#[[↑(.im (zm F)),↑(.im (rT E7)),↑(.im (.lst (fr.map λ(k:Nat)=>T.int (k:Int)))),↑(.own (.lst (((List.range E7.length).map λ(i:Nat)=>if (i:Int)∈pre++[(p:Int)] then yA F E7 i else E7.getD i []).map bT))),↑(.im (.int p))],?_,#[]];have Ey:(((List.range E7.length).map λ(i:Nat)=>if (i:Int)∈pre then yA F E7 i else E7.getD i []).map bT).set p (bT (yA F E7 p))=((List.range E7.length).map λ(i:Nat)=>if (i:Int)∈pre++[(p:Int)] then yA F E7 i else E7.getD i []).map bT:=by
   exact Dd #[] λ i h1 h2=>?_;rw[List.getElem_set];simp![List.getElem_map,Ee,A1,A2];by_cases c:p=i
   .subst c;simp
   .have c':¬ ((i:Int)=(p:Int)):=⋯;simp[c,c']
  have EN:vd (((List.range E7.length).map λ(i:Nat)=>if (i:Int)∈pre then yA F E7 i else E7.getD i []).map bT).length (p:Int)=↑p:=by
   unfold vd;simp![AN,Cz];rw[if_pos ⋯,if_pos ⋯,CM]
  rw[<- Ey];unfold turn kM;generalize mD=ff,(((List.range E7.length).map λ(i:Nat)=>if (i:Int)∈pre then yA F E7 i else E7.getD i []).map bT)=LL,zm F=fl,rT E7=rl,(T.lst (fr.map λ(k:Nat)=>T.int (k:Int)))=ftt at *;simp[hF,EN])
 subst h2;have fin:((List.range E7.length).map λ(p:Nat)=>if (p:Int)∈up then yA F E7 p else E7.getD p [])=yb F E7 fr:=by
  unfold yb;exact DW λ p hp=>?_;by_cases c:uD F fr p=true
  .rw[if_pos c,if_pos (Ep p c)]
  .rw[if_neg c,if_neg λ h=>c (by let#[p',e,_,h']:=A4 _ h;show (show p'=p by lia)▸h')]
 rw[fin] at h1;have JE:listS [rT E7]=↑(.lst (E7.map bT)):=rfl;unfold ou Xf;generalize kE=cc,kM=bb,(((F.ws.filter λ w=>fr.contains w.t).map λ w=>(w.f:Int)).map T.int)=L1 at *;generalize hup:up.map T.int=L2 at *;generalize E7.map bT=L3,zm F=fl at *;have Ew:xX (rT E7)=↑L3:=by exists JE
 generalize rT E7=rl,(T.lst (fr.map λ(k:Nat)=>T.int (k:Int)))=ftt at *;simp[Ew,c1,Dp,h1,rT]
theorem gz {α:Type}(enc:α->T) (d:α) (fo:List α):∀ (l:List α) (k:Nat),(∀ i,l.getD i d=fo.getD (k+i) d)->tZ k (l.map enc)=(List.range l.length).map λ(p:Nat)=>T.tup [.int ((k+p:Nat):Int),enc (fo.getD (k+p) d)]
 | [],k,_=>rfl
 | b::l,k,h=>by
  have h0:=h 0;rw[Ax,tZ,gz enc d fo l (k+1) λ i=>by have:=h (i+1);rw[show k+1+i=k+(i+1) from by lia];exists this];rw[A9,List.range_succ_eq_map,Ax,A5];have e:b=fo.getD k d:=by exists h0
  congr 1
  .rw[e];rfl
  .exact DW λ p _=>?_;simp![Function.comp];rw[show k+1+p=k+Nat.succ p from by lia]
def xn (fr:List Nat):T:=.lst (fr.map λ(k:Nat)=>T.int (k:Int))
theorem LI (a:T) (b c:Option L5.W) (E7 fo:List Bd) (hl:fo.length=E7.length) (h16:fo.length<=10000):mh [↑(.im a),b,c,↑(.im (rT E7)),↑(.im (rT fo))]=↑(xn (x8 E7 fo)):=by
 have:=nq (λ p:Nat=>T.tup [.int (p:Int),bT (fo.getD p [])]) (λ p=>if decide (fo.getD p []≠E7.getD p [])=true then ↑(T.int (p:Int)) else none) (pick:=[none,none,↑3]) (it:=wz vL (za (zc 4) zf)) (g:=vk 2 (xg (zB 0) (xg (zB 1) ud))) (c:=zy (zb (zw true) (zc 1) (zb zj (zc 2) (zc 0)))) (f:=zg 0) (J:=[↑(.im a),b,c,↑(.im (rT E7)),↑(.im (rT fo))]) (List.range fo.length) (by
   have:=gz bT [] fo fo 0 λ i=>by rw[C7]
   simp![C7] at this;have e:vL [rT fo]=↑(tZ 0 (fo.map bT)):=rfl;rw[<- this];generalize vL=en at *;simp[e]) (by simp;lia) (λ p hp=>by
  have Hv:p<E7.length:=by rw[<- hl];show AL.mp hp
  have h1:=nu E7 p Hv;have h2:=Oq (fo.getD p []) (E7.getD p []);generalize fo.getD p []=x,E7.getD p []=y,rT E7=rl at *;generalize decide (x≠y)=d at *;simp![zj] at h1;cases d <;> simp[h1,h2])
 unfold mh;rw[this,kh (λ p:Nat=>decide (fo.getD p []≠E7.getD p [])) (λ p:Nat=>T.int (p:Int))];rfl
theorem dJ {F:zt}(ok:F.Ok):∀ (n:Nat) (pre:List (List Bd)) (E7:List Bd) (fr:List Nat) (res:List (List Bd)),St F E7 fr->sR F n pre E7 fr=↑res->pre.length+n<=10000->∀ (m:Nat),n<m->∀ x3 x4:Option L5.W,
  ∃ J_,xD [3,4] (yE (zc 2)) t7 m [↑(.im (zm F)),↑(.own (.lst ((pre++[E7]).map rT))),↑(.im (xn fr)),x3,x4]=↑(.nx [↑(.im (zm F)),↑(.own (.lst (res.map rT))),↑(.im J_),none,none])
 | 0,_,_,_,_,_,h,_,_,_,_,_=>by cases h
 | n+1,pre,E7,fr,res,s,h,hn,m,hm,x3,x4=>by
  have BC:∀ (m:Nat) (Fc:List (List Bd)) (x3 x4:Option L5.W),xD [3,4] (yE (zc 2)) t7 (m+1) [↑(.im (zm F)),↑(.own (.lst (Fc.map rT))),↑(.im (xn [])),x3,x4]=↑(.nx [↑(.im (zm F)),↑(.own (.lst (Fc.map rT))),↑(.im (xn [])),none,none]):=λ m Fc x3 x4=>by
   unfold xD;simp[xn]
  obtain⟨m,rfl⟩:∃ k,m=k+1:=#[m-1,⋯];unfold sR at h;by_cases AI:fr=[]
  .rw[if_pos AI] at h;cases h;subst AI;show#[_,BC m _ x3 x4]
  .rw[if_neg AI] at h;dsimp only at h;have hlen:=s.len;have n8:=ok.n8;have hF:=Ky ok E7 fr s.len s.gd;have GJ:zj (.lst ((pre++[E7]).map rT)) (.int (-1))=↑(rT E7):=by
    change L2.zQ ((pre++[E7]).map rT) (-1)=_;rw[B_];show gX _ _
   have hc:=λ b c=>LI (zm F) b c E7 (yb F E7 fr) (sT ..) (by rw[sT,s.len];lia);have Aq:sP (xn fr)=↑true:=by
    cases fr with
    | nil=>show absurd rfl AI
    | cons a l=>rfl
   have hb:∃ G_,t7 [↑(.im (zm F)),↑(.own (.lst ((pre++[E7]).map rT))),↑(.im (xn fr)),none,none]=↑(.nx [↑(.im (zm F)),↑(.own (.lst (G_.map rT))),↑(.im (xn (x8 E7 (yb F E7 fr)))),↑(.im (rT E7)),↑(.im (rT (yb F E7 fr)))])/\G_=if x8 E7 (yb F E7 fr)=[] then pre++[E7] else pre++[E7]++[yb F E7 fr]:=by
    have IX:((pre++[E7]).map rT).length<16777216:=by simp;lia
    by_cases hf:x8 E7 (yb F E7 fr)=[]
    .exact#[pre++[E7],?_,by rw[if_pos hf]];have ht:sP (xn (x8 E7 (yb F E7 fr)))=↑false:=by rw[hf];rfl
     unfold t7;generalize mh=cc,ou=ff,(pre++[E7]).map rT=L1,xn (x8 E7 (yb F E7 fr))=f2 at *;unfold xn at *;simp![zj] at GJ;generalize (T.lst (fr.map λ(k:Nat)=>T.int (k:Int)))=f1,rT (yb F E7 fr)=r2,rT E7=r1 at *;simp![xX] at GJ;simp[-sP,GJ,hF,hc,ht]
    .exact#[pre++[E7]++[yb F E7 fr],?_,by rw[if_neg hf]];have ht:sP (xn (x8 E7 (yb F E7 fr)))=↑true:=by
      cases e:x8 E7 (yb F E7 fr) with
      | nil=>show absurd e hf
      | cons a l=>rfl
     have e2:(pre++[E7]++[yb F E7 fr]).map rT=(pre++[E7]).map rT++[rT (yb F E7 fr)]:=#[];rw[e2];unfold t7;generalize mh=cc,ou=ff,(pre++[E7]).map rT=L1,xn (x8 E7 (yb F E7 fr))=f2 at *;unfold xn at *;simp![zj] at GJ;generalize (T.lst (fr.map λ(k:Nat)=>T.int (k:Int)))=f1,rT (yb F E7 fr)=r2,rT E7=r1 at *;simp![xX] at GJ;simp[-sP,GJ,hF,hc,ht,IX]
   let#[G_,hb1,Ik]:=hb;have key:∀ R,xD [3,4] (yE (zc 2)) t7 m [↑(.im (zm F)),↑(.own (.lst (G_.map rT))),↑(.im (xn (x8 E7 (yb F E7 fr)))),↑(.im (rT E7)),↑(.im (rT (yb F E7 fr)))]=R->xD [3,4] (yE (zc 2)) t7 (m+1) [↑(.im (zm F)),↑(.own (.lst ((pre++[E7]).map rT))),↑(.im (xn fr)),x3,x4]=R:=λ R e=>by
    rw[xD];generalize C1:t7=bb at *;generalize hlw:xD [3,4] (yE (zc 2)) bb m=lw at *;have hf:yC [3,4] [↑(.im (zm F)),↑(.own (.lst ((pre++[E7]).map rT))),↑(.im (xn fr)),x3,x4]=[↑(.im (zm F)),↑(.own (.lst ((pre++[E7]).map rT))),↑(.im (xn fr)),none,none]:=rfl;rw[hf];have ht:yE (zc 2) [↑(.im (zm F)),↑(.own (.lst ((pre++[E7]).map rT))),↑(.im (xn fr)),none,none]=↑true:=by
     generalize xn fr=f1 at *;simp[-sP,Aq]
    rw[ht,BL,if_pos rfl,hb1,BL];show e
   by_cases hf:x8 E7 (yb F E7 fr)=[]
   .rw[if_pos hf] at h Ik;cases h;subst Ik;rw[hf] at key;obtain⟨m,rfl⟩:∃ k,m=k+1:=#[m-1,⋯];show#[_,key _ (BC m _ _ _)]
   .rw[if_neg hf] at h Ik;subst Ik;let#[J_,e]:=dJ ok n (pre++[E7]) (yb F E7 fr) (x8 E7 (yb F E7 fr)) res (s.next ok) h (by simp;lia) m ⋯ ↑(.im (rT E7)) ↑(.im (rT (yb F E7 fr)));show#[J_,key _ e]
theorem Kq {F:zt}(ok:F.Ok):∃ more,sA [zm F]=↑(.lst ((RN.start F::more).map rT))/\(∀ r∈RN.start F::more,r.length=F.os.length/\∀ b∈r,Gd F.A F.B b)/\more.length<=2000/\sR F 2000 [] (RN.start F) (List.range F.os.length)=↑(RN.start F::more):=by
 have hmu:=bq (RN.start F);have Bs:(RN.start F).length=F.os.length:=by unfold RN.start;simp
 have n8:=ok.n8;have n1:=ok.n1;let#[more,Hc,e1,e2,_,e4]:=dM ok 2000 [] (RN.start F) (List.range F.os.length) (St.start ok) ⋯;let#[J_,e]:=dJ ok 2000 [] (RN.start F) (List.range F.os.length) _ (St.start ok) e1 #[] 1000000 () none none;exact#[more,?_,e2,⋯,e1];have hp:=fG F;have AH:rT (RN.start F)=.lst (List.replicate F.os.length (.tup [.tup [.int 0,.int 0]])):=by
  unfold rT RN.start;rw[List.map_replicate];rfl
 have hmul:xc (.lst [.tup [.tup [.int 0,.int 0]]]) (.int F.os.length)=↑(rT (RN.start F)):=by
  rw[AH];unfold xc;dsimp only;rw[if_pos #[#[],⋯,⋯,OC (by simp;lia)]];have:∀ n:Nat,(List.replicate n [T.tup [.tup [.int 0,.int 0]]]).flatten=List.replicate n (.tup [.tup [.int 0,.int 0]]):=λ n=>by
   induction n with
   | zero=>rfl
   | succ n ih=>rw[B4,B4,Ck,ih];rfl
  rw[CM,this]
 have BN:ni [.int F.os.length]=↑(xn (List.range F.os.length)):=by
  change (if 0<=(F.os.length:Int)/\(F.os.length:Int)<=16777216 then ↑(T.lst (rangeT 0 (F.os.length:Int).toNat)) else none)=_;rw[if_pos #[⋯,⋯]];change ↑(T.lst ((List.range (F.os.length:Int).toNat).map λ(k:Nat)=>T.int (0+(k:Int))))=_;rw[CM];unfold xn;simp
 unfold sA Xc rW;generalize t7=bb,qL=ff,ni=lr at *;simp![List.nil_append,Ax,Bi] at e;generalize xn (List.range F.os.length)=f1 at *;rw[Ax];generalize rT (RN.start F)=r0,zm F=fl at *;generalize hlw:xD [3,4] (yE (zc 2)) bb 1000000=lw at *;generalize xc=mw at *;simp[hp,hmul,BN,e]
def bp (i j:Int):xc (.int i) (.int j)=if wj i j then ↑(.int (i*j)) else none:=rfl
def N3 {r:List Int}{rs:List (List Int)}:uh ((r::rs).map yn)=none:=rfl
def Ve (rs:List (List Int)) (h0:rs≠[]) (hl:rs.length<64) (hn:∀ r∈rs,r≠[]):qd [.lst (rs.map yn)]=↑(.lst ((L4.xH (wx rs)).map yn)):=by
 cases rs with
 | nil=>show absurd rfl h0
 | cons r rs=>
  change (match uh ((r::rs).map yn) with
   | some ns=>if ns.length<64 then ↑(T.lst ((wG ns).map T.int)) else none
   | none=>l7 [T.lst ((r::rs).map yn)])=_
  rw[N3];change (vY ((r::rs).map yn)).bind _=_;rw[jO,BL,if_pos #[hl,hn]]
theorem me (ns:List Int) (k:Nat):0<=cell ns k:=by
 unfold cell;split
 .show DV _ ()
 .show AW _
theorem oV {L:List T}{P:Int->Prop}(hP:∀ y∈L,∃ v,y=.int v/\P v) {i:Int}(h0:0<=i) (h1:i<L.length):∃ v,L2.zQ L i=↑(.int v)/\P v:=by
 have hl:i.toNat<L.length:=⋯;have e:L2.zQ L i=↑L[i.toNat]:=by
  have:=wB (k:=i.toNat) (AR hl);rw[Cw h0] at this;show this
 let#[v,e2,hv]:=hP _ (Bp hl);show#[v,by rw[e,e2],hv]
theorem Yy (x:Int):∃ y,sE [.int x]=↑(.int y):=by
 have d5:xj x 5:=#[(),()];by_cases h:x%5=1
 .show#[_,by simp[sE,fX,eq_int,h,d5];rfl]
 .show#[_,by simp[sE,fX,eq_int,h,d5];rfl]
theorem Ku (ns:List Int) (E8:Nat) (hm:E8<=8):∃ os:List Bool,jj [zK ns,.int E8]=↑(.tup (os.map kt))/\os.length=E8:=by
 have hc:=rR ns 2;generalize cell ns 2=num at *;let#[J',h1,c,os,h2,h3]:=uZ (is:=[4]) (g:=zB 4) (b:=kN) (λ k:Nat=>T.int (0+(k:Int))) (λ p J=>∃ (c:Int) (os:List Bool),J=[↑(.im (zK ns)),↑(.im (.int E8)),↑(.im (.int c)),↑(.own (.lst (os.map kt))),none]/\os.length=p.length)
   (List.range E8) [↑(.im (zK ns)),↑(.im (.int E8)),↑(.im (.int num)),↑(.own (.lst [])),none] #[num,[],rfl,rfl] (by
  rintro p k q e J ⟨c,os,rfl,r1⟩;have hp:p.length<E8:=by have:=congrArg List.length e;simp at this;lia
  have hl:(os.map kt).length<16777216:=by simp;lia
  have d2:xj c 2:=#[(),()];have pk:∃ b:Bool,L2.zQ [T.str "keeper",T.str "taker"] (c%2)=↑(kt b):=by
   rcases Int.emod_two_eq c with h | h <;> rw[h]
   .show#[true,rfl]
   .show#[false,rfl]
  let#[b,hb]:=pk;exact#[[↑(.im (zK ns)),↑(.im (.int E8)),↑(.im (.int (c/2))),↑(.own (.lst ((os++[b]).map kt))),↑(.im (.int (0+(k:Int))))],?_,c/2,os++[b],#[],by simp[r1]];have e2:(os++[b]).map kt=os.map kt++[kt b]:=#[];rw[e2];unfold turn kN;generalize (T.str "keeper")=s1,(T.str "taker")=s2,kt b=kb,os.map kt=L,(0+(k:Int))=kk at *;simp[hb,hl,d2])
 subst h2;have hr:=qf E8 ⋯;exact#[os,?_,by exists h3];unfold jj Xl;generalize kN=bb,os.map kt=L,(List.range E8).map (λ(k:Nat)=>T.int (0+(k:Int)))=R at *;have GL:yX [zK ns,.int 2]=↑(.int num):=hc;generalize yX=fc,zK ns=sc at *;simp[GL,hr,h1]
def mU (A B:Int):Prop:=(0<=A/\A<=12)/\(0<=B/\B<=12)/\((A=12/\B=12)\/(A+1)*(B+1)<64)
theorem mU.small {A B:Int}(h:0<=A/\A<=5) (h':0<=B/\B<=5):mU A B:=by
 exact#[#[h.1,⋯],#[h'.1,⋯],.inr ?_];have:(A+1)*(B+1)<=6*6:=Int.mul_le_mul ⋯ ⋯ ⋯ ();lia
theorem KI (ns:List Int) (E8:Nat):∃ A B:Int,jk [zK ns,.int E8]=↑(.tup [.int A,.int B])/\mU A B:=by
 have hc:=rR ns 1;have c0:=me ns 1;generalize cell ns 1=num at *;have GL:yX [zK ns,.int 1]=↑(.int num):=hc;have d8:xj num 8:=#[(),()];have JQ:xj num 64:=#[(),()];let#[x,hx,x0,x5]:=oV (L:=[T.int 3,.int 2,.int 4,.int 1,.int 5,.int 2,.int 3,.int 0]) (P:=λ v=>0<=v/\v<=5) (by intro y hy;simp![Am,C3,or_false] at hy;rcases hy with rfl | rfl | rfl | rfl | rfl | rfl | rfl | rfl <;> show#[_,rfl,(),()]) (i:=num%8) ⋯ (by simp;lia);let#[y,hy,y0,y5]:=oV (L:=[T.int 2,.int 3,.int 1,.int 4,.int 2,.int 5,.int 3,.int 0]) (P:=λ v=>0<=v/\v<=5) (by intro y hy;simp![Am,C3,or_false] at hy;rcases hy with rfl | rfl | rfl | rfl | rfl | rfl | rfl | rfl <;> show#[_,rfl,(),()]) (i:=num/8%8) ⋯ (by simp;lia);have mn:∀ v:Int,0<=v->0<=(if 2<v then 2 else v)/\(if 2<v then 2 else v)<=5:=λ v hv=>by split <;> lia
 unfold jk Xq;generalize yX=fc,zK ns=sc at *;by_cases h1:E8>4
 .exact#[_,_,?_,mU.small (mn x x0) (mn y y0)];have Hu:(4:Int)<E8:=⋯;simp[GL,hx,hy,d8,Hu,qu]
 .have Hu:¬ (4:Int)<E8:=⋯;by_cases h2:num/64%10=1
  .exact#[12,y%3,?_,#[#[(),()],#[⋯,⋯],.inr ⋯]];simp[GL,hx,hy,d8,Hu,JQ,eq_int,h2]
  .by_cases h3:num/64%10=2
   .exact#[x%3,12,?_,#[#[⋯,⋯],#[(),()],.inr ⋯]];simp[GL,hx,hy,d8,Hu,JQ,eq_int,h3]
   .by_cases h4:num/64%10=3/\E8<3
    .exact#[12,12,?_,#[#[(),()],#[(),()],.inl #[rfl,rfl]]];have h5:(E8:Int)<3:=⋯;simp[GL,hx,hy,d8,Hu,JQ,eq_int,h4.1,h5,yz]
    .exact#[x,y,?_,mU.small #[x0,x5] #[y0,y5]];by_cases h6:num/64%10=3
     .have h5:¬ (E8:Int)<3:=⋯;simp[GL,hx,hy,d8,Hu,JQ,eq_int,h6,h5,yz]
     .simp[GL,hx,hy,d8,Hu,JQ,eq_int,h2,h3,h6]
def seq_eq {a b:Sm}{J J':Ev}(h:a J=↑(.nx J')):zo a b J=b J':=by
 change (a J).bind _=_;rw[h];rfl
def qj {f:T->T->Option T}{fa fb:Ah}{J:Ev}{x y:T}{r:Option T}(h1:fa J=↑x) (h2:fb J=↑y) (h:f x y=r):zb f fa fb J=r:=by
 change (fa J).bind _=r;rw[h1];change (fb J).bind _=r;rw[h2];show h
def rq {i:Nat}{f:Ah}{J:Ev}{y:T}(h:f J=↑y):zv i f J=↑(.nx (J.set i ↑(.im y))):=by
 change (f J).map _=_;rw[h];rfl
def pB {i j:Int}(h:wj i j):xc (.int i) (.int j)=↑(.int (i*j)):=by rw[bp,if_pos h]
def qT (E8:Nat) (r:List Int):Prop:=∃ (f t:Nat) (a b:Int),r=[(f:Int),(t:Int),a,b]/\f<E8/\t<E8
def Wb (M C:Int) (hM:0<M) (hC:∀ i,wj i C) (bb:Sm) (C1:bb=(zo (zv 8 (zb yj (zb xc (zc 3) (zc 5)) (zc 7)))
 (zo (zv 9 (zb zR (zb yj (zb yj (zb xc (zq yX (za (zg 0) (za (zb yj (cI 4) (zc 8)) zf))) (cS (.int C))) (zb xc (cI 61) (zc 8))) (cI 17)) (cS (.int M))))
 (zo (zv 10 (zb yt (zc 9) (cI 8)))
 (uv 4 (tupS (za (zg 5) (za (zb zR (zb zR (zc 9) (cI 8)) (zc 1)) (za (zq sE (za (zg 10) zf)) (za (zq sE (za (zb yt (zc 10) (cI 125)) zf)) zf))))))))))
  (ns:List Int) (E8 wide place k:Nat) (num sz:Int) (rows:List T) (hm:1<=E8) (hp:place<E8) (hw:wide<=12) (J6:E8<=8) (hl:rows.length<=1000):
  ∃ r x y z,(qT E8 r/\r.head?=↑(place:Int))/\turn (zB 7) bb (.int (0+(k:Int))) [↑(.im (zK ns)),↑(.im (.int E8)),↑(.im (.int num)),↑(.im (.int wide)),↑(.own (.lst rows)),↑(.im (.int place)),↑(.im (.int sz)),none,none,none,none]
   = ↑(.nx [↑(.im (zK ns)),↑(.im (.int E8)),↑(.im (.int num)),↑(.im (.int wide)),↑(.own (.lst (rows++[yn r]))),↑(.im (.int place)),↑(.im (.int sz)),↑(.im (.int (0+(k:Int)))),x,y,z]):=by
 obtain⟨at',DH⟩:∃ at':Nat,(wide:Int)*(place:Int)+(0+(k:Int))=(at':Int):=#[wide*place+k,by simp[C4,Int.natCast_mul]];have hc:=rR ns (4+at');rw[C4] at hc;have GL:yX [zK ns,.int (4+(at':Int))]=↑(.int (cell ns (4+at'))):=hc;generalize cell ns (4+at')=ce at *;have m1:wj (wide:Int) (place:Int):=.inl #[⋯,⋯];have m2:wj ce C:=hC ce;have m3:wj 61 (at':Int):=.inl #[(),()];generalize hd:(ce*C+61*(at':Int)+17)%M=dr;have d8:xj dr 8:=#[(),()];have d125:xj (dr/8) 125:=#[(),()];let#[a,ha]:=Yy (dr/8);let#[b,hb]:=Yy (dr/8/125);have hmp:(0:Int)<E8:=⋯;have t0:0<=dr%8%E8:=DV _ ⋯;have t1:dr%8%E8<E8:=Int.emod_lt_of_pos _ hmp;have IW:0<E8:=hm;have GV:rows.length<16777216:=⋯;exact#[[(place:Int),((dr%8%E8).toNat:Int),a,b],↑(.im (.int (at':Int))),↑(.im (.int dr)),↑(.im (.int (dr/8))),#[#[place,(dr%8%E8).toNat,a,b,rfl,hp,⋯],rfl],?_];rw[Cw t0];have hr:yn [(place:Int),dr%8%E8,a,b]=.tup [.int place,.int (dr%8%E8),.int a,.int b]:=rfl;rw[hr];rw[show turn (zB 7) bb (.int (0+(k:Int))) [↑(.im (zK ns)),↑(.im (.int E8)),↑(.im (.int num)),↑(.im (.int wide)),↑(.own (.lst rows)),↑(.im (.int place)),↑(.im (.int sz)),none,none,none,none]=bb [↑(.im (zK ns)),↑(.im (.int E8)),↑(.im (.int num)),↑(.im (.int wide)),↑(.own (.lst rows)),↑(.im (.int place)),↑(.im (.int sz)),↑(.im (.int (0+(k:Int)))),none,none,none] from rfl];subst C1;generalize (0+(k:Int))=kk,yX=fc,sE=fco,zK ns=sc at *;rw[seq_eq (J':=[↑(.im sc),↑(.im (.int E8)),↑(.im (.int num)),↑(.im (.int wide)),↑(.own (.lst rows)),↑(.im (.int place)),↑(.im (.int sz)),↑(.im (.int kk)),↑(.im (.int at')),none,none]) (rq (qj (qj (x:=.int wide) (y:=.int place) rfl rfl (pB m1)) (y:=.int kk) rfl (by change ↑(T.int ((wide:Int)*(place:Int)+kk))=_;rw[DH])))];rw[seq_eq (J':=[↑(.im sc),↑(.im (.int E8)),↑(.im (.int num)),↑(.im (.int wide)),↑(.own (.lst rows)),↑(.im (.int place)),↑(.im (.int sz)),↑(.im (.int kk)),↑(.im (.int at')),↑(.im (.int dr)),none]) (by simp[bp,GL,m2,m3,hd,hM])];rw[seq_eq (J':=[↑(.im sc),↑(.im (.int E8)),↑(.im (.int num)),↑(.im (.int wide)),↑(.own (.lst rows)),↑(.im (.int place)),↑(.im (.int sz)),↑(.im (.int kk)),↑(.im (.int at')),↑(.im (.int dr)),↑(.im (.int (dr/8)))]) (by simp[d8])];simp[d125,ha,hb,IW,GV]
def Wc (ns:List Int) (E8 wide place k:Nat) (num sz:Int) (rows:List T) (hm:1<=E8) (hp:place<E8) (hw:wide<=12) (J6:E8<=8) (hl:rows.length<=1000):
  ∃ r x y z,(qT E8 r/\r.head?=↑(place:Int))/\turn (zB 7) pX (.int (0+(k:Int))) [↑(.im (zK ns)),↑(.im (.int E8)),↑(.im (.int num)),↑(.im (.int wide)),↑(.own (.lst rows)),↑(.im (.int place)),↑(.im (.int sz)),none,none,none,none]
   = ↑(.nx [↑(.im (zK ns)),↑(.im (.int E8)),↑(.im (.int num)),↑(.im (.int wide)),↑(.own (.lst (rows++[yn r]))),↑(.im (.int place)),↑(.im (.int sz)),↑(.im (.int (0+(k:Int)))),x,y,z]):=
 by
  exact Wb 999983 2957 ?_ ?_ pX ?_ ns E8 wide place k num sz rows hm hp hw J6 hl
  .lia
  .show λ _=>.inr #[⋯,⋯]
  .unfold pX;rfl
theorem Km (ns:List Int) (E8:Nat) (hm:1<=E8) (J6:E8<=8):∃ ws:List Wy,jh [zK ns,.int E8]=↑(.tup (ws.map ye))/\ws.length<=60/\(∀ w∈ws,w.f<E8/\w.t<E8)/\∀ x<E8,∃ w∈ws,w.f=x:=by
 have hc:=rR ns 3;have c0:=me ns 3;generalize cell ns 3=num at *;have GL:yX [zK ns,.int 3]=↑(.int num):=hc;obtain⟨wide,hw,hw12⟩:∃ wide:Nat,L2.zQ [T.int 3,.int 12] (if E8<3 then 1 else 0)=↑(.int (wide:Int))/\wide<=12:=by
  by_cases h:E8<3
  .rw[if_pos h];show#[12,rfl,()]
  .rw[if_neg h];show#[3,rfl,()]
 let#[J',h1,c,rows,h2,h3,h4,h5]:=uZ (is:=[5,6,7,8,9,10]) (g:=zB 5) (b:=kK) (λ k:Nat=>T.int (0+(k:Int))) (λ p J=>∃ (c:Int) (rows:List (List Int)),J=[↑(.im (zK ns)),↑(.im (.int E8)),↑(.im (.int c)),↑(.im (.int wide)),↑(.own (.lst (rows.map yn))),none,none,none,none,none,none]/\0<=c/\rows.length<=(if E8<3 then 12 else 3)*p.length/\((∀ r∈rows,qT E8 r)/\(∀ x∈p,∃ r∈rows,r.head?=↑(x:Int))))
   (List.range E8) [↑(.im (zK ns)),↑(.im (.int E8)),↑(.im (.int num)),↑(.im (.int wide)),↑(.own (.lst [])),none,none,none,none,none,none] #[num,[],rfl,c0,#[],nofun,nofun] (by
  rintro p k q e J ⟨c,rows,rfl,r0,r1,r2,r3⟩;have hp:p.length<E8:=by have:=congrArg List.length e;simp at this;lia
  have hk:k<E8:=AL.mp (by rw[e];simp);obtain⟨size,hs,s1,s2⟩:∃ size:Nat,(if (E8<3/\c/3%8=1) then 9+(1+c%3) else 1+c%3)=(size:Int)/\1<=size/\size<=(if E8<3 then 12 else 3):=by
   by_cases h:E8<3/\c/3%8=1
   .rw[if_pos h,if_pos h.1];show#[(9+(1+c%3)).toNat,⋯,⋯,⋯]
   .rw[if_neg h];show#[(1+c%3).toNat,⋯,⋯,by split <;> lia]
  have Cg:(if E8<3 then 12 else 3)*p.length<=96:=by split <;> lia
  let#[J2,g1,FE,g2,g3,g4,g5,g6]:=uZ (is:=[7,8,9,10]) (g:=zB 7) (b:=pX) (λ k:Nat=>T.int (0+(k:Int))) (λ p' J=>∃ FE:List (List Int),J=[↑(.im (zK ns)),↑(.im (.int E8)),↑(.im (.int c)),↑(.im (.int wide)),↑(.own (.lst (FE.map yn))),↑(.im (.int k)),↑(.im (.int size)),none,none,none,none]/\FE.length=rows.length+p'.length/\(∀ r∈FE,qT E8 r)/\(∀ r∈rows,r∈FE)/\(p'≠[]->∃ r∈FE,r.head?=↑(k:Int)))
    (List.range size) [↑(.im (zK ns)),↑(.im (.int E8)),↑(.im (.int c)),↑(.im (.int wide)),↑(.own (.lst (rows.map yn))),↑(.im (.int k)),↑(.im (.int size)),none,none,none,none] #[rows,rfl,rfl,r2,λ _ h=>h,λ h=>absurd rfl h] (by
   rintro p' k' q' e' J ⟨FE,rfl,u1,u2,u3,u4⟩;have Hv:p'.length<size:=by have:=congrArg List.length e';simp at this;lia
   have hs12:size<=12:=by split at s2 <;> lia
   let#[r,x,y,z,#[v1,v3],v2]:=Wc ns E8 wide k k' c size (FE.map yn) hm hk hw12 J6 (by simp;lia);exact#[_,v2,FE++[r],#[],by simp[u1];lia,λ r' HG=>?_,λ r' h=>Cu _ (u3 r' h),λ _=>#[r,#[],v3]];rcases A1.mp HG with h | h
   .show u2 r' h
   .cases A2.mp h;show v1)
  subst g2;have BN:=qf size (by split at s2 <;> lia);have d3:xj c 3:=#[(),()];have d24:xj c 24:=#[(),()];exact#[[↑(.im (zK ns)),↑(.im (.int E8)),↑(.im (.int (c/24))),↑(.im (.int wide)),↑(.own (.lst (FE.map yn))),↑(.im (.int (0+(k:Int)))),↑(.im (.int size)),none,none,none,none],?_,c/24,FE,#[],⋯,?_,g4,λ x hx=>?_]
  .unfold turn kK;generalize pX=bb at *;simp![Cq] at g1 BN ⊢;generalize (List.range size).map (λ(k:Nat)=>T.int (k:Int))=RR,FE.map yn=L2',rows.map yn=L1',zK ns=sc at *;by_cases hA:E8<3
   .have Im:(E8:Int)<3:=⋯;by_cases hB:c/3%8=1
    .rw[if_pos #[hA,hB]] at hs;simp[Im,hB,d3,d24,yz,eq_int,hs,BN,g1]
    .rw[if_neg (λ h=>hB h.2)] at hs;simp[Im,hB,d3,d24,yz,eq_int,hs,BN,g1]
   .have Im:¬ (E8:Int)<3:=⋯;rw[if_neg (λ h=>hA h.1)] at hs;simp[Im,d3,d24,yz,eq_int,hs,BN,g1]
  .have:FE.length=rows.length+size:=by exists g3
   rw[Cb,List.length_singleton,Nat.mul_add,Nat.mul_one];lia
  .rcases A1.mp hx with h | h
   .let#[r,h1,h2]:=r3 x h;show#[r,g5 r h1,h2]
   .cases A2.mp h;show g6 (λ h=>by have:=congrArg List.length h;simp at this;lia))
 subst h2;have BN:=qf E8 ⋯;have hlen:rows.length<64:=by
  rw[Cz] at h4;split at h4 <;> lia
 have Aq:rows≠[]:=λ h=>by
  let#[r,hr,_]:=h5.2 0 (AL.mpr ⋯);rw[h] at hr;cases hr
 have Ez:∀ r∈rows,r≠[]:=λ r hr=>by let#[f,t,a,b,rfl,_]:=h5.1 r hr;simp
 have Dp:=Ve rows Aq hlen Ez;have Az:∀ r∈L4.xH (wx rows),qT E8 r:=λ r hr=>h5.1 r (pC.mp ((L4.uA _).mem_iff.mp hr));have hl60:(L4.xH (wx rows)).length<64:=by rw[(L4.uA _).length_eq];have:=lL rows;lia
 have conv:∀ l:List (List Int),(∀ r∈l,qT E8 r)->∃ ws:List Wy,l.map yn=ws.map ye/\ws.length=l.length/\(∀ w∈ws,w.f<E8/\w.t<E8)/\∀ r∈l,∃ w∈ws,r.head?=↑(w.f:Int):=λ l=>by
  induction l with
  | nil=>show λ _=>#[[],rfl,rfl,nofun,nofun]
  | cons r l ih=>
   intro h;let#[ws,e1,e2,e3,e4]:=ih λ x hx=>h x (AA _ hx);let#[f,t,a,b,rfl,hf,ht]:=h r Av;exact#[#[f,t,a,b]::ws,by rw[Ax,Ax,e1];rfl,by simp[e2],λ w hw=>?_,λ r' HG=>?_]
   .rcases Am.mp hw with x | x
    .subst x;show#[hf,ht]
    .show e3 w x
   .rcases Am.mp HG with x | x
    .subst x;show#[_,Av,rfl]
    .let#[w,h1,h2]:=e4 r' x;show#[w,AA _ h1,h2]
 let#[ws,e1,e2,e3,e4]:=conv _ Az;exact#[ws,?_,by
  have hn:(wx rows).length<=rows.length:=lL rows;rw[e2,(L4.uA _).length_eq];rw[Cz] at h4;split at h4 <;> lia,e3,λ x hx=>by
   let#[r,k1,k2]:=h5.2 x (AL.mpr hx);let#[w,k3,k4]:=e4 r ((L4.uA _).mem_iff.mpr (pC.mpr k1));rw[k2] at k4
   injection k4 with k4
   show#[w,k3,⋯]]
 rw[e1] at Dp;unfold jh Xj;generalize kK=bb,ws.map ye=L1,rows.map yn=L2',qd=sv,(List.range E8).map (λ(k:Nat)=>T.int (0+(k:Int)))=RR,yX=fc,zK ns=sc at *;by_cases hA:E8<3
 .have Im:(E8:Int)<3:=⋯;rw[if_pos hA] at hw;simp[GL,yz,Im,hw,BN,h1,Dp]
 .have Im:¬ (E8:Int)<3:=⋯;rw[if_neg hA] at hw;simp[GL,yz,Im,hw,BN,h1,Dp]
def gu (x y:Str):zw false (.str x) (.str y)=↑(.bl (x == y)):=by simp[zw,dep,eqT]
def Vb (M C:Int) (hM:0<M) (hC:∀ i,wj i C) (kk:Str) (bb:Sm) (C1:bb=(zo (zv 4 (zb zR (zb yj (zb yj (zb xc (zq yX (za (zg 0) (za (zb yj (cI 28) (zc 3)) zf))) (cS (.int C))) (zb xc (cI 29) (zc 3))) (cI 5)) (cS (.int M))))
 (zT (tu (zy (zb (zw false) (zb zj (zc 1) (zc 3)) (cS (.str kk)))) (zy (zb (zw false) (zb zR (zc 4) (cI 3)) (cI 1)))) (zo (zv 5 (zb yt (zc 4) (cI 6)))
 (zo (zv 6 (zb yj (cI 1) (zb zj (yO (za (zb zR (zc 5) (cI 3)) (za (zb zR (zc 5) (cI 3)) (za (zb zR (zc 5) (cI 12)) zf)))) (zb zR (zb yt (zc 5) (cI 12)) (cI 3)))))
 (zo (zv 7 (zb zj (yO (za (zb zR (zb yt (zc 5) (cI 36)) (cI 4)) (za (zb zR (zb yt (zc 5) (cI 36)) (cI 4)) (za (zb zR (zb yt (zc 5) (cI 36)) (cI 13)) zf)))) (zb zR (zb yt (zc 5) (cI 468)) (cI 3))))
 (uv 2 (tupS (za (zg 3) (za (zb zR (zb yt (zc 4) (cI 3)) (cI 2)) (za (zg 6) (za (zg 7) zf))))))))) zU)))
  (ns:List Int) (IQ:List T) (place:Nat) (s:Str) (hs:L2.zQ IQ (place:Int)=↑(.str s)) (rows:List T) (hl:rows.length<=1000):
  ∃ more:List Sl,more.length<=1/\(∀ x∈more,(1<=x.gv/\0<=x.gt)/\x.p=place)/\∃ a b c d,turn (zB 3) bb (.int (place:Int)) [↑(.im (zK ns)),↑(.im (.tup IQ)),↑(.own (.lst rows)),none,none,none,none,none]
   = ↑(.nx [↑(.im (zK ns)),↑(.im (.tup IQ)),↑(.own (.lst (rows++more.map ym))),↑(.im (.int (place:Int))),a,b,c,d]):=by
 have hc:=rR ns (28+place);rw[C4] at hc;have GL:yX [zK ns,.int (28+(place:Int))]=↑(.int (cell ns (28+place))):=hc;generalize cell ns (28+place)=ce at *;have m2:wj ce C:=hC ce;have m3:wj 29 (place:Int):=.inl #[(),()];generalize hd:(ce*C+29*(place:Int)+5)%M=dr;have hdr:0<=dr:=by rw[<- hd];show DV _ ⋯
 have d6:xj dr 6:=#[(),()];have d3:xj dr 3:=#[(),()];have r0:0<=dr/6:=⋯;generalize hrs:dr/6=rs at *;have d12:xj rs 12:=#[(),()];have d36:xj rs 36:=#[(),()];have d468:xj rs 468:=#[(),()];let#[gv,hg,g0]:=oV (L:=[T.int (rs%3),.int (rs%3),.int (rs%12)]) (P:=λ v=>0<=v) (by intro y hy;simp![Am,C3,or_false] at hy;rcases hy with rfl | rfl | rfl <;> show#[_,rfl,⋯]) (i:=rs/12%3) ⋯ (by simp;lia);let#[gt,ht,t0]:=oV (L:=[T.int (rs/36%4),.int (rs/36%4),.int (rs/36%13)]) (P:=λ v=>0<=v) (by intro y hy;simp![Am,C3,or_false] at hy;rcases hy with rfl | rfl | rfl <;> show#[_,rfl,⋯]) (i:=rs/468%3) ⋯ (by simp;lia);have GV:rows.length<16777216:=⋯;rw[show turn (zB 3) bb (.int (place:Int)) [↑(.im (zK ns)),↑(.im (.tup IQ)),↑(.own (.lst rows)),none,none,none,none,none]=bb [↑(.im (zK ns)),↑(.im (.tup IQ)),↑(.own (.lst rows)),↑(.im (.int (place:Int))),none,none,none,none] from rfl];subst C1;generalize yX=fc,zK ns=sc at *;rw[seq_eq (J':=[↑(.im sc),↑(.im (.tup IQ)),↑(.own (.lst rows)),↑(.im (.int (place:Int))),↑(.im (.int dr)),none,none,none]) (rq (qj (x:=.int (ce*C+29*(place:Int)+5)) (y:=.int M) (qj (qj (qj (x:=.int ce) (y:=.int C) (by
   change ((za (zg 0) (za (zb yj (cI 28) (zc 3)) zf)) _).bind fc=_;show GL) rfl (pB m2)) (qj (x:=.int 29) (y:=.int place) rfl rfl (pB m3)) rfl) rfl rfl) rfl (by
   change (if 0<M then ↑(T.int ((ce*C+29*(place:Int)+5)%M)) else none)=_;rw[if_pos hM,hd])))]
 by_cases hk:(s == kk)=true/\dr%3=1
 .exact#[[#[place,decide (dr/3%2=1),1+gv,gt]],#[],λ x hx=>by cases A2.mp hx;show#[#[by change 1<=1+gv;lia,t0],rfl],↑(.im (.int dr)),↑(.im (.int rs)),↑(.im (.int (1+gv))),↑(.im (.int gt)),?_];have C0:wu (decide (dr/3%2=1))=dr/3%2:=by
   unfold wu;rcases Int.emod_two_eq (dr/3) with h | h <;> simp[h]
  have Bs:ym #[place,decide (dr/3%2=1),1+gv,gt]=.tup [.int place,.int (dr/3%2),.int (1+gv),.int gt]:=by
   unfold ym;rw[C0]
  rw[Ax,Bi,Bs];simp[hs,gu,hk.1,eq_int,hk.2,d6,d3,hrs,d12,d36,d468,hg,ht,GV]
 .exact#[[],#[],nofun,↑(.im (.int dr)),none,none,none,?_];rw[Bi,Co];by_cases h1:(s == kk)=true
  .have h2:¬ dr%3=1:=λ h=>hk #[h1,h];simp[hs,gu,h1,eq_int,h2]
  .rw[DI] at h1;simp[hs,gu,h1]
theorem Ko (ns:List Int) (os:List Bool) (h8:os.length<=8):∃ ss:List Sl,ji [zK ns,.tup (os.map kt)]=↑(.tup (ss.map ym))/\ss.length<=60/\(∀ s∈ss,1<=s.gv/\0<=s.gt)/\ss.Pairwise (λ a b=>a.p≠b.p):=by
 let#[J',h1,ss,h2,h3,h4,h5,h6]:=uZ (is:=[3,4,5,6,7]) (g:=zB 3) (b:=mx) (λ k:Nat=>T.int (k:Int)) (λ p J=>∃ ss:List Sl,J=[↑(.im (zK ns)),↑(.im (.tup (os.map kt))),↑(.own (.lst (ss.map ym))),none,none,none,none,none]/\ss.length<=p.length/\(∀ s∈ss,1<=s.gv/\0<=s.gt)/\(∀ s∈ss,s.p∈p)/\ss.Pairwise (λ a b=>a.p≠b.p))
   (List.range os.length) [↑(.im (zK ns)),↑(.im (.tup (os.map kt))),↑(.own (.lst [])),none,none,none,none,none] #[[],rfl,Ak _,nofun,nofun,List.Pairwise.nil] (by
  rintro p k q e J ⟨ss,rfl,r1,r2,r3,r4⟩;have hp:p.length<os.length:=by have:=congrArg List.length e;simp at this;lia
  have hk:k<os.length:=AL.mp (by rw[e];simp);obtain⟨s,hs⟩:∃ s:Str,L2.zQ (os.map kt) (k:Int)=↑(.str s):=by
   cases hb:os[k] with
   | true=>show#["keeper",wB (by rw[AJ,AR hk,hb];rfl)]
   | false=>show#["taker",wB (by rw[AJ,AR hk,hb];rfl)]
  let#[more,m1,m2,a,b,c,d,m3]:=Vb 999979 3571 ⋯ (λ _=>.inr #[⋯,⋯]) "keeper" mx (by unfold mx;rfl) ns (os.map kt) k s hs (ss.map ym) (by simp;lia);exact#[_,m3,ss++more,#[],by simp;lia,λ x hx=>?_,λ x hx=>?_,?_]
  .rcases A1.mp hx with h | h
   .show r2 x h
   .show (m2 x h).1
  .rcases A1.mp hx with h | h
   .show Cu _ (r3 x h)
   .rw[(m2 x h).2];simp
  .have Bm:=DT (n:=os.length);rw[e] at Bm;exact Ed.mpr #[r4,?_,λ a ha b hb=>?_]
   .match more,m1 with
    | [],_=>show List.Pairwise.nil
    | [_],_=>show D6 _ _
    | _::_::_,m=>simp at m
   .rw[(m2 b hb).2];show (D8.mp Bm).2.2 a.p (r3 a ha) k Av)
 subst h2;rw[Cz] at h3;exact#[ss,?_,⋯,h4,h6];have hr:=qf os.length ⋯;simp![Cq] at hr;unfold ji Xk;generalize mx=bb,(List.range os.length).map (λ(k:Nat)=>T.int (k:Int))=R at *;have hlen:(os.map kt).length=os.length:=#[];generalize os.map kt=L1,ss.map ym=L2',zK ns=sc at *;simp[hlen,hr,h1]
theorem K0 (ns:List Int):∃ F:zt,mE [zK ns]=↑(zm F)/\F.Ok/\(∀ x<F.os.length,∃ w∈F.ws,w.f=x)/\F.ss.Pairwise (λ a b=>a.p≠b.p):=by
 have hc:=rR ns 0;have c0:=me ns 0;generalize cell ns 0=num at *;have GL:yX [zK ns,.int 0]=↑(.int num):=hc;have d8:xj num 8:=#[(),()];let#[mi,hm,m1,m8]:=oV (L:=[T.int 2,.int 3,.int 1,.int 4,.int 3,.int 2,.int 4,.int (5+num/8%4)]) (P:=λ v=>1<=v/\v<=8) (by intro y hy;simp![Am,C3,or_false] at hy;rcases hy with rfl | rfl | rfl | rfl | rfl | rfl | rfl | rfl <;> show#[_,rfl,⋯,⋯]) (i:=num%8) ⋯ (by simp;lia);obtain⟨E8,rfl⟩:∃ k:Nat,mi=(k:Int):=#[mi.toNat,⋯];let#[os,h1,o1]:=Ku ns E8 ⋯;let#[A,B,h2,a1,b1,ab]:=KI ns E8;let#[ws,h3,w1,w2,w3]:=Km ns E8 ⋯ ⋯;let#[ss,h4,s1,s2,s3]:=Ko ns os ⋯;have he:zw false (.tup [.int A,.int B]) (.tup [.int 12,.int 12])=↑(.bl (decide (A=12/\B=12))):=by
  by_cases x:A=12 <;> by_cases y:B=12 <;> simp[zw,dep,xA,eqT,x9,x,y]
 have JC:zb zj (yO (za (cI 2) (za (cI 3) (za (cI 1) (za (cI 4) (za (cI 3) (za (cI 2) (za (cI 4) (za (zb yj (cI 5) (zb zR (zb yt (zc 1) (cI 8)) (cI 4))) zf))))))))) (zb zR (zc 1) (cI 8)) [↑(.im (zK ns)),↑(.im (.int num)),none,none,none,none,none]=↑(.int E8):=by
  generalize zK ns=sc at *;simp[d8,hm]
 have hif:zT (tu (zy (zb (zw false) (zc 4) (tupS (za (cI 12) (za (cI 12) zf))))) (w9 (zy (zb pQ (zq xZ (za (zc 5) zf)) (cI 6))) (zy (zb pQ (zq xZ (za (zc 6) zf)) (cI 0))))) (zv 4 (tupS (za (cI 12) (za (cI 3) zf)))) zU [↑(.im (zK ns)),↑(.im (.int num)),↑(.im (.int E8)),↑(.im (.tup (os.map kt))),↑(.im (.tup [.int A,.int B])),↑(.im (.tup (ws.map ye))),↑(.im (.tup (ss.map ym)))] =
   ↑(.nx [↑(.im (zK ns)),↑(.im (.int num)),↑(.im (.int E8)),↑(.im (.tup (os.map kt))),↑(.im (if (A=12/\B=12)/\(6<ws.length\/0<ss.length) then .tup [.int 12,.int 3] else .tup [.int A,.int B])),↑(.im (.tup (ws.map ye))),↑(.im (.tup (ss.map ym)))]):=by
  have l1:(ws.map ye).length=ws.length:=#[];have l2:(ss.map ym).length=ss.length:=#[];generalize ws.map ye=L1,ss.map ym=L2',zK ns=sc at *;have i6:(6:Int)<ws.length↔6<ws.length:=⋯;have i0:(0:Int)<ss.length↔0<ss.length:=⋯;by_cases J9:A=12/\B=12
  .rw[zaA J9] at he;let#[rfl,rfl]:=J9;by_cases h6:6<ws.length <;> by_cases h0:0<ss.length <;> simp[he,l1,l2,i6,i0,h6,h0]
  .rw[za5 J9] at he;simp[he,J9]
 have main:mE [zK ns]=↑(.tup [if (A=12/\B=12)/\(6<ws.length\/0<ss.length) then .tup [.int 12,.int 3] else .tup [.int A,.int B],.tup (os.map kt),.tup (ws.map ye),.tup (ss.map ym)]):=by
  suffices h:Xm [↑(.im (zK ns)),none,none,none,none,none,none]=↑(.rt (.tup [if (A=12/\B=12)/\(6<ws.length\/0<ss.length) then .tup [.int 12,.int 3] else .tup [.int A,.int B],.tup (os.map kt),.tup (ws.map ye),.tup (ss.map ym)])) by
   unfold mE zH;show (if_pos rfl).trans (congrArg lI h)
  show (seq_eq (rq GL)).trans ((seq_eq (rq JC)).trans ((seq_eq (rq h1)).trans ((seq_eq (rq h2)).trans ((seq_eq (rq h3)).trans ((seq_eq (rq h4)).trans ((seq_eq hif).trans rfl))))))
 by_cases Cg:(A=12/\B=12)/\(6<ws.length\/0<ss.length)
 .rw[if_pos Cg] at main;show#[#[12,3,os,ws,ss],main,#[by change (0:Int)<=12;decide,by change (12:Int)<=12;decide,by change (0:Int)<=3;decide,by change (3:Int)<=12;decide,by change 1<=os.length;lia,by change os.length<=8;lia,λ w hw=>by change w.f<os.length/\w.t<os.length;rw[o1];show w2 w hw,w1,s2,.inr (by change ((12:Int)+1)*(3+1)<64;decide),s1],by change ∀ x<os.length,_;rw[o1];show w3,s3]
 .rw[if_neg Cg] at main;exact#[#[A,B,os,ws,ss],main,#[a1.1,a1.2,b1.1,b1.2,by change 1<=os.length;lia,by change os.length<=8;lia,λ w hw=>by change w.f<os.length/\w.t<os.length;rw[o1];show w2 w hw,w1,s2,?_,s1],by change ∀ x<os.length,_;rw[o1];show w3,s3];change ss=[]\/(A+1)*(B+1)<64;rcases ab with x | x
  .exact .inl ?_;cases ss with
   | nil=>rfl
   | cons a l=>show absurd #[x,.inr #[]] Cg
  .show .inr x
def mi (x y:Int):(if y<x then y else x)=min x y:=by split <;> lia
def xW (o:Option (Int×Int)):T:=match o with
 | none=>.zh
 | some r=>zl r
def aH (F:zt):zj (zm F) (.int 0)=↑(.tup [.int F.A,.int F.B]):=by simp[zm]
def aG (F:zt):zj (zm F) (.int 1)=↑(.tup (F.os.map kt)):=by simp[zm]
def aF (F:zt):zj (zm F) (.int 2)=↑(.tup (F.ws.map ye)):=by simp[zm]
theorem Kn (F:zt) (q:Int×Int) {i:Nat}{w:Wy}(hw:F.ws[i]?=↑w):oq [zm F,zl q,.int (i:Int)]=↑(xW (oJ F q w)):=by
 have Ia:=aH F;have Hl:=aF F;have hi:L2.zQ (F.ws.map ye) (i:Int)=↑(.tup [.int w.f,.int w.t,.int w.a,.int w.b]):=wB (by rw[AJ,hw];rfl);have hc:uJ [T.int w.f,.int w.t,.int w.a,.int w.b] ↑2 none=[.int w.a,.int w.b]:=rfl;unfold oq Xa oJ zl;generalize F.ws.map ye=WS,zm F=fl at *;simp![zj] at Ia Hl;by_cases h1:q.1+w.a<0
 .simp[h1,yz,xW,Hl,hi,hc]
 .by_cases h2:q.2+w.b<0
  .simp[h1,h2,yz,xW,Hl,hi,hc]
  .simp[h1,h2,yz,xW,Ia,Hl,hi,hc,mi,zl]
theorem Yx {F:zt}{l:List Bd}{q:Int×Int}{i:Nat}{w:Wy}(hw:F.ws[i]?=↑w) (ht:w.t<l.length) (hb:(l.getD w.t []).length<=10000):sD [zm F,zl q,.int (i:Int),rT l]=↑(.bl (yI F l q w)):=by
 have Hl:=aF F;have hi:L2.zQ (F.ws.map ye) (i:Int)=↑(ye w):=wB (by rw[AJ,hw];rfl);have h1:zj (ye w) (.int 1)=↑(.int w.t):=by simp[ye]
 have h2:=Kn F q hw;have h3:=nu l w.t ht;unfold yI;cases ho:oJ F q w with
 | none=>
  rw[ho] at h2;have i1:yM true .zh .zh=↑(.bl false):=rfl;unfold sD fT;generalize oq=f1,sF=f2,zm F=fl,zl q=pq,rT l=rl at *;simp[h2,xW,i1]
 | some r=>
  rw[ho] at h2;have h4:=fH (l.getD w.t []) r hb;have i1:yM true (zl r) .zh=↑(.bl true):=rfl;unfold sD fT;generalize oq=f1,sF=f2,bT (l.getD w.t [])=bt,F.ws.map ye=WS,ye w=wt,zm F=fl,zl q=pq,rT l=rl at *;simp![zj] at Hl h1 h3;simp![xW] at h2;generalize zl r=rr at *;simp[h2,i1,Hl,hi,h1,h3,h4]
def pV (F:zt) (s:Sl) (q:Int×Int) (k:Nat):Int×Int:=yL s.pu (zP s.pu q-k*s.gv) (min (yp s.pu q+k*s.gt) (F.zS (!s.pu)))
theorem Z6 {F:zt}{s:Sl}(hs:1<=s.gv/\0<=s.gt):∀ (n:Nat) {q:Int×Int},yR F q->zP s.pu q<n->∀ k:Nat,(vN F s n q)[k]?=if (k:Int)*s.gv<=zP s.pu q then ↑(pV F s q k) else none
 | 0,q,h,hn,_=>by
  have:=(vF (pu:=s.pu).mp h).1.1;lia
 | n+1,q,h,hn,0=>by
  have h':=vF (pu:=s.pu).mp h;unfold vN pV;rw[List.getElem?_cons_zero,if_pos (by simp;lia)];simp![Int.natCast_zero,Int.zero_mul,Int.sub_zero,Int.add_zero];rw[Int.min_eq_left h'.2.2,oS]
 | n+1,q,h,hn,k+1=>by
  have h':=vF (pu:=s.pu).mp h;have e1:((k+1:Nat):Int)*s.gv=k*s.gv+s.gv:=by rw[BV,Ci];lia
  have e2:((k+1:Nat):Int)*s.gt=k*s.gt+s.gt:=by rw[BV,Ci];lia
  have k0:0<=(k:Int)*s.gt:=Cp ⋯ hs.2;have k1:0<=(k:Int)*s.gv:=Cp ⋯ ⋯;unfold vN;rw[DR];by_cases hg:s.gv<=zP s.pu q
  .rw[if_pos hg];have hi:yR F (yL s.pu (zP s.pu q-s.gv) (min (yp s.pu q+s.gt) (F.zS (!s.pu)))):=by
    rw[vF (pu:=s.pu),vG,tT];lia
   rw[Z6 hs n hi (by rw[vG];lia) k,vG];unfold pV;rw[vG,tT,e1,e2];by_cases hk:(k:Int)*s.gv<=zP s.pu q-s.gv
   .rw[if_pos hk,if_pos ⋯];congr 2
    .lia
    .lia
   .rw[if_neg hk,if_neg ⋯]
  .rw[if_neg hg,e1,if_neg ⋯];rfl
def K9 (mw:T->T->Option T) {F:zt}{s:Sl}{q:Int×Int}{k:Nat}(hb:Xx=(zo (zv 4 (zb zj (zc 1) (cI 1)))
 (zo (zv 5 (zb xP (zb zj (zc 2) (zc 4)) (zb mw (zc 3) (zb zj (zc 1) (cI 2)))))
 (zo (zT (zy (zb yz (zc 5) (cI 0))) (retS (cS .zh)) zU)
 (zo (zv 6 (zq uC (za (zb yj (zb zj (zc 2) (zb xP (cI 1) (zc 4))) (zb mw (zc 3) (zb zj (zc 1) (cI 3)))) (za (zb zj (zc 0) (zb xP (cI 1) (zc 4))) zf))))
 (zo (zT (zy (zb (zw false) (zc 4) (cI 0))) (retS (tupS (za (zg 5) (za (zg 6) zf)))) zU)
 (retS (tupS (za (zg 6) (za (zg 5) zf))))))))))
  (m1:mw (.int (k:Int)) (.int s.gv)=↑(.int (k*s.gv))) (m2:mw (.int (k:Int)) (.int s.gt)=↑(.int (k*s.gt))):qN [.tup [.int F.A,.int F.B],ym s,zl q,.int (k:Int)]=↑(xW (if (k:Int)*s.gv<=zP s.pu q then ↑(pV F s q k) else none)):=by
 unfold qN;rw[hb];unfold ym zl pV;generalize (k:Int)*s.gv=x at *;generalize (k:Int)*s.gt=y at *;cases C0:s.pu with
 | true=>
  by_cases h:x<=q.2
  .have h':¬ q.2-x<0:=⋯;simp[wu,m1,m2,h,h',yz,zP,C0,xW,mi,eq_int,zl,yL,yp,zt.zS]
  .have h':q.2-x<0:=⋯;simp[wu,m1,m2,h,h',yz,zP,C0,xW]
 | false=>
  by_cases h:x<=q.1
  .have h':¬ q.1-x<0:=⋯;simp[wu,m1,m2,h,h',yz,zP,C0,xW,mi,eq_int,zl,yL,yp,zt.zS]
  .have h':q.1-x<0:=⋯;simp[wu,m1,m2,h,h',yz,zP,C0,xW]
def KA {F:zt}{s:Sl}{q:Int×Int}{k:Nat}(hk:k<=100):qN [.tup [.int F.A,.int F.B],ym s,zl q,.int (k:Int)]=↑(xW (if (k:Int)*s.gv<=zP s.pu q then ↑(pV F s q k) else none)):=
 K9 xc rfl (pB (.inl #[⋯,⋯])) (pB (.inl #[⋯,⋯]))
def Z4 (F:zt) (p:Nat) (q:Int×Int):(xq F p q)[0]?=↑q:=by
 unfold xq;cases F.FN p with
 | none=>rfl
 | some s=>rfl
theorem KG {F:zt}(ok:F.Ok) {p:Nat}(hp:p<F.os.length) {q:Int×Int}(hq:yR F q) {k:Nat}(hk:k<=100):qO [zm F,.int (p:Int),zl q,.int (k:Int)]=↑(xW (xq F p q)[k]?):=by
 cases k with
 | zero=>
  rw[Z4];unfold qO ju xW zl;simp[eq_int]
 | succ k=>
  have hk0:¬ ((k:Int)+1=0):=⋯;have h1:=Yw F p hp ok.s8;have Ia:=aH F;unfold xq;cases hs:F.FN p with
  | none=>
   rw[hs] at h1;have i1:yM false .zh .zh=↑(.bl true):=rfl;unfold qO ju;generalize tE=f1,qN=f2,zm F=fl,zl q=pq at *;simp[eq_int,hk0,h1,i1,xW]
  | some s=>
   rw[hs] at h1;have GR:=ok.ss s (C6 hs);have hgv:zP s.pu q<20:=by
    have:=vF (pu:=s.pu).mp hq;have:F.zS s.pu<=12:=by have:=ok.a1;have:=ok.b1;unfold zt.zS;split <;> assumption
    lia
   have h2:=KA (F:=F) (s:=s) (q:=q) (k:=k+1) hk;rw[<- Z6 GR 20 hq ⋯] at h2;rw[BV] at h2;have i1:yM false (ym s) .zh=↑(.bl false):=rfl;unfold qO ju;dsimp only;generalize (vN F s 20 q)[k+1]?=oo,tE=f1,qN=f2,zm F=fl,zl q=pq at *;dsimp only at h1;generalize ym s=sl at *;simp![zj] at Ia;simp[eq_int,hk0,h1,i1,Ia,h2]
def yH (F:zt) (p:Nat):List (Wy×Nat):=F.ws.zipIdx.filter λ wi=>decide (wi.1.f=p)
def jz {F:zt}{p:Nat}{wi:Wy×Nat}(h:wi∈yH F p):F.ws[wi.2]?=↑wi.1/\wi.1.f=p:=by
 let#[h1,h2]:=Be.mp h;show#[zcG.mp h1,of_decide_eq_true h2]
def Wa {F:zt}{p:Nat}(t:Wy->Bool):(yH F p).any (λ wi=>t wi.1)=(tI F p).any t:=by
 unfold tI;rw[<- mX (λ w=>decide (w.f=p)) F.ws 0,List.any_map];rfl
def rj (F:zt) (l:List Bd) (p:Nat):Nat->List (Int×Int)->Option (Nat×Nat)
 | _,[]=>none
 | k,r::cs=>match (yH F p).find? (λ wi=>yI F l r wi.1) with
  | some wi=>↑(k,wi.2)
  | none=>rj F l p (k+1) cs
def dT (o:Option (Nat×Nat)):T:=match o with
 | none=>.zh
 | some x=>.tup [.int (x.1:Int),.int (x.2:Int)]
theorem Z5 {F:zt}{s:Sl}:∀ (n:Nat) (q:Int×Int),(vN F s n q).length<=n+1
 | 0,q=>by unfold vN;simp
 | n+1,q=>by
  unfold vN;rw[A9];split
  .have:=Z5 n (F:=F) (s:=s) (yL s.pu (zP s.pu q-s.gv) (min (yp s.pu q+s.gt) (F.zS (!s.pu))));lia
  .simp
def Lf (F:zt) (p:Nat) (q:Int×Int):(xq F p q).length<=21:=by
 unfold xq;cases F.FN p with
 | none=>simp
 | some s=>show Z5 20 q
def yK (F:zt) (l:List Bd) (p:Nat) (q:Int×Int) (k:Nat):Ev:=[↑(.im (zm F)),↑(.im (.int (p:Int))),↑(.im (zl q)),↑(.im (rT l)),↑(.im (.lst ((yH F p).map λ wi=>T.int (wi.2:Int)))),↑(.im (.int (k:Int))),↑(.im (xW (xq F p q)[k]?)),none]
def ML {F:zt}(ok:F.Ok) {l:List Bd}(hl:l.length=F.os.length) (hb:∀ b∈l,b.length<=10000) {p:Nat}{q r:Int×Int}{k:Nat}(hr:(xq F p q)[k]?=↑r) {wi:Wy×Nat}(hw:wi∈yH F p):
  ∃ J',yC [7] J'=yK F l p q k/\turn (zB 7) qD (T.int (wi.2:Int)) (yK F l p q k)=↑(if yI F l r wi.1=true then .rt (.tup [.int (k:Int),.int (wi.2:Int)]) else .nx J'):=by
 have hE:yK F l p q k=[↑(.im (zm F)),↑(.im (.int (p:Int))),↑(.im (zl q)),↑(.im (rT l)),↑(.im (.lst ((yH F p).map λ wi=>T.int (wi.2:Int)))),↑(.im (.int (k:Int))),↑(.im (zl r)),none]:=by unfold yK;rw[hr];rfl
 let#[h1,h2]:=jz hw;have ht:=(ok.ws wi.1 (BM h1)).2;have ht':wi.1.t<l.length:=⋯;have h3:=Yx (F:=F) (l:=l) (q:=r) h1 ht' (by
  rw[A6,AR ht'];show hb _ (Bp ht'))
 exact#[(yK F l p q k).set 7 ↑(.im (.int (wi.2:Int))),by rw[hE];simp,?_];rw[hE];unfold turn qD;generalize sD=f1,zm F=fl,zl r=pr,zl q=pq,rT l=rl,(yH F p).map (λ wi=>T.int (wi.2:Int))=WS at *;cases hc:yI F l r wi.1 <;> rw[hc] at h3 <;> simp[h3]
def MM {F:zt}(ok:F.Ok) {l:List Bd}(hl:l.length=F.os.length) (hb:∀ b∈l,b.length<=10000) {p:Nat}{q r:Int×Int}{k:Nat}(hr:(xq F p q)[k]?=↑r):
  xY [7] (zB 7) qD ((yH F p).map λ wi=>T.int (wi.2:Int)) (yK F l p q k)=↑(match (yH F p).find? (λ wi=>yI F l r wi.1) with | some wi=>.rt (.tup [.int (k:Int),.int (wi.2:Int)]) | none=>.nx (yK F l p q k)):=by
 have hE:yK F l p q k=[↑(.im (zm F)),↑(.im (.int (p:Int))),↑(.im (zl q)),↑(.im (rT l)),↑(.im (.lst ((yH F p).map λ wi=>T.int (wi.2:Int)))),↑(.im (.int (k:Int))),↑(.im (zl r)),none]:=by unfold yK;rw[hr];rfl
 have key:=lT (is:=[7]) (g:=zB 7) (b:=qD) (λ wi:Wy×Nat=>T.int (wi.2:Int)) (λ wi=>.tup [.int (k:Int),.int (wi.2:Int)]) (λ wi=>yI F l r wi.1) (yK F l p q k) (yH F p) (yK F l p q k) (by rw[hE];simp) λ wi hw=>ML ok hl hb hr hw;rw[key];cases (yH F p).find? (λ wi=>yI F l r wi.1) <;> rfl
theorem Zf {F:zt}(ok:F.Ok) {l:List Bd}(hl:l.length=F.os.length) (hb:∀ b∈l,b.length<=10000) {p:Nat}(hp:p<F.os.length) {q:Int×Int}(hq:yR F q):∀ (cs:List (Int×Int)) (k m:Nat),(xq F p q).drop k=cs->k+cs.length<=21->cs.length<m->
  xD [7] (zy (zb (yM true) (zc 6) (cS .zh))) rp m (yK F l p q k)=↑(match rj F l p k cs with | some x=>.rt (dT ↑x) | none=>.nx (yK F l p q (k+cs.length)))
 | [],k,m+1,h,hk,hm=>by
  have hn:(xq F p q)[k]?=none:=by
   have:=congrArg List.length h;simp at this;show Df ⋯
  have i1:yM true .zh .zh=↑(.bl false):=rfl;have hE:yK F l p q k=[↑(.im (zm F)),↑(.im (.int (p:Int))),↑(.im (zl q)),↑(.im (rT l)),↑(.im (.lst ((yH F p).map λ wi=>T.int (wi.2:Int)))),↑(.im (.int (k:Int))),↑(.im .zh),none]:=by unfold yK;rw[hn];rfl
  unfold xD rj;change _=↑(Out.nx (yK F l p q k));rw[hE];simp[i1]
 | r::cs,k,m+1,h,hk,hm=>by
  have hr:(xq F p q)[k]?=↑r:=by
   have:=congrArg (λ x=>x[0]?) h;exists this
  have hd:(xq F p q).drop (k+1)=cs:=by
   have:=congrArg List.tail h;rw[List.tail_drop] at this;exists this
  have hlen:(r::cs).length=cs.length+1:=rfl;have hf:=MM ok hl hb hr (p:=p);have hc:=KG ok hp hq (k:=k+1) ⋯;rw[BV] at hc;have i1:yM true (zl r) .zh=↑(.bl true):=rfl;have hE:yK F l p q k=[↑(.im (zm F)),↑(.im (.int (p:Int))),↑(.im (zl q)),↑(.im (rT l)),↑(.im (.lst ((yH F p).map λ wi=>T.int (wi.2:Int)))),↑(.im (.int (k:Int))),↑(.im (zl r)),none]:=by unfold yK;rw[hr];rfl
  have AI:yC [7] (yK F l p q k)=yK F l p q k:=by rw[hE];simp
  have Ju:zy (zb (yM true) (zc 6) (cS .zh)) (yK F l p q k)=↑true:=by rw[hE];simp[i1]
  unfold xD rj;rw[AI,Ju,BL,if_pos rfl];cases ho:(yH F p).find? (λ wi=>yI F l r wi.1) with
  | some wi=>
   rw[ho] at hf;have:rp (yK F l p q k)=↑(.rt (.tup [.int (k:Int),.int (wi.2:Int)])):=by
    unfold rp;rw[hE] at hf ⊢;generalize qD=b1 at *;simp[hf]
   rw[this];rfl
  | none=>
   rw[ho] at hf;have Ik:rp (yK F l p q k)=↑(.nx (yK F l p q (k+1))):=by
    unfold rp;have hE2:yK F l p q (k+1)=[↑(.im (zm F)),↑(.im (.int (p:Int))),↑(.im (zl q)),↑(.im (rT l)),↑(.im (.lst ((yH F p).map λ wi=>T.int (wi.2:Int)))),↑(.im (.int ((k:Int)+1))),↑(.im (xW (xq F p q)[k+1]?)),none]:=by unfold yK;rw[BV]
    rw[hE2];rw[hE] at hf ⊢;generalize qD=b1,qO=f1,xW (xq F p q)[k+1]?=s1,zm F=fl,zl r=pr,zl q=pq,rT l=rl,(yH F p).map (λ wi=>T.int (wi.2:Int))=WS at *;simp at hf;simp[hf,hc]
   rw[Ik,BL];change xD [7] _ rp m (yK F l p q (k+1))=_;rw[Zf ok hl hb hp hq cs (k+1) m hd ⋯ ⋯,hlen];rw[show k+1+cs.length=k+(cs.length+1) by lia]
theorem K6 {F:zt}(ok:F.Ok) {l:List Bd}(hl:l.length=F.os.length) (hb:∀ b∈l,b.length<=10000) {p:Nat}(hp:p<F.os.length) {q:Int×Int}(hq:yR F q):mJ [zm F,.int (p:Int),zl q,rT l]=↑(dT (rj F l p 0 (xq F p q))):=by
 have h1:=fF F p hp ok.sM;have hl21:=Lf F p q;have hw:=Zf ok hl hb hp hq (xq F p q) 0 1000000 rfl ⋯ ⋯;have hE:yK F l p q 0=[↑(.im (zm F)),↑(.im (.int (p:Int))),↑(.im (zl q)),↑(.im (rT l)),↑(.im (.lst ((yH F p).map λ wi=>T.int (wi.2:Int)))),↑(.im (.int 0)),↑(.im (zl q)),none]:=by unfold yK;rw[Z4];rfl
 rw[hE] at hw;replace h1:u7 [zm F,.int (p:Int)]=↑(.lst ((yH F p).map λ wi=>T.int (wi.2:Int))):=h1;unfold mJ Xv rW;generalize yK F l p q (0+(xq F p q).length)=EE,zy (zb (yM true) (zc 6) (cS .zh))=tt,rp=b2,u7=f1,(1000000:Nat)=M,zm F=fl,zl q=pq,rT l=rl,(yH F p).map (λ wi=>T.int (wi.2:Int))=WS at *;cases hd:rj F l p 0 (xq F p q) with
 | some x=>rw[hd] at hw;simp at hw;simp[h1,hw]
 | none=>rw[hd] at hw;simp at hw;simp[h1,hw,dT]
structure Fix (F:zt) (l:List Bd):Prop where
 ok:F.Ok
 len:l.length=F.os.length
 gd:∀ b∈l,Gd F.A F.B b
 pw:F.ss.Pairwise (λ a b=>a.p≠b.p)
 go:∀ p<F.os.length,∀ q,yR F q->zG (l.getD p []) q=kf F l p q
section
variable {F:zt}{l:List Bd}
def Fix.at (X:Fix F l) {p:Nat}(hp:p<F.os.length):Gd F.A F.B (l.getD p []):=by
 have Hv:p<l.length:=by rw[X.len];show hp
 rw[A6,AR Hv];show X.gd _ (Bp Hv)
def Fix.sz (X:Fix F l):∀ b∈l,b.length<=10000:=λ b hb=>by
 have:=(X.gd b hb).u_ X.ok.a0;have:=X.ok.a1;lia
def Fix.WX (X:Fix F l) {p:Nat}(hp:p<F.os.length):(l.getD p []).length<=10000:=by
 have:=(X.at hp).u_ X.ok.a0;have:=X.ok.a1;lia
def cK {p:Nat}(hp:p<F.os.length):L2.zQ (F.os.map kt) (p:Int)=↑(kt (F.os.getD p false)):=wB (by rw[AJ,A6,AR hp];rfl)
theorem OZ (b:Bool):zw true (kt b) (.str "keeper")=↑(.bl (!b)):=by
 have h:(("taker":Str) == ("keeper":Str))=false:=()
 cases b
 .change zw true (.str "taker") (.str "keeper")=_;simp[zw,dep,eqT,h]
 .change zw true (.str "keeper") (.str "keeper")=_;simp[zw,dep,eqT]
theorem OY (b:Bool):zw false (kt b) (.str "keeper")=↑(.bl b):=by
 have h:(("taker":Str) == ("keeper":Str))=false:=()
 cases b
 .change zw false (.str "taker") (.str "keeper")=_;simp[zw,dep,eqT,h]
 .change zw false (.str "keeper") (.str "keeper")=_;simp[zw,dep,eqT]
end
def KO {F:zt}{pre:List (List Bd)}{lst:List Bd}(hr:sA [zm F]=↑(.lst ((pre++[lst]).map rT))):sG [zm F]=↑(rT lst):=by
 have EN:L2.zQ ((pre++[lst]).map rT) (-1)=↑(rT lst):=by
  rw[B_];show gX
 unfold sG Xz;generalize (pre++[lst]).map rT=L,sA=f1,zm F=fl at *;simp[hr,EN]
def Ml {F:zt}(ok:F.Ok) (EA:F.ss.Pairwise (λ a b=>a.p≠b.p)) {m:Nat}(hg:∀ b∈zC F m,Gd F.A F.B b) (AH:zC F (m+1)=zC F m):Fix F (zC F m):=by
 exact#[ok,pJ F m,hg,EA,λ p hp q hq=>?_];have hg':∀ p,Gd F.A F.B ((zC F m).getD p []):=λ p=>by
  rcases BF p (zC F m).length with h | h
  .rw[A6,AR h];show hg _ (Bp h)
  .rw[A6,Df h];show Gd.nil
 have e:(zC F m).getD p []=yA F (zC F m) p:=by
  have:(zC F (m+1)).getD p []=yA F (zC F m) p:=nF (λ p=>yA F (zC F m) p) F.os.length p [] hp;rw[AH] at this;show this
 rw[e];show bj ok hg' p hq
def wX (Fc:List (List Bd)):T:=.lst (Fc.map rT)
def rg (Fc:List (List Bd)) (p:Nat) (q:Int×Int):Option Nat:=(List.range Fc.length).find? λ k=>!zG ((Fc.getD k []).getD p []) q
def rf (o:Option Nat):T:=match o with
 | some k=>.int (k:Int)
 | none=>.zh
def W4 {Fc:List (List Bd)}{n:Nat}(h:∀ r∈Fc,r.length=n) {k:Nat}(hk:k<Fc.length):(Fc.getD k []).length=n:=by
 rw[A6,AR hk];show h _ (Bp hk)
theorem K1 (Fc:List (List Bd)) (n p:Nat) (q:Int×Int) (hn:∀ r∈Fc,r.length=n) (hb:∀ r∈Fc,∀ b∈r,b.length<=100) (hp:p<n):o4 [wX Fc,.int p,zl q]=↑(rf (rg Fc p q)):=by
 have hl:=lT (is:=[3,4]) (g:=vk 2 (xg (zB 3) (xg (zB 4) ud))) (b:=kP) (λ k:Nat=>T.tup [.int (k:Int),rT (Fc.getD k [])]) (λ k:Nat=>T.int (k:Int)) (λ k=>!zG ((Fc.getD k []).getD p []) q) [↑(.im (wX Fc)),↑(.im (.int p)),↑(.im (zl q)),none,none] (List.range Fc.length) [↑(.im (wX Fc)),↑(.im (.int p)),↑(.im (zl q)),none,none] #[] λ k hk=>#[[↑(.im (wX Fc)),↑(.im (.int p)),↑(.im (zl q)),↑(.im (.int (k:Int))),↑(.im (rT (Fc.getD k [])))],#[],by
  have GX:=AL.mp hk;have hlen:=W4 hn GX;have e1:=nu (Fc.getD k []) p ⋯;have e2:=fH ((Fc.getD k []).getD p []) q (by
   have hm:Fc.getD k []∈Fc:=by rw[A6,AR GX];show Bp GX
   have Ik:(Fc.getD k []).getD p []∈Fc.getD k []:=by
    have:p<(Fc.getD k []).length:=⋯;rw[A6 (l:=Fc.getD k []),AR this];show Bp this
   have:=hb _ hm _ Ik;lia)
  unfold turn kP;generalize (Fc.getD k []).getD p []=bd,rT (Fc.getD k [])=rk,sF=ff,wX Fc=tt,zl q=pq at *;simp![zj] at e1;cases hc:zG bd q <;> rw[hc] at e2 <;> simp[e1,e2]]
 have he:vL [wX Fc]=↑((List.range Fc.length).map λ k:Nat=>T.tup [.int (k:Int),rT (Fc.getD k [])]):=by
  have:=gz rT [] Fc Fc 0 λ i=>by rw[C7]
  simp![C7] at this;change ↑(tZ 0 (Fc.map rT))=_;rw[this]
 unfold o4 Xt rg rf;generalize kP=bb,vL=en,wX Fc=tt,zl q=pq,(List.range Fc.length).map (λ k:Nat=>T.tup [.int (k:Int),rT (Fc.getD k [])])=LL at *;generalize (List.range Fc.length).find? _=o at *;simp[he,hl];cases o <;> simp
structure rE (F:zt) (m:Nat):Prop where
 fx:Fix F (zC F m)
 gd:∀ k,k<=m->∀ b∈zC F k,Gd F.A F.B b
def xk (F:zt) (m:Nat):List (List Bd):=(List.range (m+1)).map (zC F)
section
variable {F:zt}{m:Nat}
def W0 (F:zt) (m:Nat):(xk F m).length=m+1:=by unfold xk;simp
def W3 {k:Nat}(h:k<=m):(xk F m).getD k []=zC F k:=nF (zC F) (m+1) k [] ⋯
def rE.ay (R:rE F m) {k:Nat}(hk:k<=m) (p:Nat):Gd F.A F.B ((zC F k).getD p []):=by
 rcases BF p (zC F k).length with h | h
 .rw[A6,AR h];show R.gd k hk _ (Bp h)
 .rw[A6,Df h];show Gd.nil
theorem Za {p:Nat}{q:Int×Int}{k:Nat}(h:rg (xk F m) p q=↑k):k<=m/\zG ((zC F k).getD p []) q=false:=by
 unfold rg at h;have h1:=AL.mp (C6 h);rw[W0] at h1;have h2:=List.find?_some h;rw[W3 ⋯] at h2;show#[⋯,by exists h2]
def MA {p:Nat}(hp:p<F.os.length) {q:Int×Int}(hq:yR F q):rg (xk F m) p q≠↑0:=λ h=>by
 let#[_,h2]:=Za h;have e1:(zC F 0).getD p []=xr:=by
  change (RN.start F).getD p []=xr;unfold RN.start;rw[A6,Dh,if_pos hp];rfl
 rw[e1,Zu.mpr #[hq.1.1,hq.2.1]] at h2;cases h2
def W2 {k:Nat}(h:k<=m):L2.zQ ((xk F m).map rT) (k:Int)=↑(rT (zC F k)):=wB (by
 unfold xk;rw[A5,AJ,Ea ⋯];rfl)
theorem eW (R:rE F m):(∀ r∈xk F m,r.length=F.os.length)/\∀ r∈xk F m,∀ b∈r,b.length<=100:=by
 constructor
 .intro r hr;let#[k,hk,rfl]:=Au.mp hr;show pJ F k
 .intro r hr b hb;let#[k,hk,rfl]:=Au.mp hr;have:=AL.mp hk;have h1:=(R.gd k ⋯ b hb).u_ R.fx.ok.a0;have:=R.fx.ok.a1;lia
theorem Kv (R:rE F m) {p:Nat}(hp:p<F.os.length) {q:Int×Int}(hq:yR F q) (ho:F.os.getD p false=false):∃ o:Option Nat,om [zm F,.int (p:Int),zl q,wX (xk F m)]=↑(rf o)/\(rg (xk F m) p q=none->o=none)/\∀ k,rg (xk F m) p q=↑k->∃ (i:Nat) (w:Wy),o=↑i/\F.ws[i]?=↑w/\w.f=p/\yI F (zC F (k-1)) q w=false:=by
 have h1:=K1 (xk F m) F.os.length p q (eW R).1 (eW R).2 hp;have i0:yM false .zh .zh=↑(.bl true):=rfl;cases hd:rg (xk F m) p q with
 | none=>
  rw[hd] at h1;exact#[none,?_,λ _=>rfl,nofun];unfold om fS;generalize mf=c1,o4=f1,wX (xk F m)=tt,zm F=fl,zl q=pq at *;simp![rf] at h1 ⊢;simp[h1,i0]
 | some k=>
  rw[hd] at h1;let#[k1,k2]:=Za hd;have k0:k≠0:=λ h=>MA hp hq (by rw[hd,h]);obtain⟨j,rfl⟩:∃ j,k=j+1:=#[k-1,⋯];have EL:j<=m:=⋯;have hg:(tI F p).all (yI F (zC F j) q)=false:=by
   have e:(zC F (j+1)).getD p []=yA F (zC F j) p:=nF (λ p=>yA F (zC F j) p) F.os.length p [] hp;rw[e,bj R.fx.ok (R.ay EL) p hq] at k2;unfold kf at k2;rw[if_neg (by rw[ho];decide)] at k2;show k2
  have Aq:(yH F p).filter (λ wi=>!yI F (zC F j) q wi.1)≠[]:=by
   intro h;rw[List.filter_eq_nil_iff] at h;have:(tI F p).all (yI F (zC F j) q)=true:=by
    rw[Bj];intro w hw;have ha:=Wa (F:=F) (p:=p) (λ v=>!yI F (zC F j) q v);have:(yH F p).any (λ wi=>!yI F (zC F j) q wi.1)=false:=by
     rw[<- DI,A8];rintro⟨wi,h1,h2⟩;show h wi h1 h2
    rw[this] at ha;cases hl:yI F (zC F j) q w with
    | true=>rfl
    | false=>
     have:(tI F p).any (λ v=>!yI F (zC F j) q v)=true:=A8.mpr #[w,hw,by simp[hl]];rw[<- ha] at this;cases this
   rw[hg] at this;cases this
  obtain⟨wi,E9,CV⟩:∃ wi E9,(yH F p).filter (λ wi=>!yI F (zC F j) q wi.1)=wi::E9:=by
   cases h:(yH F p).filter (λ wi=>!yI F (zC F j) q wi.1) with
   | nil=>show absurd h Aq
   | cons a b=>show#[a,b,rfl]
  have A4:wi∈(yH F p).filter (λ wi=>!yI F (zC F j) q wi.1):=by rw[CV];show Av
  let#[m1,m2]:=Be.mp A4;let#[g1,g2]:=jz m1;exact#[↑wi.2,?_,nofun,λ k hk=>?_]
  .have Eo:=fF F p hp R.fx.ok.sM;have CY:=W2 (F:=F) (m:=m) EL;have hc:mf [↑(.im (zm F)),↑(.im (.int (p:Int))),↑(.im (zl q)),↑(.im (wX (xk F m))),↑(.im (.int ((j:Int)+1)))]=↑(.lst (((yH F p).filter λ wi=>!yI F (zC F j) q wi.1).map λ wi=>T.int (wi.2:Int))):=by
    have:=nq (λ wi:Wy×Nat=>T.int (wi.2:Int)) (λ wi=>if (!yI F (zC F j) q wi.1)=true then ↑(T.int (wi.2:Int)) else none) (pick:=[none,↑0,↑2,↑3,↑4]) (it:=xy (zq u7 (za (zg 0) (za (zg 1) zf)))) (g:=zB 0) (c:=wA (yE (zq sD (za (zg 1) (za (zg 2) (za (zg 0) (za (zb zj (zc 3) (zb xP (zc 4) (cI 1))) zf))))))) (f:=zg 0) (J:=[↑(.im (zm F)),↑(.im (.int (p:Int))),↑(.im (zl q)),↑(.im (wX (xk F m))),↑(.im (.int ((j:Int)+1)))]) (yH F p) (by
      replace Eo:u7 [zm F,.int (p:Int)]=↑(.lst ((yH F p).map λ wi=>T.int (wi.2:Int))):=Eo;generalize (yH F p).map (λ wi=>T.int (wi.2:Int))=WW,u7=f1,zm F=fl at *;simp[Eo]) (by
      have h7:(yH F p).length<=F.ws.zipIdx.length:=C5 _ _;have h8:=R.fx.ok.sM;have h9:F.ws.zipIdx.length=F.ws.length:=#[];lia) (λ wi hw=>by
      let#[q1,q2]:=jz hw;have ht:wi.1.t<(zC F j).length:=by rw[pJ];show (R.fx.ok.ws wi.1 (BM q1)).2
      have h3:=Yx (F:=F) (l:=zC F j) (q:=q) q1 ht (by
       have:=(R.ay EL wi.1.t).u_ R.fx.ok.a0;have:=R.fx.ok.a1;lia)
      have hs:(j:Int)+1-1=j:=⋯;have htt:wX (xk F m)=.lst ((xk F m).map rT):=rfl;rw[htt];generalize (xk F m).map rT=TT,sD=f1,zm F=fl,zl q=pq,rT (zC F j)=rl,yI F (zC F j) q wi.1=b at *;cases b <;> simp[hs,CY,h3])
    unfold mf;rw[this,kh]
   rw[CV,Ax] at hc;have i1:yM false (.int ((j:Int)+1)) .zh=↑(.bl false):=rfl;unfold om fS;generalize E9.map (λ wi=>T.int (wi.2:Int))=RR,mf=c1,o4=f1,wX (xk F m)=tt,zm F=fl,zl q=pq at *;simp![rf,BV] at h1 ⊢;simp[h1,i1,hc]
  .cases hk;show#[wi.2,wi.1,rfl,g1,g2,by exists m2]
end
def xQ (t:T):Bool:=!yk t&&(match t with | .tup ts=>ts.all (λ u=>!yk u) | _=>true)
def xQ.top {t:T}(h:xQ t=true):yk t=false:=by
 unfold xQ at h;simp![Bw,Ef] at h;show h.1
def xQ.mem {ts:List T}(h:xQ (.tup ts)=true) {u:T}(hu:u∈ts):yk u=false:=by
 simp![xQ,Bw,Bj,Ef] at h;show h.2 u hu
def wh (t:T) (a b:Int):Bool:=match t with
 | .int i=>decide (a<=i)&&decide (i<=b)
 | _=>false
def Yv (t:T) (he:yk t=false):o3 [t]=↑(.bl (match t with | .int _=>true | _=>false)):=by
 cases t with
 | err _ _ _=>cases he
 | _=>simp[o3,fY,xR]
def Yu (t:T) (a b:Int) (he:yk t=false):rP [t,.int a,.int b]=↑(.bl (wh t a b)):=by
 cases t with
 | int i=>
  unfold rP js wh;by_cases h1:a<=i <;> by_cases h2:i<=b <;> simp[Yv _ he,h1,h2]
 | err _ _ _=>cases he
 | _=>simp[rP,js,wh,Yv _ he]
theorem eh {α:Type}(enc:α->T):∀ (ts:List T) (bs:List α),List.zipWith (λ a b=>T.tup [a,b]) ts (bs.map enc)=(ts.zip bs).map λ p=>T.tup [p.1,enc p.2]
 | [],bs=>#[]
 | t::ts,[]=>#[]
 | t::ts,b::bs=>by simp[eh enc ts bs]
def LQ {α:Type}(g:α->Bool) (xs:List α):sf (xs.map λ x=>T.bl (g x))=↑(xs.map g):=by
 have:=ZO (xs.map g);rw[A5] at this;show this
def LZ {α:Type}(g:α->Bool) (xs:List α):(xs.map g).all id=xs.all g:=by
 rw[List.all_map];rfl
def yT (t:T) (bs:List (Int×Int)):Bool:=match t with
 | .tup ts=>decide (ts.length=bs.length)&&(ts.zip bs).all λ p=>wh p.1 p.2.1 p.2.2
 | _=>false
theorem Kp (t:T) (bs:List (Int×Int)) (hl:bs.length<=100) (he:xQ t=true):mH [t,.tup (bs.map zl)]=↑(.bl (yT t bs)):=by
 cases t with
 | tup ts=>
  unfold mH fZ yT;by_cases h:ts.length=bs.length
  .have hc:gP [↑(.im (.tup ts)),↑(.im (.tup (bs.map zl)))]=↑(.lst ((ts.zip bs).map λ p=>T.bl (wh p.1 p.2.1 p.2.2))):=by
    unfold gP;exact sV (λ p:T×(Int×Int)=>T.tup [p.1,zl p.2]) _ (ts.zip bs) ?_ ?_ λ p hp=>?_
    .simp[eh]
    .simp;lia
    .simp[qq,zl,Yu _ _ _ (xQ.mem he (Dk hp).1)]
   simp[xR,eq_int,h,hc,LQ,LZ]
  .have h':¬ (ts.length:Int)=bs.length:=⋯;simp[xR,eq_int,h,h']
 | err _ _ _=>cases xQ.top he
 | _=>simp[mH,fZ,yT,xR]
def K7 (F:zt) (y:T) (he:yk y=false):wW [zm F,y]=↑(if wh y 0 ((F.os.length:Int)-1)=true then .zh else .err "NoPlace" "place" y):=by
 have h:=Yu y 0 ((F.os.length:Int)-1) he;have hp:=fG F;unfold wW f_;generalize zm F=fl at *;cases q:wh y 0 ((F.os.length:Int)-1) <;> simp[hp,h,q]
theorem K8 (F:zt) (y:T) (he:xQ y=true):uO [zm F,y]=↑(if yT y [(0,F.A),(0,F.B)]=true then .zh else .err "NoPair" "pair" y):=by
 have h:=Kp y [(0,F.A),(0,F.B)] (by change 2<=100;decide) he;simp![Ax,Bi,zl] at h;unfold uO Xw zm;cases q:yT y [(0,F.A),(0,F.B)] <;> simp[h,q]
def l9 (n:Nat) (y:T) (h:(match y with | .tup _=>false | .err _ _ _=>false | .yQ=>false | _=>true)=true) (hd:dep y<=60):xm (n+1) [y,y]=↑(.bl true):=by
 have e:zw false y y=↑(.bl true):=by unfold zw;rw[if_pos #[hd,hd],ku];rfl
 have e2:∀ b:Bool,zw true (.bl b) (.bl b)=↑(.bl false):=λ b=>by cases b <;> rfl
 have e3:∀ b:Bool,zw false (.bl b) (.bl b)=↑(.bl true):=λ b=>by cases b <;> rfl
 unfold xm fU;cases y with
 | err _ _ _=>cases h
 | yQ=>cases h
 | tup _=>cases h
 | _=>simp[xR,e,e2,e3]
theorem dE (n:Nat) (L:List T) (hl:L.length<=100) (h:∀ u∈L,xm n [u,u]=↑(.bl true)):xm (n+1) [.tup L,.tup L]=↑(.bl true):=by
 have hc:kG (xm n) [↑(.im (.tup L)),↑(.im (.tup L))]=↑(.lst ((List.range L.length).map λ _=>T.bl true)):=by
  have hr:=qf L.length ⋯;unfold kG;exact sV (λ k:Nat=>T.int (k:Int)) _ (List.range L.length) ?_ (by simp;lia) λ k hk=>?_
  .simp[hr]
  .have GX:k<L.length:=by exists hk
   have ea:L2.zQ L (k:Int)=↑L[k]:=wB (by simp[GX]);have h':=h L[k] (Bp GX);simp[ea,h']
 have b1:sf ((List.range L.length).map λ _=>T.bl true)=↑((List.range L.length).map λ _=>true):=ZM _ _;have e2:zw true (.int (L.length:Int)) (.int (L.length:Int))=↑(.bl false):=by unfold zw;rw[ku];rfl
 unfold xm fU;generalize kG (xm n)=cc at *;simp[xR,e2,hc,b1]
def ak (c1 c2 c3:Ev->Option Bool) (N:List Str) (x y z:T) (J:Ev) (hρ:J=[↑(.im x),↑(.im y),↑(.im z)]) (hN:N.length=3) {b1 b2 b3:Bool}(h1:c1 J=↑b1) (h2:b1=false->c2 J=↑b2) (h3:b1=false->b2=false->c3 J=↑b3):
  zH N 3 (zo (zT c1 (retS (cI 0)) zU) (zo (zT c2 (retS (cI 1)) zU) (zo (zT c3 (retS (cS .zh)) zU) (retS (cI 1))))) [x,y,z]=↑(if b1=true then .int 0 else if b2=true then .int 1 else if b3=true then .zh else .int 1):=by
 subst hρ;cases b1
 .have I_:=h2 rfl;cases b2
  .have h3':=h3 rfl rfl;cases b3 <;> simp[zH,hN,h1,I_,h3']
  .simp[zH,hN,h1,I_]
 .simp[zH,hN,h1]
def ZA {f g:Ah}{J:Ev}{u A:Int}(hf:f J=↑(.int u)) (hg:g J=↑(.int A)):md ug ug (cI 0) f g J=↑(.bl (decide (0<=u)&&decide (u<=A))):=by
 by_cases c:0<=u <;> simp[hf,hg,c]
def LY {X Y:Ah}{J:Ev}{a b c:Bool}(hx:X J=↑(.bl a)) (hy:Y J=↑(.bl b)) (h:(a&&b)=c):tu (zy X) (zy Y) J=↑c:=by
 subst h;cases a <;> simp[hx,hy]
theorem Oc {t:T}(he:yk t=false) (h:¬ ∃ ts,t=.tup ts):∃ s,j8 t=↑s/\xR s "tuple"=false:=by
 cases t with
 | tup ts=>show absurd #[ts,rfl] h
 | err _ _ _=>cases he
 | _=>show#[_,rfl,()]
def vD (t:T):Bool:=match t with | .int _=>true | _=>false
def iM {t:T}(h:vD t=true):∃ i,t=.int i:=by
 cases t with
 | int i=>show#[i,rfl]
 | _=>cases h
def iL {t:T}(h:vD t=false) (a b:Int):wh t a b=false:=by
 cases t with
 | int i=>cases h
 | _=>rfl
def jy (t:T) (he:yk t=false):qM [t]=↑(.bl (vD t)):=by
 cases t with
 | err _ _ _=>cases he
 | _=>simp[qM,Xi,xR,vD]
def R0 {X:Ah}{R:Ev->Option Bool}{J:Ev}(h:X J=↑(.bl false)):w9 (wA (yE X)) R J=↑true:=by simp[h]
def ZH (y:T) (h1:yk y=false) (fl:T) (O:List T) (n:Int) (k2:zj fl (.int 1)=↑(.tup O)) (kL:(O.length:Int)=n) (z:T):
  (w9 (wA (yE (zq qM (za (zg 1) zf)))) (w9 (zy (zb yz (zc 1) (cI 0))) (zy (zb nG (zc 1) (zq xZ (za (zb zj (zc 0) (cI 1)) zf)))))) [↑(.im fl),↑(.im y),↑(.im z)]=↑(!wh y 0 (n-1)):=by
 have k1:=jy y h1;simp![zj] at k2;cases q:vD y
 .rw[q] at k1;simp[k1,iL q]
 .rw[q] at k1;let#[i,rfl]:=iM q;by_cases c:i<0
  .have:wh (.int i) 0 (n-1)=false:=by simp[wh];lia
   simp[k1,yz,c,this]
  .by_cases c2:n<=i
   .have:wh (.int i) 0 (n-1)=false:=by simp[wh];lia
    simp[k1,k2,kL,yz,c,c2,this]
   .have:wh (.int i) 0 (n-1)=true:=by simp[wh];lia
    simp[k1,k2,kL,yz,c,c2,this]
def rX (z:T):Bool:=match z with
 | .tup [a,b]=>vD a&&vD b
 | _=>false
theorem K5 {F:zt}(y z:T) (h1:yk y=false) (h2:xQ z=true):mF [zm F,y,z]=↑(if wh y 0 ((F.os.length:Int)-1)=true then (if yT z [(0,F.A),(0,F.B)]=true then .zh else .int 1) else .int 0):=by
 have k0:zj (zm F) (.int 0)=↑(.tup [.int F.A,.int F.B]):=rfl;have k2:zj (zm F) (.int 1)=↑(.tup (F.os.map kt)):=rfl;have kL:((F.os.map kt).length:Int)=F.os.length:=#[];have e2:∀ i j:Int,zw true (.int i) (.int j)=↑(.bl (!decide (i=j))):=λ i j=>eq_int i j true;have ii:xR "tuple" "tuple"=true:=()
 unfold mF Xn;generalize zm F=fl,F.os.map kt=O,(F.os.length:Int)=n at *;simp![zj] at k0;by_cases ht:∃ ts,z=.tup ts
 .let#[ts,rfl]:=ht;rw[ak (b1:=!wh y 0 (n-1)) (b2:=!rX (.tup ts)) (b3:=yT (.tup ts) [(0,F.A),(0,F.B)]) (hρ:=rfl) (hN:=rfl)]
  .cases wh y 0 (n-1)
   .rfl
   .cases q:rX (.tup ts)
    .have:yT (.tup ts) [(0,F.A),(0,F.B)]=false:=by
      rcases ts with _ | ⟨a,_ | ⟨b,_ | ⟨c,r⟩⟩⟩
      .rfl
      .simp[yT]
      .rcases Bool.and_eq_false_iff.mp q with h | h
       .simp[yT,iL h]
       .simp[yT,iL h]
      .simp[yT]
     rw[this];rfl
    .cases yT (.tup ts) [(0,F.A),(0,F.B)] <;> rfl
  .show ZH y h1 fl O n k2 kL _
  .intro _;rcases ts with _ | ⟨a,_ | ⟨b,_ | ⟨c,r⟩⟩⟩
   .simp[ii,rX,e2]
   .simp[ii,rX,e2]
   .have ha:=jy a (xQ.mem h2 #[]);have hb:=jy b (xQ.mem h2 #[]);have g0:L2.zQ [a,b] 0=↑a:=rfl;have g1:L2.zQ [a,b] 1=↑b:=rfl;have hw:rX (.tup [a,b])=(vD a&&vD b):=rfl;rw[hw];cases qa:vD a <;> rw[qa] at ha <;> cases qb:vD b <;> rw[qb] at hb <;> simp[ii,e2,ha,hb,g0,g1]
   .have hr:¬ ((r.length:Int)+1+1+1=2):=⋯;simp[ii,rX,e2,hr]
  .intro _ q;rcases ts with _ | ⟨a,_ | ⟨b,_ | ⟨c,r⟩⟩⟩
   .cases q
   .cases q
   .have q2:rX (.tup [a,b])=true:=by exists q
    have q':(vD a&&vD b)=true:=q2;let#[qa,qb]:=Bool.and_eq_true_iff.mp q';let#[u,rfl]:=iM qa;let#[v,rfl]:=iM qb;have g0:L2.zQ [T.int u,.int v] 0=↑(.int u):=rfl;have g1:L2.zQ [T.int u,.int v] 1=↑(.int v):=rfl;exact LY (ZA (u:=u) (A:=F.A) ?_ ?_) (ZA (u:=v) (A:=F.B) ?_ ?_) ?_
    .simp[g0]
    .simp[k0]
    .simp[g1]
    .simp[k0]
    .simp[yT,wh]
   .cases q
 .let#[s,s1,s2]:=Oc (xQ.top h2) ht;have hr:yT z [(0,F.A),(0,F.B)]=false:=by
   unfold yT;split
   .show absurd #[_,rfl] ht
   .rfl
  rw[ak (b1:=!wh y 0 (n-1)) (b2:=true) (b3:=true) (hρ:=rfl) (hN:=rfl)]
  .rw[hr];cases wh y 0 (n-1) <;> rfl
  .show ZH y h1 fl O n k2 kL _
  .intro _;exact R0 ?_;change (j8 z).map (λ t=>T.bl (xR t "tuple"))=_;rw[s1,Option.map_some,s2]
  .intro _ q;cases q
def Kr (y z:T):tF [.zh,.zh,y,z]=↑(.bl true):=by
 have i1:yM false .zh .zh=↑(.bl true):=rfl;unfold tF jq;simp[i1]
theorem Kt (y z:T) (h:xm 6 [y,y]=↑(.bl true)):tF [.err "NoPlace" "place" y,.int 0,y,z]=↑(.bl true):=by
 have i1:yM false (.int 0) .zh=↑(.bl false):=rfl;have i2:yM false (.err "NoPlace" "place" y) .zh=↑(.bl false):=rfl;have k:∀ c∈["NoFloor","NoMore","NoWay","NoChange","NoCount","NoName","NoRow","NoPair"],ve c "NoPlace"=false:=()
 have k2:ve "NoPlace" "NoPlace"=true:=()
 have e:zw true (.lst [.bl true,.bl false]) (.lst [.bl true,.bl false])=↑(.bl false):=rfl;unfold tF jq;generalize xm 6=f at *;simp[i1,i2,k,k2,eq_int,e,h]
theorem Ks (y z:T) (h:xm 6 [z,z]=↑(.bl true)):tF [.err "NoPair" "pair" z,.int 1,y,z]=↑(.bl true):=by
 have i1:yM false (.int 1) .zh=↑(.bl false):=rfl;have i2:yM false (.err "NoPair" "pair" z) .zh=↑(.bl false):=rfl;have k:∀ c∈["NoFloor","NoMore","NoWay","NoChange","NoCount","NoName","NoRow","NoPlace"],ve c "NoPair"=false:=()
 have k2:ve "NoPair" "NoPair"=true:=()
 have e:zw true (.lst [.bl false,.bl true]) (.lst [.bl false,.bl true])=↑(.bl false):=rfl;unfold tF jq;generalize xm 6=f at *;simp[i1,i2,k,k2,eq_int,e,h]
theorem cz {L:List T}{P:T->Prop}(hP:∀ y∈L,P y) {i:Int}(h0:0<=i) (h1:i<L.length):∃ v,L2.zQ L i=↑v/\P v:=by
 have hl:i.toNat<L.length:=⋯;have e:L2.zQ L i=↑L[i.toNat]:=by
  have:=wB (k:=i.toNat) (AR hl);rw[Cw h0] at this;show this
 show#[_,e,hP _ (Bp hl)]
def dG:∀ L:List T,L.all (λ y=>match y with | .zh=>true | .bl _=>true | .int _=>true | .str _=>true | .lst [.int _]=>true | .lst [.int _,.int _]=>true | .tup [.int _]=>true | _=>false)=true->∀ n,∀ u∈L,xm (n+2) [u,u]=↑(.bl true):=λ L h n u hu=>by
 have:=Bj.mp h u hu;split at this
 any_goals show l9 _ _ rfl (by simp[dep,xA])
 .exact dE _ _ #[] λ v hv=>?_;simp![Am,AZ,or_false] at hv;subst hv;show l9 _ _ rfl (by simp[dep])
 .cases this
theorem Kx (c:Int) (n:Nat) (h0:0<=c) (hn:1<=n):∃ y,ox [.int c,.int n]=↑y/\yk y=false/\xm 6 [y,y]=↑(.bl true):=by
 have d3:xj c 3:=#[(),()];have d30:xj c 30:=#[(),()];have p20:sJ 10 20:=#[(),(),()];have hs:=dG [.int n,.int (-1),.int (n+c/30%10 ^ 20),.bl true,.bl false,.zh,.str "0",.tup [.int 0],.lst [.int 0],.int 8] rfl 4;by_cases h:c%3=1
 .let#[v,e,hv]:=cz (L:=[.int n,.int (-1),.int (n+c/30%10 ^ 20),.bl true,.bl false,.zh,.str "0",.tup [.int 0],.lst [.int 0],.int 8]) (P:=λ y=>yk y=false/\xm 6 [y,y]=↑(.bl true)) (i:=c/3%10) (λ y hy=>#[by
   simp![Am,AZ,or_false] at hy;rcases hy with rfl | rfl | rfl | rfl | rfl | rfl | rfl | rfl | rfl | rfl <;> rfl,hs y hy]) ⋯ (by simp![A9,B9];lia)
  exact#[v,?_,hv];have q20:(0:Int)<10 ^ 20:=()
  unfold ox fV;simp[-Int.reducePow,eq_int,h,d3,d30,p20,q20,e]
 .exact#[.int (c/3%n),?_,rfl,l9 5 _ rfl (by simp[dep])];have hn0:0<n:=⋯;unfold ox fV;simp[eq_int,h,d3,hn0]
theorem dF (L:List T) (h:L.all (λ y=>match y with | .tup ts=>decide (ts.length<=100)&&ts.all (λ y=>match y with | .zh=>true | .bl _=>true | .int _=>true | .str _=>true | .lst [.int _]=>true | .lst [.int _,.int _]=>true | .tup [.int _]=>true | _=>false) | .zh=>true | .int _=>true | .str _=>true | .lst [.int _,.int _]=>true | _=>false)=true) (u:T) (hu:u∈L):xQ u=true/\xm 6 [u,u]=↑(.bl true):=by
 have:=Bj.mp h u hu;split at this
 .simp![Bw,decide_eq_true_eq] at this;exact#[?_,dE _ _ this.1 λ v hv=>dG _ this.2 3 v hv];simp![xQ,yk,CA,Bool.true_and,Bj];intro v hv;have z:=Bj.mp this.2 v hv;cases v with
  | err _ _ _=>cases z
  | _=>rfl
 any_goals show#[rfl,l9 _ _ rfl (by simp[dep,xA])]
 .cases this
theorem Kw (c A B:Int) (h0:0<=c) (hA:0<=A) (hB:0<=B):∃ y,oy [.int c,.tup [.int A,.int B]]=↑y/\xQ y=true/\xm 6 [y,y]=↑(.bl true):=by
 have d3:xj c 3:=#[(),()];have d39:xj c 39:=#[(),()];have d507:xj c 507:=#[(),()];have p20:sJ 10 20:=#[(),(),()];have a1:0<A+1:=⋯;have b1:0<B+1:=⋯;have g0:L2.zQ [T.int A,.int B] 0=↑(.int A):=rfl;have g1:L2.zQ [T.int A,.int B] 1=↑(.int B):=rfl;generalize hx:c/3%(A+1)=x;generalize hy:c/39%(B+1)=y;by_cases h:c%3=1
 .have hs:=dF [.tup [.int (A+1),.int y],.tup [.int x,.int (B+1)],.tup [.int (-1),.int y],.tup [.int x,.int (-1)],.lst [.int x,.int y],.tup [.int x],.tup [.int x,.int y,.int 0],.tup [.bl true,.int y],.tup [.int x,.bl false],.tup [.zh,.int y],.tup [.int x,.str "0"],.zh,.int 7,.str "00",.tup [],.tup [.int x,.tup [.int y]],.tup [.int 13,.int 13],.tup [.int (A+10 ^ 20),.int y]] rfl;let#[v,e,hv]:=cz hs (i:=c/507%18) ⋯ (by simp![A9,B9];lia);exact#[v,?_,hv];unfold oy fW;simp[-Int.reducePow,eq_int,h,d3,d39,d507,p20,a1,b1,hx,hy,g0,g1,e]
 .have hs:=dF [.tup [.int x,.int y]] rfl;exact#[.tup [.int x,.int y],?_,hs _ #[]];unfold oy fW;simp[eq_int,h,d3,d39,a1,b1,hx,hy,g0,g1]
theorem X_ {y:T}{n:Nat}(h:wh y 0 ((n:Int)-1)=true):∃ p:Nat,y=.int (p:Int)/\p<n:=by
 cases y with
 | int i=>
  simp![wh,Bw,decide_eq_true_eq] at h;show#[i.toNat,by rw[Cw h.1],⋯]
 | _=>cases h
def V1 {z:T}{A B:Int}(h:yT z [(0,A),(0,B)]=true):∃ q:Int×Int,z=zl q/\(0<=q.1/\q.1<=A)/\0<=q.2/\q.2<=B:=by
 cases z with
 | tup ts=>
  rcases ts with _ | ⟨a,_ | ⟨b,_ | ⟨c,r⟩⟩⟩
  .simp[yT] at h
  .simp[yT] at h
  .cases a with
   | int u=>
    cases b with
    | int v=>
     simp[yT,wh] at h;show#[(u,v),rfl,h.1,h.2]
    | _=>simp[yT,wh] at h
   | _=>simp[yT,wh] at h
  .simp[yT] at h
 | _=>cases h
def M9 (o:Option Nat):yk (rf o)=false:=by cases o <;> rfl
section
variable {F:zt}{m:Nat}
abbrev qA (F:zt) (y z:T):T:=if wh y 0 ((F.os.length:Int)-1)=true then (if yT z [(0,F.A),(0,F.B)]=true then .zh else .err "NoPair" "pair" z) else .err "NoPlace" "place" y
def XS (F:zt) (G:Al):Prop:=∀ y z,yk y=false->xQ z=true->∃ v,G [zm F,y,z]=↑v/\(if yk v=true then v else .zh)=qA F y z
def jw {G:Al}(h0:∀ y z e,yk e=true->wW [zm F,y]=↑e->G [zm F,y,z]=↑e) (h1:∀ y z e,yk e=true->wW [zm F,y]=↑.zh->uO [zm F,z]=↑e->G [zm F,y,z]=↑e)
  (h2:∀ (p:Nat) (q:Int×Int),p<F.os.length->RN.yR F q->wW [zm F,.int (p:Int)]=↑.zh->uO [zm F,zl q]=↑.zh->∃ v,G [zm F,.int (p:Int),zl q]=↑v/\yk v=false):XS F G:=λ y z e1 e2=>by
 have c1:=K7 F y e1;have c2:=K8 F z e2;unfold qA;by_cases hy:wh y 0 ((F.os.length:Int)-1)=true
 .rw[if_pos hy] at c1 ⊢;by_cases hz:yT z [(0,F.A),(0,F.B)]=true
  .rw[if_pos hz] at c2 ⊢;let#[p,rfl,hp]:=X_ hy;let#[q,rfl,hq]:=V1 hz;let#[v,a,b]:=h2 p q hp hq c1 c2;show#[v,a,by rw[b];rfl]
  .rw[if_neg hz] at c2 ⊢;show#[_,h1 y z _ rfl c1 c2,rfl]
 .rw[if_neg hy] at c1 ⊢;show#[_,h0 y z _ rfl c1,rfl]
theorem X9 (R:rE F m) (hB:sG [zm F]=↑(rT (zC F m))):XS F rQ:=by
 exact jw (λ y z e he c=>?_) (λ y z e he c c'=>?_) λ p q hp hq c c'=>?_
 .cases e with
  | err _ _ _=>
   generalize zm F=fl at *;unfold rQ jt;simp[c]
  | _=>cases he
 .cases e with
  | err _ _ _=>
   generalize zm F=fl at *;unfold rQ jt;simp[c,c']
  | _=>cases he
 .have hx:=nu (zC F m) p (by rw[pJ];show hp);have hh:=fH ((zC F m).getD p []) q (R.fx.WX hp);exact#[.bl (zG ((zC F m).getD p []) q),?_,rfl];generalize zG ((zC F m).getD p []) q=v,bT ((zC F m).getD p [])=bt,zm F=fl,rT (zC F m)=rl,zl q=pq at *;simp![zj] at hx;unfold rQ jt;simp[c,c',hB,hx,hh]
def MS (o:Option (Nat×Nat)):yk (dT o)=false:=by cases o <;> rfl
def X8 (R:rE F m) (hB:sG [zm F]=↑(rT (zC F m))):XS F rO:=by
 exact jw (λ y z e he c=>?_) (λ y z e he c c'=>?_) λ p q hp hq c c'=>?_
 .cases e with
  | err _ _ _=>
   generalize zm F=fl at *;unfold rO jr;simp[c]
  | _=>cases he
 .cases e with
  | err _ _ _=>
   generalize zm F=fl at *;unfold rO jr;simp[c,c']
  | _=>cases he
 .have h3:=K6 R.fx.ok R.fx.len R.fx.sz hp hq;have HD:=aG F;have ho:=cK hp;have hk:=OZ (F.os.getD p false);have hn:=MS (rj F (zC F m) p 0 (xq F p q));generalize dT (rj F (zC F m) p 0 (xq F p q))=dd at *;exact#[if F.os.getD p false=true then dd else .zh,?_,by split <;> first | show hn | rfl];unfold rO jr;generalize wW=f1,uO=f2,mJ=f3,sG=f4,F.os.map kt=OS,zm F=fl,rT (zC F m)=rl,zl q=pq,F.os.getD p false=ow at *;generalize kt ow=ko at *;generalize (T.str "keeper")=ks,zw true=ee at *;simp![zj] at HD;cases ow <;> simp[c,c',HD,ho,hk,hB,h3,hn]
def X7 (R:rE F m) (hr:sA [zm F]=↑(wX (xk F m))):XS F sy:=by
 exact jw (λ y z e he c=>?_) (λ y z e he c c'=>?_) λ p q hp hq c c'=>?_
 .cases e with
  | err _ _ _=>
   generalize zm F=fl at *;unfold sy mV;simp[c]
  | _=>cases he
 .cases e with
  | err _ _ _=>
   generalize zm F=fl at *;unfold sy mV;simp[c,c']
  | _=>cases he
 .have HD:=aG F;have ho:=cK hp;have hk:=OY (F.os.getD p false);cases hb:F.os.getD p false with
  | true=>
   rw[hb] at ho hk;exact#[.zh,?_,rfl];unfold sy mV;generalize wW=f1,uO=f2,F.os.map kt=OS,zm F=fl,zl q=pq,kt true=ko,(T.str "keeper")=ks,zw false=ee at *;simp![zj] at HD;simp[c,c',HD,ho,hk]
  | false=>
   rw[hb] at ho hk;let#[o,o1,_]:=Kv R hp hq hb;have hn:=M9 o;exact#[rf o,?_,hn];unfold sy mV;generalize wW=f1,uO=f2,om=f3,sA=f4,wX (xk F m)=tt,rf o=dd,F.os.map kt=OS,zm F=fl,zl q=pq,kt false=ko,(T.str "keeper")=ks,zw false=ee at *;simp![zj] at HD;simp[c,c',HD,ho,hk,hr,o1,hn]
def KH (x0:XS F rQ) (x1:XS F rO) (x2:XS F sy) {w:Nat}(hw:w<3) (y z:T) (h1:yk y=false) (h2:xQ z=true):mG [.int (w:Int),zm F,y,z]=↑(qA F y z):=by
 let#[v0,a0,b0]:=x0 y z h1 h2;let#[v1,a1,b1]:=x1 y z h1 h2;let#[v2,a2,b2]:=x2 y z h1 h2;generalize qA F y z=r,zm F=fl at *;have key:∀ (i:T) (G:Sm) (v:T),G [↑(.im i),↑(.im fl),↑(.im y),↑(.im z),↑(.im .zh),none]=↑(if yk v=true then .rt v else .nx [↑(.im i),↑(.im fl),↑(.im y),↑(.im z),↑(.im .zh),none])->(if yk v=true then v else .zh)=r->
   zo (jB 5 4 G) (retS (zg 4)) [↑(.im i),↑(.im fl),↑(.im y),↑(.im z),↑(.im .zh),none]=↑(.rt r):=λ i G v h e=>by
  subst e;change ((G _).bind _).bind _=_;rw[h];split
  .rename_i e;simp[e]
  .rfl
 suffices h:Xp [↑(.im (.int (w:Int))),↑(.im fl),↑(.im y),↑(.im z),none,none]=↑(.rt r) by
  unfold mG zH;show (if_pos rfl).trans (congrArg lI h)
 rcases w with _ | _ | _ | w
 .show key _ _ v0 (congrArg (Option.map _) a0) b0
 .show key _ _ v1 (congrArg (Option.map _) a1) b1
 .show key _ _ v2 (congrArg (Option.map _) a2) b2
 .lia
theorem OT (ok:F.Ok) (x0:XS F rQ) (x1:XS F rO) (x2:XS F sy) (ns:List Int) (k:Nat):∃ J',yC [2,3,4,5,6] J'=[↑(.im (zK ns)),↑(.im (zm F)),none,none,none,none,none]/\turn (zB 2) mq (.int (0+(k:Int))) [↑(.im (zK ns)),↑(.im (zm F)),none,none,none,none,none]=↑(.nx J'):=by
 let#[y,y1,y2,y3]:=Kx (cell ns (36+2*k)) F.os.length (me _ _) ok.n1;let#[z,z1,z2,z3]:=Kw (cell ns (37+2*k)) F.A F.B (me _ _) ok.a0 ok.b0;have c1:yX [zK ns,.int (36+2*(k:Int))]=↑(.int (cell ns (36+2*k))):=by rw[show (36:Int)+2*(k:Int)=((36+2*k:Nat):Int) by lia];show rR ns _
 have c2:yX [zK ns,.int (37+2*(k:Int))]=↑(.int (cell ns (37+2*k))):=by rw[show (37:Int)+2*(k:Int)=((37+2*k:Nat):Int) by lia];show rR ns _
 have h1:=λ(w:Nat) (hw:w<3)=>KH x0 x1 x2 hw y z y2 z2;have h2:=K5 (F:=F) y z y2 z2;have h3:tF [qA F y z,if wh y 0 ((F.os.length:Int)-1)=true then (if yT z [(0,F.A),(0,F.B)]=true then .zh else .int 1) else .int 0,y,z]=↑(.bl true):=by
  unfold qA;split
  .split
   .show Kr y z
   .show Ks y z z3
  .show Kt y z y3
 generalize qA F y z=a,(if wh y 0 ((F.os.length:Int)-1)=true then (if yT z [(0,F.A),(0,F.B)]=true then T.zh else .int 1) else .int 0)=b at *;have Bf:=nj (is:=[6]) (g:=zB 6) (b:=kO) (λ k:Nat=>T.int (0+(k:Int))) (λ _=>false) (.bl false) [↑(.im (zK ns)),↑(.im (zm F)),↑(.im (.int (k:Int))),↑(.im y),↑(.im z),↑(.im b),none] (List.range 3) [↑(.im (zK ns)),↑(.im (zm F)),↑(.im (.int (k:Int))),↑(.im y),↑(.im z),↑(.im b),none] #[] λ w hw=>by
  have h:=h1 w (AL.mp hw);exact#[[↑(.im (zK ns)),↑(.im (zm F)),↑(.im (.int (k:Int))),↑(.im y),↑(.im z),↑(.im b),↑(.im (.int (w:Int)))],#[],?_];rw[if_neg #[],Cq];unfold turn kO;generalize mG=f1,tF=f2,zm F=fl,zK ns=sc at *;simp[h,h3]
 have hr:=qf 3 ();rw[show ((3:Nat):Int)=3 from rfl] at hr;simp![Cq] at hr Bf;have CK:(List.range 3).any (λ _=>false)=false:=()
 rw[CK,if_neg ()] at Bf;have k0:zj (zm F) (.int 0)=↑(.tup [.int F.A,.int F.B]):=rfl;have k2:zj (zm F) (.int 1)=↑(.tup (F.os.map kt)):=rfl;have kL:((F.os.map kt).length:Int)=F.os.length:=#[];have m1:xc (.int 2) (.int (k:Int))=↑(.int (2*(k:Int))):=pB (.inl #[(),()]);exact#[[↑(.im (zK ns)),↑(.im (zm F)),↑(.im (.int (k:Int))),↑(.im y),↑(.im z),↑(.im b),none],#[],?_];rw[Cq];clear x0 x1 x2 h1 h3;unfold turn mq;generalize kO=bb,zm F=fl,F.os.map kt=O,zK ns=sc,xc=mw at *;simp![zj] at k0 k2;generalize yX=f1,ox=f2,oy=f3,mF=f5,cell ns (36+2*k)=d1,cell ns (37+2*k)=d2 at *;simp[m1,c1,c2,k0,k2,kL,y1,z1,h2,hr,Bf]
end
theorem OU (ns:List Int) (hl:ns.length<=63):oz [zK ns]=↑(.bl true):=by
 let#[F,h1,ok,hw,EA]:=K0 ns;let#[more,hr,hn,hmo,hR]:=Kq ok;have n1:=ok.n1;have Aq:List.range F.os.length≠[]:=λ h=>by
  have h2:=congrArg List.length h;rw[Cz] at h2;rw[h2] at n1;show absurd n1 ()
 let#[m,e,AH]:=dN ok hw 2000 [] 0 (List.range F.os.length) _ (St.start ok) Aq rfl hR;have e':RN.start F::more=(List.range m).map (zC F)++[zC F m]:=by rw[e,List.range_succ,B_];rfl
 have hB:sG [zm F]=↑(rT (zC F m)):=KO (by rw[<- e'];show hr);have ht:RN.start F::more=xk F m:=e;rw[ht] at hr hn;have ET:∀ k,k<=m->∀ b∈zC F k,Gd F.A F.B b:=λ k hk=>(hn (zC F k) (Au.mpr #[k,AL.mpr ⋯,rfl])).2;have R:rE F m:=#[Ml ok EA (ET m (Ak _)) AH,ET];have x0:=X9 R hB;have x1:=X8 R hB;have x2:=X7 R hr;have HI:=nj (is:=[2,3,4,5,6]) (g:=zB 2) (b:=mq) (λ k:Nat=>T.int (0+(k:Int))) (λ _=>false) (.bl false) [↑(.im (zK ns)),↑(.im (zm F)),none,none,none,none,none] (List.range 3) [↑(.im (zK ns)),↑(.im (zm F)),none,none,none,none,none] #[] λ k _=>by
  let#[J',e1,e2]:=OT ok x0 x1 x2 ns k;show#[J',e1,by rw[if_neg #[]];show e2]
 have BN:=qf 3 ();rw[show ((3:Nat):Int)=3 from rfl] at BN;simp![Cq] at BN HI;have CK:(List.range 3).any (λ _=>false)=false:=()
 rw[CK,if_neg ()] at HI;clear x0 x1 x2 R hB hr hn ET;unfold oz Xr;generalize mq=bb,zm F=fl,zK ns=sc at *;simp[h1,BN,HI]
end ya
namespace PySem.W.Fast
def te13543971619106993179:=0
local macro_rules|`(command|example:=$s:str)=>do
 let mut r:Array Lean.Syntax:=.empty
 let mut n:=0
 let mut k:=0
 for c in s.getString.toList do
  let a:=c.toNat
  n:=n*62+(if a>96 then a-61 else if a>64 then a-55 else a-48)
  k:=k+1
  if k==11 then
   let i:=Lean.mkIdent (.mkSimple s!"tw{n}")
   r:=r.push (<-`(command|theorem $i:ident:True:=trivial))
   n:=0
   k:=0
 return Lean.mkNullNode r
example:="BeI0IzvOuHSLP5HFsmtEHOLxvgYyIKEL0FaKnFqInSeoBXPmXarDYGMBWBuHPQXq4zCU318POlVt86DBTKCGjNoZLwL4Oxgtkpc3XR45jSnqcMKxx9f3Oyv8zIMX40cYCAP1A9Z5YIyDghy87zCPNb1gCgJLnNNGPuU00F8sQqGfj85pGnznl2U644nDfWN743CoGx1iQkGzo5o2vAgmiEKk8hB5K1njNcE0BFM1dPnkoTYlVj9u6jRQp9EjQAMwIedNK4ud7tggIC02xZtF2JBlpGo4q61WzJD0lMhdTGZnXTUKFnEg9R3nUnHSSBIHro8GdO3TQbK3BgFa49YtPCUekbXNoUlT7t4V1vcIzPoAENOVSBUFuj8MmvmQMZ1RXLaBUxNN3ZtwGxhPTtJ22SgH9C4A6n8aUCEti6WjU7YNjBjaXsoSCzGd16HBPTYgvb7CCz9aPEam7eFz4rLLKu1nEKs8dnUx3UOIHEMkNG3PBO697VJON1stBuEwFaaKSSTa18kfBTbX89VK66pEynWhjICK3bqje7prz3DGac32gep6I13QoxK6MfNeGd2wvM6Ay6Y2on3wrvW84oFWfMJYgTr1EFu1Yb3U0EYM9odzvIBXWyHJLRfpE49dzdLUuDM3R1hN2F3MXa2DueWL1BSPnMuPOzK5xLbG9kRpLQF6ScQP65zTIBtDsCGbcRVg1V5oTRdr1X32fypbNv2g6S03SDpwZpT2iC86UJtMRH4r4wrWO35Hz3gLasXUvO7YVdC4ukT2GzrMN0jIlu0MJaw2LELhcbqv91PHqk1XMYxoxb0RxQLhBesSd0kZBwGuNYTHAtBm8S7AcIj0fblM7S1PkPGlixZW5hLny0gRJqVqGI5b4rEZXgFGKjp7nbMC1dnLBZKetutipd1Ua1VjjrVKrxdOG1t01eA2Cfo4gtT0bgmfR206ckPPPL10H526pESyCdSQBQZkPlW5LSW319aFUt6bPqEmyh6nwdg3m2P1eOBzlyDAGcakvax4fNX7NZcQkvDzGs0awSKAkhUr5IvrHalnAKXCKE2liv0QCOh9wYyXVKv8gCJeqehF3YMr09tjlSe2fqEC6x5ziX464f4JRwMaywrt6rD45JhzhafeJ4oOhQhrY0aqLOUNohhMXXGI9hQRNXD5BF9yf4daaTDPy3lciNDoZPrz1BrWsjV34067godJZkMighHwvkBsgm0wwLF8ftkVgSPrFubVXdrSEPU3eb3FvCQCVXEbhxkhou83T33JGhRwXlXp6bqyU1eRJaeBX1LP6D11BeIlhOVSnrkmzFZA3v6ft6EI3olQG5lhfU9KIbNpnSsGqR2lAXaPaWExZ90gFEgTpltbHxFUyQCpvd43D9dOTkjhXjILXJSFnXDTd1XIzVeXjH4WKuYEbju7NES0CGwau7Nx3D8c0Oeq10NqT7nO3OnOWtjE2cjY2teWxrG6MV7VEB4QO42NBwiJsZ9ZtGANuTa1h2CZJTdcTY3uNL4HyGetxnFCpLG7VAZ3vesfcLJ3oeq4UPfXEyQpSn6QbXg7g7I8Uw8g1v4vLBoejerss7y4hnbmHUv1IANEiIv71bv0KsBZKW2VWkBvSCHrr8ju8CThLpHDEi1g0SQYATkMbya7Typ8TObyrI0wRukeJByJyJ7OzQvTGFK33w4wjljCEUI3ZkApujlSrm29dYqAitzqgLFXyTEYMS1q8l8YLWnwvwm4mrcP6X3eUq1R5aFDekYWlF3Kb6dvIAFR4bjFkQWUCe39hgmVCMk7Ib7oiEUn65gJz0xoIQvgBiPW3gqiYg7QLn6LFLkhoztBmxFvQd56O42to5qJ2Ulg340k7WAZ0tUf6JyDjhRh2SoobBKstAAHBOOt17287BJEP0Fg9HpuxNxw7y4Ls8SrlOAq4UJ3tqeZC5BFl50dbTzjxn847BA0ePviOPq5PBagZom7TPKHV0xjxboCGEb7vzSBxQ1ODAtgFhGHwnPJkrQ0d408FZ1schFM3Jw2280ivUJCzDEZHTu4t0R0wiA39bD00MeWMcD3PEmvkAkQU7JMxv7apMWs0YakBxhlpl1AafsG3Y5yLjJ1F5DqK26yU5TwGLDs0GFMFZfUx8EXQFc4gECuSWRq9bIU0I6LSTMIMLtoTbttkE5HGaGBPurHHMX8WUfcJWZgJQKqweYHbo2vE5rFXXKpxgLqAQtOLFlfP8E0VYz4hEEVoA91lzYu8RcP1GWA48BQvhCZHRm6cP3PV8F3Mc9biDzl3s7Yh008JmL6V7GJtTuFUQtE1rLkH4jzNh4BLjL0fqZCzl170rEmzTmd4FSOwWEprKrm2qUYazdxZET1KPEuCNDbzcGlYSFds0YzmFpxXoZbByUqEwWoo6QNVLZ9CkWgiNfaB5EF38lcwFxY44FiJ88NlvaxFLufyEm9rGD2X8WlS0PRXcK8lNnZuS8xn0cA5IYvr4b42Hs8ysA905F25TbBlPDgb3IuRGJi2zTrB7erOiXK0AhL7nK7gCez3SNAMAmu0WOZeo0zbMuyOMnVGJe2qIz762RVDFx1ceelSYI0SCktSC1hCw1bF5vVBitOgEP3oqBp9zMRFWaCdHdnYWsDdaQXG74sPxLJrEDKeFj025FKqNVLnJJfGeAcv48KNqKLkFN54YgJvHHEP1r4MBu0qCNhm75VsoWdLvpt9jlcu9eHS8qNUeqcVb1qfkNIznOz4EmYvJbAsdJRLA4o0coM4eY0Pl0qi2eDZmFG2Rtz0uii45yB77KjHxA9BaqGFq3XM620tUEIvsSeOYHaCp50UyEG84VWTwAzl340ENsc1sq9de2DGPRoZtJGZWAqLg1zkJpCpGRxrpjM3ZSa2o8ROn3wTm4D3A815amFsq48dMpc1IQrS5Cd3F1PhvZkDyNMkAVuG9m2EVftdNGicWB20uvcbORiuIsLArvX117X23seN0FLmpCGnZeFFhLAjVIuiML5thIUM3LZOE4rSFLH5xHuDGeCgEyLpm9umvjwZiAfzlLK3kztXDwn14OOD8OOCHnD5Hp5srjJgGz9ztk1w90ZzXb3IWfcwJz8NC5keoyxFau4lhZnb1O3MIEISo4qOJ5iTIpTLhdSf1zyjjYwnbDQ9e70UATPMGjL1qhgYEEFO7Ebpuu2PmWCbFNeZPkgZDayGVlOLv5nHmz9Y3dE9D27AUDJ2ey1jJwP6Lg1a6goQj8O1uu05LPDqrr4W9QmIdeDss6rGsr3U3ZMR8tzrnWfzuwm8hgeoAxhfwqFuwHs2tNV61708mdVbHzwjAqooYt5ZIXzJWgiQMuqNlm0mrOSr1PPWfCkBo8zwh1LfBuqAsVSWm4PBbPmqN9R3dY5L0WwCNZGn57SiQDgSasli9hd4dOrmCKEGWM3czCxANP4jAvkgDBBV5IT1NIPE8yV6JpSf0FE4XybDNpdCerNayRJFe1VnX7kz79GykxRdgokvB5oAg4fDuDxGQt0mDENCKV4dpJfiRpFGV6zbemfqXBWTGNz7kBApnldHjyHNTxLeSDAWujUdp8wDM71GgaguwXPlKFjqSQk1YUfDirtqPKnF3z044GNZPmuT0AMvLWM5M3Ql9IIBQjhyXJbHzFnsRNxkEB7w37Gpqy8k6KfjOFdJs728KSD3Vxsxmon4y2pQ6XZdhD9IsQDMOjv000sT7HnV1WAd2BpErr0mLtB7BZYAEXDwtJGdMsil8X0LW3jQdm0ovxpR5ve8uvTYaVr1sODh5bboBZ8viEyiQ2gePDOYqp5yjD8tJjbgxh9WVRt7en5d81WX1PALq8psOLHIq1wv8QQMfdU6A1qTcGD5f0n7psDHnemWqNKiVraPDzLYMALqzib29oalH79Kfa0zCtE1kV968tJjzL8vHswGWoEfdHXyaiSfAf9KJyMzG657wdx9IMBTicn1A5353pY4wLd2lEDN9v4QHatl9jvWqsn6L9m0XuziRmhEQh8qYI4dx9NHt7xpBGexuGwX0vogrTWluvZ0LJKD9JQ8AhBoYiljA841WBwA5hAyddWL8fnyF4XZyLcKK0UEEyfzeA59nFOAr4fvdJrn459vVtFq4VmupeE6IOvG4od5xXhiORF8MJ2S3eR7c5AlmLbOCGfN4gVJfbsFupj6FLudSGtHfL3z06ZK271FH2n6oCTO8pubEQosHw1XQygJxDexUkBKVSILi6dl5mPrKH7eZOsCJrtsF7B8TuXYuJXF4KWNPvpw4W9b2p4JK3XJ1H8WlLmMM08V1d1BzbLkGAl2z4wl4tl7byFfk8BrmXk4n5qZOo8WBrzIBCwzgqRZLVe7wq7uWaXo1G8RPoWfIhb9OCK8Z2fS8QA71NhSz4hOKkZBSELei6QcZ7Fd5fykeJMLf0r2NS0cbWwM99z30S0k81G7XN0aJCYQm0JmMaEFw9Dtf8VdkLvTk6AaD6Zf7v4EIeMErdPP1QDX0BESD9N5qR2RMA4F6GrjOncU89WAGDl9Px53k3tuJaZhPxAbadLxsmLR6Ijei3D9V320FWPhxDBV0bYBo2dXiCE5u20cAFXyRTZYD95jLAw6uapX9DAL8BPxcWZ0EvAk8bwIRq91T0j1YMTvq8go56XSXBjeC5KUlxYtjyX7GsBzWBVI6QFXntl4uJFg365xdezMsVYF2wCUwD3Tn6980InZ8sBhL6B9CCgrnj54RKYQBnxSqSlk64N4yo38Z0JJ62O7m4Ni4jABDkimgh0NLCzrPJOyfqZqAx2ksCV4PDe4HHGAHsPAy9ADlUvZTIZbZ7DxUdBR5C5hC9sNFBO4x8Q2KwD1I14PtwE6JFXoGQufTJ6KyNmUgtXxLVcPBfc4M0aD9BUuwUHOn25JEXjzpxsaG173uZ6KK2ufJY35EJjaPfC8Y8qKTOf06qECZAc39zOQZ2oD1zbQHySI5cZfYnHs47PGxHh61Par43L916fjvncOUJKU5T88oFNl9roQ97tKLM0K6LYlMBixx631PhGtxBlSA1oIc34uY71Z7uiHJkcQAWJEGttBtQSlRtE761rwTyWu8AtNzh0VOItQ1Mn5vDQtOU8GJip8VYMgf02KcJlj6rMzCKDU44KwF0aO3WhlA4g52u8EKKmCKIALu7FBA9eG8jNeWGb7aVnnUlxf6vnFT5mTc6t48bD306BTYfFlcZLYycSJr9anje5TMJ6D2KJ8bnjWqCvDCU8VLo5pAfD1Psb9fV9Jn"
end PySem.W.Fast
namespace ya
open PySem L2 L3 L5
open PyProof.Rows hiding St
def top (i:Nat):Stmt:=PySem.Challenge.pw_purseborder_k46_enough_refused.main.body.getD i (.Pass #[0,0,0,0])
abbrev l_:Stmt:=(Zx (top 4)).getD 0 (.Pass #[0,0,0,0])
abbrev ka:Stmt:=(Zx (top 5)).getD 0 (.Pass #[0,0,0,0])
def Nq:rM "pair" ka:=#[nH,#[_,_,_,_,rfl,λ _=>rfl],λ _ _ _ _ _ _ _ _=>my λ _ _=>rfl]
def Np:rM "place" l_:=#[nH,#[_,_,_,_,rfl,λ _=>rfl],λ _ _ _ _ _ _ _ _=>my λ _ _=>rfl]
set_option maxHeartbeats 0
section
variable (P:Program)(w:World)(K:Ac)(mg:Ar)(base:Heap)
abbrev YK:=FD P w K mg base "is_whole" 1 ["thing"] (zA zx o3)
abbrev fM:=FD P w K mg base "places_of" 1 ["floor"] (zA zx qL)
abbrev fQ:=FD P w K mg base "at_or_above" 1 ["pair","other"] (zA zx o6)
abbrev mR:=FD P w K mg base "least_pairs" 1 ["pairs"] (zA zx sC)
abbrev Y4:=FD P w K mg base "pairs_ahead_of_changes" 1 ["brims","stall","pair"] (zA zx mC)
abbrev Y3:=FD P w K mg base "step_by" 1 ["floor","pair","way"] (zA zx oq)
abbrev YR:=FD P w K mg base "change_by" 1 ["brims","stall","pair","times"] (zA zx qN)
abbrev qQ:=FD P w K mg base "_law_cell" 1 ["_law_script","_law_k"] (zA zx yX)
abbrev YG:=FD P w K mg base "_law_coins" 1 ["_law_number"] (zA zx sE)
abbrev YC:=FD P w K mg base "_law_odd_place" 1 ["_law_cell_here","_law_many"] (zA xt ox)
abbrev YD:=FD P w K mg base "_law_odd_pair" 1 ["_law_cell_here","_law_brims_here"] (zA xt oy)
abbrev Y7:=FD P w K mg base "_law_whole" 1 ["_law_thing"] (zA zx qM)
abbrev fO:=FD P w K mg base "is_whole_within" 2 ["thing","least","most"] (zA zx rP)
abbrev jn:=FD P w K mg base "holds" 2 ["border","pair"] (zA zx sF)
abbrev YT:=FD P w K mg base "both" 2 ["border","other"] (zA zx mK)
abbrev YO:=FD P w K mg base "either" 2 ["border","other"] (zA zx mI)
abbrev YW:=FD P w K mg base "border_ahead_of_way" 2 ["brims","way","border"] (zA zx mO)
abbrev YI:=FD P w K mg base "_law_brims" 2 ["_law_script","_law_many"] (zA zx jk)
abbrev YB:=FD P w K mg base "_law_owners" 2 ["_law_script","_law_many"] (zA zx jj)
abbrev Y8:=FD P w K mg base "_law_ways" 2 ["_law_script","_law_many"] (zA zx jh)
abbrev Y9:=FD P w K mg base "_law_stalls" 2 ["_law_script","_law_owners_here"] (zA zx ji)
abbrev YF:=FD P w K mg base "_law_due" 2 ["_law_floor_here","_law_place","_law_pair"] (zA zx mF)
abbrev YL:=FD P w K mg base "is_row_within" 3 ["thing","bounds"] (zA zx mH)
abbrev o7:=vx P w K mg base "check_place" 3 ["floor","place"] (zA zx wW)
abbrev YU:=FD P w K mg base "border_of_either" 3 ["borders"] (zA xt mL)
abbrev YV:=FD P w K mg base "border_of_all" 3 ["borders"] (zA xt mM)
abbrev YM:=FD P w K mg base "first_without" 3 ["told","place","pair"] (zA xt o4)
abbrev fN:=FD P w K mg base "leads_into" 3 ["floor","pair","way","held"] (zA zx sD)
abbrev YE:=FD P w K mg base "_law_floor" 3 ["_law_script"] (zA zx mE)
abbrev jo:=vx P w K mg base "check_pair" 4 ["floor","pair"] (zA zx uO)
abbrev jm:=FD P w K mg base "ways_from" 4 ["floor","place"] (zA zx u7)
abbrev fK:=FD P w K mg base "stall_at" 4 ["floor","place"] (zA xt tE)
abbrev YX:=FD P w K mg base "border_ahead_of_changes" 5 ["floor","place","border"] (zA xt o5)
abbrev YS:=FD P w K mg base "change_at" 5 ["floor","place","pair","times"] (zA zx qO)
abbrev Y1:=FD P w K mg base "way_out_of" 5 ["floor","place","pair","told"] (zA xt om)
abbrev Y6:=FD P w K mg base "next_border" 6 ["floor","place","last"] (zA xt mD)
abbrev YQ:=FD P w K mg base "deed_into" 6 ["floor","place","pair","held"] (zA zx mJ)
abbrev Y5:=FD P w K mg base "next_round" 7 ["floor","last","fresh"] (zA zx ou)
abbrev jl (n:Nat):=FD P w K mg base "_law_same" (n+1) ["_law_thing","_law_other"] (zA zx (xm n))
abbrev KQ:=jl P w K mg base 6
abbrev fL:=FD P w K mg base "rounds" 8 ["floor"] (zA zx sA)
abbrev YA:=FD P w K mg base "_law_refused" 8 ["_law_caught_here","_law_due_here","_law_place","_law_pair"] (zA zx tF)
abbrev fP:=FD P w K mg base "borders" 9 ["floor"] (zA xt sG)
abbrev Y2:=vx P w K mg base "taker_way" 9 ["floor","place","pair"] (zA xt sy)
abbrev YN:=vx P w K mg base "enough" 10 ["floor","place","pair"] (zA zx rQ)
abbrev YJ:=vx P w K mg base "keeper_deed" 10 ["floor","place","pair"] (zA zx rO)
abbrev YH:=FD P w K mg base "_law_caught" 11 ["_law_way","_law_floor_here","_law_place","_law_pair"] (zA xt mG)
variable {K mg}(T:Bt mg)(U:Bq mg)
include T U
theorem Pg (F:Fy K mg "is_whole" (top 13)):YK P w K mg base:=
 yg [] F
theorem QF (F:Fy K mg "places_of" (top 16)):fM P w K mg base:=
 yg [] F
theorem PV (F:Fy K mg "at_or_above" (top 22)):fQ P w K mg base:=
 yg [] F
theorem QO (F:Fy K mg "least_pairs" (top 23)):mR P w K mg base:=
 yg [] F
theorem QG (F:Fy K mg "pairs_ahead_of_changes" (top 29)):Y4 P w K mg base:=
 yg [] F
theorem QA (F:Fy K mg "step_by" (top 38)):Y3 P w K mg base:=
 yg [] F
theorem PB (F:Fy K mg "change_by" (top 39)):YR P w K mg base:=
 yg [] F
theorem Pa (F:Fy K mg "_law_cell" (top 50)):qQ P w K mg base:=
 yg [] F
theorem Q_ (F:Fy K mg "_law_coins" (top 51)):YG P w K mg base:=
 yg [] F
theorem QW (F:Fy K mg "_law_odd_place" (top 57)):YC P w K mg base:=
 yg [] F
theorem QX (F:Fy K mg "_law_odd_pair" (top 58)):YD P w K mg base:=
 yg [] F
theorem QR (F:Fy K mg "_law_whole" (top 60)):Y7 P w K mg base:=
 yg [] F
theorem Pf (F:Fy K mg "is_whole_within" (top 14)) (GD:YK P w K mg base):fO P w K mg base:=
 yg [] F
theorem Pn (F:Fy K mg "holds" (top 24)) (Fq:fQ P w K mg base):jn P w K mg base:=
 yg [(["own","pair"],[none,↑1])] F
theorem PK (F:Fy K mg "both" (top 25)) (Fe:mR P w K mg base):YT P w K mg base:=
 yg [(["pair"],[none])] F
theorem Pu (F:Fy K mg "either" (top 26)) (Fe:mR P w K mg base):YO P w K mg base:=
 yg [] F
theorem PQ (F:Fy K mg "border_ahead_of_way" (top 28)) (Fe:mR P w K mg base) (Fq:fQ P w K mg base):YW P w K mg base:=
 yg [(["pair","way"],[none,↑1]),(["pair","brims"],[none,↑0])] F
theorem Pc (F:Fy K mg "_law_brims" (top 52)) (Fd:qQ P w K mg base):YI P w K mg base:=
 yg [] F
theorem QV (F:Fy K mg "_law_owners" (top 53)) (Fd:qQ P w K mg base):YB P w K mg base:=
 yg [] F
theorem QS (F:Fy K mg "_law_ways" (top 54)) (Fd:qQ P w K mg base) (Gn:YG P w K mg base):Y8 P w K mg base:=
 yg [] F
theorem QT (F:Fy K mg "_law_stalls" (top 55)) (Fd:qQ P w K mg base):Y9 P w K mg base:=
 yg [] F
theorem QZ (F:Fy K mg "_law_due" (top 61)) (Gk:Y7 P w K mg base):YF P w K mg base:=
 yg [] F
theorem Ph (F:Fy K mg "is_row_within" (top 15)) (Fg:fO P w K mg base):YL P w K mg base:=
 yg [(["number","bound"],[none,none])] F
theorem Pz (F:Fy K mg "check_place" (top 17)) (FY:yR K mg "NoPlace" "place" l_/\rM "place" l_) (Fg:fO P w K mg base) (FA:fM P w K mg base):o7 P w K mg base:=
 nJ [] F
theorem PM (F:Fy K mg "border_of_either" (top 31)) (G2:YO P w K mg base):YU P w K mg base:=
 yg [] F
theorem PN (F:Fy K mg "border_of_all" (top 32)) (HK:YT P w K mg base):YV P w K mg base:=
 yg [] F
theorem Po (F:Fy K mg "first_without" (top 36)) (FZ:jn P w K mg base):YM P w K mg base:=
 yg [] F
theorem QP (F:Fy K mg "leads_into" (top 44)) (GO:Y3 P w K mg base) (FZ:jn P w K mg base):fN P w K mg base:=
 yg [] F
theorem QY (F:Fy K mg "_law_floor" (top 56)) (Fd:qQ P w K mg base) (Gg:YB P w K mg base) (Gp:YI P w K mg base) (GC:Y8 P w K mg base) (Gf:Y9 P w K mg base):YE P w K mg base:=
 yg [] F
theorem P0 (F:Fy K mg "check_pair" (top 18)) (F_:yR K mg "NoPair" "pair" ka/\rM "pair" ka) (FJ:YL P w K mg base):jo P w K mg base:=
 nJ [] F
theorem Q0 (F:Fy K mg "ways_from" (top 19)) (Fb:o7 P w K mg base):jm P w K mg base:=
 yg [(["number","way","place"],[none,none,↑1])] F
theorem QB (F:Fy K mg "stall_at" (top 20)) (Fb:o7 P w K mg base):fK P w K mg base:=
 yg [] F
theorem PR (F:Fy K mg "border_ahead_of_changes" (top 30)) (FG:fK P w K mg base) (Fe:mR P w K mg base) (Fn:Y4 P w K mg base):YX P w K mg base:=
 yg [] F
theorem PC (F:Fy K mg "change_at" (top 40)) (FG:fK P w K mg base) (Gr:YR P w K mg base):YS P w K mg base:=
 yg [] F
theorem Q1 (F:Fy K mg "way_out_of" (top 47)) (FK:YM P w K mg base) (Fo:jm P w K mg base) (Fv:fN P w K mg base):Y1 P w K mg base:=
 yg [(["way","floor","pair","told","steps"],[none,↑0,↑2,↑3,↑4])] F
theorem QK (F:Fy K mg "next_border" (top 33)) (Fs:Cm mg "KEEPER" (.str "keeper")) (FL:YV P w K mg base) (Fp:YW P w K mg base) (Fi:YX P w K mg base) (Fo:jm P w K mg base) (Fz:YU P w K mg base):Y6 P w K mg base:=
 yg [(["number","floor"],[none,↑0]),(["way","floor","last"],[none,↑0,↑2])] F
theorem Py (F:Fy K mg "deed_into" (top 45)) (Fo:jm P w K mg base) (Gs:YS P w K mg base) (Fv:fN P w K mg base):YQ P w K mg base:=
 yg [] F
theorem QJ (F:Fy K mg "next_round" (top 34)) (F4:Y6 P w K mg base):Y5 P w K mg base:=
 yg [(["way","fresh"],[none,↑2])] F
theorem p9 {n:Nat}(F:Fy K mg "_law_same" (top 59)) (E_:jl P w K mg base n):jl P w K mg base (n+1):=by
 have hh:n+1+1=n+1+1:=⋯;change FD P w K mg base _ (n+1+1) _ _;rw[hh];show yg [(["_law_k","_law_thing","_law_other"],[none,↑0,↑1])] F
theorem PY (F:Fy K mg "_law_same" (top 59)):jl P w K mg base 0:=Ms F (λ _ _ _ _ _ _=>my λ _ _=>rfl)
theorem QD (F:Fy K mg "rounds" (top 35)) (Ge:Y5 P w K mg base) (FA:fM P w K mg base):fL P w K mg base:=
 yg [(["place","border","last"],[none,none,↑3])] F
theorem QU (F:Fy K mg "_law_refused" (top 62)) (FF:Og K mg "NoChange") (FX:Og K mg "NoCount") (FW:Og K mg "NoFloor") (F9:Og K mg "NoMore") (F8:Og K mg "NoName") (F7:Og K mg "NoPair") (FV:Og K mg "NoPlace") (Gv:Og K mg "NoRow") (Gu:Og K mg "NoWay") (JL:mg "ValueError"=none) (E_:KQ P w K mg base):YA P w K mg base:=
 yg [] F
theorem PL (F:Fy K mg "borders" (top 42)) (Gb:fL P w K mg base):fP P w K mg base:=
 yg [] F
theorem Q7 (F:Fy K mg "taker_way" (top 48)) (Fs:Cm mg "KEEPER" (.str "keeper")) (Fb:o7 P w K mg base) (Fh:jo P w K mg base) (Ga:Y1 P w K mg base) (Gb:fL P w K mg base):Y2 P w K mg base:=
 nJ [] F
theorem Pr (F:Fy K mg "enough" (top 43)) (Fb:o7 P w K mg base) (Fh:jo P w K mg base) (FZ:jn P w K mg base) (F0:fP P w K mg base):YN P w K mg base:=
 nJ [] F
theorem Pe (F:Fy K mg "keeper_deed" (top 46)) (Fs:Cm mg "KEEPER" (.str "keeper")) (Fb:o7 P w K mg base) (Fh:jo P w K mg base) (Gq:YQ P w K mg base) (F0:fP P w K mg base):YJ P w K mg base:=
 nJ [] F
theorem Pb (F:Fy K mg "_law_caught" (top 63)) (G1:YN P w K mg base) (F6:YJ P w K mg base) (Gj:Y2 P w K mg base):YH P w K mg base:=
 yg [] F
theorem Pd {f:Addr}{fd:FuncData}(F:wV K "law" "law" (top 64) f fd) (Gm:YE P w K mg base) (FI:YC P w K mg base) (FU:YD P w K mg base) (GP:YF P w K mg base) (Fd:qQ P w K mg base) (F5:YA P w K mg base) (Gh:YH P w K mg base):xl P w K mg base yG 12 f fd ["_law_script"] (uR K (zA zx oz)):=
 Mk [] F
end
def all_mk {l:PySem.W.OpenLaw}{w:World}{K:Ac}{h:Heap}{mg:Ar}{fa:Addr}(X:K.In h) (G:h.Ns mainGlobals mg) (EW:mg "law"=↑(.ref fa))
  (h0:Fx K "is_whole" (top 13)) (h1:Fx K "is_whole_within" (top 14)) (h2:Fx K "is_row_within" (top 15)) (h3:Fx K "places_of" (top 16)) (h4:Fx K "check_place" (top 17)) (h5:Fx K "check_pair" (top 18)) (h6:Fx K "ways_from" (top 19)) (h7:Fx K "stall_at" (top 20)) (h8:Fx K "at_or_above" (top 22)) (h9:Fx K "least_pairs" (top 23)) (h10:Fx K "holds" (top 24)) (h11:Fx K "both" (top 25)) (JN:Fx K "either" (top 26)) (h13:Fx K "border_ahead_of_way" (top 28)) (h14:Fx K "pairs_ahead_of_changes" (top 29)) (h15:Fx K "border_ahead_of_changes" (top 30)) (h16:Fx K "border_of_either" (top 31)) (h17:Fx K "border_of_all" (top 32)) (h18:Fx K "next_border" (top 33)) (h19:Fx K "next_round" (top 34)) (h20:Fx K "rounds" (top 35)) (h21:Fx K "first_without" (top 36)) (h22:Fx K "step_by" (top 38)) (h23:Fx K "change_by" (top 39)) (h24:Fx K "change_at" (top 40)) (h25:Fx K "borders" (top 42)) (h26:Fx K "enough" (top 43)) (h27:Fx K "leads_into" (top 44)) (h28:Fx K "deed_into" (top 45)) (h29:Fx K "keeper_deed" (top 46)) (h30:Fx K "way_out_of" (top 47)) (h31:Fx K "taker_way" (top 48)) (h32:Fx K "_law_cell" (top 50)) (h33:Fx K "_law_coins" (top 51)) (h34:Fx K "_law_brims" (top 52)) (h35:Fx K "_law_owners" (top 53)) (h36:Fx K "_law_ways" (top 54)) (h37:Fx K "_law_stalls" (top 55)) (h38:Fx K "_law_floor" (top 56)) (h39:Fx K "_law_odd_place" (top 57)) (h40:Fx K "_law_odd_pair" (top 58)) (IJ:Fx K "_law_same" (top 59)) (h42:Fx K "_law_whole" (top 60)) (h43:Fx K "_law_due" (top 61)) (h44:Fx K "_law_refused" (top 62)) (h45:Fx K "_law_caught" (top 63)) (h46:Fx K "law" (top 64))
  (Fs:Cn K "KEEPER" (.str "keeper"))
  (F_:Ei K "NoPair" "pair" ka)
  (FY:Ei K "NoPlace" "place" l_)
  (FF:Ec K "NoChange")
  (FX:Ec K "NoCount")
  (FW:Ec K "NoFloor")
  (F9:Ec K "NoMore")
  (F8:Ec K "NoName")
  (F7:Ec K "NoPair")
  (FV:Ec K "NoPlace")
  (Gv:Ec K "NoRow")
  (Gu:Ec K "NoWay")
  (JL:PySem.W.nsIn K mainGlobals "ValueError"=↑none)
  (y0:PySem.W.nsIn K mainGlobals "set"=↑none) (y1:PySem.W.nsIn K mainGlobals "zip"=↑none) (y2:PySem.W.nsIn K mainGlobals "enumerate"=↑none)
  (z0:PySem.W.nsIn K mainGlobals "len"=↑none) (z1:PySem.W.nsIn K mainGlobals "range"=↑none) (z2:PySem.W.nsIn K mainGlobals "any"=↑none) (z3:PySem.W.nsIn K mainGlobals "all"=↑none) (z4:PySem.W.nsIn K mainGlobals "sorted"=↑none) (z5:PySem.W.nsIn K mainGlobals "isinstance"=↑none) (z6:PySem.W.nsIn K mainGlobals "bool"=↑none) (z7:PySem.W.nsIn K mainGlobals "int"=↑none) (z8:PySem.W.nsIn K mainGlobals "str"=↑none) (z9:PySem.W.nsIn K mainGlobals "list"=↑none) (z10:PySem.W.nsIn K mainGlobals "tuple"=↑none) (z11:PySem.W.nsIn K mainGlobals "max"=↑none) (z12:PySem.W.nsIn K mainGlobals "min"=↑none):
  ∃ fd:FuncData,(∀ (s:Shared) (v:Value),BindsTo s fd #[[v],[]] [("_law_script",v)])/\∀ base:Heap,K.In base->base.Ns mainGlobals mg->xl l.prog w K mg base yG 12 fa fd ["_law_script"] (uR K (zA zx oz)):=by
 have T:Bt mg:=#[Bk X G z0,Bk X G z1,Bk X G z2,Bk X G z3,Bk X G z4,Bk X G z5,Bk X G z6,Bk X G z7,Bk X G z8,Bk X G z9,Bk X G z10,Bk X G z11,Bk X G z12];have U:Bq mg:=#[Bk X G y0,Bk X G y1,Bk X G y2];replace Fs:=Fs.mk X G;have F_:=And.intro (F_.mk X G) Nq;have FY:=And.intro (FY.mk X G) Np;replace FF:=FF.mk X G;replace FX:=FX.mk X G;replace FW:=FW.mk X G;replace F9:=F9.mk X G;replace F8:=F8.mk X G;replace F7:=F7.mk X G;replace FV:=FV.mk X G;replace Gv:=Gv.mk X G;replace Gu:=Gu.mk X G;replace JL:=Bk X G JL;let#[fd,Fl,hb]:=h46.law X G EW λ _ _ _ _ _ _ _ _=>.of_eq rfl;exact#[fd,hb,λ base _ _=>?_];have GD:=Pg l.prog w base T U (h0.mk X G);have FA:=QF l.prog w base T U (h3.mk X G);have Fq:=PV l.prog w base T U (h8.mk X G);have Fe:=QO l.prog w base T U (h9.mk X G);have Fn:=QG l.prog w base T U (h14.mk X G);have GO:=QA l.prog w base T U (h22.mk X G);have Gr:=PB l.prog w base T U (h23.mk X G);have Fd:=Pa l.prog w base T U (h32.mk X G);have Gn:=Q_ l.prog w base T U (h33.mk X G);have FI:=QW l.prog w base T U (h39.mk X G);have FU:=QX l.prog w base T U (h40.mk X G);have Gk:=QR l.prog w base T U (h42.mk X G);have Fg:=Pf l.prog w base T U (h1.mk X G) GD;have FZ:=Pn l.prog w base T U (h10.mk X G) Fq;have HK:=PK l.prog w base T U (h11.mk X G) Fe;have G2:=Pu l.prog w base T U (JN.mk X G) Fe;have Fp:=PQ l.prog w base T U (h13.mk X G) Fe Fq;have Gp:=Pc l.prog w base T U (h34.mk X G) Fd;have Gg:=QV l.prog w base T U (h35.mk X G) Fd;have GC:=QS l.prog w base T U (h36.mk X G) Fd Gn;have Gf:=QT l.prog w base T U (h37.mk X G) Fd;have GP:=QZ l.prog w base T U (h43.mk X G) Gk;have FJ:=Ph l.prog w base T U (h2.mk X G) Fg;have Fb:=Pz l.prog w base T U (h4.mk X G) FY Fg FA;have Fz:=PM l.prog w base T U (h16.mk X G) G2;have FL:=PN l.prog w base T U (h17.mk X G) HK;have FK:=Po l.prog w base T U (h21.mk X G) FZ;have Fv:=QP l.prog w base T U (h27.mk X G) GO FZ;have Gm:=QY l.prog w base T U (h38.mk X G) Fd Gg Gp GC Gf;have Fh:=P0 l.prog w base T U (h5.mk X G) F_ FJ;have Fo:=Q0 l.prog w base T U (h6.mk X G) Fb;have FG:=QB l.prog w base T U (h7.mk X G) Fb;have Fi:=PR l.prog w base T U (h15.mk X G) FG Fe Fn;have Gs:=PC l.prog w base T U (h24.mk X G) FG Gr;have Ga:=Q1 l.prog w base T U (h30.mk X G) FK Fo Fv;have F4:=QK l.prog w base T U (h18.mk X G) Fs FL Fp Fi Fo Fz;have Gq:=Py l.prog w base T U (h28.mk X G) Fo Gs Fv;have Ge:=QJ l.prog w base T U (h19.mk X G) F4;have E_:=PY l.prog w base T U (IJ.mk X G);replace E_:=p9 l.prog w base T U (IJ.mk X G) E_;replace E_:=p9 l.prog w base T U (IJ.mk X G) E_;replace E_:=p9 l.prog w base T U (IJ.mk X G) E_;replace E_:=p9 l.prog w base T U (IJ.mk X G) E_;replace E_:=p9 l.prog w base T U (IJ.mk X G) E_;replace E_:=p9 l.prog w base T U (IJ.mk X G) E_;have Gb:=QD l.prog w base T U (h20.mk X G) Ge FA;have F5:=QU l.prog w base T U (h44.mk X G) FF FX FW F9 F8 F7 FV Gv Gu JL E_;have F0:=PL l.prog w base T U (h25.mk X G) Gb;have Gj:=Q7 l.prog w base T U (h31.mk X G) Fs Fb Fh Ga Gb;have G1:=Pr l.prog w base T U (h26.mk X G) Fb Fh FZ F0;have F6:=Pe l.prog w base T U (h29.mk X G) Fs Fb Fh Gq F0;have Gh:=Pb l.prog w base T U (h45.mk X G) G1 F6 Gj;show Pd l.prog w base T U Fl Gm FI FU GP Fd F5 Gh
def walk {l:PySem.W.OpenLaw}{q:Program}{loose:List Str}{XP:(Str->Option Value)->Heap->Prop}{YP:World->Heap->Prop}{d:DefRec}{K:Params->Ac}(hn:l.most=↑63) (DE:d.params.defaults=[])
  (hY:∀ (w:World) (h:Heap),YP w h->(K w.params).In h)
  (F:∀ (w:World) (mg:Ar) (fa:Addr) (h:Heap),(K w.params).In h->h.Ns mainGlobals mg->mg d.name=↑(.ref fa)->
   ∃ fd:FuncData,(∀ (s:Shared) (u:Value),BindsTo s fd #[[u],[]] [("_law_script",u)])/\∀ base:Heap,(K w.params).In base->base.Ns mainGlobals mg->xl l.prog w (K w.params) mg base yG 12 fa fd ["_law_script"] (uR (K w.params) (zA zx oz))):
  PySem.W.WalkO q loose XP YP l.row.toRowW d [] (λ f vs=>PySem.call f vs):=
 L2.Wf (n:=63) (k:=12) (x:="_law_script") (CX:=λ _=>yG) (sp:=λ w=>uR (K w.params) (zA zx oz)) hn () DE #[rfl,(),()] hY F (λ _ _ a ns hl hO hS=>OW OU hO hS hl) λ _ _ _ _ _ z=>z
end ya
open PySem PySem.W PyProof.Rows
set_option maxHeartbeats 0 in
theorem PySem.Challenge.cw_purseborder_k46_enough_refused_holds : PySem.Challenge.rw_purseborder_k46_enough_refused.Holds := by
 w_on;o_law;k_head;(case hw=>w_witness2)
 k_fill
 refine ya.walk (l:=PySem.Challenge.rw_purseborder_k46_enough_refused) rfl rfl (λ w h Y=>PySem.W.kIn_of Y) ?F
 case F=>
  intro w mg fa h KX G Dt;refine' ya.all_mk KX G Dt ?_ ?_ ?_ ?_ ?_ ?_ ?_ ?_ ?_ ?_ ?_ ?_ ?_ ?_ ?_ ?_ ?_ ?_ ?_ ?_ ?_ ?_ ?_ ?_ ?_ ?_ ?_ ?_ ?_ ?_ ?_ ?_ ?_ ?_ ?_ ?_ ?_ ?_ ?_ ?_ ?_ ?_ ?_ ?_ ?_ ?_ ?_ ?_ ?_ ?_ ?_ ?_ ?_ ?_ ?_ ?_ ?_ ?_ ?_ ?_ ?_ ?_ ?_ ?_ ?_ ?_ ?_ ?_ ?_ ?_ ?_ ?_ ?_ ?_ ?_ ?_
  all_goals first | exact L3.Ei.i (by k_is) (by k_is) (by k_is) (by k_is) (by kernel_rfl) (by k_is) (by k_is) (by k_is) (by k_is) (by k_is) (by k_is) | exact L3.Ec.i (by k_is) (by k_is) (by k_is) (by k_is) (by kernel_rfl) | exact L5.Fx.i (by k_is) (by k_is) (by k_is) (by k_is) | k_is | exact L5.Cn.i (by k_is) (by exact⟨_,rfl⟩)
