import PyProof.Rows.All
import Wide.All
import OpenK.AllK
import Wide.FinOn
import Lean
import PyProof.EqAt
import PyProof.EqKinds
import PyProof.TupleCall
import PySem.SetOps
import PyProof.SetScanFacts
import PyProof.TupleKey
import PyProof.SetKind
import PyProof.SetRoads
import PyProof.IsRules
import PyProof.ZipIter
import PyProof.TupleIter
import PyProof.ListMulRoad
import PyProof.FactsAll.tuple
import PyProof.ListRange
import PyProof.Draws
import PyProof.EnumFor
import PyProof.Rows.ListMul
import PyProof.AutoListH
import PyProof.ExcInit
import PyProof.ExcClass2
import PyProof.InstStore
import PyProof.InstStoreFacts
import PyProof.ExcArgsOwn
import PyProof.IsInstance
import PyProof.IsInstanceH
import PyProof.StationsW
import PyProof.Rows.CatchOwn
import PyProof.FactsAll.dict_1
import PyProof.Rows.Range3
import PyProof.FitsBits
import PyProof.MinMaxWalk
import PyProof.WalkInts
import PyProof.Rows.MinMaxN
import PySem.Challenge.RW_purseborder_k83_whole_taker_takes
set_option Elab.async false
set_option linter.all false
set_option maxRecDepth 100000
set_option genSizeOf false
set_option compiler.extract_closed false
set_option bootstrap.genMatcherCode false
abbrev Ai:=PySem.Value->PySem.Shared->Prop
abbrev Ak:=List (PySem.Addr×PySem.Obj)
abbrev Ah:=List PySem.Value
abbrev AF:=PySem.Str->Option PySem.Value
abbrev Az:=Array PySem.Value
def AL {p:Prop}[Decidable p](h:decide p=true:=by decide +kernel):p:=of_decide_eq_true h
noncomputable section
def gV:=@PySem.wpAny_bind
def za1:=@PySem.Heap.get?_push_of_some
def za2:=@decide_eq_true
def za3:=@decide_eq_false
def za4:=@PySem.wpAny_field
def za5:=@PySem.wpAny_mono
def za6:=@PySem.wpAny_holding
def za7:=@PySem.wpAny_call_entry
def za8:=@PySem.wpAny_newObj_type
def za9:=@PySem.wpAny_setState_of
def zaA:=@PySem.wpAny_seqItems
def zaB:=@PySem.wpAny_callSpecial?_slot
def zaC:=@PySem.wpAny_truthy_bool
def zaD:=@PySem.wpAny_passesOwn
def zaE:=@PySem.wpAny_typeOf
def zaF:=@PySem.Heap.get?_update_self
def zaG:=@PySem.wpAny_setField_rec
def zaH:=@PySem.wpAny_pyIter_list
def zaI:=@PySem.wpAny_askSetting
def zaJ:=@PySem.wpAny_setField
def zaK:=@PySem.wpAny_Call_Name_kw
def zaL:=@PySem.Heap.get?_update_other
def zaM:=@PySem.wpAny_pyIter_tuple
def zaN:=@PySem.Heap.get?_update_ne
def An:=@Option.bind_eq_some_iff
def Ar:=@List.mem_cons_self
def Ay:=@List.mem_cons_of_mem
def AE:=@Option.map_eq_some_iff
def Bb:=@List.not_mem_nil
def Bf:=@List.lookup_cons
def Bk:=@List.nodup_cons
def Bj:=@Nat.lt_or_ge
def Bu:=@List.map_nil
def Bs:=@List.pairwise_cons
def Bx:=@List.any_cons
def BG:=@Nat.ne_of_gt
def BL:=@Bool.false_ne_true
def BK:=@Int.zero_add
def BU:=@List.replicate_succ
def BS:=@Nat.lt_trans
def Cc:=@List.getElem?_append_right
def Cb:=@List.getElem?_append_left
def Ca:=@List.mem_iff_getElem
def B_:=@List.mem_iff_getElem?
def B9:=@List.mem_flatMap
def B8:=@Int.natCast_succ
def Ct:=@List.mem_append_left
def Cs:=@List.append_nil
def Cr:=@List.flatten_cons
def Cq:=@Nat.lt_succ_of_lt
def Cp:=@Int.add_mul
def CA:=@List.filterMap_cons
def Cz:=@List.find?_cons
def Cy:=@Array.getElem_toList
def Cw:=@Int.toNat_natCast
def Cv:=@Int.mul_nonneg
def CQ:=@List.getElem?_replicate
def CP:=@List.length_nil
def CO:=@Bool.and_false
def CN:=@Array.getElem?_eq_none
def CM:=@Nat.le_add_right
def CL:=@List.mem_of_find?_eq_some
def CK:=@List.length_filter_le
def C_:=@Option.isSome_iff_exists
def C9:=@List.length_take
def C8:=@List.length_set
def C7:=@Array.size_map
def C6:=@List.ext_getElem
def C5:=@List.pairwise_map
def C4:=@List.pairwise_iff_getElem
def C3:=@Nat.mod_lt
def C2:=@List.toList_toArray
def C1:=@Nat.zero_add
def DL:=@List.of_mem_zip
def DJ:=@List.forIn_cons
def DI:=@List.pairwise_append
def DH:=@List.lookup_append
def DG:=@List.getElem?_set
def DF:=@List.getElem?_eq_none
def DE:=@Array.getD_eq_getD_getElem?
def DD:=@Bool.and_self
def DC:=@List.map_congr_left
def DB:=@Nat.mul_comm
def DA:=@Nat.eq_zero_or_pos
def Dz:=@Nat.lt_trichotomy
def Dy:=@List.getElem?_cons_succ
def Dx:=@List.getElem?_range
def Dw:=@Array.getElem?_setIfInBounds
def Dv:=@List.foldl_cons
def Du:=@List.map_take
def Dt:=@List.map_drop
def Ds:=@List.zipIdx_cons
def Dr:=@Bool.not_eq_true
def Ed:=@List.mem_filterMap
def Eb:=@List.any_eq_false
def Ea:=@List.length_drop
def D_:=@Nat.lt_of_le_of_lt
def D9:=@List.append_assoc
def D8:=@List.pairwise_singleton
def D7:=@List.getElem_range
def D6:=@List.nodup_range
def D5:=@List.take_append_drop
def D4:=@List.perm_ext_iff_of_nodup
def D3:=@List.length_pos_iff
def D2:=@Bool.or_eq_true
def D1:=@List.mem_map_of_mem
def D0:=@List.nil_append
def DZ:=@Int.lt_of_le_of_lt
def DY:=@List.mem_zipIdx_iff_getElem?
def zcD:=@Int.mul_le_mul_of_nonneg_right
def AB:=@List.size_toArray
def AR:=@List.getElem?_eq_getElem
def AO:=@List.getElem?_eq_some_iff
def AD:=@List.getElem?_map
def Aj:=@Nat.le_refl
def Am:=@List.mem_cons
def Aw:=@List.map_cons
def AA:=@List.length_map
def Ax:=@PySem.Heap.lt_size
def AK:=@PySem.Heap.get?_push_size
def Aq:=@List.mem_map
def AX:=@List.getD_eq_getElem?_getD
def CT:=@Bool.not_false
def AI:=@Nat.ne_of_lt
def A_:=@List.mem_append_right
def CS:=@Bool.not_true
def AH:=@List.mem_singleton
def A9:=@List.mem_of_getElem?
def Bo:=@Array.getElem?_eq_getElem
def A5:=@List.mem_append
def A4:=@List.length_cons
def AG:=@List.mem_range
def Bg:=@PySem.W.mg_none_of
def Bn:=@Nat.lt_of_lt_of_le
def Bm:=@Bool.false_eq_true
def CB:=@List.length_range
def A3:=@Int.le_refl
def Be:=@Bool.eq_iff_iff
def A7:=@List.mem_filter
def BO:=@Option.bind_some
def A8:=@List.any_eq_true
def Ad:=@PySem.wpAny_pure
def Bw:=@Array.length_toList
def BJ:=@Array.getElem?_toList
def AW:=@Nat.zero_le
def Ba:=@Option.some.inj
def A2:=@List.map_map
def BI:=@List.length_append
def Bl:=@List.getElem_mem
def AY:=@Nat.le_trans
def BN:=@Nat.lt_irrefl
def BV:=@Nat.lt_succ_self
def Bv:=@Nat.le_of_lt
def BA:=@List.all_eq_true
def Cd:=@Bool.and_eq_true
def BH:=@List.map_append
def Bz:=@Int.emod_nonneg
def BM:=@Int.emod_lt_of_pos
def DM:=@Int.toNat_of_nonneg
open Lean in
def zR:Nat->Term->MacroM (TSyntax `rcasesPat)
|0,_=>Macro.throwUnsupported
|n+1,t=>match t with
 |`(#[$xs,*])=>do let ys<-xs.getElems.mapM (zR n);`(rcasesPat|⟨$[$ys:rcasesPat],*⟩)
 |`(_)=>`(rcasesPat|_)
 |`($x:ident)=>`(rcasesPat|$x:ident)
 |_=>Macro.throwUnsupported
local macro_rules|`(tactic|let $p:term:=$e)=>do let q<-zR 9 p;`(tactic|obtain $q:rcasesPat:=$e)
local macro_rules|`(tactic|simp! [$a,*] $[$l:location]?)=>`(tactic|simp only [$a,*] $[$l:location]?)
local macro_rules|`(tactic|exists $e)=>`(tactic|simpa using $e)
local macro_rules|`(tactic|show $e)=>`(tactic|refine $e)
local macro_rules|`(tactic|exact $e)=>`(tactic|refine $e)
local macro_rules|`(#[])=>`(by simp)|`(#[$xs,*])=>`(⟨$xs,*⟩)
local macro_rules|`(↑$x)=>`(some $x)
local macro_rules|`(⋯)=>`(by lia)
local macro_rules|`(())=>`(by decide)
abbrev Ac:=PySem.W.Frag
local macro_rules(kind:=Lean.Parser.Command.declaration)|s=>do
 if s[0][4].getNumArgs>0||![``Lean.Parser.Command.definition,``Lean.Parser.Command.abbrev].contains s[1].getKind then Lean.Macro.throwUnsupported
 return s.setArg 0 (s[0].setArg 4 (Lean.mkNullNode [Lean.mkNode ``Lean.Parser.Command.noncomputable [Lean.mkAtom "noncomputable"].toArray].toArray))
namespace L2
open PySem PySem.Spec PyProof.Rows
abbrev Key:=Sum Int Str
def oG:Key->Value->Bool
 | .inl k,v=>Value.isInt k v
 | .inr x,v=>Value.isStrOf x v
def ML (w:World):Key->Int
 | .inl k=>hashInt k
 | .inr x=>hashStr w x
theorem s_:∀ {k:Key}{v:Value},oG k v=true->(∃ i t,k=Sum.inl i/\v=Value.int i t)\/(∃ x t,k=Sum.inr x/\v=Value.str x t)
 | .inl i,v,h=>by
  let#[t,e]:=Value.isInt_shape (k:=i) (v:=v) h;show .inl #[i,t,rfl,e]
 | .inr x,v,h=>by
  let#[t,e]:=Value.isStrOf_shape (x:=x) (v:=v) h;show .inr #[x,t,rfl,e]
def MK (i:Int) (t:Tok):oG (.inl i) (.int i t)=true:=by simp[oG,Value.isInt]
def MJ (x:Str) (t:Tok):oG (.inr x) (.str x t)=true:=by simp[oG,Value.isStrOf]
def MI (a b:Int):decide ((Sum.inl a:Key)=Sum.inl b)=(a == b):=by
 by_cases e:a=b
 .subst e;simp
 .have h:¬ (Sum.inl a:Key)=Sum.inl b:=λ q=>e (Sum.inl.inj q);rw[za3 h];show (beq_eq_false_iff_ne.mpr e).symm
def MF (a b:Str):decide ((Sum.inr a:Key)=Sum.inr b)=decide (a=b):=by
 by_cases e:a=b
 .subst e;simp
 .have h:¬ (Sum.inr a:Key)=Sum.inr b:=λ q=>e (Sum.inr.inj q);rw[za3 h,za3 e]
def MH (a:Int) (b:Str):decide ((Sum.inl a:Key)=Sum.inr b)=false:=za3 (λ q=>nomatch q)
def MG (a:Str) (b:Int):decide ((Sum.inr a:Key)=Sum.inl b)=false:=za3 (λ q=>nomatch q)
def vh (prog:Program) (w:World):PySem.KeyKind prog w Key where
 is:=oG
 hash:=ML w
 inj:=λ v a b ha hb=>by
  rcases s_ ha with ⟨i,t,rfl,rfl⟩ | ⟨x,t,rfl,rfl⟩
  .rcases s_ hb with ⟨j,u,rfl,e⟩ | ⟨y,u,rfl,e⟩
   .injection e with e1 _;rw[e1]
   .show nomatch e
  .rcases s_ hb with ⟨j,u,rfl,e⟩ | ⟨y,u,rfl,e⟩
   .show nomatch e
   .injection e with e1 _;rw[e1]
 byValue:=λ k v h=>by
  rcases s_ h with ⟨i,t,rfl,rfl⟩ | ⟨x,t,rfl,rfl⟩ <;> rfl
 pyHash:=λ hv h=>by
  rcases s_ hv with ⟨i,t,rfl,rfl⟩ | ⟨x,t,rfl,rfl⟩
  .show wpAny_pyHash_int h
  .show wpAny_pyHash_str h
 eqBool:=λ hu hv h=>by
  rcases s_ hu with ⟨i,t,rfl,rfl⟩ | ⟨x,t,rfl,rfl⟩
  .rcases s_ hv with ⟨j,u,rfl,rfl⟩ | ⟨y,u,rfl,rfl⟩
   .rw[MI] at h;show wpAny_eqBool_int h
   .rw[MH] at h;show SeqAt.EqAt.int_str i t y u _ _ _ _ h
  .rcases s_ hv with ⟨j,u,rfl,rfl⟩ | ⟨y,u,rfl,rfl⟩
   .rw[MG] at h;show SeqAt.EqAt.str_int x t j u _ _ _ _ h
   .rw[MF] at h;show wpAny_eqBool_str h
 «strs»:=λ k x t v h=>by
  rcases s_ h with ⟨i,u,rfl,e⟩ | ⟨y,u,rfl,e⟩
  .show nomatch e
  .injection e with e1 _
   subst e1;cases v <;> rfl
def Mf (prog:Program) (w:World) (i:Int) (t:Tok):(vh prog w).is (.inl i) (.int i t)=true:=MK i t
def Me (prog:Program) (w:World) (x:Str) (t:Tok):(vh prog w).is (.inr x) (.str x t)=true:=MJ x t
inductive V where
 | zp | bl (b:Bool) | int (i:Int) | str (x:Str) | l6 (b:Array UInt8) | eg (b:UInt64) | ref (a:Addr) | ty (n:String)
 deriving DecidableEq
def RelV:V->Value->Prop
 | .zp,u=>u=Value.none
 | .bl b,u=>u=Value.bool b
 | .int i,u=>∃ t,u=Value.int i t
 | .str x,u=>∃ t,u=Value.str x t
 | .l6 b,u=>∃ t,u=Value.bytes b t
 | .eg b,u=>∃ t,u=Value.float b t
 | .ref a,u=>u=Value.ref a
 | .ty n,u=>u=Value.type n
abbrev Vals:List V->List Value->Prop:=Paired RelV
theorem Vals.length {xs:List V}{us:Ah}(r:Vals xs us):xs.length=us.length:=Paired.length r
theorem Vals.get:∀ {xs:List V}{us:Ah}{i:Nat}{x:V},Vals xs us->xs[i]?=↑x->∃ u,us[i]?=↑u/\RelV x u
 | _,_,_,_,.nil,e=>by simp at e
 | _,_,0,_,.cons r _,e=>by simp at e;subst e;show#[_,rfl,r]
 | _,_,i+1,x,.cons _ t,e=>by
  let#[u,h1,h2]:=Vals.get (i:=i) (x:=x) t (by exists e);show#[u,by simpa using h1,h2]
theorem Vals.set {x:V}{u:Value}(r:RelV x u):∀ {xs:List V}{us:Ah}(i:Nat),Vals xs us->Vals (xs.set i x) (us.set i u)
 | _,_,_,.nil=>.nil
 | _,_,0,.cons _ t=>.cons r t
 | _,_,i+1,.cons q t=>.cons q (Vals.set r i t)
theorem Vals.append:∀ {xs ys:List V}{us ws:Ah},Vals xs us->Vals ys ws->Vals (xs++ys) (us++ws)
 | _,_,_,_,.nil,s=>s
 | _,_,_,_,.cons r t,s=>.cons r (Vals.append t s)
theorem Vals.take:∀ {xs:List V}{us:Ah}(n:Nat),Vals xs us->Vals (xs.take n) (us.take n)
 | _,_,0,_=>.nil
 | _,_,_+1,.nil=>.nil
 | _,_,n+1,.cons r t=>.cons r (Vals.take n t)
theorem Vals.drop:∀ {xs:List V}{us:Ah}(n:Nat),Vals xs us->Vals (xs.drop n) (us.drop n)
 | _,_,0,r=>r
 | _,_,_+1,.nil=>.nil
 | _,_,n+1,.cons _ t=>Vals.drop n t
def wH:Option V->Option Value->Prop
 | some v,↑u=>RelV v u
 | none,none=>True
 | _,_=>False
def KV {κ:Type}:List (κ × V)->List (κ × Value)->Prop:=Paired λ(p:κ × V) (q:κ × Value)=>p.1=q.1/\RelV p.2 q.2
def kV:Key->V
 | .inl i=>.int i
 | .inr x=>.str x
inductive HO where
 /-- a list -/
 | lst (xs:List V)
 /-- a tuple (never changes) -/
 | tup (xs:List V)
 /-- a dict whose keys are ints and texts;one whose keys are tuples of ints and texts (the empty one is both) -/
 | dK (Ab:List (Key×V)) | dT (Ab:List (List Key×V))
 /-- a set of ints: Aa members,Aa size -/
 | set (S:Int->Bool) (n:Nat)
 /-- an instance of the class at C,Aa dict at dx,Aa attributes -/
 | ins (C dx:Addr) (fs:List (Str×V))
 /-- the dict of the instance at x -/
 | own (x:Addr)
 /-- the dict of an exception -/
 | xd (fs:List (Str×V))
 /-- a bound method,f of x -/
 | met (f x:Addr)
 /-- a range object lo,lo+1,.. below hi -/
 | gD (lo hi:Int)
 /-- a thing that is known to the object (the script;a dict while a loop walks it): read,never written while it is so -/
 | wC (o:Obj) (u:HO)
 /-- a code object's table -/
 | qI (ps:Az)
 /-- any other thing,by what is true of Aa one object (a def of one's own: yR a S n:=HO.ext λ h=>..) -/
 | ext (φ:Heap->Prop)
abbrev Hp:=Addr->Option HO
def upd (H:Hp) (a:Addr) (o:HO):Hp:=λ b=>if b=a then ↑o else H b
def yx {H:Hp}{a:Addr}{o:HO}:upd H a o a=↑o:=by unfold upd;rw[if_pos rfl]
def yi {H:Hp}{a b:Addr}{o:HO}(h:b≠a):upd H a o b=H b:=by unfold upd;rw[if_neg h]
def ua {H:Hp}{a b:Addr}{o u:HO}(h:H a=↑o) (h':H b=↑u) (d:o≠u):a≠b:=by
 intro e;subst e;rw[h] at h';show d (Ba h')
def tP {H:Hp}{a b:Addr}{o:HO}(h:H a=↑o) (h':H b=none):a≠b:=by
 intro e;subst e;rw[h] at h';cases h'
def d7 (h:Heap) (a:Addr):Prop:=∃ o,h.get? a=↑o/\o.dict=none
def d7.new (h:Heap) {d:Az}{n:Nat}:d7 (h.push { cls:=.type "tuple",data:=.seq d n }) h.objs.size:=#[_,AK _ rfl,rfl]
section
variable (P:Program)(w:World)
def yU (H:Hp) (h:Heap) (a:Addr):HO->Prop
 | .lst xs=>xs.length<=sizeLine/\∃ (Aa:Ah) (n:Nat),Vals xs Aa/\h.get? a=↑{ cls:=.type "list",data:=.seq Aa.toArray n }
 | .tup xs=>(xs.length<=sizeLine/\d7 h a)/\∃ Aa:List Value,Vals xs Aa/\IsTup h a Aa.toArray
 | .dK Ab=>Ab.length<=sizeLine/\(a == sysModules)=false/\∃ vs,KV Ab vs/\h.DictOf (vh P w) a vs
 | .dT Ab=>Ab.length<=sizeLine/\(a == sysModules)=false/\∃ xs:List (List Key×Addr×Value),
   Paired (λ(p:List Key×V) (q:List Key×Addr×Value)=>p.1=q.1/\H q.2.1=↑(.tup (p.1.map kV))/\RelV p.2 q.2.2) Ab xs/\
   ∃ o es ep,h.get? a=↑o/\o.ExactDict/\o.data=.dict es ep/\es.toList=xs.map (entryOfKey (tupleKind (vh P w)))/\(xs.map (·.1)).Nodup
 | .set S n=>h.SetOf (intKind P w) a S n
 | .ins C dx fs=>H dx=↑(.own a)/\fs.length<=1000/\dx≠a/\h.get? a=↑(PySem.W.instObj C dx)/\
   ∃ mA,h.Ns1 dx mA/\(∀ f,wH (fs.lookup f) (mA f))/\PySem.Within mA (fs.map (·.1))
 | .own _=>∃ o,h.get? a=↑o
 | .xd fs=>∃ mA,h.Ns1 a mA/\∀ f,wH (fs.lookup f) (mA f)
 | .gD lo hi=>∃ t u v,h.get? a=↑{ cls:=.type "range",data:=.fields [.int lo t,.int hi u,.int 1 v].toArray }
 | .wC o u=>h.get? a=↑o/\yU H h a u
 | .qI ps=>h.get? a=↑{ cls:=.none,data:=.fields ps }
 | .met f x=>h.get? a=↑(PySem.W.methodObj (.ref f) (.ref x))
 | .ext φ=>φ h/\(∃ o,h.get? a=↑o)/\∀ h1 h2:Heap,φ h1->(∀ o,h1.get? a=↑o->h2.get? a=↑o)->φ h2
def yN (H:Hp) (h:Heap):Prop:=∀ a o,H a=↑o->yU P w H h a o
end
section
variable {P:Program}{w:World}{H H':Hp}{h h':Heap}{a:Addr}{o:HO}
theorem yU.lt (x:yU P w H h a o):a<h.objs.size:=by
 cases o with
 | lst xs=>let#[_,_,_,_,e]:=x;show Ax e
 | tup xs=>let#[_,_,_,p]:=x;show p.lt
 | dK Ab=>let#[_,_,_,_,o,_,_,e,_]:=x;show Ax e
 | dT Ab=>let#[_,_,_,_,o,_,_,e,_]:=x;show Ax e
 | set S n=>let#[o,_,_,_,e,_]:=x;show Ax e
 | ins C dx fs=>let#[_,_,_,e,_]:=x;show Ax e
 | own y=>let#[_,e]:=x;show Ax e
 | xd fs=>let#[_,#[_,_,_,e,_],_]:=x;show Ax e
 | gD lo hi=>let#[_,_,_,e]:=x;show Ax e
 | wC ob u=>let#[e,_]:=x;show Ax e
 | qI ps=>show Ax (show h.get? a=↑_ from x)
 | met f y=>show Ax (show h.get? a=↑_ from x)
 | ext φ=>let#[_,#[_,e],_]:=x;show Ax e
theorem Paired.ml {α β:Type}{F G:α->β->Prop}:∀ {l₁:List α}{l₂:List β},Paired F l₁ l₂->(∀ a b,F a b->G a b)->Paired G l₁ l₂
 | _,_,.nil,_=>.nil
 | _,_,.cons r t,f=>.cons (f _ _ r) (Paired.ml t f)
def yU.sN (x:yU P w H h a o) (k:∀ b u,(b=a\/H b=↑(.own a))->h.get? b=↑u->h'.get? b=↑u)
  (ho:∀ b,H b=↑(.own a)->H' b=↑(.own a)) (ht:∀ b xs,H b=↑(.tup xs)->H' b=↑(.tup xs)):yU P w H' h' a o:=by
 induction o with
 | lst xs=>let#[z,Aa,n,r,e]:=x;show#[z,Aa,n,r,k _ _ (.inl rfl) e]
 | tup xs=>let#[#[z,y,u,v],Aa,r,ob,e,c]:=x;show#[#[z,y,k _ _ (.inl rfl) u,v],Aa,r,ob,k _ _ (.inl rfl) e,c]
 | dK Ab=>let#[z,y,vs,r,ob,es,ep,e,c]:=x;show#[z,y,vs,r,ob,es,ep,k _ _ (.inl rfl) e,c]
 | dT Ab=>
  let#[z,y,xs,r,ob,es,ep,e,c]:=x;show#[z,y,xs,Paired.ml r λ p q z=>#[z.1,ht _ _ z.2.1,z.2.2],ob,es,ep,k _ _ (.inl rfl) e,c]
 | set S n=>let#[ob,es,ep,t,e,c]:=x;show#[ob,es,ep,t,k _ _ (.inl rfl) e,c]
 | ins C dx fs=>
  let#[d,z,ne,e,mA,#[od,es,ep,e2,c],r]:=x;show#[ho _ d,z,ne,k _ _ (.inl rfl) e,mA,#[od,es,ep,k _ _ (.inr d) e2,c],r]
 | own y=>let#[ob,e]:=x;show#[ob,k _ _ (.inl rfl) e]
 | xd fs=>let#[mA,#[od,es,ep,e,c],r]:=x;show#[mA,#[od,es,ep,k _ _ (.inl rfl) e,c],r]
 | gD lo hi=>let#[t,u,v,e]:=x;show#[t,u,v,k _ _ (.inl rfl) e]
 | wC ob u ih=>let#[e,q]:=x;show#[k _ _ (.inl rfl) e,ih q]
 | qI ps=>
  have e:h.get? a=↑{ cls:=.none,data:=.fields ps }:=x;change h'.get? a=↑{ cls:=.none,data:=.fields ps };show k a _ (.inl rfl) e
 | met f y=>
  have e:h.get? a=↑(PySem.W.methodObj (.ref f) (.ref y)):=x;change h'.get? a=↑(PySem.W.methodObj (.ref f) (.ref y));show k a _ (.inl rfl) e
 | ext φ=>let#[p,#[o,e],st]:=x;show#[st _ _ p λ o q=>k _ _ (.inl rfl) q,#[o,k _ _ (.inl rfl) e],st]
theorem yN.lt (x:yN P w H h) (e:H a=↑o):a<h.objs.size:=(x a o e).lt
def yN.fresh (x:yN P w H h) (e:h.objs.size<=a):H a=none:=by
 cases q:H a with
 | none=>rfl
 | some u=>show absurd (Bn (x.lt q) e) (BN _)
def yN.kept (x:yN P w H h) (k:∀ b u,h.get? b=↑u->h'.get? b=↑u):yN P w H h':=λ a o e=>
 (x a o e).sN (λ b u _ q=>k b u q) (λ _ q=>q) λ _ _ q=>q
def yN.laid (x:yN P w H h) (k:∀ b u,h.get? b=↑u->h'.get? b=↑u) (hp:h.objs.size<=a) (new:yU P w (upd H a o) h' a o):yN P w (upd H a o) h':=λ b u e=>by
 have hn:=x.fresh hp;by_cases hb:b=a
 .subst hb;rw[yx] at e;cases e;show new
 .rw[yi hb] at e;show (x b u e).sN (λ c v _ q=>k c v q) (λ c q=>by rw[yi (tP q hn)];show q) λ c xs q=>by rw[yi (tP q hn)];show q
end
def Rd (H:Hp) (a:Addr) (u:HO):Prop:=H a=↑u\/∃ o,H a=↑(.wC o u)
def Rd.ok {P:Program}{w:World}{H:Hp}{h:Heap}{a:Addr}{u:HO}(r:Rd H a u) (x:yN P w H h):yU P w H h a u:=by
 rcases r with r | ⟨o,r⟩
 .show x a u r
 .let#[_,q]:=x a _ r;show q
def lI:Option HO->Prop
 | some (.lst _)=>True
 | some (.dK _)=>True
 | some (.dT _)=>True
 | some (.set _ _)=>True
 | some (.ins _ _ _)=>True
 | some (.ext _)=>True
 | _=>False
section
variable {P:Program}{w:World}{H:Hp}{h h':Heap}{x e:Addr}{o':HO}
def yN.write (ok:yN P w H h) (mu:lI (H x)) (he:e=x\/H e=↑(.own x)) (k:∀ b u,b≠e->h.get? b=↑u->h'.get? b=↑u) (C0:∃ u,h'.get? e=↑u)
  (new:yU P w (upd H x o') h' x o'):yN P w (upd H x o') h':=λ b u q=>by
 have nown:∀ c y,H c=↑(.own y)->c≠x:=λ c y r z=>by subst z;rw[r] at mu;show mu
 have ntup:∀ c xs,H c=↑(.tup xs)->c≠x:=λ c xs r z=>by subst z;rw[r] at mu;show mu
 by_cases hb:b=x
 .subst hb;rw[yx] at q;cases q;show new
 .rw[yi hb] at q;by_cases BR:b=e
  .have q':H b=↑(.own x):=by
    rcases he with z | z
    .show absurd (BR.trans z) hb
    .rw[BR];show z
   rw[q] at q';cases q';let#[v,hv]:=C0;show#[v,by rw[BR];show hv]
  .exact (ok b u q).sN (λ c v hc r=>k c v ?_ r) (λ c r=>by rw[yi (nown c b r)];show r) λ c xs r=>by rw[yi (ntup c xs r)];show r
   rcases hc with rfl | hc
   .show BR
   .rintro rfl;rcases he with z | z
    .show nown c b hc z
    .rw[hc] at z;cases z;show hb rfl
end
structure Un (fs ex:List Addr) (H H':Hp) (h h':Heap):Prop where
 keep:∀ b o,h.get? b=↑o->H b=none->b∉fs->b∉ex->h'.get? b=↑o
 slot:∀ b o,h.get? b=↑o->H b=none->b∈fs->b∉ex->∃ sl,h'.get? b=↑{ o with slots:=sl }
 free:∀ b o,h.get? b=↑o->H b=none->b∉ex->H' b=none
 there:∀ b o,h.get? b=↑o->b∉ex->∃ o',h'.get? b=↑o'
 tI:∀ b xs,H b=↑(.tup xs)->H' b=↑(.tup xs)
 rm:∀ b o u,H b=↑(.wC o u)->H' b=↑(.wC o u)
 rO:∀ b ps,H b=↑(.qI ps)->∃ more,H' b=↑(.qI (ps++more))
section
variable {fs ex:List Addr}{H H1:Hp}{h h1 h':Heap}{a x e:Addr}{o:HO}
def Un.any (u:Un fs ex H H1 h h1) {b:Addr}{ob:Obj}(q:h.get? b=↑ob) (n:H b=none) (hx:b∉ex):∃ sl,h1.get? b=↑{ ob with slots:=sl }:=by
 by_cases hb:b∈fs
 .show u.slot b ob q n hb hx
 .show#[ob.slots,u.keep b ob q n hb hx]
def Un.kept (k:∀ b u,h.get? b=↑u->h'.get? b=↑u):Un fs ex H H h h':=
 #[λ b ob q _ _ _=>k b ob q,λ b ob q _ _ _=>#[ob.slots,k b ob q],λ _ _ _ n _=>n,λ b ob q _=>#[ob,k b ob q],λ _ _ q=>q,λ _ _ _ q=>q,λ _ ps q=>#[[].toArray,by rw[q];simp]]
def Un.refl:Un fs ex H H h h:=Un.kept λ _ _ q=>q
def Un.laid (k:∀ b u,h.get? b=↑u->h'.get? b=↑u) (hp:h.objs.size<=a) (hn:H a=none):Un fs ex H (upd H a o) h h' where
 keep:=λ b u q _ _ _=>k b u q
 slot:=λ b u q _ _ _=>#[u.slots,k b u q]
 free:=λ b u q n _=>by rw[yi (AI (Bn (Ax q) hp))];show n
 there:=λ b u q _=>#[u,k b u q]
 tI:=λ b xs q=>by rw[yi (tP q hn)];show q
 rm:=λ b u xs q=>by rw[yi (tP q hn)];show q
 rO:=λ b ps q=>#[[].toArray,by rw[yi (tP q hn),q];simp]
def Un.write (mu:lI (H x)) (he:e=x\/H e=↑(.own x)) (k:∀ b u,b≠e->h.get? b=↑u->h'.get? b=↑u) (C0:∃ u,h'.get? e=↑u):Un fs ex H (upd H x o) h h':=by
 have hx:∀ b,H b=none->b≠x:=λ b n z=>by subst z;rw[n] at mu;show mu
 have hb:∀ b,H b=none->b≠e:=λ b n z=>by
  subst z;rcases he with r | r
  .show hx b n r
  .rw[n] at r;cases r
 have hm:∀ b u,H b=↑u->¬ lI ↑u->b≠x:=λ b u q nm z=>by subst z;rw[q] at mu;show nm mu
 exact#[λ b u q n _ _=>k b u (hb b n) q,λ b u q n _ _=>#[u.slots,k b u (hb b n) q],λ b u q n _=>by rw[yi (hx b n)];show n,λ b u q _=>?_,
  λ b xs q=>by rw[yi (hm b _ q λ z=>z)];show q,λ b u xs q=>by rw[yi (hm b _ q λ z=>z)];show q,λ b ps q=>#[[].toArray,by rw[yi (hm b _ q λ z=>z),q];simp]]
 by_cases BR:b=e
 .subst BR;show C0
 .show#[u,k b u BR q]
end
def ky (h:Heap) (H:Hp):List Addr:=(List.range h.objs.size).filter λ a=>(H a).isSome
def rb (h:Heap) (H:Hp):Heap:=PySem.W.hideAll h (ky h H)
def Ll (h:Heap) (H:Hp):(rb h H).objs.size=h.objs.size:=PySem.W.hideAll_size _ _
def Lm {h:Heap}{H:Hp}{b:Addr}{o:Obj}(e:h.get? b=↑o) (n:H b=none):(rb h H).get? b=↑o:=
 PySem.W.hideAll_get _ e λ hm=>by
  have q:(H b).isSome=true:=(A7.mp hm).2;rw[n] at q;simp at q
def NK {h:Heap}{H:Hp}{b:Addr}{o:Obj}(e:(rb h H).get? b=↑o):h.get? b=↑o/\H b=none:=by
 have e':h.get? b=↑o:=PySem.W.of_hideAll (ky h H) e;exact#[e',?_];cases q:H b with
 | none=>rfl
 | some x=>
  have hm:b∈ky h H:=A7.mpr #[AG.mpr (Ax e'),by simp[q]];have z:(rb h H).get? b=none:=PySem.W.hideAll_none (ky h H) hm;rw[z] at e;cases e
structure Mod (K:Ac) (mg:AF) (base:Heap):Prop where
 m9:K.In base
 glob:base.Ns mainGlobals mg
 blt:∃ mb,base.Ns builtinsNs mb/\∀ x:Str,x≠"__name__"->mb x=bootBuiltins x
 nolimit:base.NoLimit
structure Cx where
 prog:Program
 w:World
 K:Ac
 mg:Str->Option Value
 base:Heap
 A:Around
 N:List Str
 s₀:Shared
 H₀:Hp
 env:Env
 outer:List Env
 stack:List Env
 ex:List Addr
 fn:Str->Bool
 calm:Bool
 pn:Ak
 xe:Ai
def uf (l:List Env):List Addr:=l.filterMap (·.frame)
abbrev AJ (X:Cx) (e:Expr) (es:List Expr):Prop:=starEach (e::es) X.env=(false,eval e X.env)::starEach es X.env
abbrev AN (X:Cx) (p:Pos) (es:List Expr):Prop:=(backTo p (starEach es X.env)).any (·.1)=false
abbrev Cx.fs (X:Cx):List Addr:=uf X.outer
def ij (sc:Scope) (x:Str):Prop:=sc.names.lookup x=↑.local\/sc.names.lookup x=↑.cell\/sc.names.lookup x=↑.free
def Loc (sc:Scope) (x:Str):Prop:=sc.names.lookup x=↑.local\/sc.names.lookup x=↑.cell
def Look (env:Env) (h:Heap) (m:AF) (x:Str) (u:Value):Prop:=
 (env.kindOf x=↑.local/\m x=↑u)\/((env.kindOf x=↑.cell\/env.kindOf x=↑.free)/\∃ c,env.cells.lookup x=↑c/\h.IsCell c ↑u)
structure Cx.Ok (X:Cx):Prop where
 mod:Mod X.K X.mg X.base
 kind:X.env.scope.kind=.function
 glob:X.env.globals=mainGlobals
 blt:X.env.builtins=builtinsNs
 above:X.s₀.heap.objs.size<=X.env.locals
 inj:∀ x y c,X.env.cells.lookup x=↑c->X.env.cells.lookup y=↑c->x=y
 has:∀ x,(X.env.kindOf x=↑.cell\/X.env.kindOf x=↑.free)->∃ c,X.env.cells.lookup x=↑c
 ly:∀ x c,X.fn x=true->X.env.cells.lookup x=↑c->X.s₀.heap.objs.size<=c
 hd:X.calm=true->X.A.handled=none
 frames:X.A.frames=↑X.stack
 k7:X.stack=X.outer\/(X.stack=X.env::X.outer/\X.env.frame=↑X.env.locals)
 ez:∀ b∈X.ex,b≠X.env.locals/\∀ x c,X.env.cells.lookup x=↑c->c≠b
 bs:∀ b o,X.base.get? b=↑o->X.s₀.heap.get? b=↑o/\X.H₀ b=none
 qm:X.base.objs.size<=X.s₀.heap.objs.size
 n_:∀ b o,X.base.get? b=↑o->b∉X.ex
 mQ:∀ b∈X.ex,b∉X.fs
 uD:X.s₀.heap.FunFrames X.base X.outer
 q_:∀ b∈X.fs,X.H₀ b=none
structure Inv (X:Cx) (EY:Ak) (B:List (Option V)) (H:Hp) (s:Shared):Prop where
 ok:X.Ok
 os:s.os=X.s₀.os
 bare:AllBare s.gens
 base:Un X.fs X.ex X.H₀ H X.s₀.heap s.heap
 loc:∃ m,s.heap.Ns X.env.locals m/\∀ (i:Nat) (x:Str) (v:V),X.N[i]?=↑x->B[i]?=↑↑v->ij X.env.scope x->∃ u,RelV v u/\Look X.env s.heap m x u
 cell:∀ x c,X.env.cells.lookup x=↑c->∃ v,s.heap.IsCell c v
 free:H X.env.locals=none
 tU:∀ x c,X.env.cells.lookup x=↑c->H c=none
 pin:∀ p∈X.pn++EY,s.heap.get? p.1=↑p.2/\H p.1=none/\p.1≠X.env.locals/\p.1∉X.fs/\∀ v,p.2.data≠.cell v
 zw:yN X.prog X.w H s.heap
 len:B.length=X.N.length
section
variable {X:Cx}{EY:Ak}{B:List (Option V)}{H H':Hp}{s:Shared}{h':Heap}
def Cx.Ok.NQ (ok:X.Ok) {b:Addr}{o:Obj}(e:X.base.get? b=↑o):b∉X.fs:=λ hb=>by
 have:=(ok.uD.mem hb).1;rw[e] at this;cases this
theorem Inv.bs (I:Inv X EY B H s):∀ b o,X.base.get? b=↑o->s.heap.get? b=↑o/\H b=none:=λ b o e=>
 #[I.base.keep b o (I.ok.bs b o e).1 (I.ok.bs b o e).2 (I.ok.NQ e) (I.ok.n_ b o e),I.base.free b o (I.ok.bs b o e).1 (I.ok.bs b o e).2 (I.ok.n_ b o e)]
def Inv.bk (I:Inv X EY B H s):∀ b o,X.base.get? b=↑o->s.heap.get? b=↑o:=λ b o e=>(I.bs b o e).1
theorem Inv.mod (I:Inv X EY B H s):Mod X.K X.mg X.base:=I.ok.mod
def Inv.xK (I:Inv X EY B H s):X.K.In s.heap:=I.ok.mod.m9.keeps I.bk
theorem Inv.lt (I:Inv X EY B H s):X.env.locals<s.heap.objs.size:=let #[_,hn,_]:=I.loc;hn.lt
def Inv.sz (I:Inv X EY B H s):X.s₀.heap.objs.size<=s.heap.objs.size:=AY I.ok.above (Bv I.lt)
def Inv.aD (I:Inv X EY B H s) {a:Addr}(h:s.heap.objs.size<=a):a∉X.fs:=λ hb=>by
 let#[_,o,ho,_]:=I.ok.uD.mem hb;show absurd (Bn (Ax ho) (AY I.sz h)) (BN _)
def Inv.pz (I:Inv X EY B H s):∀ x c,X.env.cells.lookup x=↑c->c≠X.env.locals:=λ x c e z=>by
 let#[v,o,ho,hd]:=I.cell x c e;let#[m,#[o',es,ep,Gb,HC,_],_]:=I.loc;rw[z,Gb] at ho;cases ho;rw[HC] at hd;cases hd
theorem Inv.uD (I:Inv X EY B H s):s.heap.FunFrames X.base X.outer:=by
 have all:∀ (l:List Env),(∀ b∈uf l,b∈X.fs)->X.s₀.heap.FunFrames X.base l->s.heap.FunFrames X.base l:=by
  intro l
  induction l with
  | nil=>intro _ _;trivial
  | cons env r ih=>
   intro hs hl;let#[hk,#[L,o,hf,hn,ho,hd],hr]:=hl;have hL:L∈X.fs:=hs L (by unfold uf;rw[CA,hf];show Ar);let#[sl,e]:=I.base.slot L o ho (I.ok.q_ L hL) hL λ z=>I.ok.mQ L z hL;show#[hk,#[L,_,hf,hn,e,hd],ih (λ b hb=>hs b (by unfold uf;rw[CA,hf];show Ay _ hb)) hr]
 show all X.outer (λ _ hb=>hb) I.ok.uD
theorem Inv.stack (I:Inv X EY B H s):s.heap.FunFrames X.base X.stack:=by
 rcases I.ok.k7 with e | ⟨e,hf⟩
 .rw[e];show I.uD
 .rw[e];let#[m,hn,_]:=I.loc;exact .cons (by rw[I.ok.kind];decide) hf hn ?_ I.uD;show Heap.get?_none_of_le (AY I.ok.qm I.ok.above)
def Inv.gh (I:Inv X EY B H s):∀ b∈uf X.stack,b∈X.env.locals::X.fs:=λ b hb=>by
 rcases I.ok.k7 with e | ⟨e,hf⟩
 .rw[e] at hb;show Ay _ hb
 .rw[e] at hb;unfold uf at hb;rw[CA,hf] at hb;show hb
def Inv.cR (I:Inv X EY B H s):∀ b∈uf X.stack,H b=none:=λ b hb=>by
 rcases Am.mp (I.gh b hb) with e | hb
 .rw[e];show I.free
 .let#[_,o,ho,_]:=I.ok.uD.mem hb;show I.base.free b o ho (I.ok.q_ b hb) λ z=>I.ok.mQ b z hb
def Inv.step {g':Array GenState}{t':Nat}{d':Drawn}{ch:List Addr}(I:Inv X EY B H s)
  (BZ:∀ b∈ch,(b∈X.ex\/X.s₀.heap.objs.size<=b)/\b≠X.env.locals/\(∀ x c,X.env.cells.lookup x=↑c->c≠b)/\∀ p∈X.pn++EY,p.1≠b)
  (keep:∀ b o,b≠X.env.locals->b∉X.fs->b∉ch->s.heap.get? b=↑o->H b=none->h'.get? b=↑o)
  (slot:∀ b o,b≠X.env.locals->b∈X.fs->b∉ch->s.heap.get? b=↑o->H b=none->∃ sl,h'.get? b=↑{ o with slots:=sl }) (free:∀ b o,b∉ch->s.heap.get? b=↑o->H b=none->H' b=none)
  (there:∀ b o,b∉ch->s.heap.get? b=↑o->∃ o',h'.get? b=↑o')
  (tI:∀ b xs,H b=↑(.tup xs)->H' b=↑(.tup xs)) (rm:∀ b o u,H b=↑(.wC o u)->H' b=↑(.wC o u)) (rO:∀ b ps,H b=↑(.qI ps)->∃ more,H' b=↑(.qI (ps++more)))
  (ns:∀ m,s.heap.Ns X.env.locals m->h'.Ns X.env.locals m) (zw:yN X.prog X.w H' h') (hg:AllBare g'):
  Inv X EY B H' { s with heap:=h',gens:=g',drawn:=d',toks:=t' }:=by
 have neL:∀ b o,X.s₀.heap.get? b=↑o->b≠X.env.locals:=λ b o e=>AI (Bn (Ax e) I.ok.above);have neC:∀ b o,X.s₀.heap.get? b=↑o->b∉X.ex->b∉ch:=λ b o e hx hb=>by
  rcases (BZ b hb).1 with z | z
  .show hx z
  .show absurd (Bn (Ax e) z) (BN _)
 have cellK:∀ x c,X.env.cells.lookup x=↑c->∀ v,s.heap.IsCell c v->h'.IsCell c v:=λ x c e v #[o,ho,hd]=>by
  have nch:c∉ch:=λ z=>(BZ c z).2.2.1 x c e rfl;by_cases hc:c∈X.fs
  .let#[sl,q]:=slot c o (I.pz x c e) hc nch ho (I.tU x c e);show#[_,q,hd]
  .show#[o,keep c o (I.pz x c e) hc nch ho (I.tU x c e),hd]
 exact#[I.ok,I.os,hg,#[λ b o e n hb hx=>?_,λ b o e n hb hx=>?_,λ b o e n hx=>?_,λ b o e hx=>?_,λ b xs e=>tI b xs (I.base.tI b xs e),λ b o xs e=>rm b o xs (I.base.rm b o xs e),λ b ps e=>?_],?_,λ x c e=>?_,?_,λ x c e=>?_,λ p hp=>?_,zw,I.len]
 .show keep b o (neL b o e) hb (neC b o e hx) (I.base.keep b o e n hb hx) (I.base.free b o e n hx)
 .let#[sl,e1]:=I.base.slot b o e n hb hx;let#[sl',e2]:=slot b _ (neL b o e) hb (neC b o e hx) e1 (I.base.free b o e n hx);show#[sl',e2]
 .let#[o',e1]:=I.base.there b o e hx;show free b o' (neC b o e hx) e1 (I.base.free b o e n hx)
 .let#[o',e1]:=I.base.there b o e hx;show there b o' (neC b o e hx) e1
 .let#[m1,e1]:=I.base.rO b ps e;let#[m2,e2]:=rO b _ e1;show#[m1++m2,by rw[e2,Array.append_assoc]]
 .let#[m,hn,hl]:=I.loc;exact#[m,ns m hn,λ i x v e1 e2 e3=>?_];let#[u,r,l]:=hl i x v e1 e2 e3;exact#[u,r,?_];rcases l with l | ⟨k,c,e,z⟩
  .show .inl l
  .show .inr #[k,c,e,cellK x c e _ z]
 .let#[v,z]:=I.cell x c e;show#[v,cellK x c e v z]
 .let#[m,#[o,_,_,ho,_],_]:=I.loc;show free _ o (λ z=>(BZ _ z).2.1 rfl) ho I.free
 .let#[v,o,ho,hd]:=I.cell x c e;show free c o (λ z=>(BZ c z).2.2.1 x c e rfl) ho (I.tU x c e)
 .let#[e,n,ne,nf,d]:=I.pin p hp;have nch:p.1∉ch:=λ z=>(BZ p.1 z).2.2.2 p hp rfl;show#[keep p.1 p.2 ne nf nch e n,free p.1 p.2 nch e n,ne,nf,d]
theorem Inv.un {t':Nat}(I:Inv X EY B H s) (u:Un X.fs [] H H' s.heap h') (zw:yN X.prog X.w H' h'):Inv X EY B H' { s with heap:=h',toks:=t' }:=by
 let#[m,#[o,es,ep,ho,r],_]:=id I.loc;let#[sl,hL]:=u.any ho I.free #[];show I.step (g':=s.gens) (d':=s.drawn) (ch:=[]) (λ _ z=>nomatch z) (λ b o _ hb _ e n=>u.keep b o e n hb #[]) (λ b o _ hb _ e n=>u.slot b o e n hb #[]) (λ b o _ e n=>u.free b o e n #[]) (λ b o _ e=>u.there b o e #[]) u.tI u.rm u.rO (λ m' hm=>by
  let#[o',Gg,ep',Gb,r']:=hm;rw[ho] at Gb;cases Gb;show#[_,Gg,ep',hL,r']) zw I.bare
def Inv.call {g':Array GenState}{t':Nat}{d':Drawn}{ch:List Addr}(I:Inv X EY B H s) (u:Un (uf X.stack) ch H H' s.heap h') (zw:yN X.prog X.w H' h') (hg:AllBare g')
  (BZ:∀ b∈ch,(b∈X.ex\/X.s₀.heap.objs.size<=b)/\b≠X.env.locals/\(∀ x c,X.env.cells.lookup x=↑c->c≠b)/\∀ p∈X.pn++EY,p.1≠b):
  Inv X EY B H' { s with heap:=h',gens:=g',drawn:=d',toks:=t' }:=by
 let#[m,#[o,es,ep,ho,r],_]:=id I.loc;let#[sl,hL]:=u.any ho I.free λ z=>(BZ _ z).2.1 rfl;show I.step (ch:=ch) BZ (λ b o hL hb hc e n=>u.keep b o e n (λ z=>(Am.mp (I.gh b z)).elim hL hb) hc) (λ b o _ _ hc e n=>u.any e n hc) (λ b o hc e n=>u.free b o e n hc) (λ b o hc e=>u.there b o e hc) u.tI u.rm u.rO (λ m' hm=>by
  let#[o',Gg,ep',Gb,r']:=hm;rw[ho] at Gb;cases Gb;show#[_,Gg,ep',hL,r']) zw hg
def Inv.turned {t':Nat}{it:Addr}(I:Inv X EY B H s) (k:∀ b o,b≠it->s.heap.get? b=↑o->h'.get? b=↑o) (hn:H it=none) (hL:it≠X.env.locals)
  (h1:it∈X.ex\/X.s₀.heap.objs.size<=it) (h2:∀ x c,X.env.cells.lookup x=↑c->c≠it) (h3:∀ p∈X.pn++EY,p.1≠it):Inv X EY B H { s with heap:=h',toks:=t' }:=by
 have nit:∀ b u,H b=↑u->b≠it:=λ b u e z=>by rw[z,hn] at e;cases e
 exact I.step (g':=s.gens) (d':=s.drawn) (ch:=[it]) (λ b hb=>?_) (λ b o _ _ hc e _=>k b o (λ z=>hc (by simp[z])) e) (λ b o _ _ hc e _=>#[o.slots,k b o (λ z=>hc (by simp[z])) e]) (λ _ _ _ _ n=>n)
  (λ b o hc e=>#[o,k b o (λ z=>hc (by simp[z])) e]) (λ _ _ e=>e) (λ _ _ _ e=>e) (λ b ps e=>#[[].toArray,by rw[e];simp]) (λ m hm=>?_) (λ b u e=>?_) I.bare
 .have e:b=it:=by exists hb
  subst e;show#[h1,hL,h2,h3]
 .let#[o,es,ep,ho,r]:=hm;show#[o,es,ep,k _ o (Ne.symm hL) ho,r]
 .exact (I.zw b u e).sN (λ c v hc q=>k c v ?_ q) (λ _ q=>q) λ _ _ q=>q;rcases hc with z | z
  .rw[z];show nit b u e
  .show nit c _ z
def Inv.tok (I:Inv X EY B H s) (t:Nat):Inv X EY B H { s with toks:=t }:=I.un (h':=s.heap) (t':=t) Un.refl I.zw
theorem Inv.kept {t':Nat}(I:Inv X EY B H s) (k:∀ b u,s.heap.get? b=↑u->h'.get? b=↑u):Inv X EY B H { s with heap:=h',toks:=t' }:=I.un (Un.kept k) (I.zw.kept k)
theorem Inv.laid {a:Addr}{o:HO}{t':Nat}(I:Inv X EY B H s) (k:∀ b u,s.heap.get? b=↑u->h'.get? b=↑u) (hp:s.heap.objs.size<=a) (new:yU X.prog X.w (upd H a o) h' a o):
  Inv X EY B (upd H a o) { s with heap:=h',toks:=t' }:=I.un (Un.laid k hp (I.zw.fresh hp)) (I.zw.laid k hp new)
theorem Inv.write {x e:Addr}{o:HO}{t':Nat}(I:Inv X EY B H s) (mu:lI (H x)) (he:e=x\/H e=↑(.own x)) (k:∀ b u,b≠e->s.heap.get? b=↑u->h'.get? b=↑u) (C0:∃ u,h'.get? e=↑u)
  (new:yU X.prog X.w (upd H x o) h' x o):Inv X EY B (upd H x o) { s with heap:=h',toks:=t' }:=I.un (Un.write mu he k C0) (I.zw.write mu he k C0 new)
def Inv.gO {HR:Ak}(I:Inv X EY B H s) (h:∀ p∈HR,s.heap.get? p.1=↑p.2/\H p.1=none/\p.1≠X.env.locals/\p.1∉X.fs/\∀ v,p.2.data≠.cell v):Inv X HR B H s:=
 #[I.ok,I.os,I.bare,I.base,I.loc,I.cell,I.free,I.tU,λ p hp=>(A5.mp hp).elim (λ z=>I.pin p (Ct _ z)) (h p),I.zw,I.len]
def aF {N:List Str}(hN:N.Nodup) {i j:Nat}{x:Str}(a:N[i]?=↑x) (b:N[j]?=↑x):i=j:=by
 let#[h1,e1]:=AO.mp a;let#[h2,e2]:=AO.mp b;show (List.getElem_inj hN).mp (e1.trans e2.symm)
def Ui {M:Model}{A:Around}{E:Ai}{i:Nat}{x:Str}{v:V}{u:Value}{Q:Unit->Shared->Prop}(I:Inv X EY B H s) (hN:X.N.Nodup) (hi:X.N[i]?=↑x) (hx:Loc X.env.scope x) (r:RelV v u)
  (h:∀ s',Inv X EY (B.set i ↑v) H s'->(∃ a,Heap.SameBut a s.heap s'.heap/\(a=X.env.locals\/X.env.cells.lookup x=↑a))->Q Unit.unit s') (hf:X.fn x=true\/X.env.scope.names.lookup x=↑.local:=by first | show .inl rfl | show .inr rfl | assumption):wpAny M A (storeName X.env x u) Q E s:=by
 let#[m,hn,hl]:=id I.loc;have ET:(X.env.scope.kind == .class||(X.env.scope.kind == .module&&X.env.locals != X.env.globals))=false:=by rw[I.ok.kind];rfl
 have hiσ:i < B.length:=by rw[I.len];show (AO.mp hi).1
 have pz:=I.pz;have tracked:∀ {a:Addr}{h':Heap},(∃ o,s.heap.get? a=↑o/\H a=none)->Heap.SameBut a s.heap h'->yN X.prog X.w H h':=λ{a h'} ha hs b ob e=>by
  let#[_,_,HX]:=ha;exact (I.zw b ob e).sN (λ c w' hc q=>(hs.2 c ?_).trans q) (λ _ q=>q) λ _ _ q=>q;rintro rfl;rcases hc with rfl | hc
  .rw[HX] at e;cases e
  .rw[HX] at hc;cases hc
 rcases hx with hk | hk
 .exact wpAny_storeName_local hk hn (λ h' hn' hs=>?_) ET;let#[oL,_,_,hoL,_]:=id hn;exact h _ #[I.ok,I.os,I.bare,#[λ b o e n hb hx=>?_,λ b o e n hb hx=>?_,I.base.free,λ b o e hx=>?_,I.base.tI,I.base.rm,I.base.rO],#[_,hn',λ j y v' e1 e2 e3=>?_],λ y c e=>?_,I.free,I.tU,λ p hp=>?_,tracked #[oL,hoL,I.free] hs,by exists I.len] #[_,hs,.inl rfl]
  .show (hs.2 b (AI (Bn (Ax e) I.ok.above))).trans (I.base.keep b o e n hb hx)
  .let#[sl,e1]:=I.base.slot b o e n hb hx;show#[sl,(hs.2 b (AI (Bn (Ax e) I.ok.above))).trans e1]
  .let#[o',e1]:=I.base.there b o e hx;show#[o',(hs.2 b (AI (Bn (Ax e) I.ok.above))).trans e1]
  .by_cases hj:j=i
   .subst hj;rw[hi] at e1;cases e1;rw[List.getElem?_set_self hiσ] at e2;cases e2;show#[u,r,.inl #[hk,#[]]]
   .rw[List.getElem?_set_ne (Ne.symm hj)] at e2;let#[u',r',q]:=hl j y v' e1 e2 e3;exact#[u',r',?_];rcases q with ⟨k,e⟩ | ⟨k,c,e,z⟩
    .exact .inl #[k,?_];have:y≠x:=λ e=>hj (aF hN e1 (e▸hi));simp[this,e]
    .show .inr #[k,c,e,z.sameBut hs (pz y c e)]
  .let#[w',z]:=I.cell y c e;show#[w',z.sameBut hs (pz y c e)]
  .let#[e,n,ne,nf,d]:=I.pin p hp;show#[(hs.2 p.1 ne).trans e,n,ne,nf,d]
 .have Co:X.fn x=true:=by
   rcases hf with z | z
   .show z
   .rw[z] at hk;cases hk
  let#[c,hc]:=I.ok.has x (.inl hk);let#[w',z]:=I.cell x c hc;exact wpAny_storeName_cell I.ok.kind hk hc z (λ h' hc' hs=>?_);let#[oc,hoc,EA]:=id z;exact h { s with heap:=h' } #[I.ok,I.os,I.bare,#[λ b o e n hb hx=>?_,λ b o e n hb hx=>?_,I.base.free,λ b o e hx=>?_,I.base.tI,I.base.rm,I.base.rO],#[m,hn.sameBut hs (Ne.symm (pz x c hc)),λ j y v' e1 e2 e3=>?_],λ y c' e=>?_,I.free,I.tU,λ p hp=>?_,tracked #[oc,hoc,I.tU x c hc] hs,by exists I.len] #[c,hs,.inr hc]
  .show (hs.2 b (AI (Bn (Ax e) (I.ok.ly x c Co hc)))).trans (I.base.keep b o e n hb hx)
  .let#[sl,e1]:=I.base.slot b o e n hb hx;show#[sl,(hs.2 b (AI (Bn (Ax e) (I.ok.ly x c Co hc)))).trans e1]
  .let#[o',e1]:=I.base.there b o e hx;show#[o',(hs.2 b (AI (Bn (Ax e) (I.ok.ly x c Co hc)))).trans e1]
  .by_cases hj:j=i
   .subst hj;rw[hi] at e1;cases e1;rw[List.getElem?_set_self hiσ] at e2;cases e2;show#[u,r,.inr #[.inl hk,c,hc,hc']]
   .rw[List.getElem?_set_ne (Ne.symm hj)] at e2;let#[u',r',q]:=hl j y v' e1 e2 e3;exact#[u',r',?_];rcases q with q | ⟨k,c',e,z'⟩
    .show .inl q
    .exact .inr #[k,c',e,z'.sameBut hs ?_];rintro rfl;show hj (aF hN e1 (I.ok.inj _ _ _ e hc▸hi))
  .by_cases hcc:c'=c
   .subst hcc;show#[_,hc']
   .let#[w2,z2]:=I.cell y c' e;show#[w2,z2.sameBut hs hcc]
  .let#[e,n,ne,nf,d]:=I.pin p hp;exact#[(hs.2 p.1 ?_).trans e,n,ne,nf,d];intro q;rw[q,hoc] at e;have q':oc=p.2:=Ba e;show d w' (by rw[<- q'];show EA)
def gf {M:Model}{A:Around}{E:Ai}{i:Nat}{x:Str}{v:V}{u:Value}{Q:Unit->Shared->Prop}(I:Inv X EY B H s) (hN:X.N.Nodup) (hi:X.N[i]?=↑x) (hx:Loc X.env.scope x) (r:RelV v u)
  (h:∀ s',Inv X EY (B.set i ↑v) H s'->Q Unit.unit s') (hf:X.fn x=true\/X.env.scope.names.lookup x=↑.local:=by first | show .inl rfl | show .inr rfl | assumption):wpAny M A (storeName X.env x u) Q E s:=
 Ui I hN hi hx r (λ s' I' _=>h s' I') hf
def Inv.J1 {s':Shared}{ch:List Addr}(I:Inv X EY B H s) (ho:s'.os=s.os) (u:Un (uf X.stack) ch H H' s.heap s'.heap) (zw:yN X.prog X.w H' s'.heap) (hg:AllBare s'.gens)
  (BZ:∀ b∈ch,(b∈X.ex\/X.s₀.heap.objs.size<=b)/\b≠X.env.locals/\(∀ x c,X.env.cells.lookup x=↑c->c≠b)/\∀ p∈X.pn++EY,p.1≠b):Inv X EY B H' s':=by
 let#[h',g',d',t',o']:=s';have e:o'=s.os:=ho;subst e;show I.call (g':=g') (t':=t') (d':=d') u zw hg BZ
end
abbrev XK:=Value->Option Addr->Hp->Prop
abbrev St:=List (Option V)
abbrev VK:=V->Hp->Prop
abbrev TE:=St->Hp->VK->Prop
abbrev TT:=St->Hp->(Bool->Hp->Prop)->Prop
abbrev TA:=St->Hp->(List V->Hp->Prop)->Prop
structure Ends where
 nx:St->Hp->Prop
 rt:VK
 bk:St->Hp->Prop:=λ _ _=>False
 ct:St->Hp->Prop:=λ _ _=>False
abbrev TS:=Ends->St->Hp->Prop
def EP (X:Cx) (EY:Ak) (B:St) (Q:VK) (u:Value) (s':Shared):Prop:=∃ v H',Inv X EY B H' s'/\RelV v u/\Q v H'
def TP (X:Cx) (EY:Ak) (B:St) (Q:Bool->Hp->Prop) (b:Bool) (s':Shared):Prop:=∃ H',Inv X EY B H' s'/\Q b H'
def AP (X:Cx) (EY:Ak) (B:St) (Q:List V->Hp->Prop) (us:Ah) (s':Shared):Prop:=∃ vs H',Inv X EY B H' s'/\Vals vs us/\Q vs H'
def SP (X:Cx) (EY:Ak) (D:Ends) (f:Flow) (s':Shared):Prop:=
 match f with
 | .next=>∃ B' H',Inv X EY B' H' s'/\D.nx B' H'
 | .brk=>∃ B' H',Inv X EY B' H' s'/\D.bk B' H'
 | .cont=>∃ B' H',Inv X EY B' H' s'/\D.ct B' H'
 | .ret u=>∃ v B' H',Inv X EY B' H' s'/\RelV v u/\D.rt v H'
def PE (X:Cx) (e:Expr) (t:TE):Prop:=
 ∀ (EY:Ak) (s:Shared) (B:St) (H:Hp) (Q:VK),Inv X EY B H s->t B H Q->wpAny (model X.prog X.w) X.A (eval e X.env) (EP X EY B Q) X.xe s
def PT (X:Cx) (e:Expr) (t:TT):Prop:=
 ∀ (EY:Ak) (s:Shared) (B:St) (H:Hp) (Q:Bool->Hp->Prop),Inv X EY B H s->t B H Q->wpAny (model X.prog X.w) X.A (isTrue e X.env (eval e X.env)) (TP X EY B Q) X.xe s
def PW (X:Cx) (e:Expr) (t:TT):Prop:=
 ∀ (whole:Sem Value) (EY:Ak) (s:Shared) (B:St) (H:Hp) (Q:Bool->Hp->Prop),Inv X EY B H s->t B H Q->wpAny (model X.prog X.w) X.A (isTrue e X.env whole) (TP X EY B Q) X.xe s
def PW.pt {X:Cx}{e:Expr}{t:TT}(h:PW X e t):PT X e t:=h _
def PA (X:Cx) (es:List Expr) (t:TA):Prop:=
 ∀ (pos:Pos) (EY:Ak) (s:Shared) (B:St) (H:Hp) (Q:List V->Hp->Prop),Inv X EY B H s->t B H Q->wpAny (model X.prog X.w) X.A (spliced (backTo pos (starEach es X.env))) (AP X EY B Q) X.xe s
def PS (X:Cx) (st:Stmt) (t:TS):Prop:=
 ∀ (EY:Ak) (s:Shared) (B:St) (H:Hp) (D:Ends),Inv X EY B H s->t D B H->wpAny (model X.prog X.w) X.A (exec st X.env) (SP X EY D) X.xe s
def wx (X:Cx) (st:List Stmt) (t:TS):Prop:=
 ∀ (EY:Ak) (s:Shared) (B:St) (H:Hp) (D:Ends),Inv X EY B H s->t D B H->wpAny (model X.prog X.w) X.A (execs st X.env) (SP X EY D) X.xe s
def zB {α:Type}{t:Sem α}{Q Q':α->Shared->Prop}{M:Model}{A:Around}{E:Ai}{s:Shared}(h:wpAny M A t Q E s) (hQ:∀ a s,Q a s->Q' a s):wpAny M A t Q' E s:=za5 h hQ λ _ _ x=>x
section
variable {X:Cx}
def hJ (i:Nat):TE:=fun B H Q=>∃ v,B[i]?=↑↑v/\Q v H
def tC (v:V):TE:=λ _ H Q=>Q v H
def Sf {i:Nat}{x:Str}{pos:Pos}(hN:X.N[i]?=↑x) (hv:ij X.env.scope x) (hd:(x == ("__debug__":Str))=false:=by decide) (BE:(x == ("__classdict__":Str))=false:=by decide):PE X (.Name x pos) (hJ i):=by
 intro EY s B H Q I h;let#[v,e,h]:=h;let#[m,hn,hl]:=I.loc;let#[u,r,l]:=hl i x v hN e hv;have fin:EP X EY B Q u s:=#[v,H,I,r,h];rcases l with ⟨hk,hm⟩ | ⟨hk,c,hc,HZ⟩
 .show wpAny_Name (wpAny_loadName_local I.ok.kind hk hn hm fin) hd
 .rcases hk with hk | hk
  .show wpAny_Name (wpAny_loadName_cell I.ok.kind hk hc HZ fin) hd
  .show wpAny_Name (wpAny_loadName_free I.ok.kind hk hc HZ fin BE) hd
def S7 {i j pos}:PE X (.Constant (.int i) j pos) (tC (.int i)):=λ _ _ _ H _ I h=>wpAny_Constant_int #[.int i,H,I.tok _,#[_,rfl],h]
def SM {b j pos}:PE X (.Constant (.bool b) j pos) (tC (.bl b)):=λ _ _ _ H _ I h=>Constant_bool #[.bl b,H,I,rfl,h]
def Ss {j pos}:PE X (.Constant .none j pos) (tC .zp):=λ _ _ _ H _ I h=>Constant_none #[.zp,H,I,rfl,h]
def Si {x j pos}:PE X (.Constant (.str x) j pos) (tC (.str x)):=λ _ _ _ H _ I h=>Calls.Constant_str #[.str x,H,I.tok _,#[_,rfl],h]
def Gl (X:Cx) (x:Str):Prop:=X.env.kindOf x=↑.globalImplicit
def fD {E:Ai}{EY:Ak}{s:Shared}{B:St}{H:Hp}{x:Str}{u:Value}{pos:Pos}{Q:Ai}(I:Inv X EY B H s) (hg:Gl X x) (hm:X.mg x=↑u) (h:Q u s)
  (hd:(x == ("__debug__":Str))=false:=by decide):wpAny (model X.prog X.w) X.A (eval (.Name x pos) X.env) Q E s:=
 Calls.Name_function_global I.ok.kind hg (Calls.loadGlobal_global (by rw[I.ok.glob];show I.mod.glob.keeps I.bk) hm h) hd
def oB {E:Ai}{EY:Ak}{s:Shared}{B:St}{H:Hp}{x:Str}{u:Value}{pos:Pos}{Q:Ai}(I:Inv X EY B H s) (hg:Gl X x) (hm:X.mg x=none) (hv:bootBuiltins x=↑u) (h:Q u s)
  (hn:x≠"__name__":=by decide) (hd:(x == ("__debug__":Str))=false:=by decide):wpAny (model X.prog X.w) X.A (eval (.Name x pos) X.env) Q E s:=by
 let#[mb,h1,h2]:=I.mod.blt;show Calls.Name_function_global I.ok.kind hg (Calls.loadGlobal_builtin (by rw[I.ok.glob];show I.mod.glob.keeps I.bk) hm (by rw[I.ok.blt];show h1.keeps I.bk) ((h2 x hn).trans hv) h) hd
def S9 {x:Str}{v:V}{u:Value}{pos:Pos}(hg:Gl X x) (hm:X.mg x=↑u) (r:RelV v u) (hd:(x == ("__debug__":Str))=false:=by decide):PE X (.Name x pos) (tC v):=
 λ _ _ _ H _ I h=>fD I hg hm #[v,H,I,r,h] hd
def SK {x:Str}{v:V}{u:Value}{pos:Pos}(hg:Gl X x) (hm:X.mg x=none) (hv:bootBuiltins x=↑u) (r:RelV v u) (hn:x≠"__name__":=by decide) (hd:(x == ("__debug__":Str))=false:=by decide):PE X (.Name x pos) (tC v):=
 λ _ _ _ H _ I h=>oB I hg hm hv #[v,H,I,r,h] hn hd
variable {a b:Expr}{ta tb:TE}{pos:Pos}
variable {tA tB':TT}{E6:List Expr}
def Ug (t u:TT):TT:=fun B H Q=>t B H λ c H1=>if c=true then u B H1 Q else Q false H1
def VP (t u:TT):TT:=fun B H Q=>t B H λ c H1=>if c=true then Q true H1 else u B H1 Q
def VS (t:TT):TT:=fun B H Q=>t B H λ c H1=>Q (!c) H1
def U_ (ha:PT X a tA):PW X (.BoolOp .And [a] pos) tA:=by
 intro wh EY s B H Q I h;exact isTrue_and (zB (ha EY s B H Q I h) λ c s1 e=>?_);cases c with
 | true=>show isTrue_and_nil e
 | false=>show e
def UY (ha:PT X a tA):PW X (.BoolOp .Or [a] pos) tA:=by
 intro wh EY s B H Q I h;exact isTrue_or (zB (ha EY s B H Q I h) λ c s1 e=>?_);cases c with
 | false=>show isTrue_or_nil e
 | true=>show e
def Ta (ha:PT X a tA) (hb:PW X (.BoolOp .And (b::E6) pos) tB'):PW X (.BoolOp .And (a::b::E6) pos) (Ug tA tB'):=by
 intro wh EY s B H Q I h;exact isTrue_and (zB (ha EY s B H _ I h) λ c s1 #[H1,I1,q1]=>?_);cases c with
 | true=>show hb wh EY s1 B H1 Q I1 q1
 | false=>show#[H1,I1,q1]
def UZ (ha:PT X a tA) (hb:PW X (.BoolOp .Or (b::E6) pos) tB'):PW X (.BoolOp .Or (a::b::E6) pos) (VP tA tB'):=by
 intro wh EY s B H Q I h;exact isTrue_or (zB (ha EY s B H _ I h) λ c s1 #[H1,I1,q1]=>?_);cases c with
 | true=>show#[H1,I1,q1]
 | false=>show hb wh EY s1 B H1 Q I1 q1
def Te (ha:PT X a tA):PT X (.UnaryOp .Not a pos) (VS tA):=by
 intro EY s B H Q I h;show isTrue_not (ha EY s B H (λ c H1=>Q (!c) H1) I h)
def Ue (ta tb:TE):TE:=fun B H Q=>ta B H λ x H1=>∃ c,x=.bl c/\if c=true then tb B H1 Q else Q (.bl false) H1
def VQ (ta:TE):TE:=fun B H Q=>ta B H λ x H1=>∃ c,x=.bl c/\Q (.bl (!c)) H1
def So {op} {t:TE}(h:PE X a t):PE X (.BoolOp op [a] pos) t:=λ EY s B H Q I hw=>BoolOp_one (h EY s B H Q I hw)
def SN (ha:PE X a ta) (hb:PE X (.BoolOp .And (b::E6) pos) tb):PE X (.BoolOp .And (a::b::E6) pos) (Ue ta tb):=by
 intro EY s B H Q I h;exact BoolOp_and (zB (ha EY s B H _ I h) λ v s1 #[x,H1,I1,r1,q1]=>?_);let#[c,rfl,q1]:=q1;cases r1;exact zaC ?_;cases c with
 | true=>show hb EY s1 B H1 Q I1 q1
 | false=>show#[.bl false,H1,I1,rfl,q1]
def Sq (ha:PE X a ta):PE X (.UnaryOp .Not a pos) (VQ ta):=by
 intro EY s B H Q I h;exact UnaryOp_ (zB (ha EY s B H _ I h) λ v s1 #[x,H1,I1,r1,q1]=>?_);let#[c,rfl,q1]:=q1;cases r1;show not_of (zaC #[.bl (!c),H1,I1,rfl,q1])
def VY (t:TT) (ta tb:TE):TE:=fun B H Q=>t B H λ c H1=>if c=true then ta B H1 Q else tb B H1 Q
def S8 {c:Expr}(hc:PT X c tA) (ha:PE X a ta) (hb:PE X b tb):PE X (.IfExp c a b pos) (VY tA ta tb):=by
 intro EY s B H Q I h;exact wpAny_IfExp (zB (hc EY s B H _ I h) λ d s1 #[H1,I1,q1]=>?_);cases d with
 | true=>show ha EY s1 B H1 Q I1 q1
 | false=>show hb EY s1 B H1 Q I1 q1
end
def zT (K:Ac) (H:Hp) (a:Addr) (xs:List V):Prop:=
 Rd H a (.lst xs)\/
  ∃ (o:Obj) (Aa:Az) (n:Nat),K.lookup a=↑o/\o.cls=.type "list"/\o.dict=none/\o.data=.seq Aa n/\Aa.size<=sizeLine/\Vals xs Aa.toList
def zX (K:Ac) (H:Hp) (a:Addr) (xs:List V):Prop:=
 Rd H a (.tup xs)\/
  ∃ (o:Obj) (Aa:Az) (n:Nat),K.lookup a=↑o/\(o.cls=.type "tuple"/\o.dict=none)/\o.data=.seq Aa n/\Aa.size<=sizeLine/\Vals xs Aa.toList
def JZ:Value->Option V
 | .none=>↑.zp
 | .bool b=>↑(.bl b)
 | .int i _=>↑(.int i)
 | .str x _=>↑(.str x)
 | .bytes b _=>↑(.l6 b)
 | .float b _=>↑(.eg b)
 | .ref a=>↑(.ref a)
 | .type n=>↑(.ty n)
 | _=>none
def RelV.abs {x:V}{u:Value}(r:RelV x u):JZ u=↑x:=by
 cases x with
 | zp=>cases r;rfl
 | bl _=>cases r;rfl
 | ref _=>cases r;rfl
 | ty _=>cases r;rfl
 | _=>let#[t,rfl]:=r;rfl
theorem RelV.inj {x y:V}{u:Value}(r:RelV x u) (q:RelV y u):x=y:=Ba (r.abs.symm.trans q.abs)
theorem Vals.inj:∀ {xs ys:List V}{us:Ah},Vals xs us->Vals ys us->xs=ys
 | _,_,_,.nil,.nil=>rfl
 | _,_,_,.cons r t,.cons r' t'=>by rw[r.inj r',Vals.inj t t']
section
variable {X:Cx}{EY:Ak}{B:St}{H:Hp}{s:Shared}{a:Addr}{xs ys:List V}
def zT.of {K:Ac}(h:H a=↑(.lst xs)):zT K H a xs:=.inl (.inl h)
def zX.of {K:Ac}(h:H a=↑(.tup xs)):zX K H a xs:=.inl (.inl h)
def Inv.list (I:Inv X EY B H s) (h:zT X.K H a xs):∃ Aa:List Value,Vals xs Aa/\PlainL s.heap a Aa.toArray/\xs.length<=sizeLine:=by
 rcases h with h | ⟨o,Aa,n,hk,hc,hd,hs,hz,r⟩
 .let#[z,Aa,n,r,e]:=h.ok I.zw;show#[Aa,r,#[_,n,e,rfl,rfl,rfl],z]
 .exact#[Aa.toList,r,#[o,n,I.xK a o hk,hc,hd,by exists hs],?_];have e:=r.length;simp![Bw] at e;lia
def Inv.tuple (I:Inv X EY B H s) (h:zX X.K H a xs):∃ Aa:List Value,Vals xs Aa/\IsTup s.heap a Aa.toArray/\xs.length<=sizeLine:=by
 rcases h with h | ⟨o,Aa,n,hk,hc,hs,hz,r⟩
 .let#[z,Aa,r,p]:=h.ok I.zw;show#[Aa,r,p,z.1]
 .exact#[Aa.toList,r,#[o,I.xK a o hk,hc.1,n,by exists hs],?_];have e:=r.length;simp![Bw] at e;lia
def Inv.f9 (I:Inv X EY B H s) (h:zT X.K H a xs) (h':zT X.K H a ys):xs=ys:=by
 let#[Aa,r,#[o,n,e,_,_,d],_]:=I.list h;let#[AQ,r',#[o',n',e',_,_,d'],_]:=I.list h';rw[e] at e';cases e';rw[d] at d'
 injection d' with d1 _
 have:Aa=AQ:=by exists congrArg Array.toList d1
 subst this;show r.inj r'
def Inv.iY (I:Inv X EY B H s) (h:zX X.K H a xs) (h':zX X.K H a ys):xs=ys:=by
 let#[Aa,r,#[o,e,_,n,d],_]:=I.tuple h;let#[AQ,r',#[o',e',_,n',d'],_]:=I.tuple h';rw[e] at e';cases e';rw[d] at d'
 injection d' with d1 _
 have:Aa=AQ:=by exists congrArg Array.toList d1
 subst this;show r.inj r'
end
abbrev Cx.tD (X:Cx) (E:Ai):Cx:={ X with xe:=E }
abbrev Cx.xa (X:Cx):Cx:=X.tD λ _ _=>False
theorem Cx.Ok.tD {X:Cx}(ok:X.Ok) (E:Ai):(X.tD E).Ok:=
 #[ok.mod,ok.kind,ok.glob,ok.blt,ok.above,ok.inj,ok.has,ok.ly,ok.hd,ok.frames,ok.k7,ok.ez,ok.bs,ok.qm,ok.n_,ok.mQ,ok.uD,ok.q_]
def Cx.Ok.pW {X:Cx}{E:Ai}(ok:(X.tD E).Ok):X.Ok:=
 #[ok.mod,ok.kind,ok.glob,ok.blt,ok.above,ok.inj,ok.has,ok.ly,ok.hd,ok.frames,ok.k7,ok.ez,ok.bs,ok.qm,ok.n_,ok.mQ,ok.uD,ok.q_]
section
variable {X:Cx}{EY:Ak}{B:St}{H:Hp}{s:Shared}{E:Ai}
theorem Inv.tD (I:Inv X EY B H s) (E:Ai):Inv (X.tD E) EY B H s:=#[I.ok.tD E,I.os,I.bare,I.base,I.loc,I.cell,I.free,I.tU,I.pin,I.zw,I.len]
theorem Inv.pW (I:Inv (X.tD E) EY B H s):Inv X EY B H s:=#[I.ok.pW,I.os,I.bare,I.base,I.loc,I.cell,I.free,I.tU,I.pin,I.zw,I.len]
theorem SP.pW {D:Ends}{f:Flow}{s':Shared}(h:SP (X.tD E) EY D f s'):SP X EY D f s':=by
 cases f with
 | ret u=>let#[v,B',H',I,r,q]:=h;show#[v,B',H',I.pW,r,q]
 | _=>let#[B',H',I,q]:=h;show#[B',H',I.pW,q]
theorem wx.xa {st:List Stmt}{t:TS}(h:wx X.xa st t):wx X st t:=λ EY s B H D I hw=>
 za5 (h EY s B H D (I.tD _) hw) (λ _ _ q=>q.pW) λ _ _ z=>False.elim z
end
section
variable {X:Cx}{st:Stmt}{E6:List Stmt}{t u:TS}{e:Expr}{te:TE}{pos:Pos}
def VU:TS:=λ D B H=>D.nx B H
def VM (t u:TS):TS:=λ D B H=>t { D with nx:=u D } B H
def Th:wx X [] VU:=λ _ _ B H _ I h=>wpAny_execs_nil #[B,H,I,h]
def Ti (h1:PS X st t) (h2:wx X E6 u):wx X (st::E6) (VM t u):=by
 intro EY s B H D I h;exact wpAny_execs_cons (zB (h1 EY s B H { D with nx:=u D } I h) λ f s1 q=>?_);cases f with
 | next=>
  let#[B',H',I',q]:=q;show h2 EY s1 B' H' D I' q
 | ret v=>show q
 | _=>show q
def Tg (h1:PS X st t):wx X [st] t:=by
 intro EY s B H D I h;exact wpAny_execs_cons (zB (h1 EY s B H D I h) λ f s1 q=>?_);cases f with
 | next=>show wpAny_execs_nil q
 | ret v=>show q
 | _=>show q
def Inv.quiet {EY:Ak}{B:St}{H:Hp}{s:Shared}(I:Inv X EY B H s):interactive X.env=false:=by simp[interactive,I.ok.kind]
def Ua (te:TE):TS:=λ D B H=>te B H λ _ H1=>D.nx B H1
def Tv (he:PE X e te) (hs:swapsWith e none pos.line X.env=pure false:=by rfl):PS X (.Expr e pos) (Ua te):=by
 intro EY s B H D I h;show wpAny_Expr_any (zB (he EY s B H _ I h) λ v s1 #[x,H1,I1,r1,q1]=>#[B,H1,I1,q1]) I.quiet hs
def VN (te:TE):TS:=λ D B H=>te B H D.rt
def Tr (he:PE X e te):PS X (.Return ↑e pos) (VN te):=by
 intro EY s B H D I h;show wpAny_Return_some (zB (he EY s B H _ I h) λ v s1 #[x,H1,I1,r1,q1]=>#[x,B,H1,I1,r1,q1])
def VX (c:TT) (t u:TS):TS:=λ D B H=>c B H λ b H1=>if b=true then t D B H1 else u D B H1
def Ts {c:Expr}{a b:List Stmt}{tc:TT}(hc:PT X c tc) (ha:wx X a t) (hb:wx X b u):PS X (.If c a b pos) (VX tc t u):=by
 intro EY s B H D I h;exact wpAny_If (zB (hc EY s B H _ I h) λ d s1 #[H1,I1,q1]=>?_);cases d with
 | true=>show ha EY s1 B H1 D I1 q1
 | false=>show hb EY s1 B H1 D I1 q1
end
abbrev TG:=V->St->Hp->(St->Hp->Prop)->Prop
abbrev rC:=List V->St->Hp->(St->Hp->Prop)->Prop
def PG (X:Cx) (target:Expr) (t:TG):Prop:=
 ∀ (EY:Ak) (s:Shared) (B:St) (H:Hp) (v:V) (u:Value) (Q:St->Hp->Prop),Inv X EY B H s->RelV v u->t v B H Q->
  wpAny (model X.prog X.w) X.A (assign target X.env u) (λ _ s'=>∃ B' H',Inv X EY B' H' s'/\Q B' H') X.xe s
def sC (X:Cx) (ts:List Expr) (t:rC):Prop:=
 ∀ (EY:Ak) (s:Shared) (B:St) (H:Hp) (vs:List V) (us:Ah) (Q:St->Hp->Prop),Inv X EY B H s->Vals vs us->t vs B H Q->
  wpAny (model X.prog X.w) X.A (assignInOrder ((assignEach ts X.env).map (·.2)) us) (λ _ s'=>∃ B' H',Inv X EY B' H' s'/\Q B' H') X.xe s
abbrev du:=V->V->V->Hp->(Hp->Prop)->Prop
def Xw (X:Cx) (t:du):Prop:=
 ∀ (EY:Ak) (s:Shared) (B:St) (H:Hp) (o i v:V) (ov iv u:Value) (Q:Hp->Prop),Inv X EY B H s->RelV o ov->RelV i iv->RelV v u->t o i v H Q->
  wpAny (model X.prog X.w) X.A (setItem ov iv u) (λ _ s'=>∃ H',Inv X EY B H' s'/\Q H') X.xe s
section
variable {X:Cx}{pos:Pos}
def oV (i:Nat):TG:=λ v B H Q=>Q (B.set i ↑v) H
def TU {i:Nat}{x:Str}(hN:X.N.Nodup) (hi:X.N[i]?=↑x) (hx:Loc X.env.scope x) (hf:X.fn x=true\/X.env.scope.names.lookup x=↑.local:=by first | show .inl rfl | show .inr rfl | assumption):PG X (.Name x pos) (oV i):=by
 intro EY s B H v u Q I r h;show wpAny_assign_Name (gf I hN hi hx r (λ s' I'=>#[_,H,I',h]) hf)
def LM:rC:=λ vs B H Q=>vs=[]/\Q B H
def LN (t:TG) (u:rC):rC:=λ vs B H Q=>∃ v r,vs=v::r/\t v B H fun B' H'=>u r B' H' Q
def TL:sC X [] LM:=by
 intro EY s B H vs us Q I r h;let#[e,h]:=h;subst e;cases r;show assignInOrder_nil #[B,H,I,h]
def TN {e:Expr}{es:List Expr}{t:TG}{u:rC}(h1:PG X e t) (h2:sC X es u)
  (hs:(assignEach (e::es) X.env).map (·.2)=assign e X.env::(assignEach es X.env).map (·.2):=by rfl):sC X (e::es) (LN t u):=by
 intro EY s B H vs us Q I r h;let#[v,vr,e1,h]:=h;subst e1;cases r with
 | cons r rr=>
  rw[hs];exact assignInOrder_cons (zB (h1 EY s B H _ _ _ I r h) λ _ s1 #[B1,H1,I1,q1]=>?_);show h2 EY s1 B1 H1 _ _ Q I1 rr q1
def ZM (K:Ac) (n:Nat) (t:rC):TG:=λ v B H Q=>∃ a xs,v=.ref a/\zX K H a xs/\xs.length=n/\t xs B H Q
def TQ {es:List Expr}{k:Nat}{t:rC}{n:Nat}(hc:X.calm=true) (h:sC X es t)
  (hn:(assignEach es X.env).length=n:=by rfl) (AU:(assignEach es X.env).findIdx? (·.1)=none:=by rfl):PG X (.Tuple es k pos) (ZM X.K n t):=by
 intro EY s B H v u Q I r hw;let#[a,xs,e1,hq,hl,hw]:=hw;subst e1;cases r;let#[Aa,rv,ht,hz]:=I.tuple hq;exact assign_Tuple_tuple (I.ok.hd hc) ht (by simp[hn,<- hl,rv.length]) AU λ h' hx=>?_;have I1:Inv X EY B H { s with heap:=h' }:=I.kept (t':=s.toks) λ b o e=>hx b o (AI (Ax e)) e;show h EY _ B H xs _ Q I1 (by exists rv) hw
def LK (to ti:TE) (t:du):TG:=λ v B H Q=>to B H λ o H1=>ti B H1 λ i H2=>t o i v H2 λ H3=>Q B H3
def TR {o i:Expr}{to ti:TE}{t:du}(ho:PE X o to) (hi:PE X i ti) (hs:Xw X t)
  (ha:∀ v,assign (.Subscript o i pos) X.env v=(do
   let ov <- holding [v] (eval o X.env)
   let iv <- holding [v,ov] (eval i X.env)
   standAt pos
   holding [v,ov,iv] (setItem ov iv v)
   release [v,ov,iv] []):=by intro _;rfl):PG X (.Subscript o i pos) (LK to ti t):=by
 intro EY s B H v u Q I r h;rw[ha];exact gV (za6 (zB (ho EY s B H _ I h) λ ov s1 #[x,H1,I1,r1,q1]=>?_));exact gV (za6 (zB (hi EY s1 B H1 _ I1 q1) λ iv s2 #[y,H2,I2,r2,q2]=>?_));exact gV (wpAny_standAt (gV (za6 (zB (hs EY s2 B H2 x y v ov iv u _ I2 r1 r2 r q2) λ _ s3 #[H3,I3,q3]=>?_))));show wpAny_release #[B,H3,I3,q3]
def nH (te:TE) (g:TG):TS:=λ D B H=>te B H λ x H1=>g x B H1 D.nx
def bQ {tg e:Expr}{te:TE}{g:TG}(he:PE X e te) (hg:PG X tg g) (hs:swapsWithSole [tg] e pos.line X.env=pure false:=by rfl) (hw:swappedStores [tg] e X.env=pure none:=by rfl)
  (h1:(assignEach [tg] X.env).map (·.2)=[assign tg X.env]:=by rfl):PS X (.Assign [tg] e pos) (nH te g):=by
 intro EY s B H D I h;exact wpAny_Assign_stores (zB (he EY s B H _ I h) λ v s1 #[x,H1,I1,r1,q1]=>?_) hs hw;rw[h1];show zB (hg EY s1 B H1 x v _ I1 r1 q1) λ _ s2 q=>q
def Tq {i:Nat}{x:Str}{e:Expr}{te:TE}{pos':Pos}(hN:X.N.Nodup) (hi:X.N[i]?=↑x) (hx:Loc X.env.scope x) (he:PE X e te) (hs:swapsWith e ↑(.Name x pos') pos.line X.env=pure false:=by rfl) (hf:X.fn x=true\/X.env.scope.names.lookup x=↑.local:=by first | show .inl rfl | show .inr rfl | assumption):
  PS X (.Assign [.Name x pos'] e pos) (nH te (oV i)):=by
 intro EY s B H D I h;exact wpAny_Assign_Name (zB (he EY s B H _ I h) λ v s1 #[y,H1,I1,r1,q1]=>?_) hs;show gf I1 hN hi hx r1 (λ s2 I2=>#[_,H1,I2,q1]) hf
def VG (c:TT) (tb:TS):TS:=λ D B H=>∃ W:Nat->St->Hp->Prop,(∃ m,W m B H)/\∀ m B H,W m B H->
 c B H λ b H1=>if b=true then ∃ N:St->Hp->Prop,(∀ B' H',N B' H'->∃ m',m'<m/\W m' B' H')/\tb { D with nx:=N,ct:=N,bk:=D.nx } B H1 else D.nx B H1
def Tj {c:Expr}{body:List Stmt}{tc:TT}{tb:TS}(hp:PassesOwn (model X.prog X.w) X.A X.env X.xe) (hc:PT X c tc) (hb:wx X body tb):PS X (.While c body [] pos) (VG tc tb):=by
 intro EY s B H D I h;let#[W,#[m0,w0],turn]:=h;exact wpAny_While (codeAny_whileLoop (λ n s'=>∃ B' H',Inv X EY B' H' s'/\W n B' H') ?_ m0 #[B,H,I,w0]);rintro n s1 ⟨B1,H1,I1,w1⟩;exact zaD hp (zB (hc EY s1 B1 H1 _ I1 (turn n B1 H1 w1)) λ b s2 #[H2,I2,q2]=>?_);cases b with
 | true=>
  let#[N,hN,q2]:=q2;rw[if_pos rfl];exact zaD hp (zB (hb EY s2 B1 H2 _ I2 q2) λ f s3 q3=>?_);cases f with
  | next=>
   let#[B3,H3,I3,n3]:=q3;let#[m',hm,w3]:=hN B3 H3 n3;show#[m',hm,B3,H3,I3,w3]
  | cont=>
   let#[B3,H3,I3,n3]:=q3;let#[m',hm,w3]:=hN B3 H3 n3;show#[m',hm,B3,H3,I3,w3]
  | brk=>show q3
  | ret v=>show q3
 | false=>
  rw[if_neg BL];show wpAny_execs_nil #[B1,H2,I2,q2]
end
structure It where
 go:Nat->Hp->Prop
 pV:Nat->Hp->V->Hp->Prop
 stop:Nat->Hp->Prop
def uo (X:Cx) (EY:Ak) (H:Hp) (b:Addr):Prop:=
 H b=none/\b≠X.env.locals/\b∉X.fs/\(b∈X.ex\/X.s₀.heap.objs.size<=b)/\(∀ x c,X.env.cells.lookup x=↑c->c≠b)/\∀ p∈X.pn++EY,p.1≠b
theorem Inv.jr {X:Cx}{EY:Ak}{B:St}{H H':Hp}{s:Shared}{b:Addr}(I:Inv X EY B H s) (hb:s.heap.objs.size<=b) (hn:H' b=none):uo X EY H' b:=by
 exact#[hn,BG (Bn I.lt hb),I.aD hb,.inr (AY I.sz hb),λ x c e z=>?_,λ p hp z=>?_]
 .let#[v,q]:=I.cell x c e;show absurd (Bn q.lt (by rw[z];show hb)) (BN _)
 .show absurd (Bn (Ax (I.pin p hp).1) (by rw[z];show hb)) (BN _)
structure Turn (P:Program) (w:World) (K:Ac) (tg:Expr) (J:It) (fp:List Addr) (it:Addr) (tn:Nat->Heap->Prop):Prop where
 mem:it∈fp
 obj:∀ i h,tn i h->∀ b∈fp,∃ o,h.get? b=↑o/\∀ v,o.data≠.cell v
 keep:∀ i h h',tn i h->(∀ b∈fp,∀ o,h.get? b=↑o->h'.get? b=↑o)->tn i h'
 item:∀ (X:Cx),X.prog=P->X.w=w->X.K=K->X.calm=true->∀ (i:Nat) (EY:Ak) (s:Shared) (B:St) (H:Hp) (E:Ai),Inv X EY B H s->(∀ b∈fp,uo X EY H b)->tn i s.heap->J.go i H->
  wpAny (model P w) X.A (pyNext (.ref it)) (λ r s1=>∃ u,r=↑u/\
   wpAny (model P w) X.A (letOwnedTupleGo tg (.ref it) u) (λ _ s2=>∃ x H',Inv X EY B H' s2/\RelV x u/\J.pV i H x H'/\tn (i+1) s2.heap/\∀ b∈fp,H' b=none) E s1) E s
 done:∀ (X:Cx),X.prog=P->X.w=w->X.K=K->X.calm=true->∀ (i:Nat) (EY:Ak) (s:Shared) (B:St) (H:Hp) (E:Ai),Inv X EY B H s->(∀ b∈fp,uo X EY H b)->tn i s.heap->J.stop i H->
  wpAny (model P w) X.A (pyNext (.ref it)) (λ r s1=>r=none/\Inv X EY B H s1) E s
 self:∀ (A:Around) (i:Nat) (s:Shared) (Q:Ai) (E:Ai),tn i s.heap->Q (.ref it) s->wpAny (model P w) A (pyIter (.ref it)) Q E s
abbrev TI:=St->Hp->(It->Hp->Prop)->Prop
def Xx (X:Cx) (EY:Ak) (B:St) (tg:Expr) (R:It->Hp->Prop) (itv:Value) (s2:Shared):Prop:=
 ∃ (it:Addr) (fp:List Addr) (tn:Nat->Heap->Prop) (J:It) (H':Hp),itv=.ref it/\Inv X EY B H' s2/\Turn X.prog X.w X.K tg J fp it tn/\tn 0 s2.heap/\(∀ b∈fp,uo X EY H' b)/\R J H'
def PI (X:Cx) (tg iter:Expr) (wi:TI):Prop:=
 ∀ (EY:Ak) (s:Shared) (B:St) (H:Hp) (R:It->Hp->Prop),Inv X EY B H s->wi B H R->
  wpAny (model X.prog X.w) X.A (eval iter X.env) (λ v s1=>wpAny (model X.prog X.w) X.A (pyIter v) (Xx X EY B tg R) X.xe s1) X.xe s
def fT {M:Model}{A:Around}{E:Ai}{s:Shared}{tg:Expr}{it:Addr}{u:Value}{o:Obj}{n:String}{vs:Az}{Q:Unit->Shared->Prop}(ho:s.heap.get? it=↑o) (hc:o.cls=.type n) (hd:o.data=.fields vs)
  (hn:["enumerate","zip","dict_itemiterator","dict_reverseitemiterator","odict_iterator","itertools.zip_longest","itertools.pairwise"].contains n=false) (hQ:Q Unit.unit s):wpAny M A (letOwnedTupleGo tg (.ref it) u) Q E s:=by
 unfold letOwnedTupleGo;cases tg <;> first
  | show Ad hQ
  | (cases u <;> first
    | show Ad hQ
    | (exact gV (wpAny_load ho ?_)
       rw[hc,hd];change wpAny M A (if (["enumerate","zip","dict_itemiterator","dict_reverseitemiterator","odict_iterator","itertools.zip_longest","itertools.pairwise"].contains n&&vs[0]? == ↑(rawInt _))=true then _ else _) Q E s;rw[if_neg (by intro h;rw[hn,Bool.false_and] at h;cases h)];show Ad hQ))
def X5 (K:Ac) (a:Addr):It:=
 #[λ i H=>∃ xs x,zT K H a xs/\xs[i]?=↑x,λ i H x H'=>H'=H/\∀ xs,zT K H a xs->xs[i]?=↑x,λ i H=>∃ xs,zT K H a xs/\xs.length<=i]
def X4 (K:Ac) (a:Addr):It:=
 #[λ i H=>∃ xs x,zX K H a xs/\xs[i]?=↑x,λ i H x H'=>H'=H/\∀ xs,zX K H a xs->xs[i]?=↑x,λ i H=>∃ xs,zX K H a xs/\xs.length<=i]
def iz (lo:Int) (n:Nat):It:=#[λ i _=>i<n,λ i H x H'=>H'=H/\x=.int (lo+i),λ i _=>n<=i]
def V8 {P:Program}{w:World}{K:Ac}{tg:Expr}(a it:Addr):Turn P w K tg (X5 K a) [it] it (λ i h=>h.IsListIter it a i) where
 mem:=#[]
 obj:=λ i h st b hb=>by
  have e:b=it:=by exists hb
  subst e;let#[o,e,c,d]:=st;show#[o,e,λ v z=>by rw[d] at z;cases z]
 keep:=λ i h h' st k=>st.at λ o e=>k it #[] o e
 item:=by
  intro X hP hw hK hc i EY s B H E I hf st hg;subst hP hw hK;let#[xs,x,hq,hx]:=hg;let#[Aa,rv,p,hz]:=I.list hq;let#[u,hu,ru]:=rv.get hx;let#[f0,f1,f2,f3,f4,f5]:=hf it #[];exact wpAny_pyNext_list_item st p.isList (x:=u) (by exists hu) λ h' GH sb=>?_;have I1:Inv X EY B H { s with heap:=h' }:=I.turned (t':=s.toks) (λ b o hb e=>(sb.2 b hb).trans e) f0 f1 f3 f4 f5;let#[o,e,c,d]:=id GH;show#[u,rfl,fT (s:={ s with heap:=h' }) e c d () #[x,H,I1,ru,#[rfl,λ ys hy=>by rw[I.f9 hy hq];show hx],GH,λ b hb=>(hf b hb).1]]
 done:=by
  intro X hP hw hK hc i EY s B H E I hf st hg;subst hP hw hK;let#[xs,hq,hx]:=hg;let#[Aa,rv,p,hz]:=I.list hq;let#[f0,f1,f2,f3,f4,f5]:=hf it #[];have hl:=rv.length;show wpAny_pyNext_list_end (I.ok.hd hc) st p.isList (by simp;lia) λ h' eb=>#[rfl,I.turned (t':=s.toks) (λ b o hb e=>eb b o hb e) f0 f1 f3 f4 f5]
 self:=λ _ _ _ _ _ st h=>wpAny_pyIter_listiter st h
def V6 {P:Program}{w:World}{K:Ac}{tg:Expr}(a it:Addr):Turn P w K tg (X4 K a) [it] it (λ i h=>h.IsTupleIter it a i) where
 mem:=#[]
 obj:=λ i h st b hb=>by
  have e:b=it:=by exists hb
  subst e;let#[o,e,c,d]:=st;show#[o,e,λ v z=>by rw[d] at z;cases z]
 keep:=λ i h h' st k=>st.at λ o e=>k it #[] o e
 item:=by
  intro X hP hw hK hc i EY s B H E I hf st hg;subst hP hw hK;let#[xs,x,hq,hx]:=hg;let#[Aa,rv,p,hz]:=I.tuple hq;let#[u,hu,ru]:=rv.get hx;let#[f0,f1,f2,f3,f4,f5]:=hf it #[];exact wpAny_pyNext_tuple_item st (show s.heap.IsTuple a Aa.toArray from p) (x:=u) (by exists hu) λ h' GH sb=>?_;have I1:Inv X EY B H { s with heap:=h' }:=I.turned (t':=s.toks) (λ b o hb e=>(sb.2 b hb).trans e) f0 f1 f3 f4 f5;let#[o,e,c,d]:=id GH;show#[u,rfl,fT (s:={ s with heap:=h' }) e c d () #[x,H,I1,ru,#[rfl,λ ys hy=>by rw[I.iY hy hq];show hx],GH,λ b hb=>(hf b hb).1]]
 done:=by
  intro X hP hw hK hc i EY s B H E I hf st hg;subst hP hw hK;let#[xs,hq,hx]:=hg;let#[Aa,rv,p,hz]:=I.tuple hq;let#[f0,f1,f2,f3,f4,f5]:=hf it #[];have hl:=rv.length;show wpAny_pyNext_tuple_end (I.ok.hd hc) st (show s.heap.IsTuple a Aa.toArray from p) (by simp;lia) λ h' eb=>#[rfl,I.turned (t':=s.toks) (λ b o hb e=>eb b o hb e) f0 f1 f3 f4 f5]
 self:=λ _ _ _ _ _ st h=>wpAny_pyIter_tupleiter st h
def V7 {P:Program}{w:World}{K:Ac}{tg:Expr}(it:Addr) (lo:Int) (n:Nat):Turn P w K tg (iz lo n) [it] it (λ i h=>IsRangeIter h it (lo+(i:Nat)*1) ((n:Int)-(i:Nat)) 1) where
 mem:=#[]
 obj:=λ i h st b hb=>by
  have e:b=it:=by exists hb
  subst e;show#[_,st,λ v z=>by
   have z':Data.fields _=Data.cell v:=z;cases z']
 keep:=λ i h h' st k=>k it #[] _ st
 item:=by
  intro X hP hw hK hc i EY s B H E I hf st hg;subst hP hw hK;let#[f0,f1,f2,f3,f4,f5]:=hf it #[];have W:=Walks.range (prog:=X.prog) (w:=X.w) (I.ok.hd hc) it lo 1 n;exact W.item i s _ _ hg st λ v h' tk hv GH kk=>?_;let#[t,rfl]:=hv;have I1:Inv X EY B H { s with heap:=h',toks:=tk }:=I.turned (λ b o hb e=>kk b o (by exists hb) e) f0 f1 f3 f4 f5;exact#[_,rfl,fT (s:={ s with heap:=h',toks:=tk }) (n:="range_iterator") GH rfl rfl () #[.int (lo+i),H,I1,#[t,?_],#[rfl,rfl],GH,λ b hb=>(hf b hb).1]];rw[Int.mul_one]
 done:=by
  intro X hP hw hK hc i EY s B H E I hf st hg;subst hP hw hK;let#[f0,f1,f2,f3,f4,f5]:=hf it #[];show wpAny_pyNext_range_end (I.ok.hd hc) st (by have:n<=i:=hg;lia) λ h' eb=>#[rfl,I.turned (t':=s.toks) (λ b o hb e=>eb b o hb e) f0 f1 f3 f4 f5]
 self:=λ _ _ _ _ _ st h=>wpAny_pyIter_rangeiter st h
section
variable {X:Cx}{tg:Expr}
def UQ {EY:Ak}{B:St}{H:Hp}{s:Shared}{R:It->Hp->Prop}{E:Ai}{lo hi:Int}{t u v:Tok}{tk:Nat}(I:Inv X EY B H s) (h1:-(2 ^ 62)<=lo) (h2:lo<2 ^ 62) (h3:-(2 ^ 62)<=hi) (h4:hi<2 ^ 62)
  (q:R (iz lo (hi-lo).toNat) H):wpAny (model X.prog X.w) X.A (pyIter (.ref s.heap.objs.size)) (Xx X EY B tg R) E { s with heap:=s.heap.push { cls:=.type "range",data:=.fields [.int lo t,.int hi u,.int 1 v].toArray },toks:=tk }:=by
 exact wpAny_pyIter_range (IsRange.new ..) (small_one h1 h2 h3 h4) ?_;have I1:Inv X EY B H { s with heap:=s.heap.push { cls:=.type "range",data:=.fields [.int lo t,.int hi u,.int 1 v].toArray },toks:=tk }:=I.kept λ b o e=>za1 _ e;exact#[(s.heap.push { cls:=.type "range",data:=.fields [.int lo t,.int hi u,.int 1 v].toArray }).objs.size,[(s.heap.push { cls:=.type "range",data:=.fields [.int lo t,.int hi u,.int 1 v].toArray }).objs.size],_,_,H,rfl,
  I1.kept (t':=tk) λ b o e=>za1 _ e,V7 _ lo (hi-lo).toNat,?_,λ b hb=>?_,q]
 .have e1:lo+((0:Nat):Int)*1=lo:=#[];have e2:(((hi-lo).toNat:Nat):Int)-((0:Nat):Int)=Builtin.Range.rangeSize lo hi 1:=by rw[rangeSize_one];split <;> lia
  change IsRangeIter _ _ (lo+((0:Nat):Int)*1) ((((hi-lo).toNat:Nat):Int)-((0:Nat):Int)) 1;rw[e1,e2];show AK _ rfl
 .have e:b=(s.heap.push { cls:=.type "range",data:=.fields [.int lo t,.int hi u,.int 1 v].toArray }).objs.size:=by exists hb
  subst e;show I1.jr (Aj _) (I1.zw.fresh (Aj _))
def ZD (ta:TA):TI:=fun B H R=>ta B H λ vs H1=>∃ j:Int,vs=[.int j]/\-(2 ^ 62)<=j/\j<2 ^ 62/\R (iz 0 j.toNat) H1
theorem TJ {a:Expr}{ta:TA}{p pos:Pos}(hg:Gl X "range") (hm:X.mg "range"=none) (ha:PA X [a] ta) (hs:starEach [a] X.env=[(false,eval a X.env)]:=by rfl):PI X tg (.Call (.Name "range" p) [a] [] pos) (ZD ta):=by
 intro EY s B H R I h;exact Call_ (oB I hg hm boot_range (PyProof.Rows.callWith_type1 (zB (ha pos EY s B H _ I h) λ us s1 #[vs,H1,I1,r1,q1]=>?_) hs rfl));let#[j,e,q1,q2,q]:=q1;subst e;cases r1 with
 | cons r rr=>
  cases rr;let#[t,rfl]:=r;show call_range_1 (UQ I1 ⋯ ⋯ q1 q2 (by exists q))
def VZ (wi:TI) (g:TG) (tb:TS):TS:=λ D B H=>wi B H λ J H1=>∃ W:Nat->Nat->St->Hp->Prop,(∃ m,W 0 m B H1)/\∀ i m B H,W i m B H->
 (J.stop i H/\D.nx B H)\/(J.go i H/\∃ N:St->Hp->Prop,(∀ B' H',N B' H'->∃ m',m'<m/\W (i+1) m' B' H')/\∀ x H',J.pV i H x H'->g x B H' fun B2 H2=>tb { D with nx:=N,ct:=N,bk:=D.nx } B2 H2)
def nS (fp:List Addr) (h:Heap):Ak:=fp.filterMap λ b=>(h.get? b).map λ o=>(b,o)
def kZ {fp:List Addr}{h:Heap}{b:Addr}{o:Obj}(hb:b∈fp) (e:h.get? b=↑o):(b,o)∈nS fp h:=Ed.mpr #[b,hb,by rw[e];rfl]
def NJ {fp:List Addr}{h:Heap}{p:Addr×Obj}(hp:p∈nS fp h):p.1∈fp/\h.get? p.1=↑p.2:=by
 let#[b,hb,e]:=Ed.mp hp;cases q:h.get? b with
 | none=>rw[q] at e;cases e
 | some o=>
  rw[q] at e;have e':(b,o)=p:=Ba e;subst e';show#[hb,q]
def Inv.pinned {EY:Ak}{B:St}{H:Hp}{s:Shared}{fp:List Addr}(I:Inv X EY B H s) (hf:∀ b∈fp,uo X EY H b) (ho:∀ b∈fp,∃ o,s.heap.get? b=↑o/\∀ v,o.data≠.cell v):Inv X (EY++nS fp s.heap) B H s:=
 I.gO λ p hp=>(A5.mp hp).elim (λ z=>I.pin p (A_ _ z)) λ z=>by
  let#[hb,e]:=NJ z;let#[f0,f1,f2,_]:=hf p.1 hb;let#[o,e',d]:=ho p.1 hb;rw[e] at e';cases e';show#[e,f0,f1,f2,d]
def Inv.nD {EY pl:Ak}{B:St}{H:Hp}{s:Shared}(I:Inv X (EY++pl) B H s):Inv X EY B H s:=I.gO λ p hp=>I.pin p (A_ _ (Ct _ hp))
def Tt {iter:Expr}{body:List Stmt}{wi:TI}{g:TG}{tb:TS}{pos:Pos}(hp:PassesOwn (model X.prog X.w) X.A X.env X.xe) (hc:X.calm=true) (hi:PI X tg iter wi) (hg:PG X tg g) (hb:wx X body tb)
  (hs:∀ x,foldedSetIterable iter X.env x=pure x:=by intro _;rfl):PS X (.For tg iter body [] pos) (VZ wi g tb):=by
 intro EY s B H D I h;exact wpAny_For (zB (hi EY s B H _ I h) λ v s1 h1=>zB h1 λ itv s2 h2=>?_) hs;let#[it,fp,tn,J,H2,e,I2,T,st2,f2,W,#[m0,w0],turn]:=h2;subst e;have G1:∀ {H':Hp},(∀ b∈fp,H' b=none)->∀ b∈fp,uo X EY H' b:=λ hn b hb=>#[hn b hb,(f2 b hb).2];exact codeAny_forLoop_any (λ n s'=>∃ i B' H',Inv X EY B' H' s'/\tn i s'.heap/\(∀ b∈fp,H' b=none)/\W i n B' H') ?_ m0 #[0,B,H2,I2,st2,λ b hb=>(f2 b hb).1,w0];rintro n s3 ⟨i,B3,H3,I3,st3,fr3,w3⟩;rcases turn i n B3 H3 w3 with ⟨stop,qn⟩ | ⟨go,N,hN,step⟩
 .exact zaD hp (zB (T.done X rfl rfl rfl hc i EY s3 B3 H3 X.xe I3 (G1 fr3) st3 stop) λ r s4 #[hr,I4]=>?_);subst hr;show wpAny_execs_nil #[B3,H3,I4,qn]
 .exact zaD hp (zB (T.item X rfl rfl rfl hc i EY s3 B3 H3 X.xe I3 (G1 fr3) st3 go) λ r s4 #[u,hr,h4]=>?_);subst hr;exact zaD hp (zB h4 λ _ s5 #[x,H5,I5,r5,y5,st5,fr5]=>?_);have I5':=I5.pinned (G1 fr5) (T.obj _ _ st5);exact zaD hp (zB (hg _ s5 B3 H5 x u _ I5' r5 (step x H5 y5)) λ _ s6 #[B6,H6,I6,q6]=>?_);exact zaD hp (zB (hb _ s6 B6 H6 _ I6 q6) λ f s7 q7=>?_);have again:∀ {B7:St}{H7:Hp},Inv X (EY++nS fp s5.heap) B7 H7 s7->N B7 H7->∃ m,m<n/\∃ i B' H',Inv X EY B' H' s7/\tn i s7.heap/\(∀ b∈fp,H' b=none)/\W i m B' H':=λ{B7 H7} I7 n7=>by
   let#[m',hm,w7]:=hN B7 H7 n7;exact#[m',hm,i+1,B7,H7,I7.nD,T.keep _ _ _ st5 λ b hb o e=>(I7.pin (b,o) (A_ _ (A_ _ (kZ hb e)))).1,λ b hb=>?_,w7];let#[o,e,d]:=T.obj _ _ st5 b hb;show (I7.pin (b,o) (A_ _ (A_ _ (kZ hb e)))).2.1
  cases f with
  | brk=>let#[B7,H7,I7,q7]:=q7;show#[B7,H7,I7.nD,q7]
  | ret v=>let#[x7,B7,H7,I7,r7,q7]:=q7;show#[x7,B7,H7,I7.nD,r7,q7]
  | _=>let#[B7,H7,I7,n7]:=q7;show again I7 n7
end
abbrev R2:=V->V->Hp->VK->Prop
def yp (X:Cx) (f:Value->Value->Sem Value) (r:R2):Prop:=
 ∀ (EY:Ak) (s:Shared) (B:St) (H:Hp) (x y:V) (v u:Value) (Q:VK),Inv X EY B H s->RelV x v->RelV y u->r x y H Q->
  wpAny (model X.prog X.w) X.A (f v u) (EP X EY B Q) X.xe s
def dq (X:Cx) (f:Value->Sem Value) (r:V->Hp->VK->Prop):Prop:=
 ∀ (EY:Ak) (s:Shared) (B:St) (H:Hp) (x:V) (v:Value) (Q:VK),Inv X EY B H s->RelV x v->r x H Q->
  wpAny (model X.prog X.w) X.A (f v) (EP X EY B Q) X.xe s
def yI (X:Cx) (f:Value) (r:List V->Hp->VK->Prop):Prop:=
 ∀ (EY:Ak) (s:Shared) (B:St) (H:Hp) (xs:List V) (us:Ah) (Q:VK),Inv X EY B H s->Vals xs us->r xs H Q->
  wpAny (model X.prog X.w) X.A (call f us) (EP X EY B Q) X.xe s
def J_ (X:Cx) (r:V->Hp->(Bool->Hp->Prop)->Prop):Prop:=
 ∀ (EY:Ak) (s:Shared) (B:St) (H:Hp) (x:V) (v:Value) (Q:Bool->Hp->Prop),Inv X EY B H s->RelV x v->r x H Q->
  wpAny (model X.prog X.w) X.A (truthy v) (TP X EY B Q) X.xe s
def nG (r:R2) (ta tb:TE):TE:=fun B H Q=>ta B H λ x H1=>tb B H1 λ y H2=>r x y H2 Q
def VH (r:V->Hp->VK->Prop) (ta:TE):TE:=fun B H Q=>ta B H λ x H1=>r x H1 Q
def rI (C:Int->Int->Prop) (g:Int->Int->V):R2:=λ x y H Q=>∃ i j,x=.int i/\y=.int j/\C i j/\Q (g i j) H
def vy (g:Int->Int->V):R2:=λ x y H Q=>∃ i j,x=.int i/\y=.int j/\Q (g i j) H
def rU (g:Int->V):V->Hp->VK->Prop:=λ x H Q=>∃ i,x=.int i/\Q (g i) H
section
variable {X:Cx}{a b:Expr}{ta tb:TE}{pos:Pos}
def eT (ha:PE X a ta) (hb:PE X b tb) {EY:Ak}{s:Shared}{B:St}{H:Hp}{R:V->V->Hp->Prop}(I:Inv X EY B H s)
  (h:ta B H λ x H1=>tb B H1 λ y H2=>R x y H2) {Q:Ai}{f:Value->Value->Sem Value}
  (hf:∀ v u s2 x y H2,Inv X EY B H2 s2->RelV x v->RelV y u->R x y H2->wpAny (model X.prog X.w) X.A (f v u) Q X.xe s2):
  wpAny (model X.prog X.w) X.A (eval a X.env) (λ v s₁=>wpAny (model X.prog X.w) X.A (eval b X.env) (λ u s₂=>wpAny (model X.prog X.w) X.A (f v u) Q X.xe s₂) X.xe s₁) X.xe s:=by
 exact zB (ha EY s B H _ I h) λ v s1 #[x,H1,I1,r1,q1]=>?_;exact zB (hb EY s1 B H1 _ I1 q1) λ u s2 #[y,H2,I2,r2,q2]=>?_;show hf v u s2 x y H2 I2 r1 r2 q2
def Sk {op:Operator}{r:R2}(ho:yp X (binaryOp op) r) (ha:PE X a ta) (hb:PE X b tb):PE X (.BinOp a op b pos) (nG r ta tb):=by
 intro EY s B H Q I h;show wpAny_BinOp (eT ha hb I h λ v u s2 x y H2 I2 rx ry q=>ho EY s2 B H2 x y v u Q I2 rx ry q)
def Sg {op:UnaryOp}{r:V->Hp->VK->Prop}(ho:dq X (unaryOp op) r) (ha:PE X a ta):PE X (.UnaryOp op a pos) (VH r ta):=by
 intro EY s B H Q I h;show UnaryOp_ (zB (ha EY s B H _ I h) λ v s1 #[x,H1,I1,r1,q1]=>ho EY s1 B H1 x v Q I1 r1 q1)
def oy {f:Value->Value->Sem Value}{C:Int->Int->Prop}{g:Int->Int->Int}
  (rule:∀ (i j:Int) (t u:Tok) (s:Shared) (Q:Ai) (E:Ai),C i j->Q (.int (g i j) s.toks) { s with toks:=s.toks+1 }->wpAny (model X.prog X.w) X.A (f (.int i t) (.int j u)) Q E s):
  yp X f (rI C λ i j=>.int (g i j)):=by
 intro EY s B H x y v u Q I rx ry h;let#[i,j,rfl,rfl,hc,q]:=h;let#[t,rfl]:=rx;let#[t',rfl]:=ry;show rule i j t t' s _ _ hc #[.int (g i j),H,I.tok _,#[_,rfl],q]
def av {f:Value->Value->Sem Value}{g:Int->Int->Int}
  (rule:∀ (i j:Int) (t u:Tok) (s:Shared) (Q:Ai) (E:Ai),Q (.int (g i j) s.toks) { s with toks:=s.toks+1 }->wpAny (model X.prog X.w) X.A (f (.int i t) (.int j u)) Q E s):
  yp X f (vy λ i j=>.int (g i j)):=by
 intro EY s B H x y v u Q I rx ry h;let#[i,j,rfl,rfl,q]:=h;let#[t,rfl]:=rx;let#[t',rfl]:=ry;show rule i j t t' s _ _ #[.int (g i j),H,I.tok _,#[_,rfl],q]
def kT {f:Value->Value->Sem Value}{g:Int->Int->Bool}
  (rule:∀ (i j:Int) (t u:Tok) (s:Shared) (Q:Ai) (E:Ai),Q (.bool (g i j)) s->wpAny (model X.prog X.w) X.A (f (.int i t) (.int j u)) Q E s):
  yp X f (vy λ i j=>.bl (g i j)):=by
 intro EY s B H x y v u Q I rx ry h;let#[i,j,rfl,rfl,q]:=h;let#[t,rfl]:=rx;let#[t',rfl]:=ry;show rule i j t t' s _ _ #[.bl (g i j),H,I,rfl,q]
def wz (i j:Int):Prop:=0<j/\j<1073741824
def qE (i j:Int):Prop:=0<=j/\j<=1000000/\i.natAbs<2 ^ 64
def vS (i j:Int):Prop:=(-(2 ^ 64)<i/\i<2 ^ 64)\/(-(2 ^ 64)<j/\j<2 ^ 64)
def vS.ok {i j:Int}(h:vS i j):IntMulOk i j:=by
 rcases h with ⟨h1,h2⟩ | ⟨h1,h2⟩
 .show .of_left (intBits_le_64 h1 h2)
 .show .of_right (intBits_le_64 h1 h2)
def Pd:yp X (binaryOp .Add) (vy λ i j=>.int (i+j)):=av λ _ _ _ _ _ _ _ q=>add_int q
def QK:yp X (binaryOp .Sub) (vy λ i j=>.int (i-j)):=av λ _ _ _ _ _ _ _ q=>sub_int q
def QQ:yp X (binaryOp .Mult) (rI vS λ i j=>.int (i*j)):=oy λ _ _ _ _ _ _ _ hc q=>mul_int q hc.ok
def QZ:yp X (binaryOp .FloorDiv) (rI wz λ i j=>.int (i/j)):=oy λ i j _ _ _ _ _ hc q=>by
 have h1:(0:Int)<j:=hc.1;have h2:j<1073741824:=hc.2;show floordiv_int ⋯ (by rw[Int.fdiv_eq_ediv_of_nonneg i ⋯];show q) (.inl (PyProof.noPylong_small ⋯))
def QR:yp X (binaryOp .Mod) (rI (λ _ j=>0<j) λ i j=>.int (i%j)):=oy λ i j _ _ _ _ _ hc q=>by
 have h1:(0:Int)<j:=hc;show mod_int' ⋯ (by rw[Int.fmod_eq_emod_of_nonneg i ⋯];show q)
def QL:yp X (binaryOp .Pow) (rI qE λ i j=>.int (i ^ j.toNat)):=oy λ _ _ _ _ _ _ _ hc q=>pow_int_small hc.1 hc.2.1 hc.2.2 q
def V1 {f:Value->Sem Value}{g:Int->Int}
  (rule:∀ (i:Int) (t:Tok) (s:Shared) (Q:Ai) (E:Ai),Q (.int (g i) s.toks) { s with toks:=s.toks+1 }->wpAny (model X.prog X.w) X.A (f (.int i t)) Q E s):
  dq X f (rU λ i=>.int (g i)):=by
 intro EY s B H x v Q I rx h;let#[i,rfl,q]:=h;let#[t,rfl]:=rx;show rule i t s _ _ #[.int (g i),H,I.tok _,#[_,rfl],q]
def V0:dq X (unaryOp .USub) (rU λ i=>.int (-i)):=V1 λ _ _ _ _ _ q=>neg_int q
end
section
variable {X:Cx}{a b c:Expr}{ta tb tc:TE}{pos:Pos}
def ZX {EY:Ak}{B:St}{H:Hp}{s:Shared}{Q:VK}{k k':Bool}(I:Inv X EY B H s) (q:Q (.bl k) H) (e:k=k'):EP X EY B Q (.bool k') s:=by
 subst e;show#[.bl k,H,I,rfl,q]
def QU:yp X (compareOp .Lt) (vy λ i j=>.bl (decide (i<j))):=kT λ _ _ _ _ _ _ _ q=>lt_int q
def kS:yp X (compareOp .LtE) (vy λ i j=>.bl (decide (i<=j))):=kT λ _ _ _ _ _ _ _ q=>le_int q
def QX:yp X (compareOp .Gt) (vy λ i j=>.bl (decide (j<i))):=kT λ _ _ _ _ _ _ _ q=>gt_int q
def aq:yp X (compareOp .GtE) (vy λ i j=>.bl (decide (j<=i))):=kT λ _ _ _ _ _ _ _ q=>ge_int q
def QV:yp X (compareOp .Is) (λ x y H Q=>y=.zp/\Q (.bl (decide (x=.zp))) H):=by
 intro EY s B H x y v u Q I rx ry h;let#[rfl,q]:=h;cases ry;exact is_none_gen (ZX I q ?_);cases x <;> first
  | (cases rx;rfl)
  | (let#[t,rfl]:=rx;rfl)
def aj:yp X (compareOp .IsNot) (λ x y H Q=>y=.zp/\Q (.bl (!decide (x=.zp))) H):=by
 intro EY s B H x y v u Q I rx ry h;let#[rfl,q]:=h;cases ry;exact isnot_none_gen (ZX I q ?_);cases x <;> first
  | (cases rx;rfl)
  | (let#[t,rfl]:=rx;rfl)
def yp.or {f:Value->Value->Sem Value}{r r':R2}(h:yp X f r) (h':yp X f r'):yp X f (λ x y H Q=>r x y H Q\/r' x y H Q):=by
 intro EY s B H x y v u Q I rx ry q;rcases q with q | q
 .show h EY s B H x y v u Q I rx ry q
 .show h' EY s B H x y v u Q I rx ry q
def u6 (b:Expr) {op:CmpOp}(h:op≠.In:=by decide) (h2:op≠.NotIn:=by decide):behindInMarks op b=false:=by
 have e1:(op == CmpOp.In)=false:=by cases op <;> first | rfl | show absurd rfl h
 have e2:(op == CmpOp.NotIn)=false:=by cases op <;> first | rfl | show absurd rfl h2
 cases b <;> simp[behindInMarks,e1,e2]
def SG {op:CmpOp}{r:R2}(ho:yp X (compareOp op) r) (ha:PE X a ta) (hb:PE X b tb) (hm:behindInMarks op b=false):PE X (.Compare a [op] [b] pos) (nG r ta tb):=by
 intro EY s B H Q I h;show wpAny_Compare1 (eT ha hb I h λ v u s2 x y H2 I2 rx ry q=>ho EY s2 B H2 x y v u Q I2 rx ry q) hm
def VJ (t:TE):TT:=fun B H Q=>t B H λ x H'=>∃ k,x=.bl k/\Q k H'
def Tf {op:CmpOp}{r:R2}(ho:yp X (compareOp op) r) (ha:PE X a ta) (hb:PE X b tb) (hm:behindInMarks op b=false):PT X (.Compare a [op] [b] pos) (VJ (nG r ta tb)):=by
 intro EY s B H Q I h;exact wpAny_isTrue_Compare1 (zB (ha EY s B H _ I h) λ v s1 #[x,H1,I1,r1,q1]=>zB (hb EY s1 B H1 _ I1 q1) λ u s2 #[y,H2,I2,r2,q2]=>
  zB (ho EY s2 B H2 x y v u _ I2 r1 r2 q2) λ c s3 #[z,H3,I3,r3,k,e,q3]=>?_) hm
 subst e;cases r3;show zaC #[H3,I3,q3]
def cP (r r':R2) (ta tb tc:TE):TE:=fun B H Q=>ta B H λ x H1=>tb B H1 λ y H2=>r x y H2 λ z H3=>∃ k,z=.bl k/\
 (if k=true then tc B H3 λ w' H4=>r' y w' H4 Q else Q (.bl false) H3)
def SH {op op':CmpOp}{r r':R2}(ho:yp X (compareOp op) r) (Gb:yp X (compareOp op') r') (ha:PE X a ta) (hb:PE X b tb) (hc:PE X c tc)
  (hm:lastMarks [op,op'] [b,c]=false:=by with_unfolding_all rfl):PE X (.Compare a [op,op'] [b,c] pos) (cP r r' ta tb tc):=by
 intro EY s B H Q I h;exact Compare_chain (zB (ha EY s B H _ I h) λ v s1 #[x,H1,I1,r1,q1]=>chain_link (zB (hb EY s1 B H1 _ I1 q1) λ u s2 #[y,H2,I2,r2,q2]=>
  zB (ho EY s2 B H2 x y v u _ I2 r1 r2 q2) λ d s3 #[z,H3,I3,r3,k,e,q3]=>?_)) hm
 subst e;cases r3;exact zaC ?_;cases k with
 | false=>show ite_ff #[.bl false,H3,I3,rfl,q3]
 | true=>show ite_tt (chain_last (zB (hc EY s3 B H3 _ I3 q3) λ w' s4 #[z',H4,I4,r4,q4]=>Gb EY s4 B H4 y z' u w' Q I4 r2 r4 q4))
def dr (K:Ac) (x:V) (H:Hp) (k:Bool):Prop:=
 match x with
 | .zp=>k=false
 | .bl b=>k=b
 | .int i=>k=(i != 0)
 | .str y=>y.length<=sizeLine/\k=((y.length:Int) != 0)
 | .l6 y=>y.size<=sizeLine/\k=((y.size:Int) != 0)
 | .ref p=>(∃ xs,zT K H p xs/\k=!xs.isEmpty)\/(∃ xs,zX K H p xs/\k=!xs.isEmpty)\/∃ Ab,H p=↑(.dK Ab)/\k=!Ab.isEmpty
 | _=>False
def MW {κ:Type}{Ab:List (κ × V)}{vs:List (κ × Value)}(r:KV Ab vs):(!vs.isEmpty)=!Ab.isEmpty:=by
 cases r <;> rfl
def Zs {xs:List V}{Aa:Ah}(r:Vals xs Aa):(!Aa.toArray.isEmpty)=!xs.isEmpty:=by
 cases r <;> simp
def qS:(sizeLine:Nat)<2 ^ 63:=by rw[sizeLine_eq];decide
theorem VC:J_ X (λ x H Q=>∃ k,dr X.K x H k/\Q k H):=by
 intro EY s B H x v Q I rx h;let#[k,e,q]:=h;have hl:=qS;have hs:sizeLine=16777216:=sizeLine_eq;cases x with
 | zp=>
  cases rx;have e':k=false:=e;subst e';show truthy_none #[H,I,q]
 | bl b=>
  cases rx;have e':k=b:=e;subst e';show zaC #[H,I,q]
 | int i=>
  let#[t,rfl]:=rx;have e':k=(i != 0):=e;subst e';show PySem.P.truthy_int #[H,I,q]
 | str y=>
  let#[t,rfl]:=rx;obtain⟨hy,e'⟩:y.length<=sizeLine/\k=((y.length:Int) != 0):=e;subst e';show PySem.P.truthy_str ⋯ #[H,I.tok _,q]
 | l6 y=>
  let#[t,rfl]:=rx;obtain⟨hy,e'⟩:y.size<=sizeLine/\k=((y.size:Int) != 0):=e;subst e';show PySem.W.truthy_bytes ⋯ #[H,I.tok _,q]
 | ref p=>
  cases rx;have e':(∃ xs,zT X.K H p xs/\k=!xs.isEmpty)\/(∃ xs,zX X.K H p xs/\k=!xs.isEmpty)\/∃ Ab,H p=↑(.dK Ab)/\k=!Ab.isEmpty:=e;rcases e' with ⟨xs,hx,e'⟩ | ⟨xs,hx,e'⟩ | ⟨Ab,hx,e'⟩
  .subst e';let#[Aa,r,pl,hz]:=I.list hx;have hlen:=r.length;show wpAny_truthy_list pl.isList (by simp![AB];lia) #[H,I.tok _,by rw[Zs r];show q]
  .subst e';let#[Aa,r,pl,hz]:=I.tuple hx;have hlen:=r.length;show truthy_tuple pl (by simp![AB];lia) #[H,I.tok _,by rw[Zs r];show q]
  .subst e';obtain⟨hz,hS,vs,r,m⟩:Ab.length<=sizeLine/\(p == sysModules)=false/\∃ vs,KV Ab vs/\s.heap.DictOf (vh X.prog X.w) p vs:=I.zw p _ hx;have hlen:Ab.length=vs.length:=Paired.length r;show wpAny_truthy_dict hS m ⋯ #[H,I.tok _,by rw[MW r];show q]
 | _=>show (show False from e).elim
def Td (ha:PE X a ta) (he:∀ whole,isTrue a X.env whole=(do let v <- whole;standAt a.pos;holding [v] (truthy v))):
  PT X a (fun B H Q=>ta B H λ x H'=>∃ k,dr X.K x H' k/\Q k H'):=by
 intro EY s B H Q I h;show isTrue_plain (zB (ha EY s B H _ I h) λ v s1 #[x,H1,I1,r1,q1]=>VC EY s1 B H1 x v Q I1 r1 q1) (he _)
def Pc:yp X (binaryOp .Add) (λ x y H Q=>∃ i j,x=.str i/\y=.str j/\i.length+j.length<=sizeLine/\Q (.str (i++j)) H):=by
 intro EY s B H x y v u Q I rx ry h;let#[i,j,rfl,rfl,hz,q]:=h;let#[t,rfl]:=rx;let#[t',rfl]:=ry;show add_str (λ t' tk=>#[.str (i++j),H,I.tok _,#[_,rfl],q]) hz
def vals1 {x:V}{us:Ah}(r:Vals [x] us):∃ u,us=[u]/\RelV x u:=by
 cases r with
 | cons r1 r2=>cases r2;show#[_,rfl,r1]
def vals2 {x y:V}{us:Ah}(r:Vals [x,y] us):∃ u w',us=[u,w']/\RelV x u/\RelV y w':=by
 cases r with
 | cons r1 r2=>
  cases r2 with
  | cons r3 r4=>cases r4;show#[_,_,rfl,r1,r3]
def J0:yI X (.builtin "abs") (λ xs H Q=>∃ i,xs=[.int i]/\Q (.int (if i<0 then -i else i)) H):=by
 intro EY s B H xs us Q I r h;let#[i,rfl,q]:=h;let#[u,rfl,t,rfl]:=vals1 r;show call_abs_int λ u tk=>#[.int (if i<0 then -i else i),H,I.tok _,#[_,rfl],q]
def Jr (hc:X.calm=true):yI X (.builtin "max") (λ xs H Q=>∃ i j,xs=[.int i,.int j]/\Q (.int (if j>i then j else i)) H):=by
 intro EY s B H xs us Q I r h;let#[i,j,rfl,q]:=h;let#[u,w',rfl,#[t,rfl],#[t',rfl]]:=vals2 r;exact max_two_ints (I.ok.hd hc) λ h' tk k=>#[_,H,I.kept k,?_,q];by_cases hj:j>i
 .rw[if_pos hj,if_pos hj];show#[_,rfl]
 .rw[if_neg hj,if_neg hj];show#[_,rfl]
def Jq (hc:X.calm=true):yI X (.builtin "min") (λ xs H Q=>∃ i j,xs=[.int i,.int j]/\Q (.int (if j<i then j else i)) H):=by
 intro EY s B H xs us Q I r h;let#[i,j,rfl,q]:=h;let#[u,w',rfl,#[t,rfl],#[t',rfl]]:=vals2 r;exact min_two_ints (I.ok.hd hc) λ h' tk k=>#[_,H,I.kept k,?_,q];by_cases hj:j<i
 .rw[if_pos hj,if_pos hj];show#[_,rfl]
 .rw[if_neg hj,if_neg hj];show#[_,rfl]
end
structure pH (h:Heap) (x dx C:Addr) (mA:AF):Prop where
 obj:h.get? x=↑(PySem.W.instObj C dx)
 ns:h.Ns1 dx mA
 ne:dx≠x
def Mq {h:Heap}{dx:Addr}{mA:AF}(n:h.Ns1 dx mA):∃ od,h.get? dx=↑od/\∀ name,PySem.W.lookIn name od=↑(mA name):=by
 let#[o,es,ep,ho,hd,hk,_,hm]:=n;exact#[o,ho,λ name=>?_];have e:=hm name;unfold nsFind findBy at e;rw[<- Array.find?_toList] at e;unfold PySem.W.lookIn;rw[hd];dsimp only;split
 .rename_i y q;rw[q] at e;show congrArg some e
 .rename_i q;rw[q] at e;have a:es.toList.any (·.refKey)=false:=by
   rw[Eb];intro y hy;let#[z,t,EH]:=hk y (Array.mem_toList_iff.mp hy);simp[DictEntry.refKey,EH]
  have a':¬ es.toList.any (·.refKey)=true:=by rw[a];show BL
  rw[if_neg a'];show congrArg some e
def pH.look {h:Heap}{x dx C:Addr}{mA:AF}(I:pH h x dx C mA):∃ od,PySem.W.InstAt h x (PySem.W.instObj C dx) C ↑od/\∀ name,PySem.W.lookIn name od=↑(mA name):=
 let #[od,ho,hl]:=Mq I.ns
 #[od,#[I.obj,rfl,rfl,ho],hl]
section
variable {prog:Program}{w:World}{A:Around}{E:Ai}{s:Shared}{K:Ac}{x dx C f:Addr}{mA:AF}{name:Str}{v:Value}
def get_map {expr:Bool}{Q:Ai}(X:K.In s.heap) (I:pH s.heap x dx C mA) (hg:PySem.W.plainGet K C name=true) (hh:PySem.W.hasDictIn K C=true)
  (ha:PySem.W.findIn K (.ref C) name=↑none) (hv:mA name=↑v) (Hx:PySem.W.handedIn v=true) (h:Q v { s with toks:=s.toks+1 }):
  wpAny (model prog w) A (getAttr (.ref x) name expr) Q E s:=by
 let#[od,J,hl]:=I.look;show PySem.W.get_value X J (PySem.W.plainGet_of hg).1 (PySem.W.findObj_own hh ha rfl (by rw[hl,hv])) Hx h
def LI {pl:Sem Bool}{Q:Value×List Value->Shared->Prop}(X:K.In s.heap) (I:pH s.heap x dx C mA) (hg:PySem.W.plainGet K C name=true)
  (hf:PySem.W.findIn K (.ref C) name=↑↑(.ref f)) (ht:PySem.W.isFn K (.ref f)=true) (hv:mA name=none) (h:Q (.ref f,[.ref x]) s):
  wpAny (model prog w) A (getMethod (.ref x) name pl) Q E s:=by
 let#[od,J,hl]:=I.look;show PySem.W.method_fn X J (PySem.W.plainGet_of hg).1 (PySem.W.plainGet_of hg).2 hf (beq_iff_eq.mp ht) (by change (PySem.W.lookIn name od).map (·.isSome)=↑false;rw[hl,hv];rfl) h
def U5 {ns:List Str}{Q:Unit->Shared->Prop}(X:K.In s.heap) (I:pH s.heap x dx C mA)
  (hs:PySem.W.findIn K (.ref C) "__setattr__"=↑↑(.builtin "object.__setattr__")) (hp:PySem.W.plainOver K C=true) (ht:PySem.W.takerIn K C name=↑none) (hh:PySem.W.hasDictIn K C=true)
  (hw:PySem.Within mA ns) (hsz:ns.length<=sizeLine)
  (h:∀ h',pH h' x dx C (λ y=>if y=name then ↑v else mA y)->Heap.SameBut dx s.heap h'->Q Unit.unit { s with heap:=h',toks:=s.toks+2 }):
  wpAny (model prog w) A (setAttr (.ref x) name v) Q E s:=by
 let#[od,J,hl]:=I.look;exact PySem.W.set_plain X J hs (PySem.W.osa_open (s:={ s with toks:=s.toks+1 }) (r:=none) X J hp ht λ b=>?_);let#[cd,hc,HC]:=PySem.W.any_some hh;have hx:s.heap.get? x=↑#[.ref C,↑dx,.plain,[].toArray]:=I.obj;exact gV (Ad (gV (gV (wpAny_loadPart hx (gV (PySem.W.Looks.here (s:={ s with toks:=s.toks+1 }) (PySem.W.looks_clsIn X hc) ?_))))));rw[HC];exact Ad (a:=↑dx) (gV (Ad (gV ?_)));exact wpAny_nsSet1 (s:={ s with toks:=s.toks+1 }) I.ns λ h' hn2 HG=>?_;let#[oD,esD,epD,hoD,hdD,hcD]:=hn2.count (PySem.Within.cons name v hw);exact gV (wpAny_lookBehind hoD (by rw[hdD];show pastItsLine_dict (AY hcD (by rw[A4];lia))) ?_);show Ad (h _ #[(HG.2 _ (Ne.symm I.ne)).trans I.obj,hn2,I.ne] HG)
def Mm {R:Result->Shared->Prop}{vs:Ah}{kw:List (Str×Value)}(X:K.In s.heap) (hm:PySem.W.makesIn K C=true)
  (hi:PySem.W.findIn K (.ref C) "__init__"=↑↑(.ref f)) (hf:PySem.W.typeIn K (.ref f)=↑(.type "function"))
  (h:codeAny (model prog w) (A.under (.builtin "type.__call__" #[.ref C::vs,kw])) (.call (.ref f) #[.ref (s.heap.objs.size+1)::vs,kw]) (PySem.W.InitBack (s.heap.objs.size+1) R)
   { s with heap:=(s.heap.push PySem.W.emptyDict).push (PySem.W.instObj C s.heap.objs.size) }):
  codeAny (model prog w) A (.call (.ref C) #[vs,kw]) R s:=by
 let#[hh,g,d,t,os]:=s;show PySem.W.make_core (PySem.W.makes_of X hm) (PySem.W.looks_findIn X hi) (λ self=>PySem.W.bind_fn X self hf) (.inl rfl) h
end
def wc (f:Str) (v:V):List (Str×V)->List (Str×V)
 | []=>[(f,v)]
 | (g,x)::r=>if g=f then (g,v)::r else (g,x)::wc f v r
theorem aY (f g:Str) (v:V):∀ fs:List (Str×V),(wc f v fs).lookup g=if g=f then ↑v else fs.lookup g
 | []=>by
  change List.lookup g [(f,v)]=_;by_cases h:g=f
  .have hb:(g == f)=true:=beq_iff_eq.mpr h;simp![List.lookup,hb,if_pos h]
  .have hb:(g == f)=false:=beq_eq_false_iff_ne.mpr h;simp![List.lookup,hb,if_neg h]
 | (k,x)::r=>by
  have ih:=aY f g v r;rw[show wc f v ((k,x)::r)=(if k=f then (k,v)::r else (k,x)::wc f v r) from rfl];by_cases hk:k=f
  .rw[if_pos hk];by_cases h:g=k
   .have hb:(g == k)=true:=beq_iff_eq.mpr h;simp![List.lookup,hb,if_pos (h.trans hk)]
   .have hb:(g == k)=false:=beq_eq_false_iff_ne.mpr h;simp![List.lookup,hb,if_neg (λ e:g=f=>h (e.trans hk.symm))]
  .rw[if_neg hk];by_cases h:g=k
   .have hb:(g == k)=true:=beq_iff_eq.mpr h;simp![List.lookup,hb,if_neg (λ e:g=f=>hk (h.symm.trans e))]
   .have hb:(g == k)=false:=beq_eq_false_iff_ne.mpr h;simp![List.lookup,hb];show ih
theorem fE (f:Str) (v:V):∀ fs:List (Str×V),f∈(wc f v fs).map (·.1)/\∀ g,g∈fs.map (·.1)->g∈(wc f v fs).map (·.1)
 | []=>#[by simp[wc],λ g h=>by simp at h]
 | (k,x)::r=>by
  let#[i1,i2]:=fE f v r;rw[show wc f v ((k,x)::r)=(if k=f then (k,v)::r else (k,x)::wc f v r) from rfl];by_cases hk:k=f
  .rw[if_pos hk];subst hk;show#[#[],λ g h=>by exists h]
  .rw[if_neg hk];exact#[?_,λ g h=>?_]
   .rw[Aw];show Ay _ i1
   .rw[Aw] at h ⊢;rcases Am.mp h with e | e
    .show Am.mpr (.inl e)
    .show Ay _ (i2 g e)
theorem Zc (f:Str) (v:V):∀ fs:List (Str×V),(wc f v fs).length<=fs.length+1
 | []=>by simp[wc]
 | (k,x)::r=>by
  have ih:=Zc f v r;rw[show wc f v ((k,x)::r)=(if k=f then (k,v)::r else (k,x)::wc f v r) from rfl];by_cases hk:k=f
  .rw[if_pos hk,A4,A4];lia
  .rw[if_neg hk,A4,A4];lia
def wH.some_of {v:V}{o:Option Value}(r:wH ↑v o):∃ u,o=↑u/\RelV v u:=by
 cases o with
 | none=>show (show False from r).elim
 | some u=>show#[u,rfl,r]
def wH.none_of {o:Option Value}(r:wH none o):o=none:=by
 cases o with
 | none=>rfl
 | some u=>show (show False from r).elim
def Lq {v:V}{u:Value}(r:RelV v u):PySem.W.handedIn u=true:=by
 cases v with
 | zp=>cases (show u=Value.none from r);rfl
 | bl b=>cases (show u=Value.bool b from r);rfl
 | int i=>let#[t,e]:=(show ∃ t,u=Value.int i t from r);cases e;rfl
 | str x=>let#[t,e]:=(show ∃ t,u=Value.str x t from r);cases e;rfl
 | l6 b=>let#[t,e]:=(show ∃ t,u=Value.bytes b t from r);cases e;rfl
 | eg b=>let#[t,e]:=(show ∃ t,u=Value.float b t from r);cases e;rfl
 | ref a=>cases (show u=Value.ref a from r);rfl
 | ty n=>cases (show u=Value.type n from r);rfl
section
variable {P:Program}{w:World}{H:Hp}{h:Heap}{a C dx:Addr}{fs:List (Str×V)}
def oJ (zw:yN P w H h) (e:H a=↑(.ins C dx fs)):∃ mA,pH h a dx C mA/\(∀ f,wH (fs.lookup f) (mA f))/\PySem.Within mA (fs.map (·.1))/\fs.length<=1000/\H dx=↑(.own a):=by
 let#[d,z,ne,ob,mA,n,r,q]:=(show yU P w H h a (.ins C dx fs) from zw a _ e)
 show#[mA,#[ob,n,ne],r,q,z,d]
end
structure uQ (K:Ac) (C:Addr):Prop where
 pg:PySem.W.plainGet K C Str.empty=true
 hd:PySem.W.hasDictIn K C=true
 po:PySem.W.plainOver K C=true
 sa:PySem.W.findIn K (.ref C) "__setattr__"=↑↑(.builtin "object.__setattr__")
def uQ.get {K:Ac}{C:Addr}(c:uQ K C) (f:Str):PySem.W.plainGet K C f=true:=c.pg
def pJ (K:Ac) (C:Addr) (f:Str):Prop:=PySem.W.findIn K (.ref C) f=↑none
def pJ.taker {K:Ac}{C:Addr}{f:Str}(n:pJ K C f):PySem.W.takerIn K C f=↑none:=by
 unfold PySem.W.takerIn;rw[show PySem.W.findIn K (.ref C) f=↑none from n];rfl
structure Meth (K:Ac) (C:Addr) (m:Str) (f:Addr):Prop where
 at_:PySem.W.findIn K (.ref C) m=↑↑(.ref f)
 fn:PySem.W.isFn K (.ref f)=true
 kp:PySem.W.keepIn K (.ref f)=true
section
variable {X:Cx}{EY:Ak}{B:St}{H:Hp}{s:Shared}{a C dx:Addr}{fs:List (Str×V)}{f:Str}{v:V}{A:Around}{E:Ai}
def LH {b:Bool}{Q:Ai}(I:Inv X EY B H s) (e:H a=↑(.ins C dx fs)) (c:uQ X.K C) (n:pJ X.K C f) (l:fs.lookup f=↑v)
  (h:∀ u s',Inv X EY B H s'->RelV v u->Q u s'):wpAny (model X.prog X.w) A (getAttr (.ref a) f b) Q E s:=by
 let#[mA,O,r,_,_,_]:=oJ I.zw e;let#[u,hu,ru]:=wH.some_of (v:=v) (o:=mA f) (by rw[<- l];show r f);show get_map I.xK O (c.get f) c.hd n hu (Lq ru) (h u _ (I.tok _) ru)
def ZK {m:Str}{g:Addr}{pl:Sem Bool}{Q:Value×List Value->Shared->Prop}(I:Inv X EY B H s) (e:H a=↑(.ins C dx fs)) (c:uQ X.K C) (k:Meth X.K C m g) (l:fs.lookup m=none)
  (h:Q (.ref g,[.ref a]) s):wpAny (model X.prog X.w) A (getMethod (.ref a) m pl) Q E s:=by
 let#[mA,O,r,_,_,_]:=oJ I.zw e;have hn:mA m=none:=wH.none_of (by rw[<- l];show r m);show LI I.xK O (c.get m) k.at_ k.fn hn h
def U4 {y:V}{u:Value}{Q:Unit->Shared->Prop}(I:Inv X EY B H s) (e:H a=↑(.ins C dx fs)) (c:uQ X.K C) (n:pJ X.K C f) (hl:fs.length<1000) (ry:RelV y u)
  (h:∀ s',Inv X EY B (upd H a (.ins C dx (wc f y fs))) s'->Q Unit.unit s'):wpAny (model X.prog X.w) A (setAttr (.ref a) f u) Q E s:=by
 let#[mA,O,r,wi,_,ho]:=oJ I.zw e;have hz:(fs.map (·.1)).length<=sizeLine:=by rw[AA,sizeLine_eq];lia
 exact U5 I.xK O c.sa c.po n.taker c.hd wi hz λ h' O' sb=>h _ ?_;have hd:∃ o,h'.get? dx=↑o:=let #[o,_,_,e',_]:=O'.ns;#[o,e']
 exact I.write (x:=a) (e:=dx) (by rw[e];show True.intro) (.inr ho) (λ b q hb z=>(sb.2 b hb).trans z) hd ?_;exact#[by rw[yi O.ne];show ho,?_,O.ne,O'.obj,_,O'.ns,λ g=>?_,λ g hg=>?_]
 .have:=Zc f y fs;lia
 .change wH ((wc f y fs).lookup g) (if g=f then ↑u else mA g);rw[aY];by_cases q:g=f
  .rw[if_pos q,if_pos q];show ry
  .rw[if_neg q,if_neg q];show r g
 .by_cases q:g=f
  .rw[q];show (fE f y fs).1
  .exact (fE f y fs).2 g (wi g λ z=>hg ?_);change (if g=f then ↑u else mA g)=none;rw[if_neg q];show z
def Inv.made (I:Inv X EY B H s):Inv X EY B (upd (upd H s.heap.objs.size (.own (s.heap.objs.size+1))) (s.heap.objs.size+1) (.ins C s.heap.objs.size []))
  { s with heap:=(s.heap.push PySem.W.emptyDict).push (PySem.W.instObj C s.heap.objs.size) }:=by
 have e1:(s.heap.push PySem.W.emptyDict).get? s.heap.objs.size=↑PySem.W.emptyDict:=AK s.heap rfl;have e2:((s.heap.push PySem.W.emptyDict).push (PySem.W.instObj C s.heap.objs.size)).get? (s.heap.objs.size+1)=↑(PySem.W.instObj C s.heap.objs.size):=by
  have:=AK (s.heap.push PySem.W.emptyDict) (o:=PySem.W.instObj C s.heap.objs.size) rfl
  rwa [Heap.size_push] at this
 have e3:(s.heap.push PySem.W.emptyDict).Ns s.heap.objs.size (λ _=>none):=#[PySem.W.emptyDict,[].toArray,_,e1,rfl,(λ e he=>absurd he #[]),λ _=>rfl];have I1:=I.laid (a:=s.heap.objs.size) (o:=.own (s.heap.objs.size+1)) (h':=s.heap.push PySem.W.emptyDict) (t':=s.toks) (λ b u q=>za1 _ q) (Aj _) #[_,e1];exact I1.laid (a:=s.heap.objs.size+1) (o:=.ins C s.heap.objs.size []) (t':=s.toks) (λ b u q=>za1 _ q) (Nat.le_of_eq (Heap.size_push _ _)) ?_;have ne:s.heap.objs.size≠s.heap.objs.size+1:=AI (BV _);exact#[by rw[yi ne,yx],AW _,ne,e2,λ _=>none,(Heap.Ns1.of_empty e3).at λ o q=>za1 _ q,λ _=>True.intro,λ y hy=>absurd rfl hy]
def JI {prog:Program}{w:World}{env:Env}{e:Expr}{f:Str}{pos:Pos}{s:Shared}{Q:Ai}(hb:attributeBase e f env (eval e env)=eval e env)
  (h:wpAny (model prog w) A (eval e env) (λ o s₁=>wpAny (model prog w) A (getAttr o f true) Q E s₁) E s):wpAny (model prog w) A (eval (.Attribute e f pos) env) Q E s:=
 Attribute_any_ h (by rw[arm_eval_Attribute,hb])
end
def V_ (K:Ac) (ta:TE) (f:Str):TE:=fun B H Q=>ta B H λ x H1=>∃ a C dx fs v,x=.ref a/\H1 a=↑(.ins C dx fs)/\uQ K C/\pJ K C f/\fs.lookup f=↑v/\Q v H1
def UB (K:Ac) (ta tv:TE) (f:Str):TS:=λ D B H=>tv B H λ y H1=>ta B H1 λ x H2=>∃ a C dx fs,x=.ref a/\H2 a=↑(.ins C dx fs)/\uQ K C/\pJ K C f/\fs.length<1000/\
 D.nx B (upd H2 a (.ins C dx (wc f y fs)))
section
variable {X:Cx}{o e value:Expr}{f:Str}{pos pos':Pos}{ta tv:TE}
def SA (he:PE X e ta) (hb:attributeBase e f X.env (eval e X.env)=eval e X.env):PE X (.Attribute e f pos) (V_ X.K ta f):=by
 intro EY s B H Q I h;exact JI hb (zB (he EY s B H _ I h) λ u s1 #[x,H1,I1,rx,a,C,dx,fs,v,ex,ea,c,n,l,q]=>?_);subst ex;obtain rfl:u=Value.ref a:=rx;show LH I1 ea c n l λ u' s2 I2 ru=>#[v,H1,I2,ru,q]
def Tu (ha:PE X o ta) (hv:PE X value tv) (hs:swapsWith value ↑(.Attribute o f pos') pos.line X.env=pure false):PS X (.Assign [.Attribute o f pos'] value pos) (UB X.K ta tv f):=by
 intro EY s B H D I h;exact plainObj_wpAny_Assign_Attribute (zB (hv EY s B H _ I h) λ u s1 #[y,H1,I1,ry,q]=>zB (ha EY s1 B H1 _ I1 q) λ ov s2 #[x,H2,I2,rx,a,C,dx,fs,ex,ea,c,n,l,q2]=>?_) hs;subst ex;obtain rfl:ov=Value.ref a:=rx;show U4 I2 ea c n l ry λ s3 I3=>#[B,_,I3,q2]
end
structure yb (k:Nat) (A:Around):Prop where
 hd:A.handled=none
 dp:A.depth+3*k+5<recursionLimit
 un:A.units+16*k+200<cLine
def yb.mono {j k:Nat}{A:Around}(r:yb k A) (h:j<=k):yb j A:=#[r.hd,by have:=r.dp;lia,by have:=r.un;lia]
theorem yb.deeper {k:Nat}{A:Around}(r:yb (k+1) A) (env:Env):yb k (A.deeper env):=
 #[r.hd,by have:=r.dp;change A.depth+1+3*k+5<_;lia,by have:=r.un;change A.units+3+16*k+200<_;lia]
def Mn {A:Around}{C:Addr}{us:Ah}{kw:List (Str×Value)}:(A.under (.builtin "type.__call__" #[.ref C::us,kw])).depth=A.depth+1:=by
 first | rfl | simp[Around.under,Code.weight,Code.isCreation,Code.isGuard,Code.isCaller,Code.frames,Code.isFrame,guardIds]
def Ml {A:Around}{C:Addr}{us:Ah}{kw:List (Str×Value)}:(A.under (.builtin "type.__call__" #[.ref C::us,kw])).units=A.units+1:=by
 first | rfl | simp[Around.under,Code.cUnits,Code.frames,Code.isFrame]
def yb.make {k:Nat}{A:Around}(r:yb (k+1) A) (C:Addr) (us:Ah) (kw:List (Str×Value)):yb k (A.under (.builtin "type.__call__" #[.ref C::us,kw])):=
 #[r.hd,by have:=r.dp;rw[Mn];lia,by have:=r.un;rw[Ml];lia]
theorem yb.depth {k:Nat}{A:Around}(r:yb k A):A.depth<recursionLimit:=by have:=r.dp;lia
theorem yb.units {k:Nat}{A:Around}(r:yb k A):A.units+64<cLine:=by have:=r.un;lia
def hV:TA:=λ _ H Q=>Q [] H
def hZ (ta:TE) (tr:TA):TA:=fun B H Q=>ta B H λ x H1=>tr B H1 λ xs H2=>Q (x::xs) H2
section
variable {X:Cx}{e:Expr}{es:List Expr}{te:TE}{t:TA}{pos:Pos}
def ox:PA X [] hV:=λ _ _ _ _ H Q I h=>Calls.spliced_nil #[[],H,I,.nil,h]
def qN (ha:PE X e te) (hr:PA X es t) (hs:AJ X e es:=by rfl):PA X (e::es) (hZ te t):=by
 intro pos EY s B H Q I h;rw[hs];change wpAny _ _ (spliced ((false,eval e X.env)::backTo pos (starEach es X.env))) _ _ s;exact Calls.spliced_cons (zB (ha EY s B H _ I h) λ u s1 #[x,H1,I1,r1,q1]=>?_);show zB (hr pos EY s1 B H1 _ I1 q1) λ us s2 #[xs,H2,I2,r2,q2]=>#[x::xs,H2,I2,.cons r1 r2,q2]
def VI (t:TA):TE:=fun B H Q=>t B H λ xs H1=>xs.length<=sizeLine/\∀ p,H1 p=none->Q (.ref p) (upd H1 p (.tup xs))
def VW (t:TA):TE:=fun B H Q=>t B H λ xs H1=>xs.length<=sizeLine/\∀ p,H1 p=none->Q (.ref p) (upd H1 p (.lst xs))
def Sh {x1} (h:PA X es t):PE X (.Tuple es x1 pos) (VI t):=by
 intro EY s B H Q I hq;exact wpAny_Tuple_spliced (zB (h pos EY s B H _ I hq) λ us s1 #[xs,H1,I1,r,z,q]=>#[by rw[<- r.length];show z,?_]);have hf:H1 s1.heap.objs.size=none:=I1.zw.fresh (Aj _);exact#[.ref s1.heap.objs.size,upd H1 s1.heap.objs.size (.tup xs),I1.laid (t':=s1.toks) (λ b u e=>za1 _ e) (Aj _) ?_,rfl,q _ hf];show#[#[z,.new _],us,r,#[_,AK _ rfl,rfl,_,rfl]]
def Sv (h:PA X es t):PE X (.List es pos) (VW t):=by
 intro EY s B H Q I hq;exact wpAny_List_spliced (zB (h pos EY s B H _ I hq) λ us s1 #[xs,H1,I1,r,z,q]=>#[by rw[<- r.length];show z,?_]);have hf:H1 s1.heap.objs.size=none:=I1.zw.fresh (Aj _);exact#[.ref s1.heap.objs.size,upd H1 s1.heap.objs.size (.lst xs),I1.laid (t':=s1.toks) (λ b u e=>za1 _ e) (Aj _) ?_,rfl,q _ hf];show#[z,us,0,r,AK _ rfl]
end
abbrev Sp:=List V->Hp->VK->XK->Prop
abbrev t9:=List Env->Hp->Shared->XK->Value->Shared->Prop
structure pT (P:Program) (w:World) (K:Ac) (mg:AF) (base:Heap) (A:Around) (outer:List Env) (s:Shared) (H:Hp):Prop where
 frames:A.frames=↑outer
 mod:Mod K mg base
 bs:∀ b o,base.get? b=↑o->s.heap.get? b=↑o/\H b=none
 qm:base.objs.size<=s.heap.objs.size
 uD:s.heap.FunFrames base outer
 q_:∀ b∈uf outer,H b=none
 zw:yN P w H s.heap
 bare:AllBare s.gens
def CE (outer:List Env) (P:Program) (w:World) (H:Hp) (s:Shared) (Q:VK) (u:Value) (s':Shared):Prop:=
 ∃ v H',s'.os=s.os/\AllBare s'.gens/\Un (uf outer) [] H H' s.heap s'.heap/\yN P w H' s'.heap/\RelV v u/\Q v H'
def CR (CX:t9) (outer:List Env) (P:Program) (w:World) (H:Hp) (s:Shared) (Q:VK) (E:XK) (r:Result) (s':Shared):Prop:=
 match r with
 | .ok (.ret u)=>CE outer P w H s Q u s'
 | .ok _=>False
 | .error e=>CX outer H s E e s'
structure w_ (P:Program) (w:World) (K:Ac) (mg:AF) (base:Heap) (CX:t9) (k:Nat) (f:Addr) (fd:FuncData) (ps:List Str) (sp:Sp):Prop where
 len:∀ vs H Q E,sp vs H Q E->vs.length=ps.length
 run:∀ (A:Around) (outer:List Env) (s:Shared) (H:Hp) (args:Args) (us:Ah) (vs:List V) (Q:VK) (E:XK),yb k A->pT P w K mg base A outer s H->BindsTo s fd args (ps.zip us)->Vals vs us->sp vs H Q E->
  codeAny (model P w) A (.call (.ref f) args) (CR CX outer P w H s Q E) s
def pT.make {P:Program}{w:World}{K:Ac}{mg:AF}{base:Heap}{A:Around}{outer:List Env}{s:Shared}{H:Hp}(e:pT P w K mg base A outer s H) (C:Addr) (us:Ah) (kw:List (Str×Value)):
  pT P w K mg base (A.under (.builtin "type.__call__" #[.ref C::us,kw])) outer s H:=#[by first | show e.frames | (simpa [Around.under,Code.envs,Code.isFrame,pushEnvs] using e.frames),e.mod,e.bs,e.qm,e.uD,e.q_,e.zw,e.bare]
section
variable {X:Cx}{EY:Ak}{B:St}{H:Hp}{s s':Shared}
def Inv.Ye (I:Inv X EY B H s):pT X.prog X.w X.K X.mg X.base X.A X.stack s H:=
 #[I.ok.frames,I.ok.mod,I.bs,AY I.ok.qm I.sz,I.stack,I.cR,I.zw,I.bare]
theorem Inv.after {Q:VK}{u:Value}(I:Inv X EY B H s) (h:CE X.stack X.prog X.w H s Q u s'):EP X EY B Q u s':=by
 let#[v,H',os,bare,un,zw,r,q]:=h;let#[hh,g,d,t,os']:=s';obtain rfl:os'=s.os:=os;show#[v,H',I.call (h':=hh) (g':=g) (d':=d) (t':=t) (ch:=[]) un zw bare (λ b z=>absurd z #[]),r,q]
end
def cQ (sp:Sp) (dvs:List V) (E:XK) (t:TA):TE:=fun B H Q=>t B H λ vs H1=>sp (vs++dvs) H1 Q E
def VV (C:Addr) (sp:Sp) (dvs:List V) (E:XK) (t:TA):TE:=fun B H Q=>t B H λ vs H1=>∀ x dx,H1 x=none->H1 dx=none->dx≠x->
 sp (.ref x::(vs++dvs)) (upd (upd H1 dx (.own x)) x (.ins C dx [])) (λ v H2=>v=.zp/\Q (.ref x) H2) E
def Binds (K:Ac) (fd:FuncData) (ps:List Str) (ds:Ah):Prop:=
 ∀ (s:Shared) (us:Ah),K.In s.heap->(us++ds).length=ps.length->BindsTo s fd #[us,[]] (ps.zip (us++ds))
def Binds.all {K:Ac}{fd:FuncData}{ps:List Str}(h:∀ us:List Value,us.length=ps.length->bindArgs fd #[us,[]]=pure (ps.zip us)):Binds K fd ps []:=λ s us _ hl=>by
 rw[Cs] at hl ⊢;show .of_eq (h us hl)
def Passes (CX:t9) (X:Cx) (E:XK):Prop:=∀ (EY:Ak) (B:St) (H:Hp) (s:Shared) (e:Value) (s':Shared),Inv X EY B H s->CX X.stack H s E e s'->X.xe e s'
section
variable {X:Cx}{CX:t9}{k:Nat}{f C:Addr}{fd:FuncData}{ps:List Str}{sp:Sp}{dvs:List V}{ds:Ah}{E:XK}{x:Str}{p pos:Pos}{e:Expr}{es:List Expr}{t:TA}
def gA {EY:Ak}{B:St}{H:Hp}{s:Shared}{Q:VK}{us:Ah}{vs:List V}(F:w_ X.prog X.w X.K X.mg X.base CX k f fd ps sp) (hr:yb k X.A) (hb:Binds X.K fd ps ds) (hd:Vals dvs ds) (hx:Passes CX X E)
  (I:Inv X EY B H s) (r:Vals vs us) (h:sp (vs++dvs) H Q E):wpAny (model X.prog X.w) X.A (call (.ref f) us) (EP X EY B Q) X.xe s:=by
 have r2:Vals (vs++dvs) (us++ds):=r.append hd;have hl:(us++ds).length=ps.length:=by rw[<- r2.length];show F.len _ _ _ _ h
 exact wpAny_call (codeAny_mono (F.run X.A X.stack s H #[us,[]] (us++ds) (vs++dvs) Q E hr I.Ye (hb s us I.xK hl) r2 h) λ r s' hq=>?_);cases r with
 | error e=>show hx EY B H s e s' I hq
 | ok fl=>
  cases fl with
  | ret u=>show I.after hq
  | _=>show False.elim hq
def SJ (F:w_ X.prog X.w X.K X.mg X.base CX k f fd ps sp) (hr:yb k X.A) (hg:Gl X x) (hm:X.mg x=↑(.ref f)) (hk:PySem.W.keepIn X.K (.ref f)=true) (hb:Binds X.K fd ps ds) (hd:Vals dvs ds) (hx:Passes CX X E)
  (ha:PA X (e::es) t) (BD:(x == ("__debug__":Str))=false:=by decide) (he:AJ X e es:=by rfl) (Ao:AN X pos es:=by rfl):
  PE X (.Call (.Name x p) (e::es) [] pos) (cQ sp dvs E t):=by
 intro EY s B H Q I h;exact zaK (fD I hg hm ?_ BD);exact PySem.W.callWith_K (h₀:=X.base) I.ok.mod.m9 hk (zB (ha pos EY s B H _ I h) λ us s1 #[vs,H1,I1,r,q]=>#[I1.xK,?_]) he Ao;show gA F hr hb hd hx I1 r q
structure Mk (K:Ac) (C f:Addr):Prop where
 makes:PySem.W.makesIn K C=true
 init:PySem.W.findIn K (.ref C) "__init__"=↑↑(.ref f)
 fn:PySem.W.isFn K (.ref f)=true
 kp:PySem.W.keepIn K (.ref C)=true
def UE {EY:Ak}{B:St}{H:Hp}{s:Shared}{Q:VK}{us:Ah}{vs:List V}(M:Mk X.K C f) (F:w_ X.prog X.w X.K X.mg X.base CX k f fd ps sp) (hr:yb (k+1) X.A) (hb:Binds X.K fd ps ds) (hd:Vals dvs ds)
  (hx:Passes CX X E) (I:Inv X EY B H s) (r:Vals vs us)
  (h:∀ x dx,H x=none->H dx=none->dx≠x->sp (.ref x::(vs++dvs)) (upd (upd H dx (.own x)) x (.ins C dx [])) (λ v H2=>v=.zp/\Q (.ref x) H2) E):
  wpAny (model X.prog X.w) X.A (call (.ref C) us) (EP X EY B Q) X.xe s:=by
 have hq:=h (s.heap.objs.size+1) s.heap.objs.size (I.zw.fresh (Nat.le_succ _)) (I.zw.fresh (Aj _)) (AI (BV _));have I2:=Inv.made (C:=C) I;have r2:Vals (V.ref (s.heap.objs.size+1)::(vs++dvs)) (Value.ref (s.heap.objs.size+1)::(us++ds)):=.cons rfl (r.append hd);have hl:(Value.ref (s.heap.objs.size+1)::us++ds).length=ps.length:=by
  have e:=r2.length;rw[F.len _ _ _ _ hq] at e;show e.symm
 exact wpAny_call (Mm (f:=f) I.xK M.makes M.init (beq_iff_eq.mp M.fn) (codeAny_mono (F.run _ X.stack _ _ #[Value.ref (s.heap.objs.size+1)::us,[]] (Value.ref (s.heap.objs.size+1)::(us++ds)) _ _ E (hr.make C us [])
  (I2.Ye.make C us []) (hb _ (Value.ref (s.heap.objs.size+1)::us) I2.xK hl) r2 hq) λ r s' HM=>?_))
 cases r with
 | error e=>show hx EY B _ _ e s' I2 HM
 | ok fl=>
  cases fl with
  | ret u=>
   let#[v,H',I3,rv,ev,q3]:=I2.after HM;subst ev;show#[rv,#[V.ref (s.heap.objs.size+1),H',I3,rfl,q3]]
  | _=>show False.elim HM
def Su (M:Mk X.K C f) (F:w_ X.prog X.w X.K X.mg X.base CX k f fd ps sp) (hr:yb (k+1) X.A) (hg:Gl X x) (hm:X.mg x=↑(.ref C)) (hb:Binds X.K fd ps ds) (hd:Vals dvs ds) (hx:Passes CX X E)
  (ha:PA X (e::es) t) (BD:(x == ("__debug__":Str))=false:=by decide) (he:AJ X e es:=by rfl) (Ao:AN X pos es:=by rfl):
  PE X (.Call (.Name x p) (e::es) [] pos) (VV C sp dvs E t):=by
 intro EY s B H Q I h;exact zaK (fD I hg hm ?_ BD);exact PySem.W.callWith_K (h₀:=X.base) I.ok.mod.m9 M.kp (zB (ha pos EY s B H _ I h) λ us s1 #[vs,H1,I1,r,q]=>#[I1.xK,?_]) he Ao;show UE M F hr hb hd hx I1 r q
end
structure vt (N P:List Str) (sc:Scope):Prop where
 kind:sc.kind=.function
 co:sc.isCoroutine=false
 gen:sc.isGenerator=false
 nd:N.Nodup
 pre:N.take P.length=P
 par:∀ x∈P,sc.names.lookup x=↑.local\/sc.names.lookup x=↑.cell
 NN:∀ y∈sc.names,y.2≠.free
theorem Y_ {kindOf:Str->Option NameKind}{x:Str}:∀ {binds:List (Str×Value)}{m:AF},(∀ v,(x,v)∉binds)->bindL kindOf binds m x=m x
 | [],_,_=>rfl
 | (n,v)::r,m,h=>by
  unfold bindL;rw[Y_ λ w hw=>h w (Ay _ hw)];split
  .have:x≠n:=by rintro rfl;show h v Ar
   simp[this]
  .rfl
theorem Xb {kindOf:Str->Option NameKind}{x:Str}:∀ {binds:List (Str×Value)}{m:AF},(∀ v,(x,v)∉binds)->bindC kindOf binds m x=m x
 | [],_,_=>rfl
 | (n,v)::r,m,h=>by
  unfold bindC;rw[Xb λ w hw=>h w (Ay _ hw)];split
  .rfl
  .have:x≠n:=by rintro rfl;show h v Ar
   simp[this]
theorem Xa {kindOf:Str->Option NameKind}{x:Str}{v:Value}:∀ {P:List Str}{vs:Ah}{i:Nat}{m:AF},P.Nodup->P[i]?=↑x->vs[i]?=↑v->kindOf x=↑.local->
  bindL kindOf (P.zip vs) m x=↑v
 | [],_,_,_,_,h,_,_=>by simp at h
 | _::_,[],_,_,_,_,h,_=>by simp at h
 | p::P,w::vs,0,m,nd,h1,h2,hk=>by
  simp at h1 h2;subst h1;subst h2;change bindL kindOf ((p,w)::P.zip vs) m p=_;unfold bindL;rw[Y_ λ v hv=>(Bk.mp nd).1 (DL hv).1,if_pos hk];simp
 | p::P,w::vs,i+1,m,nd,h1,h2,hk=>by
  change bindL kindOf ((p,w)::P.zip vs) m x=_;unfold bindL;show Xa (i:=i) (Bk.mp nd).2 (by exists h1) (by exists h2) hk
theorem Xc {kindOf:Str->Option NameKind}{x:Str}{v:Value}:∀ {P:List Str}{vs:Ah}{i:Nat}{m:AF},P.Nodup->P[i]?=↑x->vs[i]?=↑v->kindOf x≠↑.local->
  bindC kindOf (P.zip vs) m x=↑v
 | [],_,_,_,_,h,_,_=>by simp at h
 | _::_,[],_,_,_,_,h,_=>by simp at h
 | p::P,w::vs,0,m,nd,h1,h2,hk=>by
  simp at h1 h2;subst h1;subst h2;change bindC kindOf ((p,w)::P.zip vs) m p=_;unfold bindC;rw[Xb λ v hv=>(Bk.mp nd).1 (DL hv).1,if_neg hk];simp
 | p::P,w::vs,i+1,m,nd,h1,h2,hk=>by
  change bindC kindOf ((p,w)::P.zip vs) m x=_;unfold bindC;show Xc (i:=i) (Bk.mp nd).2 (by exists h1) (by exists h2) hk
def start (N:List Str) (vs:List V):St:=vs.map some++List.replicate (N.length-vs.length) none
def yT (CX:t9) (P:Program) (w:World) (K:Ac) (mg:AF) (base:Heap) (N:List Str) (qual:Str) (scope:Scope) (f:Addr) (cd:Value) (A:Around) (outer:List Env) (s:Shared) (H:Hp) (E:XK):Cx where
 prog:=P
 w:=w
 K:=K
 mg:=mg
 base:=base
 A:=A.deeper (envOfC qual scope s.heap.objs.size f cd)
 N:=N
 s₀:=s
 H₀:=H
 env:=envOfC qual scope s.heap.objs.size f cd
 outer:=outer
 stack:=envOfC qual scope s.heap.objs.size f cd::outer
 ex:=[]
 calm:=true
 fn:=λ _=>true
 pn:=[]
 xe:=λ e s'=>wpAny (model P w) (A.deeper (envOfC qual scope s.heap.objs.size f cd)) (leaving (envOfC qual scope s.heap.objs.size f cd) e) (λ _ HJ=>CX outer H s E e HJ) (λ e' HJ=>CX outer H s E e' HJ) s'
def YI {sc:Scope}{n:Nat}{x:Str}(h:sc.names.lookup x=↑.cell):∃ c,(cellsFrom n sc.names []).lookup x=↑c:=by
 have q:=PySem.W.cellsFrom_some sc.names n [] (.inl h);show C_.mp q
def MZ {CX:t9}{P:Program}{w:World}{K:Ac}{mg:AF}{base:Heap}{N ps:List Str}{qual:Str}{scope:Scope}{f:Addr}{cd:Value}{A:Around}{outer:List Env}{s s1:Shared}{H:Hp}{E:XK}{us:Ah}{vs:List V}
  (S:vt N ps scope) (hd:A.handled=none) (e0:pT P w K mg base A outer s H) (hl:vs.length=ps.length) (r:Vals vs us)
  (x:InCallC s s.heap.objs.size (bindL (envOfC qual scope s.heap.objs.size f cd).kindOf (ps.zip us) λ _=>none) (cellsFrom (s.heap.objs.size+1) scope.names []) (bindC (envOfC qual scope s.heap.objs.size f cd).kindOf (ps.zip us) λ _=>none) s1):
  Inv (yT CX P w K mg base N qual scope f cd A outer s H E) [] (start N vs) H s1:=by
 have Ao:ps.length<=N.length:=by have:=congrArg List.length S.pre;rw[C9] at this;lia
 let#[h1,tk,rfl,hk]:=x.done;have noA:∀ b:Addr,b∉(yT CX P w K mg base N qual scope f cd A outer s H E).ex:=λ b z=>absurd (show b∈([]:List Addr) from z) #[];exact#[#[e0.mod,S.kind,rfl,rfl,Aj _,λ y z c h1 h2=>?_,λ y hy=>?_,λ y c _ h=>?_,λ _=>hd,Around.frames_deeper e0.frames,.inr #[rfl,rfl],λ b z=>absurd z (noA b),e0.bs,e0.qm,λ b _ _=>noA b,λ b z=>absurd z (noA b),e0.uD,e0.q_],
  rfl,e0.bare,Un.kept hk,#[_,x.toInCall.ns,λ i y v h1 h2 h3=>?_],λ y c h=>#[_,x.cell y c h],e0.zw.fresh (Aj _),λ y c h=>?_,λ p hp=>absurd (show p∈([]:Ak) from hp) #[],e0.zw.kept hk,?_]
 .show name_of_addr x.apart (PySem.mem_of_lookup h1) (PySem.mem_of_lookup h2)
 .have hy:scope.names.lookup y=↑.cell\/scope.names.lookup y=↑.free:=hy;rcases hy with hy | hy
  .show YI hy
  .show absurd rfl (S.NN _ (PySem.mem_of_lookup hy))
 .show Bv (x.above y c (PySem.mem_of_lookup h))
 .have hi:i<vs.length:=by
   unfold start at h2;by_cases hi:i<vs.length
   .show hi
   .rw[Cc (by exists hi)] at h2;rw[CQ] at h2;split at h2 <;> cases h2
  have ha:vs[i]?=↑v:=by
   unfold start at h2;rw[Cb (by exists hi),AD] at h2;cases e:vs[i]? with
   | none=>rw[e] at h2;cases h2
   | some a=>rw[e] at h2;cases h2;rfl
  let#[u,hu,rv]:=r.get ha;have hp:ps[i]?=↑y:=by
   rw[<- S.pre,List.getElem?_take_of_lt ⋯];show h1
  have ndP:ps.Nodup:=by rw[<- S.pre];show S.nd.sublist (List.take_sublist _ _)
  exact#[u,rv,?_];rcases S.par y (A9 hp) with k | k
  .show .inl #[k,Xa ndP hp hu k]
  .let#[c,e]:=YI (n:=s.heap.objs.size+1) k;exact .inr #[.inl k,c,e,?_];have q:=x.cell y c e;rw[Xc ndP hp hu (by change scope.names.lookup y≠_;rw[k];decide)] at q;show q
 .show e0.zw.fresh (Bv (x.above y c (PySem.mem_of_lookup h)))
 .unfold start;change _=N.length;rw[BI,AA,List.length_replicate];lia
def LS {CX:t9}{P:Program}{w:World}{K:Ac}{mg:AF}{base:Heap}{k:Nat}{f:Addr}{name qual:Str}{params:Arguments}{body:List Stmt}{scope:Scope}{dV kV doc pm Af ct oc:Value}{an od:Option Addr}
  {Hl:Array (Option Value)}{N ps:List Str}{sp:Sp}(lk:K.lookup f=↑#[oc,od,.func (PySem.W.fnOf name qual params body scope dV kV doc pm an Af ct),Hl]) (BE:PySem.W.codeIn K Af qual=true) (S:vt N ps scope)
  (len:∀ vs H Q E,sp vs H Q E->vs.length=ps.length)
  (E9:∀ (A:Around) (outer:List Env) (s:Shared) (H:Hp) (vs:List V) (Q:VK) (E:XK),yb k (A.deeper (envOfC qual scope s.heap.objs.size f Af))->sp vs H Q E->
   ∃ t,wx (yT CX P w K mg base N qual scope f Af A outer s H E) body t/\t { nx:=λ _ H'=>Q .zp H',rt:=Q } (start N vs) H):
  w_ P w K mg base CX (k+1) f (PySem.W.fnOf name qual params body scope dV kV doc pm an Af ct) ps sp:=by
 exact#[len,λ A outer s H args us vs Q E hr e0 hb r BW=>?_];have hl:=len _ _ _ _ BW;have KX:K.In s.heap:=e0.mod.m9.keeps λ b o e=>(e0.bs b o e).1;have lim:s.heap.NoLimit:=e0.mod.nolimit.keeps λ b o e=>(e0.bs b o e).1;have hkind:∀ y∈ps.zip us,scope.names.lookup y.1=↑.local\/(scope.names.lookup y.1=↑.cell/\((cellsFrom (s.heap.objs.size+1) scope.names []).lookup y.1).isSome=true):=λ#[n,v] hy=>by
  rcases S.par n (DL hy).1 with q | q
  .show .inl q
  .show .inr #[q,PySem.W.cellsFrom_some _ _ _ (.inl q)]
 exact codeAny_call_function hr.depth (KX _ _ lk) rfl S.co S.gen rfl (PySem.W.codeRec_of KX BE) (hb _ _ _ _ ?_);exact wpAny_newFunctionEnv_cells S.kind hkind λ env he s1 x=>?_;subst he;exact#[lim.keeps x.toInCall.keep,codeAny_func ?_];let#[t,ht,hq]:=E9 A outer s H vs Q E (hr.deeper _) BW;have I:Inv (yT CX P w K mg base N qual scope f Af A outer s H E) [] (start N vs) H s1:=MZ S hr.hd e0 hl r x;exact za5 (ht [] s1 (start N vs) H _ I hq) (λ fl s' hs=>?_) λ e s' hs=>hs;have fin:∀ {B':St}{H':Hp}{v:V}{u:Value},Inv (yT CX P w K mg base N qual scope f Af A outer s H E) [] B' H' s'->RelV v u->Q v H'->CE outer P w H s Q u s':=
  λ{B' H' v u} J rv q=>#[v,H',J.os,J.bare,J.base,J.zw,rv,q]
 cases fl with
 | ret u=>
  let#[v,B',H',J,rv,q]:=hs;show fin J rv q
 | next=>
  let#[B',H',J,q]:=hs;show fin (v:=V.zp) (u:=Value.none) J rfl q
 | brk=>
  let#[_,_,_,q]:=hs;show False.elim q
 | cont=>
  let#[_,_,_,q]:=hs;show False.elim q
section
variable {X:Cx}{x:Str}{p pos:Pos}{e:Expr}{es:List Expr}{t:TA}{id T:String}{r:List V->Hp->VK->Prop}
def k6 (r:List V->Hp->VK->Prop) (t:TA):TE:=fun B H Q=>t B H λ vs H1=>r vs H1 Q
def uT (hc:yI X (.builtin id) r) (hg:Gl X x) (hm:X.mg x=none) (hv:bootBuiltins x=↑(.builtin id)) (ha:PA X (e::es) t) (hn:x≠"__name__":=by decide) (BD:(x == ("__debug__":Str))=false:=by decide)
  (he:AJ X e es:=by rfl) (Ao:AN X pos es:=by rfl):PE X (.Call (.Name x p) (e::es) [] pos) (k6 r t):=by
 intro EY s B H Q I h;exact zaK (oB I hg hm hv ?_ hn BD);show PyProof.Rows.callWith_builtin1 (zB (ha pos EY s B H _ I h) λ us s1 #[vs,H1,I1,r1,q1]=>hc EY s1 B H1 vs us Q I1 r1 q1) he Ao
def nV (hc:yI X (.type T) r) (hg:Gl X x) (hm:X.mg x=none) (hv:bootBuiltins x=↑(.type T)) (ha:PA X (e::es) t) (hn:x≠"__name__":=by decide) (BD:(x == ("__debug__":Str))=false:=by decide)
  (he:AJ X e es:=by rfl) (Ao:AN X pos es:=by rfl):PE X (.Call (.Name x p) (e::es) [] pos) (k6 r t):=by
 intro EY s B H Q I h;exact zaK (oB I hg hm hv ?_ hn BD);show PyProof.Rows.callWith_type1 (zB (ha pos EY s B H _ I h) λ us s1 #[vs,H1,I1,r1,q1]=>hc EY s1 B H1 vs us Q I1 r1 q1) he Ao
end
end L2
namespace HT
open PySem PyProof.Rows
def lexLt:List Int->List Int->Bool
 | [],[]=>false
 | [],_::_=>true
 | _::_,[]=>false
 | x::xs,y::ys=>if x=y then lexLt xs ys else decide (x<y)
def r_ (x y:Int) (xs ys:List Int):lexLt (x::xs) (y::ys)=if x=y then lexLt xs ys else decide (x<y):=rfl
def Mv:lexLt [] []=false:=rfl
def Mw (y:Int) (ys:List Int):lexLt [] (y::ys)=true:=rfl
def Mx (x:Int) (xs:List Int):lexLt (x::xs) []=false:=rfl
def Kn (A:Around) (s:Shared) (a:Int) (t:Tok) (c:Int) (u:Tok):∃ e,SeqAt.EqAt A s (.int a t) (.int c u) e/\(e=true↔a=c):=
 #[(a == c),SeqAt.EqAt.int_int a t c u,#[]]
def UP (A:Around) (s:Shared) (a:Int) (t:Tok) (c:Int) (u:Tok) (prog:Program) (w:World) (E:Ai) (Q:Ai) (h:Q (.bool (decide (a<c))) s):
  wpAny (model prog w) A (richCompare .Lt (.int a t) (.int c u)) Q E s:=
 (PyProof.Rows.lt_int h:wpAny (model prog w) A (compareOp .Lt (.int a t) (.int c u)) Q E s)
section
open PySem.SeqAt
open PySem.AutoSeq1 (wpAny_loadPart')
open PySem.MeetsSeq PySem.MeetsSeq2 PySem.MeetsSeq3
def VA (l b:Addr) (items Fv:Az) (n n2:Nat) (dd HI:Option Addr) (sl HF:Array (Option Value)) (ns ms:List Int) (hi:IntsAre items.toList ns) (hj:IntsAre Fv.toList ms):
  Meets (Builtin.«tuple.__lt__» #[[.ref l,.ref b],[]])
   (λ _ R s=>s.heap.get? l=↑{ cls:=.type "tuple",dict:=dd,data:=.seq items n,slots:=sl }/\s.heap.get? b=↑{ cls:=.type "tuple",dict:=HI,data:=.seq Fv n2,slots:=HF }/\
    R (.ok (.ret (.bool (lexLt ns ms)))) s):=
 .of_wp λ prog w A R s h=>by
  let#[hp,g,d,tk,os]:=s;let#[hl,hb,h]:=h
  have f2:=AutoSeq1.sub_tuple_tuple;have z1:items.size=ns.length:=by rw[<- hi.length];simp
  have z2:Fv.size=ms.length:=by rw[<- hj.length];simp
  wp_walk using wpAny_loadPart' hl,wpAny_loadPart' hb,wpAny_forIn_list _ (λ E6 b s'=>b.1=none/\s'=#[hp,g,d,tk,os]/\∃ (vs ws:Ah) (GI GJ:List Int),E6=vs.zip ws/\
   IntsAre vs GI/\IntsAre ws GJ/\GI.length+Fv.size=GJ.length+items.size/\R (.ok (.ret (.bool (lexLt GI GJ)))) #[hp,g,d,tk,os]) _
  case turn=>
   rintro⟨y,x⟩ E6 b s' ⟨hb',rfl,vs,ws,GI,GJ,hz,Em,CV,hlen,hR⟩;cases Em with
   | nil=>rw[List.zip_nil_left] at hz;cases hz
   | cons a t El=>
    cases CV with
    | nil=>rw[List.zip_nil_right] at hz;cases hz
    | cons c u Eh=>
     rw[List.zip_cons_cons] at hz
     injection hz with hyx hrest
     injection hyx with hy hx
     subst hy hx;rw[r_] at hR;simp![A4] at hlen;let#[e,he,Dk]:=Kn A.in1 #[hp,g,d,tk,os] a t c u;exact gV (he prog w _ _ ?_);cases e with
     | true=>
      rw[if_pos (Dk.mp rfl)] at hR
      wp_walk
      show#[rfl,rfl,_,_,_,_,hrest,El,Eh,⋯,hR]
     | false=>
      rw[if_neg (λ q=>absurd (Dk.mpr q) BL)] at hR;have hri:=UP A.in1 #[hp,g,d,tk,os] a t c u prog w
      wp_walk using hri
      show#[_,rfl,by exists hR]
  case fin=>
   rintro⟨b1,b2⟩ s' ⟨hb',rfl,vs,ws,GI,GJ,hz,Em,CV,hlen,hR⟩;simp only at hb';subst hb';have hv:lexLt GI GJ=decide (items.size<Fv.size):=by
    cases Em with
    | nil=>
     cases CV with
     | nil=>
      simp![CP] at hlen;rw[Mv];show (za3 ⋯).symm
     | cons c u hw=>
      simp![CP,A4] at hlen;rw[Mw];show (za2 ⋯).symm
    | cons a t hv=>
     cases CV with
     | nil=>
      simp![CP,A4] at hlen;rw[Mx];show (za3 ⋯).symm
     | cons c u hw=>
      rw[List.zip_cons_cons] at hz;cases hz
   rw[hv] at hR
   wp_walk
   show#[_,rfl,by simpa [Builtin.Tuple.tupleCompareSizes] using hR]
  case h=>
   show#[rfl,rfl,items.toList,Fv.toList,ns,ms,rfl,hi,hj,⋯,h]
end
section
variable {prog:Program}{w:World}{A:Around}{E:Ai}{s:Shared}
def Mo {l b:Addr}{items Fv:Az}{ns ms:List Int}{Q:Ai}(hl:IsTup s.heap l items) (hb:IsTup s.heap b Fv) (hi:IntsAre items.toList ns) (hj:IntsAre Fv.toList ms)
  (hu:A.units<cLine) (h:Q (.bool (lexLt ns ms)) s):wpAny (model prog w) A (compareOp .Lt (.ref l) (.ref b)) Q E s:=by
 let#[#[cls,dd,data,sl],ho,hc,n,hd]:=id hl;let#[#[cls2,HI,data2,HF],Hj,GS,n2,hd2]:=id hb;simp only at hc hd GS hd2;subst hc hd GS hd2;show richCompare_meets_room (op:=.Lt) #[_,ho,rfl] #[_,Hj,rfl] PySem.F.slot_tuple_lt PySem.F.entry_tuple_lt (PySem.F.args_tuple_lt_2 _ _) (VA l b items Fv n n2 dd HI sl HF ns ms hi hj)
  #[ho,Hj,show Value.bool (lexLt ns ms)≠Value.notImplemented/\Q (.bool (lexLt ns ms)) s from #[(λ x=>nomatch x),h]] hu
def Je {t b:Addr}{vs ws:Ah}{Q:Ai}(ht:IsTup s.heap t vs.toArray) (hb:IsTup s.heap b ws.toArray) (hv:vs≠[])
  (h1:ws=[]->Q (.ref t) s) (h2:ws≠[]->Q (.ref s.heap.objs.size) { s with heap:=s.heap.push { cls:=.type "tuple",data:=.seq (vs++ws).toArray } })
  (hsz:vs.length+ws.length<=sizeLine):wpAny (model prog w) A (binaryOp .Add (.ref t) (.ref b)) Q E s:=by
 let#[#[cls,dd,data,sl],ho,hc,n,hd]:=id ht;let#[#[cls2,HI,data2,HF],Hj,GS,n2,hd2]:=id hb;simp only at hc hd GS hd2;subst hc hd GS hd2;have e:vs.toArray++ws.toArray=(vs++ws).toArray:=#[];by_cases hw:ws=[]
 .show concat_meets #[_,ho,rfl] #[_,Hj,rfl] noFill_tuple_add seq_tuple_add PySem.F.slot_tuple_add PySem.F.entry_tuple_add (PySem.F.args_tuple_add_2 _ _)
   (tuple_addW1 t b vs.toArray ws.toArray n n2 dd HI sl HF (by exists hv) (by simp[hw])) #[ho,Hj,h1 hw]
 .exact concat_meets #[_,ho,rfl] #[_,Hj,rfl] noFill_tuple_add seq_tuple_add PySem.F.slot_tuple_add PySem.F.entry_tuple_add (PySem.F.args_tuple_add_2 _ _)
   (tuple_addW2 t b vs.toArray ws.toArray n n2 dd HI sl HF (by exists hv) (by exists hw) (by rw[AB,AB];show hsz)) #[ho,Hj,?_]
  rw[e];show h2 hw
def zH (n d:Nat):Option Int->Nat
 | none=>d
 | some v=>if v<0 then (v+(n:Int)).toNat else min v.toNat n
def UA (n d:Nat) (hd:d<=n) (o:Option Int):zH n d o<=n:=by
 cases o with
 | none=>show hd
 | some v=>
  change (if v<0 then (v+(n:Int)).toNat else min v.toNat n)<=n;by_cases hv:v<0
  .rw[if_pos hv];lia
  .rw[if_neg hv];show Nat.min_le_right _ _
def YC (v:Int) (n d:Nat):(if v<0 then max (v+(n:Int)) 0 else min v (n:Int))=((zH n d ↑v:Nat):Int):=by
 change (if v<0 then max (v+(n:Int)) 0 else min v (n:Int))=(((if v<0 then (v+(n:Int)).toNat else min v.toNat n):Nat):Int)
 by_cases hv:v<0
 .simp![if_pos hv];lia
 .simp![if_neg hv];lia
theorem JW (lo hi:Option Int) (n:Nat):Builtin.Slice.sliceAdjust lo hi 1 (n:Int)=(((zH n 0 lo:Nat):Int),((zH n n hi:Nat):Int)):=by
 have h1:¬ ((1:Int)<0):=⋯;unfold Builtin.Slice.sliceAdjust;simp![h1,if_false];exact Prod.ext ?_ ?_
 .cases lo with
  | none=>rfl
  | some v=>show YC v n 0
 .cases hi with
  | none=>rfl
  | some v=>show YC v n n
theorem T6 (i j:Nat):Builtin.Slice.slicePlaces (i:Int) (j:Int) 1=j-i:=by
 unfold Builtin.Slice.slicePlaces;have h1:(1:Int)>0:=⋯;simp![h1,if_true,Int.ediv_one];split <;> lia
def bc {v:Value}{o:Option Int}{Q:Option Int->Shared->Prop}(p:IsPart v o) (h:Q o s):wpAny (model prog w) A (Builtin.Slice.slicePartIndex v) Q E s:=by
 cases p with
 | none=>show slicePart_none h
 | int i t=>show slicePart_int h
def bf {sl:Addr}{vl vu:Value}{lo hi:Option Int}{n:Nat}{Q:Int×Int×Nat->Shared->Prop}(hs:s.heap.IsSliceOf sl vl vu .none) (pl:IsPart vl lo) (pu:IsPart vu hi)
  (h:Q (((zH n 0 lo:Nat):Int),1,zH n n hi-zH n 0 lo) s):wpAny (model prog w) A (Builtin.Slice.sliceApplied (.ref sl) (pure (n:Int))) Q E s:=by
 let#[os,Ci,hcs,DW]:=id hs;unfold Builtin.Slice.sliceApplied Builtin.Slice.sliceFields;exact gV (gV (za4 Ci DW (x:=vl) rfl (gV (za4 Ci DW (x:=vu) rfl (gV (za4 Ci DW (x:=.none) rfl (Ad ?_)))))));exact gV (slicePart_none ?_);change wpAny _ _ (if ((1:Int) == 0)=true then _ else _) _ _ s;rw[if_neg ()];exact gV (bc pl (gV (bc pu (gV (Ad ?_)))));change wpAny _ _ (match Builtin.Slice.sliceAdjust lo hi 1 (n:Int) with | (lo,hi)=>pure (lo,(1:Int),Builtin.Slice.slicePlaces lo hi 1)) _ _ s;rw[JW lo hi n];change wpAny _ _ (pure (((zH n 0 lo:Nat):Int),(1:Int),Builtin.Slice.slicePlaces ((zH n 0 lo:Nat):Int) ((zH n n hi:Nat):Int) 1)) _ _ s;rw[T6];show Ad h
theorem TB (xs:Az) (i k:Nat):((List.range k).filterMap λ(m:Nat)=>xs[((i:Int)+(m:Int)*1).toNat]?).toArray=((xs.toList.drop i).take k).toArray:=by
 have e:(λ(m:Nat)=>xs[((i:Int)+(m:Int)*1).toNat]?)=λ m=>xs[i+m]?:=by
  funext m;have:((i:Int)+(m:Int)*1).toNat=i+m:=⋯;rw[this]
 rw[e];have:=pick_run xs i k;rw[List.filterMap_map] at this;have e2:((λ x=>xs[x]?) ∘ λ x=>i+x)=λ m=>xs[i+m]?:=rfl;rw[e2] at this;rw[this]
def LJ {t sl:Addr}{items:Az}{vl vu:Value}{lo hi:Option Int}{Q:Ai}(ht:IsTup s.heap t items) (hs:s.heap.IsSliceOf sl vl vu .none) (pl:IsPart vl lo) (pu:IsPart vu hi)
  (hw:¬ (zH items.size 0 lo=0/\zH items.size items.size hi=items.size))
  (h:Q (.ref s.heap.objs.size) { s with heap:=s.heap.push { cls:=.type "tuple",data:=.seq ((items.toList.drop (zH items.size 0 lo)).take (zH items.size items.size hi-zH items.size 0 lo)).toArray } })
  (hsz:items.size<=sizeLine):wpAny (model prog w) A (getItem (.ref t) (.ref sl)) Q E s:=by
 have G_:sizeOk (.seq ((items.toList.drop (zH items.size 0 lo)).take (zH items.size items.size hi-zH items.size 0 lo)).toArray):=by
  change ((items.toList.drop (zH items.size 0 lo)).take (zH items.size items.size hi-zH items.size 0 lo)).toArray.size<=sizeLine;rw[AB,C9,Ea,Bw];lia
 have hj:zH items.size items.size hi<=items.size:=UA _ _ (Aj _) hi;let#[os,Ci,hcs,DW]:=id hs;have hTs:s.TypeIs (.ref sl) "slice":=#[os,Ci,hcs];unfold getItem
 try with_reducible exact za6 ?_
 first | exact gV (Ad ?_) | skip
 exact gV (wpAny_sequenceKey ht.typeIs () ?_);exact gV (zaB (name:=Str.ofString "__getitem__") ht.typeIs PyProof.Rows.slot_tuple_getitem
  (za7 PyProof.Rows.slot_tuple_getitem ht.typeIs entry_tuple_getitem ?_ (args_tuple_getitem _ _)))
 change wpAny _ _ (Builtin.Tuple.tupleItemsOf (.ref t) >>= _) _ _ s;exact gV (tupleItemsOf_ ht ?_);exact gV (zaE hTs ?_);rw[if_pos ()];exact gV (bf hs pl pu ?_);have hno:¬ ((((zH items.size 0 lo:Nat):Int) == 0&&(1:Int) == 1&&(zH items.size items.size hi-zH items.size 0 lo) == items.size)=true):=by
  intro q;rw[Cd,Cd] at q;have q1:((zH items.size 0 lo:Nat):Int)=0:=eq_of_beq q.1.1;have q2:zH items.size items.size hi-zH items.size 0 lo=items.size:=eq_of_beq q.2;show hw #[⋯,⋯]
 change wpAny _ _ (if (((zH items.size 0 lo:Nat):Int) == 0&&(1:Int) == 1&&(zH items.size items.size hi-zH items.size 0 lo) == items.size)=true then _ else _) _ _ s;rw[if_neg hno,TB]
 first
  | show gV (m:=Builtin.Tuple.tupleExact _) (za8 (Ad #[_,rfl,Ad h]) G_)
  | show gV (m:=Builtin.Tuple.tupleExact _) (za8 (gV (Ad (Ad #[_,rfl,Ad h]))) G_)
  | show gV (gV (m:=Builtin.Tuple.tupleExact _) (za8 (Ad (Ad #[_,rfl,Ad h])) G_))
  | show gV (gV (m:=Builtin.Tuple.tupleExact _) (za8 (Ad #[_,rfl,Ad h]) G_))
end
end HT
namespace L2
open PySem PySem.Spec PyProof.Rows
abbrev TO:=St->Hp->(Option Int->Hp->Prop)->Prop
def PO (X:Cx) (e:Option Expr) (t:TO):Prop:=
 ∀ (EY:Ak) (s:Shared) (B:St) (H:Hp) (Q:Option Int->Hp->Prop),Inv X EY B H s->t B H Q->
  wpAny (model X.prog X.w) X.A (evalPart e X.env) (λ u s'=>∃ o H',Inv X EY B H' s'/\IsPart u o/\Q o H') X.xe s
def VT:TO:=λ _ H Q=>Q none H
def VO (t:TE):TO:=fun B H Q=>t B H λ x H1=>∃ i,x=.int i/\Q ↑i H1
def intsAre_of {ns:List Int}:∀ {us:Ah},Vals (ns.map V.int) us->IntsAre us ns:=by
 induction ns with
 | nil=>intro us r;rw[Bu] at r;cases r;show .nil
 | cons n ns ih=>
  intro us r;rw[Aw] at r;cases r with
  | cons r1 r2=>
   let#[t,e]:=r1;subst e;show .cons n t (ih r2)
section
variable {X:Cx}{e:Expr}{te:TE}{lo hi:Option Expr}{tl th:TO}{pos p2:Pos}
def T4:PO X none VT:=by
 intro EY s B H Q I h;rw[evalPart_none];show Ad #[none,H,I,.none,h]
def T3 (h:PE X e te):PO X ↑e (VO te):=by
 intro EY s B H Q I hw;rw[evalPart_some];exact zB (h EY s B H _ I hw) λ u s1 #[x,H1,I1,r1,q1]=>?_;let#[i,rfl,q]:=q1;let#[t,rfl]:=r1;show#[↑i,H1,I1,.int i t,q]
def qu (X:Cx) (r:V->Option Int->Option Int->Hp->VK->Prop):Prop:=
 ∀ (EY:Ak) (s:Shared) (B:St) (H:Hp) (x:V) (v vl vu:Value) (lo hi:Option Int) (sl:Addr) (Q:VK),Inv X EY B H s->RelV x v->s.heap.IsSliceOf sl vl vu .none->IsPart vl lo->IsPart vu hi->r x lo hi H Q->
  ∃ T id,typeLookup (.type T) "__getitem__"=pure ↑(.builtin id)/\s.TypeIs v T/\wpAny (model X.prog X.w) X.A (getItem v (.ref sl)) (EP X EY B Q) X.xe s
def qu.or {r r':V->Option Int->Option Int->Hp->VK->Prop}(h:qu X r) (h':qu X r'):qu X (λ x lo hi H Q=>r x lo hi H Q\/r' x lo hi H Q):=by
 intro EY s B H x v vl vu lo hi sl Q I rx hs pl pu q;rcases q with q | q
 .show h EY s B H x v vl vu lo hi sl Q I rx hs pl pu q
 .show h' EY s B H x v vl vu lo hi sl Q I rx hs pl pu q
def VL (r:V->Option Int->Option Int->Hp->VK->Prop) (te:TE) (tl th:TO):TE:=fun B H Q=>te B H λ x H1=>tl B H1 λ l H2=>th B H2 λ u H3=>r x l u H3 Q
theorem Sj {r:V->Option Int->Option Int->Hp->VK->Prop}(hr:qu X r) (he:PE X e te) (hl:PO X lo tl) (hu:PO X hi th):PE X (.Subscript e (.Slice lo hi none p2) pos) (VL r te tl th):=by
 intro EY s B H Q I h;exact Subscript_ (zB (he EY s B H _ I h) λ v s1 #[x,H1,I1,r1,q1]=>?_);exact wpAny_Slice (zB (hl EY s1 B H1 _ I1 q1) λ vl s2 #[l,H2,I2,pl,q2]=>zB (hu EY s2 B H2 _ I2 q2) λ vu s3 #[u,H3,I3,pu,q3]=>?_);rw[evalPart_none];exact Ad ?_;have I4:Inv X EY B H3 { s3 with heap:=s3.heap.push { cls:=.type "slice",data:=.fields [vl,vu,.none].toArray } }:=I3.kept (t':=s3.toks) λ b ob q=>za1 _ q;let#[T,id,hT,ht,hg]:=hr EY { s3 with heap:=s3.heap.push { cls:=.type "slice",data:=.fields [vl,vu,.none].toArray } } B H3 x v vl vu l u s3.heap.objs.size Q I4 r1 (Heap.IsSliceOf.new ..) pl pu q3;change wpAny (model X.prog X.w) X.A (subscriptTail e (.Slice lo hi none p2) v (.ref s3.heap.objs.size)) (EP X EY B Q) X.xe { s3 with heap:=s3.heap.push { cls:=.type "slice",data:=.fields [vl,vu,.none].toArray } };show tail_any (ops:=[.ref s3.heap.objs.size,v]) ht hT hg (by with_unfolding_all rfl)
def sd (xs:List V) (lo hi:Option Int):List V:=(xs.drop (HT.zH xs.length 0 lo)).take (HT.zH xs.length xs.length hi-HT.zH xs.length 0 lo)
def Y5 (xs:List V) (lo hi:Option Int):(sd xs lo hi).length<=xs.length:=by
 unfold sd;rw[C9,Ea];lia
def bC (K:Ac):V->Option Int->Option Int->Hp->VK->Prop:=λ x lo hi H Q=>∃ a xs,x=.ref a/\zX K H a xs/\
 ¬ (HT.zH xs.length 0 lo=0/\HT.zH xs.length xs.length hi=xs.length)/\∀ p,H p=none->Q (.ref p) (upd H p (.tup (sd xs lo hi)))
theorem Uy:qu X (bC X.K):=by
 intro EY s B H x v vl vu lo hi sl Q I rx hs pl pu h;let#[a,xs,rfl,hx,hw,q]:=h;cases rx;let#[Aa,r,ht,hz]:=I.tuple hx;have hlen:Aa.toArray.size=xs.length:=by rw[AB];show r.length.symm
 exact#["tuple",_,PyProof.Rows.slot_tuple_getitem.lookup,ht.typeIs,?_];exact HT.LJ ht hs pl pu (by rw[hlen];show hw) ?_ (by rw[hlen];show hz);rw[hlen];exact#[.ref s.heap.objs.size,_,I.laid (t':=s.toks) (o:=.tup (sd xs lo hi)) (λ b ob q=>za1 _ q) (Aj _) ?_,rfl,q _ (I.zw.fresh (Aj _))];show#[#[AY (Y5 xs lo hi) hz,.new _],_,(r.drop (HT.zH xs.length 0 lo)).take (HT.zH xs.length xs.length hi-HT.zH xs.length 0 lo),IsTup.new _ _]
def gK (K:Ac):R2:=λ x y H Q=>∃ a b ns ms,x=.ref a/\y=.ref b/\zX K H a (ns.map V.int)/\zX K H b (ms.map V.int)/\Q (.bl (HT.lexLt ns ms)) H
def QT (hu:X.A.units<cLine):yp X (compareOp .Lt) (gK X.K):=by
 intro EY s B H x y v u Q I rx ry h;let#[a,b,ns,ms,rfl,rfl,ha,hb,q]:=h;cases rx;cases ry;let#[Aa,r1,p1,_]:=I.tuple ha;let#[FL,r2,p2,_]:=I.tuple hb;have i1:IntsAre Aa.toArray.toList ns:=intsAre_of r1;have i2:IntsAre FL.toArray.toList ms:=intsAre_of r2;show HT.Mo p1 p2 i1 i2 hu #[.bl (HT.lexLt ns ms),H,I,rfl,q]
def bL (K:Ac):R2:=λ x y H Q=>∃ a b xs ys,x=.ref a/\y=.ref b/\zX K H a xs/\zX K H b ys/\xs≠[]/\xs.length+ys.length<=sizeLine/\
 (ys=[]->Q (.ref a) H)/\(ys≠[]->∀ p,H p=none->Q (.ref p) (upd H p (.tup (xs++ys))))
def Vals.ma {xs:List V}{us:Ah}(r:Vals xs us):us=[]↔xs=[]:=by
 cases r with
 | _=>simp
theorem Pa:yp X (binaryOp .Add) (bL X.K):=by
 intro EY s B H x y v u Q I rx ry h;let#[a,b,xs,ys,rfl,rfl,ha,hb,hx,hz,q1,q2]:=h;cases rx;cases ry;let#[Aa,r1,p1,_]:=I.tuple ha;let#[FL,r2,p2,_]:=I.tuple hb;exact HT.Je p1 p2 (λ z=>hx (r1.ma.mp z)) (λ z=>#[.ref a,H,I,rfl,q1 (r2.ma.mp z)]) (λ z=>?_) (by rw[<- r1.length,<- r2.length];show hz);exact#[.ref s.heap.objs.size,_,I.laid (t':=s.toks) (o:=.tup (xs++ys)) (λ b ob q=>za1 _ q) (Aj _) ?_,rfl,q2 (λ w=>z (r2.ma.mpr w)) _ (I.zw.fresh (Aj _))];show#[#[by rw[BI];show hz,.new _],_,r1.append r2,IsTup.new _ _]
end
def wA (n:Nat) (i:Int):Option Nat:=if 0<=i then (if i<n then ↑i.toNat else none) else if -(n:Int)<=i then ↑(i+n).toNat else none
def zM {α:Type}(xs:List α) (i:Int):Option α:=(wA xs.length i).bind λ j=>xs[j]?
theorem Zo {n:Nat}{i:Int}{j:Nat}(h:wA n i=↑j):seqIndex? i n=↑j/\j<n/\-(n:Int)<=i/\i<n:=by
 unfold wA at h;by_cases h0:0<=i
 .rw[if_pos h0] at h;by_cases h1:i<n
  .rw[if_pos h1] at h;have e:i.toNat=j:=Ba h;show#[by rw[seqIndex_of h0 h1,e],⋯,⋯,h1]
  .rw[if_neg h1] at h;cases h
 .rw[if_neg h0] at h;by_cases h1:-(n:Int)<=i
  .rw[if_pos h1] at h;have e:(i+n).toNat=j:=Ba h;show#[by rw[seqIndex_neg ⋯ h1,e],⋯,h1,⋯]
  .rw[if_neg h1] at h;cases h
def de {α:Type}{xs:List α}{i:Int}{v:α}(h:zM xs i=↑v):∃ j,seqIndex? i xs.length=↑j/\xs[j]?=↑v/\j<xs.length/\-(xs.length:Int)<=i/\i<xs.length:=by
 unfold zM at h;cases e:wA xs.length i with
 | none=>rw[e] at h;cases h
 | some j=>
  rw[e] at h;let#[h1,h2,h3,h4]:=Zo e;show#[j,h1,h,h2,h3,h4]
theorem e_ {α:Type}(xs:List α) (v:α):zM (xs++[v]) (-1)=↑v:=by
 have hl:(xs++[v]).length=xs.length+1:=#[];have e:wA (xs++[v]).length (-1)=↑xs.length:=by
  unfold wA;rw[hl,if_neg (),if_pos ⋯];congr 1;lia
 unfold zM;rw[e];change (xs++[v])[xs.length]?=↑v;simp
def Xv (b:Expr):Prop:=∀ o i,subscripted b false o i=operate [o,i] (getItem o i)
def rE (X:Cx) (r:R2):Prop:=
 ∀ (value slice:Expr) (EY:Ak) (s:Shared) (B:St) (H:Hp) (x y:V) (v u:Value) (Q:VK),Inv X EY B H s->RelV x v->RelV y u->r x y H Q->
  subscripted slice false v u=operate [v,u] (getItem v u)->wpAny (model X.prog X.w) X.A (subscriptTail value slice v u) (EP X EY B Q) X.xe s
def Ic (X:Cx) (id:String) (r:V->List V->Hp->VK->Prop):Prop:=
 ∀ (EY:Ak) (s:Shared) (B:St) (H:Hp) (x:V) (xs:List V) (v:Value) (us:Ah) (Q:VK),Inv X EY B H s->RelV x v->Vals xs us->r x xs H Q->
  wpAny (model X.prog X.w) X.A (call (.builtin id) (v::us)) (EP X EY B Q) X.xe s
section
variable {X:Cx}{a b:Expr}{ta tb:TE}{pos:Pos}
def rE.or {r r':R2}(h:rE X r) (h':rE X r'):rE X (λ x y H Q=>r x y H Q\/r' x y H Q):=by
 intro value slice EY s B H x y v u Q I rx ry q hs;rcases q with q | q
 .show h value slice EY s B H x y v u Q I rx ry q hs
 .show h' value slice EY s B H x y v u Q I rx ry q hs
def Sz {r:R2}(hr:rE X r) (ha:PE X a ta) (hb:PE X b tb) (hs:Xv b):PE X (.Subscript a b pos) (nG r ta tb):=by
 intro EY s B H Q I h;show Subscript_ (eT ha hb I h λ v u s2 x y H2 I2 rx ry q=>hr a b EY s2 B H2 x y v u Q I2 rx ry q (hs _ _))
def bG (K:Ac):R2:=λ x y H Q=>∃ p xs i v,x=.ref p/\y=.int i/\zT K H p xs/\zM xs i=↑v/\Q v H
def bE (K:Ac):R2:=λ x y H Q=>∃ p xs i v,x=.ref p/\y=.int i/\zX K H p xs/\zM xs i=↑v/\Q v H
def bF:R2:=λ x y H Q=>∃ z i c,x=.str z/\y=.int i/\z.length<=sizeLine/\zM z.cps.toList i=↑c/\Q (.str #[[c].toArray]) H
theorem MS:rE X (bG X.K):=by
 intro value slice EY s B H x y v u Q I rx ry h hs;let#[p,xs,i,z,rfl,rfl,hq,he,q]:=h;cases rx;let#[t,rfl]:=ry;let#[Aa,r,pl,hz]:=I.list hq;let#[j,h1,h2,h3,h4,h5]:=de he;let#[w,ew,Ho]:=r.get h2;have hl:=r.length;have hn:=qS;have fin:EP X EY B Q w s:=#[z,H,I,Ho,q];by_cases h0:0<=i
 .have hj:i.toNat=j:=by
   rw[seqIndex_of h0 h5] at h1;show Ba h1
  show item_listR pl.isList h0 ⋯ (by rw[hj];exists ew) fin hs
 .have hj:(i+(Aa.toArray.size:Int)).toNat=j:=by
   rw[seqIndex_neg ⋯ h4] at h1;rw[AB,<- hl];show Ba h1
  show subscriptTail_builtinR (x:=w) pl.isList.typeIs slot_list_getitem.lookup
   (wpAny_getItem_list_neg (Q:=λ r s'=>r=w/\EP X EY B Q r s') pl.isList ⋯ (by rw[AB] <;> lia) ⋯ (by rw[hj];exists ew) #[rfl,fin]) hs
theorem MP:rE X (bE X.K):=by
 intro value slice EY s B H x y v u Q I rx ry h hs;let#[p,xs,i,z,rfl,rfl,hq,he,q]:=h;cases rx;let#[t,rfl]:=ry;let#[Aa,r,pl,hz]:=I.tuple hq;let#[j,h1,h2,h3,h4,h5]:=de he;let#[w,ew,Ho]:=r.get h2;have hl:=r.length;have hn:=qS;have fin:EP X EY B Q w s:=#[z,H,I,Ho,q];show subscriptTail_builtinR (x:=w) pl.typeIs slot_tuple_getitem.lookup
  (getItem_tuple (j:=j) (Q:=λ r s'=>r=w/\EP X EY B Q r s') pl ⋯ ⋯ (by rw[AB,<- hl];show h1) (by exists ew) #[rfl,fin]) hs
theorem MQ:rE X bF:=by
 intro value slice EY s B H x y v u Q I rx ry h hs;let#[z,i,c,rfl,rfl,hz,he,q]:=h;let#[t,rfl]:=rx;let#[t',rfl]:=ry;let#[j,h1,h2,h3,h4,h5]:=de he;have hl:z.cps.toList.length=z.length:=by simp[Str.length]
 rw[hl] at h1 h4 h5;have hn:=qS;show tail_any (typeIs_str s z t) slot_str_getitem.lookup (getItem_str (c:=c) (by
  have e1:decide (i < -(2 ^ 63:Int))=false:=za3 ⋯;have e2:decide (i≥2 ^ 63)=false:=za3 ⋯;rw[e1,e2,Bool.or_false]) (by rw[h1];exists h2) #[.str #[[c].toArray],H,I.tok _,#[_,rfl],q]) hs
def bH (K:Ac):R2:=λ x y H Q=>bG K x y H Q\/bE K x y H Q\/bF x y H Q
def MR:rE X (bH X.K):=MS.or (MP.or MQ)
def Mj (Aa:Ah) (n j:Nat) (u:Value):Obj.mapSeq (·.setIfInBounds j u) { cls:=.type "list",data:=.seq Aa.toArray n }={ cls:=.type "list",data:=.seq (Aa.set j u).toArray n }:=by
 simp[Obj.mapSeq]
theorem Inv.lst {EY:Ak}{B:St}{H:Hp}{s:Shared}{p:Addr}{xs:List V}(I:Inv X EY B H s) (h:H p=↑(.lst xs)):
  ∃ (Aa:Ah) (n:Nat),Vals xs Aa/\s.heap.get? p=↑{ cls:=.type "list",data:=.seq Aa.toArray n }/\xs.length<=sizeLine:=by
 let#[z,Aa,n,r,e]:=I.zw p _ h;show#[Aa,n,r,e,z]
def Inv.Mp {EY:Ak}{B:St}{H:Hp}{s:Shared}{p:Addr}{xs ys:List V}{Aa AQ:Ah}{n n':Nat}{f:Obj->Obj}(I:Inv X EY B H s) (h:H p=↑(.lst xs))
  (ho:s.heap.get? p=↑{ cls:=.type "list",data:=.seq Aa.toArray n }) (hf:f { cls:=.type "list",data:=.seq Aa.toArray n }={ cls:=.type "list",data:=.seq AQ.toArray n' }) (r:Vals ys AQ) (hz:ys.length<=sizeLine) (t:Nat):
  Inv X EY B (upd H p (.lst ys)) { s with heap:=s.heap.update p f,toks:=t }:=by
 have e:(s.heap.update p f).get? p=↑{ cls:=.type "list",data:=.seq AQ.toArray n' }:=by
  rw[zaF f ho (by rw[hf] <;> rfl),hf]
 exact I.write (x:=p) (e:=p) (by rw[h];trivial) (.inl rfl) (λ b u hb q=>(zaL _ _ (Ne.symm hb)).trans q) #[_,e] ?_;show#[hz,AQ,n',r,e]
def UW:V->V->V->Hp->(Hp->Prop)->Prop:=λ o i v H Q=>∃ p xs k j,o=.ref p/\i=.int k/\H p=↑(.lst xs)/\wA xs.length k=↑j/\Q (upd H p (.lst (xs.set j v)))
theorem set_list:Xw X UW:=by
 intro EY s B H o i v ov iv u Q I ro ri rv h;let#[p,xs,k,j,rfl,rfl,hp,hj,q]:=h;cases ro;let#[t,rfl]:=ri;let#[Aa,n,r,ho,hz]:=I.lst hp;let#[h1,h2,h3,h4]:=Zo hj;have hl:=r.length;have hn:=qS;have I':Inv X EY B (upd H p (.lst (xs.set j v))) { s with heap:=s.heap.update p (Obj.mapSeq (·.setIfInBounds j u)) }:=
  I.Mp hp ho (Mj Aa n j u) (r.set rv j) (by rw[C8];show hz) s.toks
 by_cases h0:0<=k
 .have hk:k.toNat=j:=by
   rw[seqIndex_of h0 h4] at h1;show Ba h1
  show PySem.W.ki_setAt ho h0 ⋯ (by rw[AB,<- hl];show h4) (by rw[hk];show#[_,I',q])
 .have hk:(k+(Aa.toArray.size:Int)).toNat=j:=by
   rw[seqIndex_neg ⋯ h3] at h1;rw[AB,<- hl];show Ba h1
  show PySem.W.ki_setBack ho ⋯ (by rw[AB,<- hl];show h3) ⋯ (by rw[hk];show#[_,I',q])
def Uv (lo hi:Option Int) (n:Nat):(sliceBounds lo hi none n).1=((HT.zH n 0 lo:Nat):Int)/\(sliceBounds lo hi none n).2.1=((HT.zH n n hi:Nat):Int)/\(sliceBounds lo hi none n).2.2=1:=by
 exact#[?_,?_,rfl]
 .cases lo with
  | none=>simp[sliceBounds,HT.zH]
  | some i=>
   simp![sliceBounds,HT.zH,Option.getD_none,show (1:Int)>0 by decide,if_true];by_cases h:i<0
   .simp![h,if_true] <;> lia
   .simp![h,if_false] <;> lia
 .cases hi with
  | none=>simp[sliceBounds,HT.zH]
  | some i=>
   simp![sliceBounds,HT.zH,Option.getD_none,show (1:Int)>0 by decide,if_true];by_cases h:i<0
   .simp![h,if_true] <;> lia
   .simp![h,if_false] <;> lia
def Uw (Aa:Ah) (lo hi:Option Int):slicePick Aa.toArray lo hi none=((Aa.drop (HT.zH Aa.length 0 lo)).take (HT.zH Aa.length Aa.length hi-HT.zH Aa.length 0 lo)).toArray:=by
 let#[h1,h2,h3]:=Uv lo hi Aa.toArray.size;unfold slicePick;rw[h1,h2,h3];simp![sliceRange_one,pick_run,AB] <;> rfl
def bD (K:Ac):V->Option Int->Option Int->Hp->VK->Prop:=λ x lo hi H Q=>∃ a xs,x=.ref a/\zT K H a xs/\∀ p,H p=none->Q (.ref p) (upd H p (.lst (sd xs lo hi)))
theorem Uz:qu X (bD X.K):=by
 intro EY s B H x v vl vu lo hi sl Q I rx hs pl pu h;let#[a,xs,rfl,hx,q]:=h;cases rx;let#[Aa,r,ht,hz]:=I.list hx;have hlen:=r.length;exact#["list",_,slot_list_getitem.lookup,ht.isList.typeIs,?_];exact wpAny_getItem_list_slice ht.isList hs pl pu .none #[] ?_ (by rw[AB] <;> lia);rw[Uw,<- hlen];exact#[.ref s.heap.objs.size,_,I.laid (t':=s.toks) (o:=.lst (sd xs lo hi)) (λ b ob q=>za1 _ q) (Aj _) ?_,rfl,q _ (I.zw.fresh (Aj _))];show#[AY (Y5 xs lo hi) hz,_,0,(r.drop (HT.zH xs.length 0 lo)).take (HT.zH xs.length xs.length hi-HT.zH xs.length 0 lo),AK _ rfl]
theorem Jv:yI X (.builtin "len") (λ xs H Q=>∃ p ys,xs=[.ref p]/\(zT X.K H p ys\/zX X.K H p ys)/\Q (.int ys.length) H):=by
 intro EY s B H xs us Q I r h;let#[p,ys,rfl,hq,q]:=h;let#[u,rfl,rx]:=vals1 r;cases rx;have hn:=qS;rcases hq with hq | hq
 .let#[Aa,r',pl,hz]:=I.list hq;have hlen:=r'.length;show Calls.call_len_list pl.isList (by simp![AB] <;> lia) #[.int ys.length,H,I.tok _,#[s.toks+1,by rw[AB,hlen]],q]
 .let#[Aa,r',pl,hz]:=I.tuple hq;have hlen:=r'.length;show len_tuple pl (by simp![AB] <;> lia) #[.int ys.length,H,I.tok _,#[s.toks+1,by rw[AB,hlen]],q]
theorem Ju:yI X (.builtin "len") (λ xs H Q=>∃ z,xs=[.str z]/\z.length<=sizeLine/\Q (.int z.length) H):=by
 intro EY s B H xs us Q I r h;let#[z,rfl,hz,q]:=h;let#[u,rfl,t,rfl]:=vals1 r;have hn:=qS;show len_str ⋯ #[.int z.length,H,I.tok _,#[_,rfl],q]
def yI.or {f:Value}{r r':List V->Hp->VK->Prop}(h:yI X f r) (h':yI X f r'):yI X f (λ xs H Q=>r xs H Q\/r' xs H Q):=by
 intro EY s B H xs us Q I rs q;rcases q with q | q
 .show h EY s B H xs us Q I rs q
 .show h' EY s B H xs us Q I rs q
theorem Js:yI X (.type "list") (λ xs H Q=>∃ p ys,xs=[.ref p]/\(zT X.K H p ys\/zX X.K H p ys)/\∀ l,H l=none->Q (.ref l) (upd H l (.lst ys))):=by
 intro EY s B H xs us Q I r h;let#[p,ys,rfl,hq,q]:=h;let#[u,rfl,rx]:=vals1 r;cases rx;have fin:∀ (Aa:Ah),Vals ys Aa->ys.length<=sizeLine->∀ (h':Heap) (c':Nat),(∀ b o',s.heap.get? b=↑o'->h'.get? b=↑o')->
   h'.get? s.heap.objs.size=↑{ cls:=.type "list",dict:=none,data:=.seq Aa.toArray c',slots:=[].toArray }->EP X EY B Q (.ref s.heap.objs.size) { s with heap:=h' }:=λ Aa r' hz h' c' kp e=>
  #[.ref s.heap.objs.size,_,I.laid (t':=s.toks) kp (Aj _) (show yU X.prog X.w _ h' _ (.lst ys) from #[hz,Aa,c',r',e]),rfl,q _ (I.zw.fresh (Aj _))]
 rcases hq with hq | hq
 .let#[Aa,r',pl,hz]:=I.list hq;have hlen:=r'.length;let#[o,ho,hc,n,hd]:=pl.isList;show call_list_seq p (.inl rfl) ho hc hd (λ h' c' kp e=>fin Aa r' hz h' c' kp e) (by simp![AB] <;> lia)
 .let#[Aa,r',pl,hz]:=I.tuple hq;have hlen:=r'.length;let#[o,ho,hc,n,hd]:=pl;show call_list_seq p (.inr rfl) ho hc hd (λ h' c' kp e=>fin Aa r' hz h' c' kp e) (by simp![AB] <;> lia)
theorem Jg:yI X (.type "tuple") (λ xs H Q=>∃ p ys,xs=[.ref p]/\((zT X.K H p ys/\∀ l,H l=none->Q (.ref l) (upd H l (.tup ys)))\/(zX X.K H p ys/\Q (.ref p) H))):=by
 intro EY s B H xs us Q I r h;let#[p,ys,rfl,h]:=h;let#[u,rfl,rx]:=vals1 r;cases rx;rcases h with ⟨hq,q⟩ | ⟨hq,q⟩
 .let#[Aa,r',pl,hz]:=I.list hq;have hlen:=r'.length;exact call_tuple_list pl.isList (λ h' kp=>?_) (by simp![AB] <;> lia);have I1:Inv X EY B H { s with heap:=h' }:=I.kept (t':=s.toks) kp;have I2:Inv X EY B (upd H h'.objs.size (.tup ys)) { s with heap:=h'.push { cls:=.type "tuple",data:=.seq Aa.toArray } }:=
   I1.laid (t':=s.toks) (λ b o e=>za1 _ e) (Aj _) (show yU X.prog X.w _ _ _ (.tup ys) from #[#[hz,.new _],Aa,r',IsTup.new _ _])
  show#[.ref h'.objs.size,_,I2,rfl,q _ (I1.zw.fresh (Aj _))]
 .let#[Aa,r',pl,hz]:=I.tuple hq;show call_tuple_same pl #[.ref p,H,I,rfl,q]
def cK (K:Ac) (T:String) (x:V) (H:Hp):Prop:=match x with
 | .str _=>T="str"
 | .int _=>T="int"
 | .ref p=>(T="list"/\∃ xs,zT K H p xs)\/(T="tuple"/\∃ o,K.lookup p=↑o/\o.cls=.type "tuple"/\o.dict=none)\/
   (T="dict"/\((∃ Ab,H p=↑(.dK Ab))\/∃ Ab,H p=↑(.dT Ab)))\/(T="set"/\∃ S n,H p=↑(.set S n))
 | _=>False
def V2 {EY:Ak}{B:St}{H:Hp}{s:Shared}{T:String}{x:V}{v:Value}(I:Inv X EY B H s) (r:RelV x v) (ty:cK X.K T x H):
  s.TypeIs v T/\∀ a,v=.ref a->∃ ob,s.heap.get? a=↑ob/\ob.dict=none:=by
 cases x with
 | str z=>
  let#[t,rfl]:=r;cases (show T="str" from ty);show#[typeIs_str s z t,λ _ e=>nomatch e]
 | int i=>
  let#[t,rfl]:=r;cases (show T="int" from ty);show#[typeIs_int s i t,λ _ e=>nomatch e]
 | ref p=>
  cases r;rcases ty with ⟨rfl,xs,hq⟩ | ⟨rfl,o,hk,hc,hd⟩ | ⟨rfl,hk⟩ | ⟨rfl,S,n,hk⟩
  .let#[Aa,_,pl,_]:=I.list hq;exact#[pl.isList.typeIs,λ a e=>?_];cases e;let#[o,n,e,c,hd,_]:=pl;show#[o,e,hd]
  .exact#[#[o,I.xK p o hk,hc],λ a e=>?_];cases e;show#[o,I.xK _ o hk,hd]
  .have z:∃ o,s.heap.get? p=↑o/\o.ExactDict:=by
    rcases hk with ⟨Ab,hk⟩ | ⟨Ab,hk⟩
    .let#[_,_,_,_,o,_,_,e,ex,_]:=I.zw p _ hk;show#[o,e,ex]
    .let#[_,_,_,_,o,_,_,e,ex,_]:=I.zw p _ hk;show#[o,e,ex]
   let#[o,e,ex]:=z;exact#[#[o,e,ex.1],λ a e2=>?_];cases e2;show#[o,e,ex.2.1]
  .let#[o,_,_,_,e,ex,_]:=I.zw p _ hk;exact#[#[o,e,ex.1],λ a e2=>?_];cases e2;show#[o,e,ex.2.1]
 | _=>show False.elim ty
def h_ (K:Ac) (T:String) (r:V->List V->Hp->VK->Prop) (to:TE) (t:TA):TE:=fun B H Q=>to B H λ x H1=>cK K T x H1/\t B H1 λ xs H2=>r x xs H2 Q
variable {o e:Expr}{es:List Expr}{to:TE}{t:TA}{name:Str}{apos Ap:Pos}{T id:String}{r:V->List V->Hp->VK->Prop}
def bZ (pa:PlainAttrs T) (slot:Slot T name id) (hty:typeOf (.builtin id)=pure (.type "method_descriptor")) (hm:Ic X id r) (ho:PE X o to) (ha:PA X (e::es) t)
  (GV:attributeBase o name X.env (eval o X.env)=eval o X.env:=by rfl)
  (AV:((backTo Ap (starEach (e::es) X.env)).all (λ x=>!x.1)&&(backToKw Ap (keywordEach [] X.env)).all (λ x=>x.1.isSome)
   && decide ((e::es).length+([]:List Keyword).length+(if ([]:List Keyword).isEmpty then 0 else 1)<30))=true:=by rfl)
  (GU:(apos.endLine == Ap.line)=true:=by rfl) (hs:AJ X e es:=by rfl) (Gw:AN X Ap es:=by rfl):
  PE X (.Call (.Attribute o name apos) (e::es) [] Ap) (h_ X.K T r to t):=by
 intro EY s B H Q I h;exact wpAny_Call_method_late GV AV GU rfl (zB (ho EY s B H _ I h) λ v s1 #[x,H1,I1,r1,ty,q1]=>?_);let#[h1,h2]:=V2 I1 r1 ty;exact#[T,id,pa,slot,hty,h1,h2,?_];have hA:=ha Ap EY s1 B H1 _ I1 q1;rw[hs] at hA ⊢;exact Calls.callWith_builtin (by change (false||(backTo Ap (starEach es X.env)).any (·.1))=false;rw[Gw] <;> rfl) (Calls.evalArgs_plain ?_);show zB hA λ us s2 #[vs,H2,I2,r2,q2]=>hm EY s2 B H2 x vs v us Q I2 r1 r2 q2
end
def Xz (X:Cx) (id:String) (r:V->List V->Hp->VK->Prop):Prop:=
 ∀ (EY:Ak) (s:Shared) (B:St) (H:Hp) (x:V) (xs:List V) (v:Value) (us:Ah) (Q:VK),Inv X EY B H s->RelV x v->Vals xs us->r x xs H Q->
  wpAny (model X.prog X.w) X.A (call (.builtin id) (v::us)) (EP X EY B Q) X.xe s
theorem Vals.one:∀ {x:V}{us:Ah},Vals [x] us->∃ u,us=[u]/\RelV x u
 | _,_,.cons r .nil=>#[_,rfl,r]
theorem Vals.rep {xs:List V}{us:Ah}(h:Vals xs us):∀ k:Nat,Vals (List.replicate k xs).flatten (List.replicate k us).flatten
 | 0=>.nil
 | k+1=>by
  rw[BU,BU,Cr,Cr];show Vals.append h (Vals.rep h k)
section
variable {X:Cx}{EY:Ak}{B:St}{H:Hp}{s:Shared}{l:Addr}{xs ys:List V}
def Inv.aQ {Aa AQ:Ah}{n:Nat}{f:Array Value->Array Value}{t':Nat}(I:Inv X EY B H s) (hH:H l=↑(.lst xs))
  (e:s.heap.get? l=↑{ cls:=.type "list",data:=.seq Aa.toArray n }) (hf:f Aa.toArray=AQ.toArray) (hv:Vals ys AQ) (hz:ys.length<=sizeLine):
  Inv X EY B (upd H l (.lst ys)) { s with heap:=s.heap.update l (Obj.mapSeq f),toks:=t' }:=by
 have q:=PySem.IsL.update e f;rw[hf] at q;exact I.write (x:=l) (e:=l) (by rw[hH];show trivial) (.inl rfl) (λ b' u hb hu=>(zaL s.heap (Obj.mapSeq f) (Ne.symm hb)).trans hu) #[_,q] ?_;show#[hz,AQ,_,hv,q]
def Inv.Mr {Aa:Ah}{t':Nat}(I:Inv X EY B H s) (hv:Vals ys Aa) (hz:ys.length<=sizeLine):
  Inv X EY B (upd H s.heap.objs.size (.lst ys)) { s with heap:=s.heap.push { cls:=.type "list",data:=.seq Aa.toArray },toks:=t' }:=
 I.laid (λ _ _ q=>za1 _ q) (Aj _) #[hz,Aa,0,hv,AK _ rfl]
theorem Inv.fresh (I:Inv X EY B H s):H s.heap.objs.size=none:=I.zw.fresh (Aj _)
def Inv.fy (I:Inv X EY B H s) (hH:H l=↑(.lst xs)):xs.length<=sizeLine/\∃ (Aa:Ah) (n:Nat),Vals xs Aa/\xs.length=Aa.length/\s.heap.get? l=↑{ cls:=.type "list",data:=.seq Aa.toArray n }:=by
 let#[z,Aa,n,r,e]:=I.zw l _ hH;show#[z,Aa,n,r,r.length,e]
theorem NL {n:Nat}(h:n<=sizeLine):Builtin.List.listTooLong n=false:=by
 unfold Builtin.List.listTooLong;show za3 ⋯
def bN:V->List V->Hp->VK->Prop:=λ x vs H Q=>∃ l xs y,x=.ref l/\vs=[y]/\H l=↑(.lst xs)/\xs.length<sizeLine/\Q .zp (upd H l (.lst (xs++[y])))
theorem aM:Xz X "list.append" bN:=by
 intro EY s B H x vs v us Q I rx rv h;let#[l,xs,y,rfl,rfl,hH,hz,q]:=h;cases rx;let#[u,rfl,ru]:=rv.one;let#[z,Aa,n,r,hl,e]:=I.fy hH;exact call_meets F.slot_list_append #[_,e,rfl] F.entry_list_append (F.args_list_append_2 _ _) (PySem.list_append l Aa.toArray n u (by rw[AB];lia)) #[e,?_];exact#[.zp,_,I.aQ (AQ:=Aa++[u]) hH e #[] (r.append (.cons ru .nil)) ?_,rfl,q];rw[BI,List.length_singleton];lia
def bJ:V->List V->Hp->VK->Prop:=λ x vs H Q=>∃ l b xs zs,x=.ref l/\vs=[.ref b]/\H l=↑(.lst xs)/\H b=↑(.lst zs)/\xs.length+zs.length<=sizeLine/\Q .zp (upd H l (.lst (xs++zs)))
theorem Mc:Xz X "list.extend" bJ:=by
 intro EY s B H x vs v us Q I rx rv h;let#[l,b,xs,zs,rfl,rfl,hH,hB,hz,q]:=h;cases rx;let#[u,rfl,ru]:=rv.one;cases ru;let#[z,Aa,n,r,hl,e]:=I.fy hH;let#[z2,FL,n2,r2,hl2,e2]:=I.fy hB;have hsz:Aa.toArray.size+FL.toArray.size<=sizeLine:=by rw[AB,AB];lia
 have hlong:¬ (!Aa.toArray.isEmpty&&Builtin.List.listTooLong (Aa.toArray.size+FL.toArray.size))=true:=by
  rw[NL hsz,CO];show BL
 exact call_meets F.slot_list_extend #[_,e,rfl] F.entry_list_extend (F.args_list_extend_2 _ _)
  (AutoSeq1.list_extend_list_list_0 l Aa.toArray n b FL.toArray n2 hlong (by rw[AB];lia) ⋯) #[e,e2,?_]
 exact#[.zp,_,I.aQ (AQ:=Aa++FL) hH e #[] (r.append r2) ?_,rfl,q];rw[BI];lia
end
end L2
namespace Vl
open PySem PySem.W PySem.Calls PyProof.Rows
def Lb {P:Params}{h:Heap}:∀ (ns:List Int) (vs:Ah),WellAll P h vs (ns.map WData.int)->IntsAre vs ns:=by
 intro ns
 induction ns with
 | nil=>
  intro vs w;rw[Bu] at w;cases w;show .nil
 | cons n ns ih=>
  intro vs w;rw[Aw] at w;cases w with
  | cons a b=>
   cases a;show .cons _ _ (ih _ b)
def U9 {l:OpenLaw}{n:Nat}(hn:l.most=↑n) {P:Params}{h:Heap}{args:List WData}{vals:Ah}
  (Cg:l.row.toRowW.claim.pre args=true) (CU:WellAll P h vals args):
  ∃ a vs ns,vals=[Value.ref a]/\args=[WData.list (ns.map WData.int)]/\h.get? a=↑{ cls:=.type "list",data:=.seq vs.toArray }/\IntsAre vs ns/\ns.length<=n:=by
 have DP:WShape.hasAll [] args [.list .int]=true:=(pre_splitW Cg).1;have hc:l.pre.holds [] { args:=args }=true:=(pre_splitW Cg).2;let#[d,r,rfl,h1,h2]:=hasAllW_cons DP;obtain rfl:=hasAllW_nil h2;let#[xs,rfl,h3]:=hasW_list h1;let#[ns,rfl]:=items_int h3;have hlen:ns.length<=n:=by
  unfold OpenLaw.pre at hc;have h4:(WTm.not (.lt (.lit (.int (n:Int))) (.len (.arg 0)))).holds [] { args:=[.list (ns.map .int)] }=true:=by
   have h4:=(holds_andW hc).1;rw[hn] at h4;show h4
  have h5:=condW_of h4 (w_not (w_lt w_lit (w_len_list (w_arg rfl))));rw[AA] at h5;exact Nat.le_of_not_lt λ q=>?_;have q':(n:Int)<((ns.length:Nat):Int):=⋯
  first
   | (rw[za2 q'] at h5;show absurd h5 ())
   | (simp at h5;lia)
 cases CU with
 | cons w1 w2=>
  cases w2;cases w1 with
  | list ho AM=>show#[_,_,ns,rfl,rfl,ho,Lb ns _ AM,hlen]
def T2 (l:OpenLaw) (args:List WData):l.row.toRowW.claim.post args (.bool true) args=true:=
 postW_of (r:=l.row.toRowW) (X:=(true == true))
  (show WShape.has [] (.bool true) .bool=true by first | rfl | decide | simp[WShape.has,WShape.arms,WShape.armsAll])
  (show (WTm.eq .res (.lit (.bool true))).value [] { args:=args,res:=↑(.bool true),after:=args }=↑(.bool (true == true)) from w_eq_bool (w_res rfl) w_lit) rfl
def JJ {l:OpenLaw}{n:Nat}{q:Program}{loose:List Str}{XP:(Str->Option Value)->Heap->Prop}{YP:World->Heap->Prop}{d:DefRec}
  (hn:l.most=↑n) (Dp:d.params.defaults=[])
  (call:∀ (w:World) (s₀ s₁:Shared) (mg mb:AF) (fa:Addr) (o:Obj) (pm cd doc:Value) (a:Addr) (vs:Ah) (ns:List Int),
   Ground q loose [] XP w s₀ mg mb s₁.heap->YP w s₁.heap->
   s₁.heap.get? fa=↑o->o.data=.func (docDef d.name d.params d.body d.scope pm cd doc)->s₁.heap.CodeRec cd d.name->mg d.name=↑(.ref fa)->
   s₁.heap.get? a=↑{ cls:=.type "list",data:=.seq vs.toArray }->IntsAre vs ns->ns.length<=n->s₁.gens=[].toArray->
   codeAny (model l.prog w) callerA (.call (.ref fa) #[[.ref a],[]]) (λ r s'=>r=.ok (.ret (.bool true))/\OldK s₁.heap s'.heap/\s'.os=s₁.os/\AllBare s'.gens) s₁):
  WalkO q loose XP YP l.row.toRowW d [] (λ f vs=>PySem.call f vs):=by
 intro w s₀ s₁ mg mb G Y fa o pm cd doc dV kV ho hd BE hD Dh hg args vals as Cg Di hrd CU ED;obtain rfl:dV=.none:=Dflts.none hD Dp;obtain rfl:kV=.none:=Dflts.noKw hD;let#[a,vs,ns,rfl,rfl,CH,hints,hlen]:=U9 hn Cg CU;exact enter_call (codeAny_mono (call w s₀ s₁ mg mb fa o pm cd doc a vs ns G Y ho (fd_plain hd) BE Dh CH hints hlen hg) λ r s' hq=>?_);let#[rfl,h2,h3,h4]:=hq;show#[.inl #[.bool true,.bool true,[],rfl,λ _=>rfl,.bool true,T2 l _,λ _=>#[List.Pairwise.nil,λ _ hm=>(nomatch hm)]],h2,h3,h4]
end Vl
namespace L2
open PySem PySem.Spec PyProof.Rows
theorem c9:∀ {vs:Ah}{ns:List Int},IntsAre vs ns->Vals (ns.map V.int) vs
 | _,_,.nil=>.nil
 | _,_,.cons n t h=>.cons #[t,rfl] (c9 h)
def ip (H:Hp):Prop:=∀ b,H b=none\/∃ o xs,H b=↑(.wC o (.lst xs))
def MA {P:Program}{w:World}{K:Ac}{mg mb:AF}{CX:t9}{k:Nat}{fa a:Addr}{fd:FuncData}{x:Str}{sp:Sp}{s₁:Shared}{vs:Ah}{ns:List Int}
  (KX:K.In s₁.heap) (CY:s₁.heap.Ns mainGlobals mg) (hb:s₁.heap.Ns builtinsNs mb) (hbb:∀ x:Str,x≠"__name__"->mb x=bootBuiltins x) (EE:s₁.heap.NoLimit) (hg:s₁.gens=[].toArray)
  (ha:s₁.heap.get? a=↑{ cls:=.type "list",data:=.seq vs.toArray }) (hi:IntsAre vs ns) (hl:ns.length<=sizeLine) (hr:yb k callerA)
  (F:∀ base:Heap,K.In base->base.Ns mainGlobals mg->w_ P w K mg base CX k fa fd [x] sp) (hbind:∀ (s:Shared) (u:Value),BindsTo s fd #[[u],[]] [(x,u)])
  (BW:∀ H:Hp,ip H->zT K H a (ns.map V.int)->sp [.ref a] H (λ v _=>v=.bl true) λ _ _ _=>False)
  (hCX:∀ H e s',CX [] H s₁ (λ _ _ _=>False) e s'->False):
  codeAny (model P w) callerA (.call (.ref fa) #[[.ref a],[]]) (λ r s'=>r=.ok (.ret (.bool true))/\OldK s₁.heap s'.heap/\s'.os=s₁.os/\AllBare s'.gens) s₁:=by
 have rv:=c9 hi;have lenV:=hi.length;have core:∀ H:Hp,ip H->zT K H a (ns.map V.int)->yN P w H s₁.heap->(∀ b,H b≠none->b=a)->(H a≠none->K.lookup a=none)->
   codeAny (model P w) callerA (.call (.ref fa) #[[.ref a],[]]) (λ r s'=>r=.ok (.ret (.bool true))/\OldK s₁.heap s'.heap/\s'.os=s₁.os/\AllBare s'.gens) s₁:=by
  intro H hO hS zw hA hK;have Hi:∀ {b:Addr}{o:Obj},s₁.heap.get? b=↑o->H b=none->(rb s₁.heap H).get? b=↑o:=λ e n=>Lm e n;have noA:∀ {b:Addr}{o:Obj}{es:Array DictEntry}{ep:Nat},s₁.heap.get? b=↑o->o.data=.dict es ep->H b=none:=λ{b o es ep} e d=>by
   cases q:H b with
   | none=>rfl
   | some u=>
    have e':b=a:=hA b (by rw[q];simp);subst e';rw[ha] at e;cases e;have d':Data.seq vs.toArray _=Data.dict es ep:=d;cases d'
  have nsK:∀ {b:Addr}{m:AF},s₁.heap.Ns b m->(rb s₁.heap H).Ns b m:=λ{b m} #[o,es,ep,e,d,r]=>#[o,es,ep,Hi e (noA e d),d,r];have hKb:K.In (rb s₁.heap H):=λ b o e=>Hi (KX b o e) (by
   cases q:H b with
   | none=>rfl
   | some u=>
    have e':b=a:=hA b (by rw[q];simp);subst e';rw[hK (by rw[q];simp)] at e;cases e)
  have hM:Mod K mg (rb s₁.heap H):=#[hKb,nsK CY,#[mb,nsK hb,hbb],let #[mc,h1,h2]:=EE;#[mc,nsK h1,h2]];have e0:pT P w K mg (rb s₁.heap H) callerA [] s₁ H:=#[rfl,hM,λ b o e=>NK e,Nat.le_of_eq (Ll _ _),trivial,λ b hb=>absurd (show b∈([]:List Addr) from hb) #[],zw,.of_eq hg];exact codeAny_mono ((F _ hKb (nsK CY)).run callerA [] s₁ H #[[.ref a],[]] [.ref a] [.ref a] _ _ hr e0 (hbind s₁ (.ref a)) (.cons rfl .nil) (BW H hO hS)) λ r s' h=>?_;cases r with
  | error e=>show (hCX H e s' h).elim
  | ok fl=>
   cases fl with
   | ret u=>
    let#[v,H',os,bare,un,Ex,r',q]:=h;have q':v=.bl true:=q;subst q';obtain rfl:u=Value.bool true:=r';exact#[rfl,OldK.of_keep λ b o e=>?_,os,bare];cases q:H b with
    | none=>show un.keep b o e q (by intro z;show absurd (show b∈([]:List Addr) from z) #[]) #[]
    | some u=>
     rcases hO b with z | ⟨ob,xs,z⟩
     .rw[q] at z;cases z
     .have z2:=un.rm b ob _ z;let#[e1,_]:=zw b _ z;let#[e2,_]:=Ex b _ z2;rw[e] at e1;cases e1;show e2
   | _=>show False.elim h
 cases hk:K.lookup a with
 | some o=>
  have e:=KX a o hk;rw[ha] at e;cases e;exact core (λ _=>none) (λ _=>.inl rfl) (.inr #[_,vs.toArray,_,hk,rfl,rfl,rfl,by rw[AB,lenV];show hl,by exists rv]) (λ b u z=>by have z':(none:Option HO)=↑u:=z;cases z') (λ b z=>absurd rfl z) λ z=>absurd rfl z
 | none=>
  exact core (λ b=>if b=a then ↑(.wC { cls:=.type "list",data:=.seq vs.toArray } (.lst (ns.map V.int))) else none) (λ b=>?_) (.inl (.inr #[{ cls:=.type "list",data:=.seq vs.toArray },if_pos rfl])) (λ b u z=>?_) (λ b z=>?_) λ _=>hk
  .by_cases hb:b=a
   .show .inr #[_,_,if_pos hb]
   .show .inl (if_neg hb)
  .by_cases hb:b=a
   .have z':=(if_pos hb).symm.trans z;cases z';subst hb;show#[ha,by rw[AA];show hl,vs,_,rv,ha]
   .have z':=(if_neg hb).symm.trans z;cases z'
  .by_cases hb:b=a
   .show hb
   .show absurd (if_neg hb) z
def Vt {l:PySem.W.OpenLaw}{n k:Nat}{q:Program}{loose:List Str}{XP:(Str->Option Value)->Heap->Prop}{YP:World->Heap->Prop}{d:DefRec}{K:Params->Ac}{CX:World->t9}{sp:World->Sp}{x:Str}
  (hn:l.most=↑n) (hn2:n<=sizeLine) (Dp:d.params.defaults=[]) (hr:yb k callerA)
  (hY:∀ (w:World) (h:Heap),YP w h->(K w.params).In h)
  (F:∀ (w:World) (mg:AF) (fa:Addr) (h:Heap),(K w.params).In h->h.Ns mainGlobals mg->mg d.name=↑(.ref fa)->
   ∃ fd:FuncData,(∀ (s:Shared) (u:Value),BindsTo s fd #[[u],[]] [(x,u)])/\
    ∀ base:Heap,(K w.params).In base->base.Ns mainGlobals mg->w_ l.prog w (K w.params) mg base (CX w) k fa fd [x] (sp w))
  (BW:∀ (w:World) (H:Hp) (a:Addr) (ns:List Int),ns.length<=n->ip H->zT (K w.params) H a (ns.map V.int)->sp w [.ref a] H (λ v _=>v=.bl true) λ _ _ _=>False)
  (hCX:∀ (w:World) (H:Hp) (s:Shared) (e:Value) (s':Shared),CX w [] H s (λ _ _ _=>False) e s'->False):
  PySem.W.WalkO q loose XP YP l.row.toRowW d [] (λ f vs=>PySem.call f vs):=by
 exact Vl.JJ hn Dp λ w s₀ s₁ mg mb fa o pm cd doc a vs ns G Y ho hd BE Dh CH hints hlen hg=>?_;have KX:=hY w _ Y;let#[fd,hb,hF]:=F w mg fa _ KX G.T.g Dh;show MA KX G.T.g G.T.b G.T.builtins G.T.nolimit hg CH hints (AY hlen hn2) hr hF hb (λ H hO hS=>BW w H a ns hlen hO hS) λ H e s'=>hCX w H s₁ e s'
def vo (s:Stmt):Arguments:=match s with
 | .FunctionDef _ a _ _ _ _ _ _ _ _=>a
 | _=>{ posonlyargs:=[],args:=[],vararg:=none,kwonlyargs:=[],kw_defaults:=[],kwarg:=none,defaults:=[] }
def yQ (s:Stmt):List Stmt:=match s with
 | .FunctionDef _ _ b _ _ _ _ _ _ _=>b
 | _=>[]
def zE (s:Stmt):Scope:=match s with
 | .FunctionDef _ _ _ _ _ _ sc _ _ _=>sc
 | _=>{ kind:=.function,names:=[],isGenerator:=false,isCoroutine:=false }
abbrev y7:t9:=λ _ _ _ _ _ _=>False
abbrev E0:XK:=λ _ _ _=>False
def kP {X:Cx}:Passes y7 X E0:=λ _ _ _ _ _ _ _ h=>h.elim
structure vR (K:Ac) (x qual:Str) (st:Stmt) (f:Addr) (fd:FuncData):Prop where
 ex:∃ (oc:Value) (od:Option Addr) (kV doc pm:Value) (an:Option Addr) (Af ct:Value) (Hl:Array (Option Value)),
  fd=PySem.W.fnOf x qual (vo st) (yQ st) (zE st) .none kV doc pm an Af ct/\K.lookup f=↑#[oc,od,.func fd,Hl]/\PySem.W.codeIn K Af qual=true
 kp:PySem.W.keepIn K (.ref f)=true
section
variable {P:Program}{w:World}{K:Ac}{mg:AF}{base:Heap}
def vR.ok {x qual:Str}{st:Stmt}{f:Addr}{fd:FuncData}{N ps:List Str}{k:Nat}{sp:Sp}(F:vR K x qual st f fd) (S:vt N ps (zE st)) (len:∀ vs H Q E,sp vs H Q E->vs.length=ps.length)
  (E9:∀ (Af:Value) (A:Around) (outer:List Env) (s:Shared) (H:Hp) (vs:List V) (Q:VK) (E:XK),yb k (A.deeper (envOfC qual (zE st) s.heap.objs.size f Af))->sp vs H Q E->
   ∃ t,wx (yT y7 P w K mg base N qual (zE st) f Af A outer s H E).xa (yQ st) t/\t { nx:=λ _ H'=>Q .zp H',rt:=Q } (start N vs) H):w_ P w K mg base y7 (k+1) f fd ps sp:=by
 let#[oc,od,kV,doc,pm,an,Af,ct,Hl,rfl,lk,BE]:=F.ex;exact LS lk BE S len λ A outer s H vs Q E hr BW=>?_;let#[t,h,q]:=E9 Af A outer s H vs Q E hr BW;show#[t,h.xa,q]
def vR.binds {x qual:Str}{st:Stmt}{f:Addr}{fd:FuncData}{ps:List Str}(F:vR K x qual st f fd)
  (h:∀ (kV doc pm:Value) (an:Option Addr) (Af ct:Value) (us:Ah),us.length=ps.length->bindArgs (PySem.W.fnOf x qual (vo st) (yQ st) (zE st) .none kV doc pm an Af ct) #[us,[]]=pure (ps.zip us)):Binds K fd ps []:=by
 let#[oc,od,kV,doc,pm,an,Af,ct,Hl,rfl,lk,BE]:=F.ex;show .all (h kV doc pm an Af ct)
def jq {x qual:Str}{st:Stmt}{f:Addr}{oc:Value}{od an:Option Addr}{Hl:Array (Option Value)}{kV doc pm Af ct:Value}(l:K.lookup f=↑#[oc,od,.func (PySem.W.fnOf x qual (vo st) (yQ st) (zE st) .none kV doc pm an Af ct),Hl])
  (c:PySem.W.codeIn K Af qual=true) (k:PySem.W.keepIn K (.ref f)=true):vR K x qual st f (PySem.W.fnOf x qual (vo st) (yQ st) (zE st) .none kV doc pm an Af ct):=#[#[oc,od,kV,doc,pm,an,Af,ct,Hl,rfl,l,c],k]
end
def fK {A:Around}{k:Nat}(hr:yb k A):A.units+1<cLine:=D_ (Nat.add_le_add_left (by decide:1<=64) _) hr.units
section
variable {X:Cx}
def pv (i:Nat) {x:Str}{pos:Pos}(hN:X.N[i]?=↑x:=by rfl) (hv:ij X.env.scope x:=by first | show Or.inl rfl | show Or.inr (Or.inl rfl) | show Or.inr (Or.inr rfl)) (hd:(x == ("__debug__":Str))=false:=by decide)
  (BE:(x == ("__classdict__":Str))=false:=by decide):PE X (.Name x pos) (hJ i):=Sf hN hv hd BE
end
end L2
namespace PySem
theorem eL {env:Env}:∀ (l:List (Str×NameKind)) (acc:List (Str×Addr)),(∀ y∈l,y.2=.free->∃ c,env.cells.lookup y.1=↑c)->
  ∃ cl,(forIn l acc (λ(x:Str×NameKind) r=>if (x.2 == NameKind.free)=true then do let a <- cellOf env x.1;pure (ForInStep.yield ((x.1,a)::r)) else pure (ForInStep.yield r)):Sem (List (Str×Addr)))=pure cl/\
   (∀ x c,cl.lookup x=↑c->acc.lookup x=↑c\/((x,NameKind.free)∈l/\env.cells.lookup x=↑c))/\(∀ x,(x,NameKind.free)∈l\/(acc.lookup x).isSome->(cl.lookup x).isSome)
 | [],acc,_=>#[acc,rfl,λ x c h=>.inl h,λ x h=>by exists h]
 | (n,k)::l,acc,h=>by
  by_cases hk:k=.free
  .subst hk;let#[c,hc]:=h (n,.free) Ar rfl;let#[cl,e1,e2,e3]:=eL l ((n,c)::acc) λ y hy=>h y (Ay _ hy);exact#[cl,?_,λ x d hx=>?_,λ x hx=>?_]
   .rw[DJ];simp![beq_self_eq_true,if_true,cellOf,hc];show e1
   .rcases e2 x d hx with q | ⟨q1,q2⟩
    .rw[Bf] at q;cases Dd:x == n with
     | true=>
      rw[Dd] at q;have:x=n:=by exists Dd
      subst this;exact .inr #[Ar,?_];rw[hc];show q
     | false=>rw[Dd] at q;show .inl q
    .show .inr #[Ay _ q1,q2]
   .exact e3 x ?_;rcases hx with hx | hx
    .rcases Am.mp hx with q | q
     .have:x=n:=congrArg Prod.fst q;subst this;show .inr (by simp[Bf])
     .show .inl q
    .exact .inr ?_;rw[Bf];cases x == n <;> simp[hx]
  .have hb:(k == NameKind.free)=false:=by exists hk
   let#[cl,e1,e2,e3]:=eL l acc λ y hy=>h y (Ay _ hy);exact#[cl,?_,λ x d hx=>?_,λ x hx=>?_]
   .rw[DJ];simp![hb,Bm,if_false];show e1
   .rcases e2 x d hx with q | ⟨q1,q2⟩
    .show .inl q
    .show .inr #[Ay _ q1,q2]
   .exact e3 x ?_;rcases hx with hx | hx
    .rcases Am.mp hx with q | q
     .show absurd (congrArg Prod.snd q).symm hk
     .show .inl q
    .show .inr hx
def YB {scope:Scope}{env:Env}(h:∀ y∈scope.names,y.2=.free->∃ c,env.cells.lookup y.1=↑c):
  ∃ cl,closureFor scope env=pure cl/\(∀ x c,cl.lookup x=↑c->(x,NameKind.free)∈scope.names/\env.cells.lookup x=↑c)/\∀ x,(x,NameKind.free)∈scope.names->(cl.lookup x).isSome:=by
 let#[cl,e1,e2,e3]:=eL (env:=env) scope.names [] h;exact#[cl,?_,λ x c hx=>?_,λ x hx=>e3 x (.inl hx)]
 .simp![closureFor];rw[e1];rfl
 .rcases e2 x c hx with q | q
  .simp at q
  .show q
theorem aX {env:Env}:∀ {names:List (Str×NameKind)}{x:Str},names.lookup x=↑.free->
  (names.map λ(n,k)=>if (k == NameKind.free&&env.scope.kind == .function&&env.kindOf n == ↑.cell) then (n,NameKind.cell) else (n,k)).lookup x=↑.cell\/
  (names.map λ(n,k)=>if (k == NameKind.free&&env.scope.kind == .function&&env.kindOf n == ↑.cell) then (n,NameKind.cell) else (n,k)).lookup x=↑.free
 | [],_,h=>by simp at h
 | (n,k)::r,x,h=>by
  have ih:=@aX env r x;change List.lookup x ((if (k == NameKind.free&&env.scope.kind == .function&&env.kindOf n == ↑.cell)=true then (n,NameKind.cell) else (n,k))::_)=_\/List.lookup x ((if (k == NameKind.free&&env.scope.kind == .function&&env.kindOf n == ↑.cell)=true then (n,NameKind.cell) else (n,k))::_)=_;cases hx:x == n with
  | true=>
   simp![Bf,hx] at h;cases h;by_cases hc:(NameKind.free == NameKind.free&&env.scope.kind == .function&&env.kindOf n == ↑.cell)=true
   .rw[if_pos hc];simp[Bf,hx]
   .rw[if_neg hc];simp[Bf,hx]
  | false=>
   simp![Bf,hx] at h;by_cases hc:(k == NameKind.free&&env.scope.kind == .function&&env.kindOf n == ↑.cell)=true
   .rw[if_pos hc];simp![Bf,hx];show ih h
   .rw[if_neg hc];simp![Bf,hx];show ih h
theorem b9 {env:Env}:∀ {names:List (Str×NameKind)}{x:Str},
  ((names.map λ(n,k)=>if (k == NameKind.free&&env.scope.kind == .function&&env.kindOf n == ↑.cell) then (n,NameKind.cell) else (n,k)).lookup x=↑.cell\/
  (names.map λ(n,k)=>if (k == NameKind.free&&env.scope.kind == .function&&env.kindOf n == ↑.cell) then (n,NameKind.cell) else (n,k)).lookup x=↑.free)->(x,NameKind.free)∈names\/(x,NameKind.cell)∈names
 | [],_,h=>by simp at h
 | (n,k)::r,x,h=>by
  have ih:=@b9 env r x;have h':List.lookup x ((if (k == NameKind.free&&env.scope.kind == .function&&env.kindOf n == ↑.cell)=true then (n,NameKind.cell) else (n,k))::_)=↑.cell\/List.lookup x ((if (k == NameKind.free&&env.scope.kind == .function&&env.kindOf n == ↑.cell)=true then (n,NameKind.cell) else (n,k))::_)=↑.free:=h;cases hx:x == n with
  | true=>
   have Dd:x=n:=by exists hx
   subst Dd;by_cases hc:(k == NameKind.free&&env.scope.kind == .function&&env.kindOf x == ↑.cell)=true
   .simp![Cd] at hc;have:k=.free:=by exists hc.1.1
    subst this;show .inl Ar
   .rw[if_neg hc] at h';simp![Bf,beq_self_eq_true] at h';rcases h' with q | q
    .cases Ba q;show .inr Ar
    .cases Ba q;show .inl Ar
  | false=>
   exact (ih ?_).imp (Ay _) (Ay _);by_cases hc:(k == NameKind.free&&env.scope.kind == .function&&env.kindOf n == ↑.cell)=true
   .rw[if_pos hc] at h';simp![Bf,hx] at h';show h'
   .rw[if_neg hc] at h';simp![Bf,hx] at h';show h'
theorem eO:∀ (names:List (Str×NameKind)) (h:Heap) (acc:List (Str×Addr)),∃ own,cellsFrom h.objs.size names acc=own++acc/\(∀ p∈own,(p.1,NameKind.cell)∈names/\h.objs.size<=p.2/\(pushCells h names).IsCell p.2 none)/\
  (own.Pairwise λ x y=>x.2≠y.2)/\∀ x,(x,NameKind.cell)∈names->(own.lookup x).isSome
 | [],h,acc=>#[[],rfl,λ _ hp=>(by cases hp),.nil,λ _ hx=>(by cases hx)]
 | (n,k)::r,h,acc=>by
  unfold cellsFrom pushCells;split
  .rename_i hk;have Gx:k=.cell:=by exists hk
   subst Gx;let#[own,e1,e2,e3,e4]:=eO r (h.push { cls:=.type "cell",data:=.cell none }) ((n,h.objs.size)::acc);rw[Heap.size_push] at e1 e2;exact#[own++[(n,h.objs.size)],by rw[e1,D9];rfl,λ p hp=>?_,?_,λ x hx=>?_]
   .rcases A5.mp hp with q | q
    .let#[f1,f2,f3]:=e2 p q;show#[Ay _ f1,⋯,f3]
    .cases AH.mp q;show#[Ar,Aj _,_,pushCells_keeps _ _ _ _ (AK _ rfl),rfl]
   .exact DI.mpr #[e3,D8 _ _,λ a ha b hb=>?_];cases AH.mp hb;show BG (e2 a ha).2.1
   .rw[DH,Option.isSome_or];rcases Am.mp hx with q | q
    .cases q;simp[Bf]
    .rw[e4 x q];rfl
  .rename_i hk;let#[own,e1,e2,e3,e4]:=eO r h acc;exact#[own,e1,λ p hp=>#[Ay _ (e2 p hp).1,(e2 p hp).2],e3,λ x hx=>?_];rcases Am.mp hx with q | q
   .cases q;simp at hk
   .show e4 x q
def NV {M:Model}{A:Around}{E:Ai}{s:Shared}{scope:Scope}{globals:Addr}{closure:List (Str×Addr)}{qual:Str}{env:Env}{Q:Env->Shared->Prop}
  (hQ:∀ h',h'=pushCells (s.heap.push { cls:=.type "dict",data:=.dict [].toArray }) scope.names->Q (newEnv scope s.heap.objs.size globals (cellsFrom (s.heap.objs.size+1) scope.names closure) qual none .none ↑env builtinsNs) { s with heap:=h' }):
  wpAny M A (newFunctionEnv scope globals closure [] qual none .none ↑env) Q E s:=by
 simp![newFunctionEnv,Option.isSome_some,if_true];exact gV (wpAny_alloc ?_);exact gV (wpAny_layCells _ (λ name kind cells=>by cases hkc:kind == NameKind.cell <;> simp[hkc]) _ _ _ _ ?_);rw[show ({ s with heap:=s.heap.push { cls:=.type "dict",data:=.dict [].toArray } }:Shared).heap.objs.size=s.heap.objs.size+1 from Heap.size_push ..];simp![List.forIn_nil];show gV (Ad (Ad (hQ _ rfl)))
end PySem
namespace L2
open PySem PySem.Spec PyProof.Rows
def uz (pick:List (Option Nat)) (B:St):St:=pick.map λ o=>o.bind λ i=>(B[i]?).join
def y4 (X:Cx) (N':List Str) (scope:Scope) (cl:List (Str×Addr)) (C:Addr) (s:Shared) (H:Hp) (ex:List Addr):Cx:=
 { X with N:=N',s₀:=s,H₀:=H,env:=compEnvC scope cl C X.env,outer:=X.stack,stack:=X.stack,ex:=ex,fn:=λ x=>decide (scope.names.lookup x=↑.cell),pn:=[],xe:=λ _ _=>False }
def ou (N N':List Str) (pick:List (Option Nat)) (scope:Scope):Bool:=(N'.zip pick).all λ p=>match p.2 with
 | none=>true
 | some j=>decide (N[j]?=↑p.1)&&decide (scope.names.lookup p.1=↑.free)
structure rL (X:Cx) (N':List Str) (pick:List (Option Nat)) (scope:Scope):Prop where
 kind:scope.kind=.function
 uniq:∀ y∈scope.names,scope.names.lookup y.1=↑y.2
 free:∀ y∈scope.names,y.2=.free->X.env.scope.names.lookup y.1=↑.cell\/X.env.scope.names.lookup y.1=↑.free
 len:pick.length=N'.length
 ok:ou X.N N' pick scope=true
def ou.get {N N':List Str}{pick:List (Option Nat)}{scope:Scope}(h:ou N N' pick scope=true) {i j:Nat}{x:Str}(h1:N'[i]?=↑x) (h2:pick[i]?=↑↑j):N[j]?=↑x/\scope.names.lookup x=↑.free:=by
 unfold ou at h;have hm:(x,↑j)∈N'.zip pick:=by
  exact A9 (i:=i) ?_;rw[List.getElem?_zip_eq_some];show#[h1,h2]
 have q:=BA.mp h _ hm;simp![Cd,decide_eq_true_eq] at q;show q
def uz.get {pick:List (Option Nat)}{B:St}{i:Nat}{v:V}(h:(uz pick B)[i]?=↑↑v):∃ j,pick[i]?=↑↑j/\B[j]?=↑↑v:=by
 unfold uz at h;rw[AD] at h;cases e:pick[i]? with
 | none=>rw[e] at h;cases h
 | some o=>
  rw[e] at h;cases o with
  | none=>simp at h
  | some j=>
   exact#[j,rfl,?_];simp![Option.map_some,Option.some.injEq,BO] at h;cases q:B[j]? with
   | none=>rw[q] at h;simp at h
   | some w=>rw[q] at h;simp at h;rw[h]
def PF (X:Cx) (ifs:List Expr) (t:TT):Prop:=∀ (EY:Ak) (s:Shared) (B:St) (H:Hp) (Q:Bool->Hp->Prop),Inv X EY B H s->t B H Q->
 wpAny (model X.prog X.w) X.A (forIn ifs true λ c r=>if r=true then do let ok <- isTrue c X.env (eval c X.env);pure (ForInStep.yield ok) else pure (ForInStep.yield r)) (TP X EY B Q) X.xe s
def T_ {X:Cx}:PF X [] (λ _ H Q=>Q true H):=λ _ _ _ H _ I h=>wpAny_tests_nil #[H,I,h]
def TZ {X:Cx}{c:Expr}{t:TT}(h:PT X c t):PF X [c] t:=λ EY s B H Q I q=>wpAny_tests_one (h EY s B H Q I q)
def hX (pick:List (Option Nat)) (wi:TI) (g:TG) (tc:TT) (te:TE):TE:=fun B H Q=>wi B H λ J H1=>∀ D,H1 D=none->∃ W:Nat->Nat->St->Hp->Prop,(∃ m,W 0 m (uz pick B) (upd H1 D (.lst [])))/\
 ∀ i m B H,W i m B H->(J.stop i H/\Q (.ref D) H)\/(J.go i H/\∀ x H',J.pV i H x H'->g x B H' fun B2 H2=>tc B2 H2 λ b H3=>
  if b=true then te B2 H3 λ y H4=>∃ ys m',H4 D=↑(.lst ys)/\ys.length<sizeLine/\m'<m/\W (i+1) m' B2 (upd H4 D (.lst (ys++[y]))) else ∃ m',m'<m/\W (i+1) m' B2 H3)
section
variable {X:Cx}{EY:Ak}{B:St}{H:Hp}{s:Shared}{N':List Str}{pick:List (Option Nat)}{scope:Scope}{cl:List (Str×Addr)}{C:Addr}{fp:List Addr}
def La (S:rL X N' pick scope) (I:Inv X EY B H s) (Bp:∀ b∈fp,uo X EY H b) (Au:∀ b∈fp,b<s.heap.objs.size)
  {h1:Heap}(c1:∀ x c,cl.lookup x=↑c->((x,NameKind.free)∈scope.names/\X.env.cells.lookup x=↑c)\/((x,NameKind.cell)∈scope.names/\C<c/\h1.IsCell c none)) (c2:∀ x,(x,NameKind.free)∈scope.names\/(x,NameKind.cell)∈scope.names->(cl.lookup x).isSome) (c3:∀ x y c,cl.lookup x=↑c->cl.lookup y=↑c->x=y)
  {m1:AF}{t':Nat}(hC:s.heap.objs.size<C) (old:∀ b o,s.heap.get? b=↑o->h1.get? b=↑o) (CY:h1.Ns C m1)
  (hD:h1.get? s.heap.objs.size=↑{ cls:=.type "list",data:=.seq [].toArray 0 }):
  Inv (y4 X N' scope cl C s H fp) [] (uz pick B) (upd H s.heap.objs.size (.lst [])) { s with heap:=h1,toks:=t' }:=by
 have hDn:H s.heap.objs.size=none:=I.zw.fresh (Aj _);have hCn:H C=none:=I.zw.fresh (Bv hC);have cf:∀ x c,cl.lookup x=↑c->(∃ v,h1.IsCell c v)/\(c<s.heap.objs.size\/C<c)/\upd H s.heap.objs.size (.lst []) c=none:=λ x c e=>by
  rcases c1 x c e with ⟨_,q⟩ | ⟨_,q1,q2⟩
  .let#[v,o,z1,z2]:=I.cell x c q;have hl:=Ax z1;show#[#[v,o,old _ _ z1,z2],.inl hl,by rw[yi (AI hl)];show I.tU x c q]
  .show#[#[_,q2],.inr q1,by rw[yi (BG (BS hC q1))];show I.zw.fresh (Bv (BS hC q1))]
 exact#[#[I.ok.mod,S.kind,I.ok.glob,I.ok.blt,Bv hC,c3,λ x hx=>?_,λ x c hf e=>?_,I.ok.hd,I.ok.frames,.inl rfl,
  λ b hb=>#[AI (BS (Au b hb) hC),λ x c e=>?_],I.bs,AY I.ok.qm I.sz,λ b o e hb=>?_,λ b hb z=>?_,I.stack,I.cR],
  rfl,I.bare,Un.laid old (Aj _) hDn,#[m1,CY,λ i x v e1 e2 e3=>?_],λ x c e=>?_,?_,λ x c e=>?_,λ p hp=>absurd (show p∈([]:Ak) from hp) #[],I.zw.laid old (Aj _) ?_,?_]
 .show C_.mp (c2 x (b9 hx))
 .have GZ:=of_decide_eq_true (show decide (scope.names.lookup x=↑.cell)=true from hf);rcases c1 x c e with ⟨q,_⟩ | ⟨_,q,_⟩
  .rw[S.uniq _ q] at GZ;cases GZ
  .show Bv (BS hC q)
 .rcases c1 x c e with ⟨_,q⟩ | ⟨_,q,_⟩
  .show (Bp b hb).2.2.2.2.1 x c q
  .show BG (BS (BS (Au b hb) hC) q)
 .rcases (Bp b hb).2.2.2.1 with z | z
  .show I.ok.n_ b o e z
  .show absurd (Bn (Ax (I.ok.bs b o e).1) z) (BN _)
 .rcases Am.mp (I.gh b z) with q | q
  .show (Bp b hb).2.1 q
  .show (Bp b hb).2.2.1 q
 .let#[j,p1,p2]:=uz.get e2;let#[q1,q2]:=ou.get S.ok e1 p1;let#[m0,n0,l0]:=I.loc;have hm:(x,NameKind.free)∈scope.names:=PySem.mem_of_lookup q2;have hk:X.env.scope.names.lookup x=↑.cell\/X.env.scope.names.lookup x=↑.free:=S.free _ hm rfl;let#[u,r,l]:=l0 j x v q1 p2 (.inr hk);exact#[u,r,.inr #[aX q2,?_]];rcases l with ⟨k,_⟩ | ⟨_,c,e,z⟩
  .have k':X.env.scope.names.lookup x=↑.local:=k;rcases hk with hk | hk <;> (rw[k'] at hk;cases hk)
  .let#[c',e']:=C_.mp (c2 x (.inl hm));have e'':X.env.cells.lookup x=↑c':=by
    rcases c1 x c' e' with ⟨_,q⟩ | ⟨q,_⟩
    .show q
    .have:=S.uniq _ q;rw[q2] at this;cases this
   rw[e] at e'';cases e'';let#[o,z1,z2]:=z;show#[c,e',o,old _ _ z1,z2]
 .show (cf x c e).1
 .change upd H s.heap.objs.size (.lst []) C=none;rw[yi (BG hC)];show hCn
 .show (cf x c e).2.2
 .show#[AW _,[],0,.nil,hD]
 .change (uz pick B).length=N'.length;unfold uz;rw[AA];show S.len
def MY {B':St}{H':Hp}{s':Shared}{oC:Obj}(I:Inv X EY B H s) (Bp:∀ b∈fp,uo X EY H b) (hC:s.heap.objs.size<C)
  (I':Inv (y4 X N' scope cl C s H fp) [] B' H' s') (hoC:s'.heap.get? C=↑oC):Inv X (EY++[(C,oC)]) B H' s':=by
 have J:Inv X EY B H' s':=I.J1 (ch:=fp) I'.os I'.base I'.zw I'.bare λ b hb=>#[(Bp b hb).2.2.2.1,(Bp b hb).2.1,(Bp b hb).2.2.2.2.1,(Bp b hb).2.2.2.2.2];exact J.gO λ p hp=>(A5.mp hp).elim (λ z=>J.pin p (A_ _ z)) λ z=>?_;obtain rfl:p=(C,oC):=AH.mp z;exact#[hoC,I'.free,BG (BS I.lt hC),I.aD (Bv hC),λ v hv=>?_];let#[m,#[o,es,ep,ho,hd,_],_]:=I'.loc;have Gb:s'.heap.get? C=↑o:=ho;rw[hoC] at Gb;cases Gb;rw[hd] at hv;cases hv
def Zy {B':St}{H':Hp}{s':Shared}{oC:Obj}{h':Heap}(I:Inv X EY B H s) (hC:s.heap.objs.size<C) (J:Inv X (EY++[(C,oC)]) B' H' s') (hs:Heap.SameBut C s'.heap h'):Inv X EY B' H' { s' with heap:=h' }:=by
 have J':=J.nD;have hp:=J.pin (C,oC) (A_ _ (A_ _ (AH.mpr rfl)));have lt:∀ c,c<s.heap.objs.size->c≠C:=λ c h=>AI (BS h hC);exact J'.turned (t':=s'.toks) (it:=C) (λ b o hb e=>hs.extBut b o hb e) hp.2.1 hp.2.2.1 (.inr (AY I.sz (Bv hC))) (λ x c e z=>?_) (λ p hq z=>?_)
 .let#[v,q]:=I.cell x c e;show lt c q.lt z
 .show lt p.1 (Ax (I.pin p hq).1) z
end
section
variable {X:Cx}{N':List Str}{pick:List (Option Nat)}{scope:Scope}{elt iter tg:Expr}{ifs:List Expr}{pos:Pos}{wi:TI}{g:TG}{tc:TT}{te:TE}
def M5 {EY:Ak}{B:St}{H:Hp}{s:Shared}{it C:Addr}{fp:List Addr}{tn:Nat->Heap->Prop}{J:It}{cl:List (Str×Addr)}{W:Nat->Nat->St->Hp->Prop}{Q:V->Hp->Prop}{R:Result->Shared->Prop}{D:Addr}
  (hc:X.calm=true) (hg:PG (y4 X N' scope cl C s H fp) tg g) (hf:PF (y4 X N' scope cl C s H fp) ifs tc) (he:PE (y4 X N' scope cl C s H fp) elt te)
  (T:Turn X.prog X.w X.K tg J fp it tn) (Bp:∀ b∈fp,uo X EY H b) (Hz:∀ b∈fp,b≠C/\b∉uf X.stack/\∀ x c,cl.lookup x=↑c->c≠b)
  (turn:∀ i m B H,W i m B H->(J.stop i H/\Q (.ref D) H)\/(J.go i H/\∀ x H',J.pV i H x H'->g x B H' fun B2 H2=>tc B2 H2 λ b H3=>
   if b=true then te B2 H3 λ y H4=>∃ ys m',H4 D=↑(.lst ys)/\ys.length<sizeLine/\m'<m/\W (i+1) m' B2 (upd H4 D (.lst (ys++[y]))) else ∃ m',m'<m/\W (i+1) m' B2 H3))
  (fin:∀ B' H' s',Inv (y4 X N' scope cl C s H fp) [] B' H' s'->Q (.ref D) H'->R (.ok .next) s')
  {m0:Nat}{B0:St}{H0:Hp}{s0:Shared}(I0:Inv (y4 X N' scope cl C s H fp) [] B0 H0 s0) (t0:tn 0 s0.heap) (f0:∀ b∈fp,H0 b=none) (w0:W 0 m0 B0 H0):
  codeAny (model X.prog X.w) X.A (.compLoop (.ListComp elt [#[tg,iter,ifs,0]] scope pos) 0 (.ref it) (.ref D) (compEnvC scope cl C X.env)) R s0:=by
 have G1:∀ {H':Hp},(∀ b∈fp,H' b=none)->∀ b∈fp,uo (y4 X N' scope cl C s H fp) [] H' b:=λ hn b hb=>#[hn b hb,(Hz b hb).1,(Hz b hb).2.1,.inl hb,(Hz b hb).2.2,λ p hp=>absurd (show p∈([]:Ak) from hp) #[]];exact codeAny_loop rfl (λ n s'=>∃ i B' H',Inv (y4 X N' scope cl C s H fp) [] B' H' s'/\tn i s'.heap/\(∀ b∈fp,H' b=none)/\W i n B' H') (λ n s3 hI=>?_) m0 #[0,B0,H0,I0,t0,f0,w0];let#[i,B3,H3,I3,st3,fr3,w3]:=hI;change wpAny _ X.A ((compTurn (.ListComp elt [#[tg,iter,ifs,0]] scope pos) 0 (.ref it) (.ref D) (compEnvC scope cl C X.env)).onRaise (λ x=>do noteFrame x (compEnvC scope cl C X.env);theTreesLotGoes x)) _ _ s3;exact wpAny_noted ?_;rw[compTurn_list];exact gV (wpAny_standAt (gV ?_));rcases turn i n B3 H3 w3 with ⟨stop,qn⟩ | ⟨go,step⟩
 .exact zB (T.done (y4 X N' scope cl C s H fp) rfl rfl rfl hc i [] s3 B3 H3 _ I3 (G1 fr3) st3 stop) λ r s4 #[hr,I4]=>?_;subst hr;show Ad (fin B3 H3 s4 I4 qn)
 .exact zB (T.item (y4 X N' scope cl C s H fp) rfl rfl rfl hc i [] s3 B3 H3 _ I3 (G1 fr3) st3 go) λ r s4 #[u,hr,h4]=>?_;subst hr;exact gV (zB h4 λ _ s5 #[x,H5,I5,r5,y5,st5,fr5]=>?_);have I5':=I5.pinned (G1 fr5) (T.obj _ _ st5);exact gV (za5 (hg _ s5 B3 H5 x u _ I5' r5 (step x H5 y5)) (λ _ s6 #[B6,H6,I6,q6]=>?_) λ _ _ z=>False.elim z);exact gV (za5 (hf _ s6 B6 H6 _ I6 q6) (λ ok s7 #[H7,I7,q7]=>?_) λ _ _ z=>False.elim z);have back:∀ {H8:Hp}{s8:Shared},Inv (y4 X N' scope cl C s H fp) ([]++nS fp s5.heap) B6 H8 s8->(∃ m',m'<n/\W (i+1) m' B6 H8)->∃ m,m<n/\∃ i B' H',Inv (y4 X N' scope cl C s H fp) [] B' H' s8/\tn i s8.heap/\(∀ b∈fp,H' b=none)/\W i m B' H':=λ{H8 s8} I8 #[m',hm,w8]=>by
   exact#[m',hm,i+1,B6,H8,I8.nD,T.keep _ _ _ st5 λ b hb o e=>(I8.pin (b,o) (A_ _ (A_ _ (kZ hb e)))).1,λ b hb=>?_,w8];let#[o,e,d]:=T.obj _ _ st5 b hb;show (I8.pin (b,o) (A_ _ (A_ _ (kZ hb e)))).2.1
  cases ok with
  | false=>
   rw[if_neg BL] at q7;show Ad #[rfl,back I7 q7]
  | true=>
   rw[if_pos rfl] at q7;exact gV (gV (za5 (he _ s7 B6 H7 _ I7 q7) (λ uy s8 #[y,H8,I8,r8,ys,m',e8,z8,hm,w8]=>?_) λ _ _ z=>False.elim z));exact gV (za5 (aM (X:=y4 X N' scope cl C s H fp) _ s8 B6 H8 (.ref D) [y] (.ref D) [uy] (λ _ H9=>W (i+1) m' B6 H9) I8 rfl (.cons r8 .nil) #[D,ys,y,rfl,rfl,e8,z8,w8]) (λ _ s9 #[_,H9,I9,_,q9]=>?_) λ _ _ z=>False.elim z);show Ad (Ad #[rfl,back I9 #[m',hm,q9]])
def Zi {EY:Ak}{B:St}{H:Hp}{s:Shared}{it:Addr}{fp:List Addr}{tn:Nat->Heap->Prop}{J:It}{cl:List (Str×Addr)}{Q:V->Hp->Prop}{E:Ai}{RR:Value->Addr->Result->Shared->Prop}
  (S:rL X N' pick scope) (hc:X.calm=true) (hg:∀ cl C s H fp,PG (y4 X N' scope cl C s H fp) tg g) (hf:∀ cl C s H fp,PF (y4 X N' scope cl C s H fp) ifs tc) (he:∀ cl C s H fp,PE (y4 X N' scope cl C s H fp) elt te)
  (c1:∀ x c,cl.lookup x=↑c->(x,NameKind.free)∈scope.names/\X.env.cells.lookup x=↑c) (c2:∀ x,(x,NameKind.free)∈scope.names->(cl.lookup x).isSome)
  (I:Inv X EY B H s) (T:Turn X.prog X.w X.K tg J fp it tn) (t0:tn 0 s.heap) (Bp:∀ b∈fp,uo X EY H b)
  (rd:∀ D,H D=none->∃ W:Nat->Nat->St->Hp->Prop,(∃ m,W 0 m (uz pick B) (upd H D (.lst [])))/\
   ∀ i m B H,W i m B H->(J.stop i H/\Q (.ref D) H)\/(J.go i H/\∀ x H',J.pV i H x H'->g x B H' fun B2 H2=>tc B2 H2 λ b H3=>
    if b=true then te B2 H3 λ y H4=>∃ ys m',H4 D=↑(.lst ys)/\ys.length<sizeLine/\m'<m/\W (i+1) m' B2 (upd H4 D (.lst (ys++[y]))) else ∃ m',m'<m/\W (i+1) m' B2 H3))
  (fin:∀ C D oC H' s',s.heap.objs.size<C->Inv X (EY++[(C,oC)]) B H' s'->s'.heap.get? C=↑oC->(∃ m,s'.heap.Ns C m)->Q (.ref D) H'->RR (.ref D) C (.ok .next) s'):
  wpAny (model X.prog X.w) X.A (newList []) (λ acc s₃=>wpAny (model X.prog X.w) X.A (newFunctionEnv scope X.env.globals cl [] X.env.qual none .none ↑X.env) (λ cenv s₄=>
   codeAny (model X.prog X.w) X.A (.compStart (.ListComp elt [#[tg,iter,ifs,0]] scope pos) 0 (.ref it) acc { cenv with scope:=relabel scope X.env }) (RR acc cenv.locals) s₄) E s₃) E s:=by
 exact za8 (NV λ h₁ eh=>?_);dsimp only at eh ⊢;generalize hH2:s.heap.push { cls:=.type "list",dict:=none,data:=.seq ([]:Ah).toArray }=H2 at eh ⊢;have hC:H2.objs.size=s.heap.objs.size+1:=by rw[<- hH2,Heap.size_push]
 have Au:s.heap.objs.size<H2.objs.size:=by rw[hC];show BV _
 have up:∀ b o,H2.get? b=↑o->h₁.get? b=↑o:=λ b o e=>by rw[eh];show pushCells_keeps _ _ _ _ (za1 _ e)
 have old:∀ b o,s.heap.get? b=↑o->h₁.get? b=↑o:=λ b o e=>up b o (hH2▸za1 _ e);have AZ:h₁.get? s.heap.objs.size=↑{ cls:=.type "list",data:=.seq [].toArray 0 }:=up _ _ (hH2▸AK _ rfl);have hns₁:h₁.Ns H2.objs.size λ _=>none:=by rw[eh];show (Heap.Ns.new H2 (.type "dict")).keeps (pushCells_keeps _ _)
 let#[own,o1,o2,o3,o4]:=eO scope.names (H2.push { cls:=.type "dict",data:=.dict [].toArray }) cl;rw[Heap.size_push] at o1 o2;rw[<- eh] at o2;rw[o1];have d1:∀ x c,(own++cl).lookup x=↑c->((x,NameKind.free)∈scope.names/\X.env.cells.lookup x=↑c)\/((x,NameKind.cell)∈scope.names/\H2.objs.size<c/\h₁.IsCell c none):=λ x c e=>by
  rw[DH] at e;cases q:own.lookup x with
  | some c'=>
   rw[q] at e;cases e;show .inr (o2 _ (PySem.mem_of_lookup q))
  | none=>rw[q] at e;show .inl (c1 x c e)
 have d2:∀ x,(x,NameKind.free)∈scope.names\/(x,NameKind.cell)∈scope.names->((own++cl).lookup x).isSome:=λ x hx=>by
  rw[DH,Option.isSome_or];rcases hx with hx | hx
  .rw[c2 x hx,Bool.or_true]
  .rw[o4 x hx];rfl
 have d3:∀ x y c,(own++cl).lookup x=↑c->(own++cl).lookup y=↑c->x=y:=λ x y c e1 e2=>by
  rw[DH] at e1 e2;have low:∀ x c,cl.lookup x=↑c->c<H2.objs.size:=λ x c e=>by
   let#[v,q]:=I.cell x c (c1 x c e).2;show BS q.lt Au
  have hi:∀ x c,own.lookup x=↑c->H2.objs.size<c:=λ x c e=>(o2 _ (PySem.mem_of_lookup e)).2.1;cases q1:own.lookup x with
  | some c1'=>
   rw[q1] at e1;cases e1;cases q2:own.lookup y with
   | some c2'=>rw[q2] at e2;cases e2;show PySem.name_of_addr o3 (PySem.mem_of_lookup q1) (PySem.mem_of_lookup q2)
   | none=>rw[q2] at e2;show absurd (low y _ e2) (Nat.lt_asymm (hi x _ q1))
  | none=>
   rw[q1] at e1;cases q2:own.lookup y with
   | some c2'=>rw[q2] at e2;cases e2;show absurd (low x _ e1) (Nat.lt_asymm (hi y _ q2))
   | none=>rw[q2] at e2;show I.ok.inj x y c (c1 x c e1).2 (c1 y c e2).2
 have Dm:∀ b∈fp,b<s.heap.objs.size:=λ b hb=>by
  let#[o,e,_]:=T.obj _ _ t0 b hb;show Ax e
 have hDn:H s.heap.objs.size=none:=I.zw.fresh (Aj _);let#[W,#[m0,w0],turn]:=rd s.heap.objs.size hDn;have I0:=La (t':=s.toks) S I Bp Dm d1 d2 d3 Au old hns₁ AZ;have t1:tn 0 h₁:=T.keep _ _ _ t0 λ b _ o e=>old b o e;have AU:∀ b∈fp,b≠H2.objs.size/\b∉uf X.stack/\∀ x c,(own++cl).lookup x=↑c->c≠b:=λ b hb=>I0.ok.ez b hb |> λ q=>#[q.1,I0.ok.mQ b hb,q.2]
 have loop:codeAny (model X.prog X.w) X.A (.compLoop (.ListComp elt [#[tg,iter,ifs,0]] scope pos) 0 (.ref it) (.ref s.heap.objs.size) (compEnvC scope (own++cl) H2.objs.size X.env)) (RR (.ref s.heap.objs.size) H2.objs.size) { s with heap:=h₁ }:=by
  exact M5 (B:=B) hc (hg _ _ _ _ _) (hf _ _ _ _ _) (he _ _ _ _ _) T Bp AU turn (fun B' H' s' I' q=>?_) I0 t1 (λ b hb=>?_) w0
  .let#[m,hn,_]:=I'.loc;have hn':s'.heap.Ns H2.objs.size m:=hn;let#[oC,es,ep,ho,hr]:=id hn';show fin _ _ oC H' s' Au (MY I Bp Au I' ho) ho #[m,hn'] q
  .change upd H s.heap.objs.size (.lst []) b=none;rw[yi (AI (Dm b hb))];show (Bp b hb).1
 show codeAny_compStart_list loop (T.self _ 0 _ _ _ t1 loop)
def Sy (S:rL X N' pick scope) (hc:X.calm=true) (hi:PI X tg iter wi) (hg:∀ cl C s H fp,PG (y4 X N' scope cl C s H fp) tg g) (hf:∀ cl C s H fp,PF (y4 X N' scope cl C s H fp) ifs tc) (he:∀ cl C s H fp,PE (y4 X N' scope cl C s H fp) elt te)
  (hs:∀ x,foldedSetIterable iter X.env x=pure x:=by intro _;rfl):PE X (.ListComp elt [#[tg,iter,ifs,0]] scope pos) (hX pick wi g tc te):=by
 intro EY s B H Q I h;let#[cl,HD,c1,c2]:=YB (scope:=scope) (env:=X.env) λ y hy hk=>I.ok.has y.1 (S.free y hy hk);rw[eval_ListComp];exact wpAny_comprehension_free (use:=none) rfl hs HD S.kind (λ y hy e=>e▸S.uniq y hy) (zB (hi EY s B H _ I h) λ v s1 h1=>zB h1 λ itv s2 h2=>?_);let#[it,fp,tn,J,H2,e,I2,T,st2,f2,rd]:=h2;subst e;exact Zi (RR:=λ acc C=>compPost (model X.prog X.w) X.A X.xe none (EP X EY B Q) acc C) S hc hg hf he c1 c2 I2 T st2 f2 rd λ C D oC H' s' hC J' ho hn q=>?_;let#[m,hn]:=hn;show#[m,hn,λ h' GQ=>#[.ref D,H',Zy I2 hC J' GQ,rfl,q]]
def Tn {i:Nat}{y:Str}{py Bh:Pos}(S:rL X N' pick scope) (hc:X.calm=true) (hi:PI X tg iter wi) (hg:∀ cl C s H fp,PG (y4 X N' scope cl C s H fp) tg g) (hf:∀ cl C s H fp,PF (y4 X N' scope cl C s H fp) ifs tc) (he:∀ cl C s H fp,PE (y4 X N' scope cl C s H fp) elt te)
  (hN:X.N.Nodup) (hy:X.N[i]?=↑y) (hx:Loc X.env.scope y)
  (Ce:swapsWith (.ListComp elt [#[tg,iter,ifs,0]] scope pos) ↑(.Name y py) Bh.line X.env=pure true:=by rfl)
  (Co:X.fn y=true\/X.env.scope.names.lookup y=↑.local:=by first | show .inl rfl | show .inr rfl | assumption)
  (hs:∀ x,foldedSetIterable iter X.env x=pure x:=by intro _;rfl):PS X (.Assign [.Name y py] (.ListComp elt [#[tg,iter,ifs,0]] scope pos) Bh) (nH (hX pick wi g tc te) (oV i)):=by
 intro EY s B H Q I h;let#[cl,HD,c1,c2]:=YB (scope:=scope) (env:=X.env) λ y hy hk=>I.ok.has y.1 (S.free y hy hk);rw[exec_Assign_Name_used _ _ _ _ Ce];exact gV (wpAny_standAt (gV ?_));change wpAny _ X.A (do let _ <- comprehension (.ListComp elt [#[tg,iter,ifs,0]] scope pos) scope X.env _ (newList []) false (eval iter X.env) ↑(assign (.Name y py) X.env)) _ _ s;exact gV (za5 (wpAny_comprehension_free (use:=↑(assign (.Name y py) X.env)) (Q:=λ _ s'=>SP X EY Q .next s') rfl hs HD S.kind (λ y hy e=>e▸S.uniq y hy)
  (zB (hi EY s B H _ I h) λ v s1 h1=>zB h1 λ itv s2 h2=>?_)) (λ _ s' hq=>Ad (Ad hq)) λ _ _ e=>e)
 let#[it,fp,tn,J,H2,e,I2,T,st2,f2,rd]:=h2;subst e;exact Zi (Q:=λ x H1=>oV i x B H1 Q.nx) (RR:=λ acc C=>compPost (model X.prog X.w) X.A X.xe ↑(assign (.Name y py) X.env) (λ _ s'=>SP X EY Q .next s') acc C) S hc hg hf he c1 c2 I2 T st2 f2 rd λ C D oC H' s' hC J' ho hn q=>?_;change wpAny _ X.A (assign (.Name y py) X.env (.ref D)) _ _ _;exact wpAny_assign_Name (gf J' hN hy hx (v:=.ref D) rfl (λ s3 J3=>?_) Co);have hp:=(J3.pin (C,oC) (A_ _ (A_ _ (AH.mpr rfl)))).1;let#[m,o,es,ep,Gb,hr]:=hn;have:o=oC:=Ba (Gb.symm.trans ho);subst this;show#[m,#[o,es,ep,hp,hr],λ h' GQ=>#[_,H',Zy I2 hC J3 GQ,q]]
end
end L2
namespace L3
open PySem PySem.Spec L2
open PyProof.Rows hiding St
inductive D where
 | zp | bl (b:Bool) | int (i:Int) | str (x:Str) | tup (ds:List D) | xV (ds:List D) | ref (a:Addr) | err (c f:Str) (d:D)
def ng (K:Ac) (H:Hp) (a:Addr) (xs:List V):Prop:=
 (∃ o,H a=↑(.wC o (.lst xs)))\/
  ∃ (o:Obj) (Aa:Az) (n:Nat),K.lookup a=↑o/\o.cls=.type "list"/\o.dict=none/\o.data=.seq Aa n/\Aa.size<=sizeLine/\Vals xs Aa.toList
def ng.sq {K:Ac}{H:Hp}{a:Addr}{xs:List V}(h:ng K H a xs):zT K H a xs:=by
 rcases h with h | h
 .show .inl (.inr h)
 .show .inr h
abbrev YV:List Value:=[.type "ValueError",.type "Exception",.type "BaseException",.type "object"]
abbrev aG:List Str:=["__getattribute__","__getattr__","__class__","__setattr__","place","pair","way","times","told","name","row"]
def Xy (K:Ac) (c:Str) (C:Addr) (bm:Ah) (N:Addr):Prop:=
 (∃ (q:Str) (bs:Ah) (sn:List Str) (sub:Ah) (ab:Bool) (col:Option Bool) (dd:Option Addr) (k0 k1 k2 k3 k5:Option Value),K.lookup C=↑(excClassObj c q C N bs bm true sn sub ab col dd k0 k1 k2 k3 k5 "ValueError.__new__"))/\
 PySem.W.nsOkIn K N=true/\∀ n∈aG,PySem.W.nsIn K N n=↑none
structure IV (K:Ac) (c:Str) (C P N NP:Addr):Prop where
 own:Xy K c C (.ref P::YV) N
 par:Xy K "PurseError" P YV NP
 top:PySem.W.nsIn K mainGlobals c=↑↑(.ref C)
 zad:PySem.W.nsIn K mainGlobals "PurseError"=↑↑(.ref P)
 zae:PySem.W.nsIn K NP "__init__"=↑none
def kd (K:Ac) (c:Str) (C:Addr):Prop:=∃ P N NP,IV K c C P N NP
def ownIn (K:Ac) (c:Str) (C:Addr) (bm:Ah):Option Addr:=match K.lookup C with
 | some #[.type "type",_,.cls cd,sl]=>(match cd.mro,sl.toList with
  | .ref C'::bm',[_,_,_,_,↑(.builtin n),_]=>if C' == C&&n == "ValueError.__new__"&&!cd.hasDel&&bm' == bm&&cd.hasDict&&cd.name == c&&PySem.W.nsOkIn K cd.ns&&aG.all (λ n=>PySem.W.nsIn K cd.ns n == ↑none) then ↑cd.ns else none
  | _,_=>none)
 | _=>none
def rH (e C:Addr) (dx:Option Addr):HO:=.ext λ h=>∃ oe vs,h.get? e=↑oe/\oe.cls=.ref C/\oe.dict=dx/\oe.data=.fields vs
def Xd (H:Hp) (f:Str) (w:V):Option Addr->Prop
 | some x=>H x=↑(.xd [(f,w)])
 | none=>f=""/\w=.zp
mutual
def zf (K:Ac) (H:Hp):D->V->Prop
 | .zp,v=>v=.zp
 | .bl b,v=>v=.bl b
 | .int i,v=>v=.int i
 | .str x,v=>v=.str x
 | .tup ds,v=>∃ a xs,v=.ref a/\zX K H a xs/\zm K H ds xs
 | .xV ds,v=>∃ a xs,v=.ref a/\ng K H a xs/\zm K H ds xs
 | .ref a,v=>v=.ref a
 | .err c f d,v=>∃ e C dx w,v=.ref e/\(kd K c C/\H e=↑(rH e C dx)/\Xd H f w dx)/\zf K H d w
def zm (K:Ac) (H:Hp):List D->List V->Prop
 | [],xs=>xs=[]
 | d::ds,xs=>∃ x r,xs=x::r/\zf K H d x/\zm K H ds r
end
structure Ext (H H':Hp):Prop where
 tup:∀ b xs,H b=↑(.tup xs)->H' b=↑(.tup xs)
 wC:∀ b o u,H b=↑(.wC o u)->H' b=↑(.wC o u)
 ext:∀ b φ,H b=↑(.ext φ)->H' b=↑(.ext φ)
 xd:∀ b fs,H b=↑(.xd fs)->H' b=↑(.xd fs)
def Ext.refl (H:Hp):Ext H H:=#[λ _ _ h=>h,λ _ _ _ h=>h,λ _ _ h=>h,λ _ _ h=>h]
def Ext.trans {H H1 H2:Hp}(a:Ext H H1) (b:Ext H1 H2):Ext H H2:=#[λ c xs h=>b.tup c xs (a.tup c xs h),λ c o u h=>b.wC c o u (a.wC c o u h),λ c u h=>b.ext c u (a.ext c u h),λ c u h=>b.xd c u (a.xd c u h)]
def Ext.new {H:Hp}{p:Addr}(h:H p=none) (o:HO):Ext H (upd H p o):=
 #[λ b xs q=>by rw[yi (tP q h)];show q,λ b ob u q=>by rw[yi (tP q h)];show q,λ b u q=>by rw[yi (tP q h)];show q,λ b u q=>by rw[yi (tP q h)];show q]
theorem Ext.lst {H:Hp}{p:Addr}{xs:List V}(h:H p=↑(.lst xs)) (o:HO):Ext H (upd H p o):=
 #[λ b ys q=>by rw[yi (ua q h (by intro z;cases z))];show q,λ b ob u q=>by rw[yi (ua q h (by intro z;cases z))];show q,λ b u q=>by rw[yi (ua q h (by intro z;cases z))];show q,λ b u q=>by rw[yi (ua q h (by intro z;cases z))];show q]
def Ext.kC {K:Ac}{H H':Hp}{a:Addr}{xs:List V}(e:Ext H H') (h:zX K H a xs):zX K H' a xs:=by
 rcases h with (h | ⟨o,h⟩) | h
 .show .inl (.inl (e.tup _ _ h))
 .show .inl (.inr #[o,e.wC _ _ _ h])
 .show .inr h
def Ext.kD {K:Ac}{H H':Hp}{a:Addr}{xs:List V}(e:Ext H H') (h:ng K H a xs):ng K H' a xs:=by
 rcases h with ⟨o,h⟩ | h
 .show .inl #[o,e.wC _ _ _ h]
 .show .inr h
section
variable {K:Ac}{H H':Hp}
def Xd.ext {H H':Hp}{f:Str}{w:V}{dx:Option Addr}(h:Xd H f w dx) (e:Ext H H'):Xd H' f w dx:=by
 cases dx with
 | none=>show h
 | some x=>show e.xd _ _ h
mutual
theorem zf.ext (e:Ext H H'):∀ (d:D) {v:V},zf K H d v->zf K H' d v
 | .zp,v,h=>by simpa only [zf] using h
 | .bl b,v,h=>by simpa only [zf] using h
 | .int i,v,h=>by simpa only [zf] using h
 | .str x,v,h=>by simpa only [zf] using h
 | .ref a,v,h=>by simpa only [zf] using h
 | .err c f d,v,h=>by
  simp![zf] at h ⊢;let#[a,C,dx,w,h1,#[h2,h3,h4],h5]:=h;show#[a,C,dx,w,h1,#[h2,e.ext _ _ h3,h4.ext e],zf.ext e d h5]
 | .tup ds,v,h=>by
  simp![zf] at h ⊢;let#[a,xs,h1,h2,h3]:=h;show#[a,xs,h1,e.kC h2,zm.ext e ds h3]
 | .xV ds,v,h=>by
  simp![zf] at h ⊢;let#[a,xs,h1,h2,h3]:=h;show#[a,xs,h1,e.kD h2,zm.ext e ds h3]
theorem zm.ext (e:Ext H H'):∀ (ds:List D) {xs:List V},zm K H ds xs->zm K H' ds xs
 | [],xs,h=>by simpa only [zm] using h
 | d::ds,xs,h=>by
  simp![zm] at h ⊢;let#[x,r,h1,h2,h3]:=h;show#[x,r,h1,zf.ext e d h2,zm.ext e ds h3]
end
theorem zm.length:∀ {ds:List D}{xs:List V},zm K H ds xs->ds.length=xs.length
 | [],xs,h=>by simp![zm] at h;subst h;rfl
 | d::ds,xs,h=>by
  simp![zm] at h;let#[x,r,h1,_,h3]:=h;subst h1;simp[zm.length h3]
theorem zm.get:∀ {ds:List D}{xs:List V}{i:Nat}{d:D},zm K H ds xs->ds[i]?=↑d->∃ x,xs[i]?=↑x/\zf K H d x
 | [],_,i,d,_,e=>by simp at e
 | c::ds,xs,i,d,h,e=>by
  simp![zm] at h;let#[x,r,h1,h2,h3]:=h;subst h1;cases i with
  | zero=>simp at e;subst e;show#[x,rfl,h2]
  | succ i=>
   let#[y,e1,e2]:=zm.get (i:=i) h3 (by exists e);show#[y,by simpa using e1,e2]
theorem zm.append:∀ {ds es:List D}{xs ys:List V},zm K H ds xs->zm K H es ys->zm K H (ds++es) (xs++ys)
 | [],es,xs,ys,h,h'=>by simp![zm] at h;subst h;exists h'
 | d::ds,es,xs,ys,h,h'=>by
  simp![zm] at h;let#[x,r,h1,h2,h3]:=h;subst h1;change zm K H (d::(ds++es)) (x::(r++ys));simp![zm];show#[x,r++ys,rfl,h2,zm.append h3 h']
def zm.nil:zm K H [] []:=by simp![zm]
def zm.cons {d:D}{ds:List D}{x:V}{xs:List V}(h:zf K H d x) (h':zm K H ds xs):zm K H (d::ds) (x::xs):=by
 simp![zm];show#[x,xs,rfl,h,h']
def zm.snoc {d:D}{ds:List D}{x:V}{xs:List V}(h':zm K H ds xs) (h:zf K H d x):zm K H (ds++[d]) (xs++[x]):=h'.append (.cons h .nil)
theorem zm.ints:∀ {ns:List Int}{xs:List V},zm K H (ns.map D.int) xs->xs=ns.map V.int
 | [],xs,h=>by simpa only [Bu,zm] using h
 | n::ns,xs,h=>by
  rw[Aw] at h;simp![zm,zf] at h;let#[x,r,h1,h2,h3]:=h;subst h1 h2;rw[Aw,zm.ints h3]
theorem zm.gY:∀ (ns:List Int),zm K H (ns.map D.int) (ns.map V.int)
 | []=>.nil
 | n::ns=>.cons (by simp![zf]) (zm.gY ns)
theorem zm.bools:∀ {ns:List Bool}{xs:List V},zm K H (ns.map D.bl) xs->xs=ns.map V.bl
 | [],xs,h=>by simpa only [Bu,zm] using h
 | n::ns,xs,h=>by
  rw[Aw] at h;simp![zm,zf] at h;let#[x,r,h1,h2,h3]:=h;subst h1 h2;rw[Aw,zm.bools h3]
end
inductive O where
 | lst (ds:List D)
 | yj (Ab:List (Key×D))
 | obj (c:Str) (fs:List (Str×D))
abbrev SS:=Addr->Option O
def yZ (K:Ac) (H:Hp):List (Key×D)->List (Key×V)->Prop:=Paired λ p q=>p.1=q.1/\zf K H p.2 q.2
def um (K:Ac) (H:Hp):List (Str×D)->List (Str×V)->Prop:=Paired λ p q=>p.1=q.1/\zf K H p.2 q.2
def rK (K:Ac) (c:Str) (C:Addr):Prop:=PySem.W.nsIn K mainGlobals c=↑↑(.ref C)
def pE (K:Ac) (H:Hp) (a:Addr):O->Prop
 | .lst ds=>∃ xs,H a=↑(.lst xs)/\zm K H ds xs
 | .yj Ab=>∃ vs,H a=↑(.dK vs)/\yZ K H Ab vs
 | .obj c fs=>∃ C dx vs,rK K c C/\H a=↑(.ins C dx vs)/\um K H fs vs
def zQ (K:Ac) (H:Hp) (S:SS):Prop:=∀ a o,S a=↑o->pE K H a o
def ups (S:SS) (a:Addr) (o:O):SS:=λ b=>if b=a then ↑o else S b
def tF {S:SS}{a:Addr}{o:O}:ups S a o a=↑o:=by unfold ups;rw[if_pos rfl]
def sM {S:SS}{a b:Addr}{o:O}(h:b≠a):ups S a o b=S b:=by unfold ups;rw[if_neg h]
def Sx (S S':SS):Prop:=∀ b o,S b=↑o->S' b=↑o
def Sx.refl (S:SS):Sx S S:=λ _ _ h=>h
def Sx.trans {S S1 S2:SS}(a:Sx S S1) (b:Sx S1 S2):Sx S S2:=λ c o h=>b c o (a c o h)
def Sx.new {S:SS}{p:Addr}(h:S p=none) (o:O):Sx S (ups S p o):=λ b u q=>by
 rw[sM (by intro z;subst z;rw[h] at q;cases q)];show q
theorem Sx.none {S S':SS}(e:Sx S S') {p:Addr}(h:S' p=Option.none):S p=Option.none:=by
 cases q:S p with
 | none=>rfl
 | some o=>rw[e p o q] at h;cases h
section
variable {K:Ac}{H H':Hp}{S:SS}
def pE.has {a:Addr}{o:O}(h:pE K H a o):H a≠none:=by
 cases o with
 | lst ds=>let#[xs,h,_]:=h;rw[h];simp
 | yj Ab=>let#[xs,h,_]:=h;rw[h];simp
 | obj c fs=>let#[C,dx,vs,_,h,_]:=h;rw[h];simp
theorem zQ.none (r:zQ K H S) {p:Addr}(h:H p=Option.none):S p=Option.none:=by
 cases q:S p with
 | none=>rfl
 | some o=>show absurd h (r p o q).has
theorem yZ.ext (e:Ext H H') {Ab:List (Key×D)}{vs:List (Key×V)}(h:yZ K H Ab vs):yZ K H' Ab vs:=
 Paired.ml h λ p q z=>#[z.1,zf.ext e p.2 z.2]
theorem um.ext (e:Ext H H') {fs:List (Str×D)}{vs:List (Str×V)}(h:um K H fs vs):um K H' fs vs:=
 Paired.ml h λ p q z=>#[z.1,zf.ext e p.2 z.2]
def pE.keep {a:Addr}{o:O}(e:Ext H H') (k:∀ u,H a=↑u->H' a=↑u) (h:pE K H a o):pE K H' a o:=by
 cases o with
 | lst ds=>let#[xs,h1,h2]:=h;show#[xs,k _ h1,zm.ext e ds h2]
 | yj Ab=>let#[xs,h1,h2]:=h;show#[xs,k _ h1,h2.ext e]
 | obj c fs=>let#[C,dx,vs,h0,h1,h2]:=h;show#[C,dx,vs,h0,k _ h1,h2.ext e]
theorem zQ.keep (e:Ext H H') (k:∀ a u o,S a=↑o->H a=↑u->H' a=↑u) (r:zQ K H S):zQ K H' S:=λ a o h=>(r a o h).keep e λ u q=>k a u o h q
theorem zQ.new {p:Addr}{u:HO}(hp:H p=Option.none) (r:zQ K H S):zQ K (upd H p u) S:=
 r.keep (Ext.new hp u) λ a v o _ q=>by rw[yi (tP q hp)];show q
theorem zQ.ups {p:Addr}{u:HO}{o:O}(e:Ext H (upd H p u)) (hn:pE K (upd H p u) p o) (r:zQ K H S):zQ K (upd H p u) (ups S p o):=λ a o' h=>by
 by_cases ha:a=p
 .subst ha;rw[tF] at h;cases h;show hn
 .rw[sM ha] at h;show (r a o' h).keep e λ v q=>by rw[yi ha];show q
end
abbrev yg:=List (Option D)
def yL (K:Ac) (H:Hp) (δ:yg) (B:St):Prop:=δ.length=B.length/\∀ (i:Nat) (d:D),δ[i]?=↑↑d->∃ v,B[i]?=↑↑v/\zf K H d v
theorem yL.ext {K:Ac}{H H':Hp}{δ:yg}{B:St}(e:Ext H H') (r:yL K H δ B):yL K H' δ B:=#[r.1,λ i d h=>by
 let#[v,h1,h2]:=r.2 i d h;show#[v,h1,zf.ext e d h2]]
theorem yL.set {K:Ac}{H:Hp}{δ:yg}{B:St}(i:Nat) {d:D}{v:V}(r:yL K H δ B) (h:zf K H d v):yL K H (δ.set i ↑d) (B.set i ↑v):=by
 exact#[by rw[C8,C8];show r.1,λ j c hc=>?_];rw[DG] at hc ⊢;by_cases hj:i=j
 .subst hj;rw[if_pos rfl] at hc ⊢;by_cases hl:i < δ.length
  .rw[if_pos hl] at hc;rw[if_pos (by rw[<- r.1];show hl)];cases hc;show#[v,rfl,h]
  .rw[if_neg hl] at hc;cases hc
 .rw[if_neg hj] at hc ⊢;show r.2 j c hc
abbrev DK:=D->SS->Prop
abbrev zv:=yg->SS->DK->Prop
abbrev yF:=yg->SS->(Bool->SS->Prop)->Prop
abbrev yk:=yg->SS->(List D->SS->Prop)->Prop
def yq (t:zv):Prop:=∀ δ S (Q Q':DK),(∀ d S',Q d S'->Q' d S')->t δ S Q->t δ S Q'
def vq (t:yF):Prop:=∀ δ S (Q Q':Bool->SS->Prop),(∀ d S',Q d S'->Q' d S')->t δ S Q->t δ S Q'
def sE (t:yk):Prop:=∀ δ S (Q Q':List D->SS->Prop),(∀ d S',Q d S'->Q' d S')->t δ S Q->t δ S Q'
def wj (K:Ac) (H:Hp) (Q:VK):DK:=λ d S'=>∀ v H',zf K H' d v->Ext H H'->zQ K H' S'->Q v H'
def mW (K:Ac) (H:Hp) (Q:Bool->Hp->Prop):Bool->SS->Prop:=λ b S'=>∀ H',Ext H H'->zQ K H' S'->Q b H'
def Kz (K:Ac) (H:Hp) (Q:List V->Hp->Prop):List D->SS->Prop:=λ ds S'=>∀ vs H',zm K H' ds vs->Ext H H'->zQ K H' S'->Q vs H'
def vA (K:Ac) (H:Hp) (Q:St->Hp->Prop):yg->SS->Prop:=fun δ S'=>∀ B H',yL K H' δ B->Ext H H'->zQ K H' S'->Q B H'
def wj.ext {K:Ac}{H H':Hp}{Q:VK}(e:Ext H H') {d:D}{S:SS}(h:wj K H Q d S):wj K H' Q d S:=λ v H2 r x q=>h v H2 r (e.trans x) q
def mW.ext {K:Ac}{H H':Hp}{Q:Bool->Hp->Prop}(e:Ext H H') {d:Bool}{S:SS}(h:mW K H Q d S):mW K H' Q d S:=λ H2 x q=>h H2 (e.trans x) q
def vA.ext {K:Ac}{H H':Hp}{Q:St->Hp->Prop}(e:Ext H H') {d:yg}{S:SS}(h:vA K H Q d S):vA K H' Q d S:=λ v H2 r x q=>h v H2 r (e.trans x) q
def zN (K:Ac) (t:zv):TE:=fun B H Q=>∃ δ S,yL K H δ B/\zQ K H S/\t δ S (wj K H Q)
def wK (K:Ac) (t:yF):TT:=fun B H Q=>∃ δ S,yL K H δ B/\zQ K H S/\t δ S (mW K H Q)
def w6 (K:Ac) (t:yk):TA:=fun B H Q=>∃ δ S,yL K H δ B/\zQ K H S/\t δ S (Kz K H Q)
structure PD (X:Cx) (e:Expr) (t:zv):Prop where
 mo:yq t
 pe:PE X e (zN X.K t)
structure xq (X:Cx) (e:Expr) (t:yF):Prop where
 mo:vq t
 pt:PT X e (wK X.K t)
structure xh (X:Cx) (es:List Expr) (t:yk):Prop where
 mo:sE t
 pa:PA X es (w6 X.K t)
def PE.imp {X:Cx}{e:Expr}{t t':TE}(h:PE X e t) (hi:∀ B H Q,t' B H Q->t B H Q):PE X e t':=λ EY s B H Q I q=>h EY s B H Q I (hi B H Q q)
def PT.imp {X:Cx}{e:Expr}{t t':TT}(h:PT X e t) (hi:∀ B H Q,t' B H Q->t B H Q):PT X e t':=λ EY s B H Q I q=>h EY s B H Q I (hi B H Q q)
def PA.imp {X:Cx}{e:List Expr}{t t':TA}(h:PA X e t) (hi:∀ B H Q,t' B H Q->t B H Q):PA X e t':=λ pos EY s B H Q I q=>h pos EY s B H Q I (hi B H Q q)
def PS.imp {X:Cx}{e:Stmt}{t t':TS}(h:PS X e t) (hi:∀ D B H,t' D B H->t D B H):PS X e t':=λ EY s B H Q I q=>h EY s B H Q I (hi Q B H q)
def wx.imp {X:Cx}{e:List Stmt}{t t':TS}(h:wx X e t) (hi:∀ D B H,t' D B H->t D B H):wx X e t':=λ EY s B H Q I q=>h EY s B H Q I (hi Q B H q)
section
variable {X:Cx}{K:Ac}
def zN.go {t:zv}{B:St}{H:Hp}{Q:VK}{δ:yg}{S:SS}{R:DK}(mo:yq t) (r1:yL K H δ B) (r2:zQ K H S) (h:t δ S R) (k:∀ d S' v H',R d S'->zf K H' d v->Ext H H'->zQ K H' S'->Q v H'):zN K t B H Q:=
 #[δ,S,r1,r2,mo δ S _ _ (λ d S' q v H' a b c=>k d S' v H' q a b c) h]
def wK.go {t:yF}{B:St}{H:Hp}{Q:Bool->Hp->Prop}{δ:yg}{S:SS}{R:Bool->SS->Prop}(mo:vq t) (r1:yL K H δ B) (r2:zQ K H S) (h:t δ S R) (k:∀ d S' H',R d S'->Ext H H'->zQ K H' S'->Q d H'):wK K t B H Q:=
 #[δ,S,r1,r2,mo δ S _ _ (λ d S' q H' b c=>k d S' H' q b c) h]
def w6.go {t:yk}{B:St}{H:Hp}{Q:List V->Hp->Prop}{δ:yg}{S:SS}{R:List D->SS->Prop}(mo:sE t) (r1:yL K H δ B) (r2:zQ K H S) (h:t δ S R) (k:∀ d S' v H',R d S'->zm K H' d v->Ext H H'->zQ K H' S'->Q v H'):w6 K t B H Q:=
 #[δ,S,r1,r2,mo δ S _ _ (λ d S' q v H' a b c=>k d S' v H' q a b c) h]
def yh (i:Nat):zv:=fun δ S Q=>match δ[i]? with
 | some ↑d=>Q d S
 | _=>False
def dC (d:D):zv:=λ _ S Q=>Q d S
def RI (i:Nat) {x:Str}{pos:Pos}(h:PE X (.Name x pos) (hJ i)):PD X (.Name x pos) (yh i):=by
 exact#[fun δ S Q Q' hq h=>?_,PE.imp h fun B H Q hu=>?_]
 .unfold yh at h ⊢;split at h
  .show hq _ _ h
  .show h
 .let#[δ,S,r1,r2,h]:=hu;unfold yh at h;split at h
  .rename_i d e;let#[v,h1,h2]:=r1.2 i d e;show#[v,h1,h v H h2 (Ext.refl H) r2]
  .show h.elim
def dC.mo (d:D):yq (dC d):=λ _ _ _ _ hq h=>hq _ _ h
def nW {e:Expr}{d:D}{v:V}(h:PE X e (tC v)) (r:∀ H,zf X.K H d v):PD X e (dC d):=
 #[dC.mo d,PE.imp h λ _ H _ #[_,_,_,r2,h]=>h v H (r H) (Ext.refl H) r2]
def Qs {i j pos}:PD X (.Constant (.int i) j pos) (dC (.int i)):=nW S7 λ _=>by simp![zf]
def QB {i j pos}:PD X (.Constant (.bool i) j pos) (dC (.bl i)):=nW SM λ _=>by simp![zf]
def RV {j pos}:PD X (.Constant .none j pos) (dC .zp):=nW Ss λ _=>by simp![zf]
def RM {x j pos}:PD X (.Constant (.str x) j pos) (dC (.str x)):=nW Si λ _=>by simp![zf]
abbrev yM:=D->D->SS->DK->Prop
def xT (f:yM):Prop:=∀ x y S (Q Q':DK),(∀ d S',Q d S'->Q' d S')->f x y S Q->f x y S Q'
def x9 (K:Ac) (f:yM) (r:R2):Prop:=∀ x y d e H S Q,zf K H d x->zf K H e y->zQ K H S->f d e S (wj K H Q)->r x y H Q
def yu (f:yM) (ta tb:zv):zv:=fun δ S Q=>ta δ S λ x S1=>tb δ S1 λ y S2=>f x y S2 Q
def yu.mo {f:yM}{ta tb:zv}(hf:xT f) (ha:yq ta) (hb:yq tb):yq (yu f ta tb):=fun δ S Q Q' hq h=>
 ha δ S _ _ (λ x S1 h=>hb δ S1 _ _ (λ y S2 h=>hf x y S2 _ _ hq h) h) h
def kq {f:yM}{r:R2}{ta tb:zv}(hr:x9 K f r) (hf:xT f) (ha:yq ta) (hb:yq tb) {B:St}{H:Hp}{Q:VK}(h:zN K (yu f ta tb) B H Q):nG r (zN K ta) (zN K tb) B H Q:=by
 let#[δ,S,r1,r2,h]:=h;exact zN.go ha r1 r2 h λ x S1 v H1 h1 q1 e1 p1=>?_;exact zN.go hb (r1.ext e1) p1 h1 λ y S2 w H2 h2 q2 e2 p2=>?_;show hr v w x y H2 S2 Q (zf.ext e2 x q1) q2 p2 (hf x y S2 _ _ (λ d S' z=>z.ext (e1.trans e2)) h2)
def rV {a b:Expr}{op:Operator}{pos:Pos}{f:yM}{r:R2}{ta tb:zv}(ho:yp X (binaryOp op) r) (hr:x9 X.K f r) (hf:xT f) (ha:PD X a ta) (hb:PD X b tb):PD X (.BinOp a op b pos) (yu f ta tb):=
 #[yu.mo hf ha.mo hb.mo,PE.imp (Sk ho ha.pe hb.pe) λ _ _ _ h=>kq hr hf ha.mo hb.mo h]
def nX {a b:Expr}{op:CmpOp}{pos:Pos}{f:yM}{r:R2}{ta tb:zv}(ho:yp X (compareOp op) r) (hr:x9 X.K f r) (hf:xT f) (ha:PD X a ta) (hb:PD X b tb) (hm:behindInMarks op b=false):PD X (.Compare a [op] [b] pos) (yu f ta tb):=
 #[yu.mo hf ha.mo hb.mo,PE.imp (SG ho ha.pe hb.pe hm) λ _ _ _ h=>kq hr hf ha.mo hb.mo h]
def vK (t:zv):yF:=fun δ S Q=>t δ S λ x S1=>match x with
 | .bl b=>Q b S1
 | _=>False
def vK.mo {t:zv}(h:yq t):vq (vK t):=fun δ S Q Q' hq q=>h δ S _ _ (λ d S' z=>by
 cases d <;> first
  | show hq _ _ z
  | show z) q
def sU {a b:Expr}{op:CmpOp}{pos:Pos}{f:yM}{r:R2}{ta tb:zv}(ho:yp X (compareOp op) r) (hr:x9 X.K f r) (hf:xT f) (ha:PD X a ta) (hb:PD X b tb) (hm:behindInMarks op b=false):xq X (.Compare a [op] [b] pos) (vK (yu f ta tb)):=by
 exact#[vK.mo (yu.mo hf ha.mo hb.mo),PT.imp (Tf ho ha.pe hb.pe hm) fun B H Q h=>?_];let#[δ,S,r1,r2,h]:=h;exact kq hr hf ha.mo hb.mo #[δ,S,r1,r2,yu.mo hf ha.mo hb.mo δ S _ _ (λ d S' z v H' a b c=>?_) h];cases d with
 | bl k=>simp![zf] at a;show#[k,a,z H' b c]
 | _=>show z.elim
def fI (C:Int->Int->Prop) (g:Int->Int->D):yM:=λ x y S Q=>match x,y with
 | .int i,.int j=>C i j/\Q (g i j) S
 | _,_=>False
def fI.mo {C:Int->Int->Prop}{g:Int->Int->D}:xT (fI C g):=λ x y S Q Q' hq h=>by
 unfold fI at h ⊢;split at h
 .show#[h.1,hq _ _ h.2]
 .show h.elim
def xn (g:Int->Int->D):yM:=λ x y S Q=>match x,y with
 | .int i,.int j=>Q (g i j) S
 | _,_=>False
def xn.mo {g:Int->Int->D}:xT (xn g):=λ x y S Q Q' hq h=>by
 unfold xn at h ⊢;split at h
 .show hq _ _ h
 .show h.elim
def fI.fits {C:Int->Int->Prop}{g:Int->Int->D}{g':Int->Int->V}(hg:∀ i j H,zf K H (g i j) (g' i j)):x9 K (fI C g) (rI C g'):=λ x y d e H S Q h1 h2 h3 h=>by
 unfold fI at h;split at h
 .simp![zf] at h1 h2;show#[_,_,h1,h2,h.1,h.2 _ H (hg _ _ H) (Ext.refl H) h3]
 .show h.elim
def xn.fits {g:Int->Int->D}{g':Int->Int->V}(hg:∀ i j H,zf K H (g i j) (g' i j)):x9 K (xn g) (vy g'):=λ x y d e H S Q h1 h2 h3 h=>by
 unfold xn at h;split at h
 .simp![zf] at h1 h2;show#[_,_,h1,h2,h _ H (hg _ _ H) (Ext.refl H) h3]
 .show h.elim
variable {a b:Expr}{ta tb:zv}{pos:Pos}
def RL (ha:PD X a ta) (hb:PD X b tb):PD X (.BinOp a .Sub b pos) (yu (xn λ i j=>.int (i-j)) ta tb):=rV QK (xn.fits λ _ _ _=>by simp![zf]) xn.mo ha hb
def RZ (ha:PD X a ta) (hb:PD X b tb):PD X (.BinOp a .Mod b pos) (yu (fI (λ _ j=>0<j) λ i j=>.int (i%j)) ta tb):=rV QR (fI.fits λ _ _ _=>by simp![zf]) fI.mo ha hb
def Q0 (ha:PD X a ta) (hb:PD X b tb):PD X (.BinOp a .FloorDiv b pos) (yu (fI wz λ i j=>.int (i/j)) ta tb):=rV QZ (fI.fits λ _ _ _=>by simp![zf]) fI.mo ha hb
def RS (ha:PD X a ta) (hb:PD X b tb):PD X (.BinOp a .Pow b pos) (yu (fI qE λ i j=>.int (i ^ j.toNat)) ta tb):=rV QL (fI.fits λ _ _ _=>by simp![zf]) fI.mo ha hb
abbrev jx:yM:=xn λ i j=>.bl (decide (i<=j))
abbrev ej:yM:=xn λ i j=>.bl (decide (j<i))
abbrev jy:yM:=xn λ i j=>.bl (decide (j<=i))
def fit_le:x9 K jx (vy λ i j=>.bl (decide (i<=j))):=xn.fits λ _ _ _=>by simp![zf]
def LX:x9 K ej (vy λ i j=>.bl (decide (j<i))):=xn.fits λ _ _ _=>by simp![zf]
def ZV:x9 K jy (vy λ i j=>.bl (decide (j<=i))):=xn.fits λ _ _ _=>by simp![zf]
def Qm (ha:PD X a ta) (hb:PD X b tb):PD X (.Compare a [.LtE] [b] pos) (yu jx ta tb):=nX kS fit_le xn.mo ha hb (u6 _)
def Qy (ha:PD X a ta) (hb:PD X b tb):PD X (.Compare a [.GtE] [b] pos) (yu jy ta tb):=nX aq ZV xn.mo ha hb (u6 _)
def SY (ha:PD X a ta) (hb:PD X b tb):xq X (.Compare a [.LtE] [b] pos) (vK (yu jx ta tb)):=sU kS fit_le xn.mo ha hb (u6 _)
def Rc (ha:PD X a ta) (hb:PD X b tb):xq X (.Compare a [.Gt] [b] pos) (vK (yu ej ta tb)):=sU QX LX xn.mo ha hb (u6 _)
def Rf (ha:PD X a ta) (hb:PD X b tb):xq X (.Compare a [.GtE] [b] pos) (vK (yu jy ta tb)):=sU aq ZV xn.mo ha hb (u6 _)
end
section
variable {X:Cx}{K:Ac}{a b c:Expr}{ta tb:zv}{pos:Pos}
def lq (ta tb:zv):zv:=fun δ S Q=>ta δ S λ x S1=>match x with
 | .bl k=>if k=true then tb δ S1 Q else Q (.bl false) S1
 | _=>False
def lg (ta:zv):zv:=fun δ S Q=>ta δ S λ x S1=>match x with
 | .bl k=>Q (.bl (!k)) S1
 | _=>False
def v8 {c:Prop} [Decidable c] {A B A' B':Prop}(h1:A->A') (h2:B->B') (h:if c then A else B):if c then A' else B':=by
 by_cases q:c
 .rw[if_pos q] at h ⊢;show h1 h
 .rw[if_neg q] at h ⊢;show h2 h
def lq.mo (ha:yq ta) (hb:yq tb):yq (lq ta tb):=fun δ S Q Q' hq h=>ha δ S _ _ (λ x S1 z=>by
 cases x <;> first
  | show v8 (hb δ S1 _ _ hq) (hq _ _) z
  | show z) h
def lg.mo (ha:yq ta):yq (lg ta):=fun δ S Q Q' hq h=>ha δ S _ _ (λ x S1 z=>by
 cases x <;> first
  | show hq _ _ z
  | show z) h
def RT {op} {t:zv}(h:PD X a t):PD X (.BoolOp op [a] pos) t:=#[h.mo,So h.pe]
variable {E6:List Expr}
theorem QE (ha:PD X a ta) (hb:PD X (.BoolOp .And (b::E6) pos) tb):PD X (.BoolOp .And (a::b::E6) pos) (lq ta tb):=by
 exact#[lq.mo ha.mo hb.mo,PE.imp (SN ha.pe hb.pe) fun B H Q hu=>?_];let#[δ,S,r1,r2,h]:=hu;exact zN.go ha.mo r1 r2 h λ x S1 v H1 h1 q1 e1 p1=>?_;cases x with
 | bl k=>
  simp![zf] at q1;exact#[k,q1,v8 (λ z=>?_) (λ z=>?_) h1]
  .show zN.go hb.mo (r1.ext e1) p1 z λ y S2 w H2 h2 q2 e2 p2=>h2 w H2 q2 (e1.trans e2) p2
  .show z _ H1 (by simp![zf]) e1 p1
 | _=>show h1.elim
theorem RU (ha:PD X a ta):PD X (.UnaryOp .Not a pos) (lg ta):=by
 exact#[lg.mo ha.mo,PE.imp (Sq ha.pe) fun B H Q hu=>?_];let#[δ,S,r1,r2,h]:=hu;exact zN.go ha.mo r1 r2 h λ x S1 v H1 h1 q1 e1 p1=>?_;cases x with
 | bl k=>
  simp![zf] at q1;show#[k,q1,h1 _ H1 (by simp![zf]) e1 p1]
 | _=>show h1.elim
def mU (t u:yF):yF:=fun δ S Q=>t δ S λ k S1=>if k=true then u δ S1 Q else Q false S1
def mS (t u:yF):yF:=fun δ S Q=>t δ S λ k S1=>if k=true then Q true S1 else u δ S1 Q
def mT (t:yF):yF:=fun δ S Q=>t δ S λ k S1=>Q (!k) S1
variable {t u:yF}
def mU.mo (h:vq t) (h':vq u):vq (mU t u):=fun δ S _ _ hq z=>h δ S _ _ (λ k S1 z=>v8 (h' δ S1 _ _ hq) (hq _ _) z) z
def mS.mo (h:vq t) (h':vq u):vq (mS t u):=fun δ S _ _ hq z=>h δ S _ _ (λ k S1 z=>v8 (hq _ _) (h' δ S1 _ _ hq) z) z
def mT.mo (h:vq t):vq (mT t):=fun δ S _ _ hq z=>h δ S _ _ (λ k S1 z=>hq _ _ z) z
structure rD (X:Cx) (e:Expr) (t:yF):Prop where
 mo:vq t
 pw:PW X e (wK X.K t)
def PW.imp {e:Expr}{t t':TT}(h:PW X e t) (hi:∀ B H Q,t' B H Q->t B H Q):PW X e t':=λ whole EY s B H Q I q=>h whole EY s B H Q I (hi B H Q q)
theorem rD.pt {e:Expr}{t:yF}(h:rD X e t):xq X e t:=#[h.mo,PW.pt h.pw]
def SR (h:xq X a t):rD X (.BoolOp .And [a] pos) t:=#[h.mo,U_ h.pt]
def SO (h:xq X a t):rD X (.BoolOp .Or [a] pos) t:=#[h.mo,UY h.pt]
def aa (ha:xq X a t) (hb:rD X (.BoolOp .And (b::E6) pos) u):rD X (.BoolOp .And (a::b::E6) pos) (mU t u):=by
 exact#[mU.mo ha.mo hb.mo,PW.imp (Ta ha.pt hb.pw) fun B H Q hu=>?_];let#[δ,S,r1,r2,h]:=hu;exact wK.go ha.mo r1 r2 h λ k S1 H1 h1 e1 p1=>v8 (λ z=>?_) (λ z=>z H1 e1 p1) h1;show wK.go hb.mo (r1.ext e1) p1 z λ y S2 H2 h2 e2 p2=>h2 H2 (e1.trans e2) p2
def b_ (ha:xq X a t) (hb:rD X (.BoolOp .Or (b::E6) pos) u):rD X (.BoolOp .Or (a::b::E6) pos) (mS t u):=by
 exact#[mS.mo ha.mo hb.mo,PW.imp (UZ ha.pt hb.pw) fun B H Q hu=>?_];let#[δ,S,r1,r2,h]:=hu;exact wK.go ha.mo r1 r2 h λ k S1 H1 h1 e1 p1=>v8 (λ z=>z H1 e1 p1) (λ z=>?_) h1;show wK.go hb.mo (r1.ext e1) p1 z λ y S2 H2 h2 e2 p2=>h2 H2 (e1.trans e2) p2
def SV (ha:xq X a t):xq X (.UnaryOp .Not a pos) (mT t):=by
 exact#[mT.mo ha.mo,PT.imp (Te ha.pt) fun B H Q hu=>?_];let#[δ,S,r1,r2,h]:=hu;show wK.go ha.mo r1 r2 h λ k S1 H1 h1 e1 p1=>h1 H1 e1 p1
def lj (t:yF) (ta tb:zv):zv:=fun δ S Q=>t δ S λ k S1=>if k=true then ta δ S1 Q else tb δ S1 Q
def lj.mo (h:vq t) (ha:yq ta) (hb:yq tb):yq (lj t ta tb):=fun δ S _ _ hq z=>h δ S _ _ (λ k S1 z=>v8 (ha δ S1 _ _ hq) (hb δ S1 _ _ hq) z) z
def Qu (hc:xq X c t) (ha:PD X a ta) (hb:PD X b tb):PD X (.IfExp c a b pos) (lj t ta tb):=by
 exact#[lj.mo hc.mo ha.mo hb.mo,PE.imp (S8 hc.pt ha.pe hb.pe) fun B H Q hu=>?_];let#[δ,S,r1,r2,h]:=hu;exact wK.go hc.mo r1 r2 h λ k S1 H1 h1 e1 p1=>v8 (λ z=>?_) (λ z=>?_) h1
 .show zN.go ha.mo (r1.ext e1) p1 z λ y S2 w H2 h2 q2 e2 p2=>h2 w H2 q2 (e1.trans e2) p2
 .show zN.go hb.mo (r1.ext e1) p1 z λ y S2 w H2 h2 q2 e2 p2=>h2 w H2 q2 (e1.trans e2) p2
def vV (d:D) (S:SS) (Q:Bool->SS->Prop):Prop:=match d with
 | .zp=>Q false S
 | .bl k=>Q k S
 | .int i=>Q (i != 0) S
 | .str x=>x.length<=sizeLine/\Q ((x.length:Int) != 0) S
 | .tup ds=>Q (!ds.isEmpty) S
 | .xV ds=>Q (!ds.isEmpty) S
 | .ref p=>match S p with
  | some (.lst ds)=>Q (!ds.isEmpty) S
  | some (.yj Ab)=>Q (!Ab.isEmpty) S
  | _=>False
 | .err _ _ _=>False
def Yk (ta:zv):yF:=fun δ S Q=>ta δ S λ x S1=>vV x S1 Q
def vV.mo {d:D}{S:SS}{Q Q':Bool->SS->Prop}(hq:∀ k S',Q k S'->Q' k S') (h:vV d S Q):vV d S Q':=by
 cases d with
 | str x=>show#[h.1,hq _ _ h.2]
 | err _ _ _=>show h.elim
 | ref p=>
  unfold vV at h ⊢;dsimp only at h ⊢;split at h
  .show hq _ _ h
  .show hq _ _ h
  .show h
 | _=>show hq _ _ h
theorem zm.isEmpty {H:Hp}{ds:List D}{xs:List V}(h:zm K H ds xs):ds.isEmpty=xs.isEmpty:=by
 have:=h.length;cases ds <;> cases xs <;> simp_all
def Ib {α β:Type}{F:α->β->Prop}{xs:List α}{ys:List β}(h:Paired F xs ys):xs.isEmpty=ys.isEmpty:=by cases h <;> rfl
def vV.fits {H:Hp}{d:D}{v:V}{S:SS}{Q:Bool->Hp->Prop}(r:zf K H d v) (p:zQ K H S) (h:vV d S (mW K H Q)):∃ k,dr K v H k/\Q k H:=by
 cases d with
 | zp=>simp![zf] at r;subst r;show#[false,rfl,h H (.refl H) p]
 | bl k=>simp![zf] at r;subst r;show#[k,rfl,h H (.refl H) p]
 | int i=>simp![zf] at r;subst r;show#[_,rfl,h H (.refl H) p]
 | str x=>simp![zf] at r;subst r;show#[_,#[h.1,rfl],h.2 H (.refl H) p]
 | err _ _ _=>show h.elim
 | tup ds=>
  simp![zf] at r;let#[a,xs,rfl,r1,r2]:=r;show#[_,.inr (.inl #[xs,r1,by rw[r2.isEmpty]]),h H (.refl H) p]
 | xV ds=>
  simp![zf] at r;let#[a,xs,rfl,r1,r2]:=r;show#[_,.inl #[xs,r1.sq,by rw[r2.isEmpty]],h H (.refl H) p]
 | ref a=>
  simp![zf] at r;subst r;unfold vV at h;dsimp only at h;split at h
  .rename_i ds e;let#[xs,e1,r2]:=p a _ e;show#[_,.inl #[xs,zT.of e1,by rw[r2.isEmpty]],h H (.refl H) p]
  .rename_i Ab e;let#[xs,e1,r2]:=p a _ e;show#[_,.inr (.inr #[xs,e1,by rw[Ib r2]]),h H (.refl H) p]
  .show h.elim
def SU (ha:PD X a ta) (he:∀ whole,isTrue a X.env whole=(do let v <- whole;standAt a.pos;holding [v] (truthy v))):xq X a (Yk ta):=by
 exact#[fun δ S Q Q' hq h=>ha.mo δ S _ _ (λ x S1 z=>vV.mo hq z) h,PT.imp (Td ha.pe he) fun B H Q hu=>?_];let#[δ,S,r1,r2,h]:=hu;exact zN.go ha.mo r1 r2 h λ x S1 v H1 h1 q1 e1 p1=>?_;show vV.fits q1 p1 (vV.mo (λ k S' z=>z.ext e1) h1)
def pj:yk:=λ _ S Q=>Q [] S
def rA (te:zv) (tr:yk):yk:=fun δ S Q=>te δ S λ x S1=>tr δ S1 λ xs S2=>Q (x::xs) S2
variable {e:Expr}{es:List Expr}{te:zv}{tA:yk}
def rA.mo (h:yq te) (h':sE tA):sE (rA te tA):=fun δ S _ _ hq z=>h δ S _ _ (λ x S1 z=>h' δ S1 _ _ (λ xs S2 z=>hq _ _ z) z) z
def RG:xh X [] pj:=#[λ _ _ _ _ hq h=>hq _ _ h,PA.imp ox fun B H Q #[_,_,_,r2,h]=>h [] H .nil (.refl H) r2]
def RH (ha:PD X e te) (hr:xh X es tA) (hs:AJ X e es):xh X (e::es) (rA te tA):=by
 exact#[rA.mo ha.mo hr.mo,PA.imp (qN ha.pe hr.pa hs) fun B H Q hu=>?_];let#[δ,S,r1,r2,h]:=hu;exact zN.go ha.mo r1 r2 h λ x S1 v H1 h1 q1 e1 p1=>?_;exact w6.go hr.mo (r1.ext e1) p1 h1 λ xs S2 w H2 h2 q2 e2 p2=>?_;show h2 (v::w) H2 (.cons (zf.ext e2 x q1) q2) (e1.trans e2) p2
def eJ (t:yk):zv:=fun δ S Q=>t δ S λ ds S1=>ds.length<=sizeLine/\Q (.tup ds) S1
def Yx (t:yk):zv:=fun δ S Q=>t δ S λ ds S1=>ds.length<=sizeLine/\∀ p,S1 p=none->Q (.ref p) (ups S1 p (.lst ds))
def RK {k} (h:xh X es tA):PD X (.Tuple es k pos) (eJ tA):=by
 exact#[fun δ S _ _ hq z=>h.mo δ S _ _ (λ ds S1 z=>#[z.1,hq _ _ z.2]) z,PE.imp (Sh h.pa) fun B H Q hu=>?_];let#[δ,S,r1,r2,h']:=hu;exact w6.go h.mo r1 r2 h' λ ds S1 xs H1 h1 q1 e1 p1=>#[by rw[<- q1.length];show h1.1,λ p hp=>?_];exact h1.2 _ _ ?_ (e1.trans (.new hp _)) (p1.new hp);simp![zf];show#[p,xs,rfl,zX.of yx,zm.ext (.new hp _) ds q1]
theorem Qi (h:xh X es tA):PD X (.List es pos) (Yx tA):=by
 exact#[fun δ S _ _ hq z=>h.mo δ S _ _ (λ ds S1 z=>#[z.1,λ p hp=>hq _ _ (z.2 p hp)]) z,PE.imp (Sv h.pa) fun B H Q hu=>?_];let#[δ,S,r1,r2,h']:=hu;exact w6.go h.mo r1 r2 h' λ ds S1 xs H1 h1 q1 e1 p1=>#[by rw[<- q1.length];show h1.1,λ p hp=>?_];exact h1.2 p (p1.none hp) _ _ (by simp![zf]) (e1.trans (.new hp _)) ?_;show p1.ups (.new hp _) #[xs,yx,zm.ext (.new hp _) ds q1]
def wW:yM:=λ x y S Q=>match x,y with
 | .tup ds,.int i=>match zM ds i with
  | some d=>Q d S
  | none=>False
 | .xV ds,.int i=>match zM ds i with
  | some d=>Q d S
  | none=>False
 | .ref p,.int i=>match S p with
  | some (.lst ds)=>match zM ds i with
   | some d=>Q d S
   | none=>False
  | _=>False
 | _,_=>False
def wW.mo:xT wW:=λ x y S Q Q' hq h=>by
 unfold wW at h ⊢;split at h
 .skip
  split at h
  .show hq _ _ h
  .show h
 .skip
  split at h
  .show hq _ _ h
  .show h
 .skip
  split at h
  .skip
   split at h
   .show hq _ _ h
   .show h
  .show h.elim
 .show h.elim
theorem zm.zM {H:Hp}{ds:List D}{xs:List V}{i:Int}{d:D}(h:zm K H ds xs) (e:L2.zM ds i=↑d):∃ x,L2.zM xs i=↑x/\zf K H d x:=by
 unfold L2.zM at e ⊢;rw[h.length] at e;cases q:wA xs.length i with
 | none=>rw[q] at e;cases e
 | some j=>
  rw[q] at e;show h.get e
def wW.fits:x9 K wW (bH K):=λ x y d e H S Q h1 h2 h3 h=>by
 unfold wW at h;split at h
 .split at h
  .rename_i q;simp![zf] at h1 h2;let#[a,xs,rfl,r1,r2]:=h1;let#[x',e1,e2]:=r2.zM q;show .inr (.inl #[a,xs,_,x',rfl,h2,r1,e1,h x' H e2 (.refl H) h3])
  .show h.elim
 .split at h
  .rename_i q;simp![zf] at h1 h2;let#[a,xs,rfl,r1,r2]:=h1;let#[x',e1,e2]:=r2.zM q;show .inl #[a,xs,_,x',rfl,h2,r1.sq,e1,h x' H e2 (.refl H) h3]
  .show h.elim
 .split at h
  .rename_i q0;split at h
   .rename_i q;simp![zf] at h1 h2;subst h1;let#[xs,r1,r2]:=h3 _ _ q0;let#[x',e1,e2]:=r2.zM q;show .inl #[_,xs,_,x',rfl,h2,zT.of r1,e1,h x' H e2 (.refl H) h3]
   .show h.elim
  .show h.elim
 .show h.elim
def Qn (ha:PD X a ta) (hb:PD X b tb) (hs:Xv b):PD X (.Subscript a b pos) (yu wW ta tb):=
 #[yu.mo wW.mo ha.mo hb.mo,PE.imp (Sz MR ha.pe hb.pe hs) λ _ _ _ h=>kq wW.fits wW.mo ha.mo hb.mo h]
abbrev xE:=List D->SS->DK->Prop
def vO (f:xE):Prop:=∀ ds S (Q Q':DK),(∀ d S',Q d S'->Q' d S')->f ds S Q->f ds S Q'
def uP (K:Ac) (f:xE) (r:List V->Hp->VK->Prop):Prop:=∀ xs ds H S Q,zm K H ds xs->zQ K H S->f ds S (wj K H Q)->r xs H Q
def xC (f:xE) (t:yk):zv:=fun δ S Q=>t δ S λ ds S1=>f ds S1 Q
def xC.mo {f:xE}(hf:vO f) (h:sE tA):yq (xC f tA):=fun δ S _ _ hq z=>h δ S _ _ (λ ds S1 z=>hf ds S1 _ _ hq z) z
def cJ {f:xE}{r:List V->Hp->VK->Prop}(hf:vO f) (hr:uP K f r) (h:sE tA) {B:St}{H:Hp}{Q:VK}(hu:zN K (xC f tA) B H Q):k6 r (w6 K tA) B H Q:=by
 let#[δ,S,r1,r2,h']:=hu;exact w6.go h r1 r2 h' λ ds S1 xs H1 h1 q1 e1 p1=>?_;show hr xs ds H1 S1 Q q1 p1 (hf ds S1 _ _ (λ d S' z=>z.ext e1) h1)
def uU {f:xE}{r:List V->Hp->VK->Prop}{e:Expr}(h:PE X e (k6 r (w6 X.K tA))) (hf:vO f) (hr:uP X.K f r) (ha:sE tA):PD X e (xC f tA):=
 #[xC.mo hf ha,PE.imp h λ _ _ _ hu=>cJ hf hr ha hu]
def zS (d:D) (S:SS):Option (List D):=match d with
 | .tup ds=>↑ds
 | .xV ds=>↑ds
 | .ref p=>match S p with
  | some (.lst ds)=>↑ds
  | _=>none
 | _=>none
theorem zS.sq {H:Hp}{S:SS}{d:D}{v:V}{ds:List D}(r:zf K H d v) (p:zQ K H S) (e:zS d S=↑ds):∃ a xs,v=.ref a/\(zT K H a xs\/zX K H a xs)/\zm K H ds xs:=by
 unfold zS at e;split at e
 .cases e;simp![zf] at r;let#[a,xs,h1,h2,h3]:=r;show#[a,xs,h1,.inr h2,h3]
 .cases e;simp![zf] at r;let#[a,xs,h1,h2,h3]:=r;show#[a,xs,h1,.inl h2.sq,h3]
 .split at e
  .rename_i q;cases e;simp![zf] at r;subst r;let#[xs,h1,h2]:=p _ _ q;show#[_,xs,rfl,.inl (zT.of h1),h2]
  .cases e
 .cases e
def zm.one {H:Hp}{d:D}{xs:List V}(h:zm K H [d] xs):∃ x,xs=[x]/\zf K H d x:=by
 simp![zm] at h;let#[x,r,rfl,h2,rfl]:=h;show#[x,rfl,h2]
def zm.two {H:Hp}{d d':D}{xs:List V}(h:zm K H [d,d'] xs):∃ x y,xs=[x,y]/\zf K H d x/\zf K H d' y:=by
 simp![zm] at h;let#[x,r,rfl,h2,y,r',rfl,h3,rfl]:=h;show#[x,y,rfl,h2,h3]
def uH:xE:=λ ds S Q=>match ds with
 | [d]=>match zS d S with
  | some ds=>Q (.int ds.length) S
  | none=>match d with
   | .str z=>z.length<=sizeLine/\Q (.int z.length) S
   | _=>False
 | _=>False
def uH.mo:vO uH:=λ ds S Q Q' hq h=>by
 unfold uH at h ⊢;split at h
 .skip
  split at h
  .show hq _ _ h
  .split at h
   .show#[h.1,hq _ _ h.2]
   .show h.elim
 .show h.elim
abbrev UX (K:Ac):List V->Hp->VK->Prop:=λ xs H Q=>(∃ p ys,xs=[.ref p]/\(zT K H p ys\/zX K H p ys)/\Q (.int ys.length) H)\/(∃ z,xs=[.str z]/\z.length<=sizeLine/\Q (.int z.length) H)
def uH.fits:uP K uH (UX K):=λ xs ds H S Q h0 h2 h=>by
 unfold uH at h;split at h
 .let#[x,hx,h1]:=h0.one;subst hx;split at h
  .rename_i e;let#[a,ys,rfl,q,r]:=zS.sq h1 h2 e;exact .inl #[a,ys,rfl,q,?_];rw[<- r.length];show h _ H (by simp![zf]) (.refl H) h2
  .split at h
   .simp![zf] at h1;subst h1;show .inr #[_,rfl,h.1,h.2 _ H (by simp![zf]) (.refl H) h2]
   .show h.elim
 .show h.elim
def uG:xE:=λ ds S Q=>match ds with
 | [d]=>match zS d S with
  | some ds=>∀ p,S p=none->Q (.ref p) (ups S p (.lst ds))
  | none=>False
 | _=>False
def uG.mo:vO uG:=λ ds S Q Q' hq h=>by
 unfold uG at h ⊢;split at h
 .skip
  split at h
  .show λ p hp=>hq _ _ (h p hp)
  .show h.elim
 .show h.elim
def uG.fits:uP K uG (λ xs H Q=>∃ p ys,xs=[.ref p]/\(zT K H p ys\/zX K H p ys)/\∀ l,H l=none->Q (.ref l) (upd H l (.lst ys))):=λ xs ds H S Q h0 h2 h=>by
 unfold uG at h;split at h
 .let#[x,hx,h1]:=h0.one;subst hx;split at h
  .rename_i e;let#[a,ys,rfl,q,r]:=zS.sq h1 h2 e;exact#[a,ys,rfl,q,λ l hl=>?_];show h l (h2.none hl) _ _ (by simp![zf]) (.new hl _) (h2.ups (.new hl _) #[ys,yx,zm.ext (.new hl _) _ r])
  .show h.elim
 .show h.elim
def uE:xE:=λ ds S Q=>match ds with
 | [.tup ds]=>Q (.tup ds) S
 | [.xV ds]=>Q (.tup ds) S
 | [.ref p]=>match S p with
  | some (.lst ds)=>Q (.tup ds) S
  | _=>False
 | _=>False
def uE.mo:vO uE:=λ ds S Q Q' hq h=>by
 unfold uE at h ⊢;split at h
 .show hq _ _ h
 .show hq _ _ h
 .skip
  split at h
  .show hq _ _ h
  .show h.elim
 .show h.elim
def uE.fits:uP K uE (λ xs H Q=>∃ p ys,xs=[.ref p]/\((zT K H p ys/\∀ l,H l=none->Q (.ref l) (upd H l (.tup ys)))\/(zX K H p ys/\Q (.ref p) H))):=λ xs ds H S Q h0 h2 h=>by
 unfold uE at h;split at h
 .let#[x,hx,h1]:=h0.one;subst hx;have h1':=h1;simp![zf] at h1;let#[a,xs,rfl,r1,r2]:=h1;show#[a,xs,rfl,.inr #[r1,h _ H h1' (.refl H) h2]]
 .let#[x,hx,h1]:=h0.one;subst hx;simp![zf] at h1;let#[a,xs,rfl,r1,r2]:=h1;exact#[a,xs,rfl,.inl #[r1.sq,λ l hl=>h _ _ ?_ (.new hl _) (h2.new hl)]];simp![zf];show#[l,xs,rfl,zX.of yx,zm.ext (.new hl _) _ r2]
 .let#[x,hx,h1]:=h0.one;subst hx;split at h
  .rename_i e;simp![zf] at h1;subst h1;let#[xs,r1,r2]:=h2 _ _ e;exact#[_,xs,rfl,.inl #[zT.of r1,λ l hl=>h _ _ ?_ (.new hl _) (h2.new hl)]];simp![zf];show#[l,xs,rfl,zX.of yx,zm.ext (.new hl _) _ r2]
  .show h.elim
 .show h.elim
def ug (g:Int->Int->D):xE:=λ ds S Q=>match ds with
 | [.int i,.int j]=>Q (g i j) S
 | _=>False
def ug.mo {g:Int->Int->D}:vO (ug g):=λ ds S Q Q' hq h=>by
 unfold ug at h ⊢;split at h
 .show hq _ _ h
 .show h.elim
def ug.fits {g:Int->Int->D}{g':Int->Int->V}(hg:∀ i j H,zf K H (g i j) (g' i j)):uP K (ug g) (λ xs H Q=>∃ i j,xs=[.int i,.int j]/\Q (g' i j) H):=λ xs ds H S Q h0 h2 h=>by
 unfold ug at h;split at h
 .let#[x,y,hx,h1,h3]:=h0.two;subst hx;simp![zf] at h1 h3;subst h1 h3;show#[_,_,rfl,h _ H (hg _ _ H) (.refl H) h2]
 .show h.elim
def zag:yM:=λ x y S Q=>match x,y with
 | .ref p,.ref q=>match S p,S q with
  | some (.lst ds),↑(.lst es)=>ds.length+es.length<=sizeLine/\∀ r,S r=none->Q (.ref r) (ups S r (.lst (ds++es)))
  | _,_=>False
 | _,_=>False
def ql (to te:zv):zv:=fun δ S Q=>to δ S λ x S1=>match x with
 | .ref p=>(∃ ds,S1 p=↑(.lst ds))/\te δ S1 λ y S2=>match S2 p with
  | some (.lst ds)=>ds.length<sizeLine/\Q .zp (ups S2 p (.lst (ds++[y])))
  | _=>False
 | _=>False
def ql.mo {to te:zv}(h:yq to) (h':yq te):yq (ql to te):=fun δ S Q Q' hq z=>h δ S _ _ (λ x S1 z=>by
 cases x with
 | ref p=>
  exact#[z.1,h' δ S1 _ _ (λ y S2 w=>?_) z.2];split at w
  .show#[w.1,hq _ _ w.2]
  .show w.elim
 | _=>show z) z
theorem QC {o e:Expr}{to te:zv}{e0:Expr}(Et:PE X e0 (h_ X.K "list" bN (zN X.K to) (hZ (zN X.K te) hV))) (h:yq to) (h':yq te):PD X e0 (ql to te):=by
 exact#[ql.mo h h',PE.imp Et fun B H Q hu=>?_];let#[δ,S,r1,r2,z]:=hu;exact zN.go h r1 r2 z λ x S1 v H1 h1 q1 e1 p1=>?_;cases x with
 | ref p=>
  let#[#[ds,hd],h1]:=h1;simp![zf] at q1;subst q1;let#[xs,g1,g2]:=p1 _ _ hd;exact#[.inl #[rfl,xs,zT.of g1],?_];exact zN.go h' (r1.ext e1) p1 h1 λ y S2 w H2 h2 q2 e2 p2=>?_;split at h2
  .rename_i HH e3;let#[Fq,g3,g4]:=p2 _ _ e3;exact#[p,Fq,w,rfl,rfl,g3,by rw[<- g4.length];show h2.1,?_];have e4:Ext H2 (upd H2 p (.lst (Fq++[w]))):=.lst g3 _;show h2.2 _ _ (by simp![zf]) ((e1.trans e2).trans e4) (p2.ups e4 #[_,yx,zm.ext e4 _ (g4.snoc q2)])
  .show h2.elim
 | _=>show h1.elim
end
structure qC where
 nx:yg->SS->Prop
 rt:DK
 bk:yg->SS->Prop:=λ _ _=>False
 ct:yg->SS->Prop:=λ _ _=>False
abbrev yH:=qC->yg->SS->Prop
structure qC.Le (E E':qC):Prop where
 nx:∀ δ S,E.nx δ S->E'.nx δ S
 rt:∀ d S,E.rt d S->E'.rt d S
 bk:∀ δ S,E.bk δ S->E'.bk δ S
 ct:∀ δ S,E.ct δ S->E'.ct δ S
def sD (t:yH):Prop:=∀ E E' δ S,qC.Le E E'->t E δ S->t E' δ S
def tZ (K:Ac) (H:Hp) (D:Ends):qC:=#[vA K H D.nx,wj K H D.rt,vA K H D.bk,vA K H D.ct]
theorem tZ.ext {K:Ac}{H H':Hp}{D:Ends}(e:Ext H H'):(tZ K H D).Le (tZ K H' D):=#[λ _ _ h=>vA.ext e h,λ _ _ h=>wj.ext e h,λ _ _ h=>vA.ext e h,λ _ _ h=>vA.ext e h]
def iW (K:Ac) (t:yH):TS:=λ D B H=>∃ δ S,yL K H δ B/\zQ K H S/\t (tZ K H D) δ S
structure wy (X:Cx) (st:Stmt) (t:yH):Prop where
 mo:sD t
 ps:PS X st (iW X.K t)
structure xS (X:Cx) (st:List Stmt) (t:yH):Prop where
 mo:sD t
 ps:wx X st (iW X.K t)
section
variable {X:Cx}{K:Ac}{st:Stmt}{E6:List Stmt}{t u:yH}{pos:Pos}{e:Expr}{te:zv}
def Yt:yH:=λ E δ S=>E.nx δ S
def m_ (t u:yH):yH:=λ E δ S=>t { E with nx:=u E } δ S
def m_.mo (h:sD t) (h':sD u):sD (m_ t u):=λ E E' δ S hE z=>h { E with nx:=u E } { E' with nx:=u E' } δ S #[fun δ S q=>h' E E' δ S hE q,hE.rt,hE.bk,hE.ct] z
def Ri:xS X [] Yt:=#[λ _ _ _ _ hE h=>hE.nx _ _ h,wx.imp Th λ D B H #[δ,S,r1,r2,h]=>h B H r1 (.refl H) r2]
def Rh (h:wy X st t):xS X [st] t:=#[h.mo,Tg h.ps]
def Rj (h:wy X st t) (h':xS X E6 u):xS X (st::E6) (m_ t u):=by
 exact#[m_.mo h.mo h'.mo,wx.imp (Ti h.ps h'.ps) λ D B H hu=>?_];let#[δ,S,r1,r2,z]:=hu;exact#[δ,S,r1,r2,h.mo { tZ X.K H D with nx:=u (tZ X.K H D) } _ δ S #[fun δ' S' q B' H' q1 q2 q3=>?_,λ _ _ q=>q,λ _ _ q=>q,λ _ _ q=>q] z];show#[δ',S',q1,q3,h'.mo _ _ δ' S' (tZ.ext q2) q]
def lp (te:zv):yH:=λ E δ S=>te δ S λ _ S1=>E.nx δ S1
def Rw (he:PD X e te) (hs:swapsWith e none pos.line X.env=pure false):wy X (.Expr e pos) (lp te):=by
 exact#[λ E E' δ S hE z=>he.mo δ S _ _ (λ _ _ q=>hE.nx _ _ q) z,PS.imp (Tv he.pe hs) λ D B H hu=>?_];let#[δ,S,r1,r2,z]:=hu;show zN.go he.mo r1 r2 z λ x S1 v H1 h1 q1 e1 p1=>h1 B H1 (r1.ext e1) e1 p1
def lb (te:zv):yH:=λ E δ S=>te δ S E.rt
def Ro (he:PD X e te):wy X (.Return ↑e pos) (lb te):=by
 exact#[λ E E' δ S hE z=>he.mo δ S _ _ (λ _ _ q=>hE.rt _ _ q) z,PS.imp (Tr he.pe) λ D B H hu=>?_];let#[δ,S,r1,r2,z]:=hu;show zN.go he.mo r1 r2 z λ x S1 v H1 h1 q1 e1 p1=>h1 v H1 q1 e1 p1
def Yz (c:yF) (t u:yH):yH:=λ E δ S=>c δ S λ k S1=>if k=true then t E δ S1 else u E δ S1
def Ru {c:Expr}{p q:List Stmt}{tc:yF}(hc:xq X c tc) (h:xS X p t) (h':xS X q u):wy X (.If c p q pos) (Yz tc t u):=by
 exact#[λ E E' δ S hE z=>hc.mo δ S _ _ (λ k S1 z=>v8 (h.mo _ _ δ S1 hE) (h'.mo _ _ δ S1 hE) z) z,PS.imp (Ts hc.pt h.ps h'.ps) λ D B H hu=>?_];let#[δ,S,r1,r2,z]:=hu;exact wK.go hc.mo r1 r2 z λ k S1 H1 h1 e1 p1=>v8 (λ z=>?_) (λ z=>?_) h1
 .show#[δ,S1,r1.ext e1,p1,h.mo _ _ δ S1 (tZ.ext e1) z]
 .show#[δ,S1,r1.ext e1,p1,h'.mo _ _ δ S1 (tZ.ext e1) z]
abbrev xl:=D->yg->SS->(yg->SS->Prop)->Prop
abbrev wu:=List D->yg->SS->(yg->SS->Prop)->Prop
def lJ (t:xl):Prop:=∀ d δ S (Q Q':yg->SS->Prop),(∀ δ S,Q δ S->Q' δ S)->t d δ S Q->t d δ S Q'
def X2 (t:wu):Prop:=∀ d δ S (Q Q':yg->SS->Prop),(∀ δ S,Q δ S->Q' δ S)->t d δ S Q->t d δ S Q'
def nC (K:Ac) (t:xl):TG:=λ v B H Q=>∃ d δ S,zf K H d v/\yL K H δ B/\zQ K H S/\t d δ S (vA K H Q)
def cH (K:Ac) (t:wu):rC:=λ v B H Q=>∃ d δ S,zm K H d v/\yL K H δ B/\zQ K H S/\t d δ S (vA K H Q)
structure vM (X:Cx) (e:Expr) (t:xl):Prop where
 mo:lJ t
 pg:PG X e (nC X.K t)
structure pF (X:Cx) (es:List Expr) (t:wu):Prop where
 mo:X2 t
 pg:sC X es (cH X.K t)
def PG.imp {e:Expr}{t t':TG}(h:PG X e t) (hi:∀ v B H Q,t' v B H Q->t v B H Q):PG X e t':=λ EY s B H v w Q I r q=>h EY s B H v w Q I r (hi v B H Q q)
def sC.imp {e:List Expr}{t t':rC}(h:sC X e t) (hi:∀ v B H Q,t' v B H Q->t v B H Q):sC X e t':=λ EY s B H v w Q I r q=>h EY s B H v w Q I r (hi v B H Q q)
def hName (i:Nat):xl:=λ d δ S Q=>Q (δ.set i ↑d) S
def RD {e:Expr}{i:Nat}(h:PG X e (oV i)):vM X e (hName i):=
 #[λ _ _ _ _ _ hq z=>hq _ _ z,PG.imp h λ v B H Q #[d,δ,S,r1,r2,r3,z]=>z _ H (r2.set i r1) (.refl H) r3]
def fL:wu:=λ ds δ S Q=>ds=[]/\Q δ S
def fM (t:xl) (u:wu):wu:=λ ds δ S Q=>match ds with
 | d::r=>t d δ S fun δ' S'=>u r δ' S' Q
 | []=>False
def R8:pF X [] fL:=by
 exact#[λ _ _ _ _ _ hq z=>#[z.1,hq _ _ z.2],sC.imp TL λ v B H Q hu=>?_];let#[d,δ,S,r1,r2,r3,z1,z2]:=hu;subst z1;simp![zm] at r1;show#[r1,z2 B H r2 (.refl H) r3]
def RA {e:Expr}{es:List Expr}{t:xl}{u:wu}(h:vM X e t) (h':pF X es u) (hs:(assignEach (e::es) X.env).map (·.2)=assign e X.env::(assignEach es X.env).map (·.2)):pF X (e::es) (fM t u):=by
 exact#[λ ds δ S Q Q' hq z=>?_,sC.imp (TN h.pg h'.pg hs) λ v B H Q hu=>?_]
 .cases ds with
  | nil=>show z
  | cons d r=>show h.mo d δ S _ _ (fun δ' S' z=>h'.mo r δ' S' _ _ hq z) z
 .let#[ds,δ,S,r1,r2,r3,z]:=hu;cases ds with
  | nil=>show z.elim
  | cons d r=>
   simp![zm] at r1;let#[x,xs,rfl,q1,q2]:=r1;exact#[x,xs,rfl,d,δ,S,q1,r2,r3,h.mo d δ S _ _ (fun δ' S' z B' H' g1 g2 g3=>?_) z];show#[r,δ',S',zm.ext g2 r q2,g1,g3,h'.mo r δ' S' _ _ (fun δ2 S2 z2=>vA.ext g2 z2) z]
def qZ (n:Nat) (t:wu):xl:=λ d δ S Q=>match d with
 | .tup ds=>ds.length=n/\t ds δ S Q
 | _=>False
def RB {e:Expr}{n:Nat}{t:wu}(h:PG X e (ZM X.K n (cH X.K t))) (hm:X2 t):vM X e (qZ n t):=by
 exact#[λ d δ S Q Q' hq z=>?_,PG.imp h λ v B H Q hu=>?_]
 .cases d with
  | tup ds=>show#[z.1,hm ds δ S _ _ hq z.2]
  | _=>show z
 .let#[d,δ,S,r1,r2,r3,z]:=hu;cases d with
  | tup ds=>
   simp![zf] at r1;let#[a,xs,rfl,q1,q2]:=r1;show#[a,xs,rfl,q1,by rw[<- q2.length];show z.1,ds,δ,S,q2,r2,r3,z.2]
  | _=>show z.elim
def wX (te:zv) (g:xl):yH:=λ E δ S=>te δ S λ x S1=>g x δ S1 E.nx
def wX.mo {g:xl}(h:yq te) (h':lJ g):sD (wX te g):=λ E E' δ S hE z=>h δ S _ _ (λ x S1 q=>h' x δ S1 _ _ (fun δ S q=>hE.nx _ _ q) q) z
def Vy {g:xl}(h:yq te) (h':lJ g) {D:Ends}{B:St}{H:Hp}(hu:iW K (wX te g) D B H):nH (zN K te) (nC K g) D B H:=by
 let#[δ,S,r1,r2,z]:=hu;exact zN.go h r1 r2 z λ x S1 v H1 h1 q1 e1 p1=>?_;show#[x,δ,S1,q1,r1.ext e1,p1,h' x δ S1 _ _ (fun δ S q=>vA.ext e1 q) h1]
def Ry {tg e:Expr}{g:xl}(he:PD X e te) (hg:vM X tg g) (hs:swapsWithSole [tg] e pos.line X.env=pure false) (hw:swappedStores [tg] e X.env=pure none)
  (h1:(assignEach [tg] X.env).map (·.2)=[assign tg X.env]):wy X (.Assign [tg] e pos) (wX te g):=
 #[wX.mo he.mo hg.mo,PS.imp (bQ he.pe hg.pg hs hw h1) λ _ _ _ hu=>Vy he.mo hg.mo hu]
def Rn {e0:Stmt}{i:Nat}(h:PS X e0 (nH (zN X.K te) (oV i))) (hm:yq te):wy X e0 (wX te (hName i)):=by
 exact#[wX.mo hm λ _ _ _ _ _ hq z=>hq _ _ z,PS.imp h λ D B H hu=>?_];let#[δ,S,r1,r2,z]:=hu;exact zN.go hm r1 r2 z λ x S1 v H1 h1 q1 e1 p1=>?_;show h1 _ H1 ((r1.ext e1).set i q1) e1 p1
end
structure kg where
 items:List D
 keep:SS->Prop
abbrev wF:=yg->SS->(kg->SS->Prop)->Prop
def iy (t:wF):Prop:=∀ δ S (Q Q':kg->SS->Prop),(∀ I S',Q I S'->Q' I S')->t δ S Q->t δ S Q'
def dA (K:Ac) (H1:Hp) (J:It) (I:kg):Prop:=∀ (i:Nat) (H:Hp) (S:SS),Ext H1 H->zQ K H S->I.keep S->
 (∀ d,I.items[i]?=↑d->J.go i H/\∀ x H',J.pV i H x H'->Ext H H'/\zQ K H' S/\zf K H' d x)/\(I.items.length<=i->J.stop i H)
def K0 (K:Ac) (H:Hp) (R:It->Hp->Prop):kg->SS->Prop:=λ I S1=>∀ J H1,Ext H H1->zQ K H1 S1->dA K H1 J I->R J H1
def vd (K:Ac) (t:wF):TI:=fun B H R=>∃ δ S,yL K H δ B/\zQ K H S/\t δ S (K0 K H R)
structure tw (X:Cx) (tg iter:Expr) (t:wF):Prop where
 mo:iy t
 pi:PI X tg iter (vd X.K t)
def PI.imp {X:Cx}{tg e:Expr}{t t':TI}(h:PI X tg e t) (hi:∀ B H Q,t' B H Q->t B H Q):PI X tg e t':=λ EY s B H Q I q=>h EY s B H Q I (hi B H Q q)
section
variable {X:Cx}{K:Ac}{tg e:Expr}{pos:Pos}
theorem zm.at {H:Hp}{ds:List D}{xs:List V}{i:Nat}{d:D}{x:V}(r:zm K H ds xs) (h1:ds[i]?=↑d) (h2:xs[i]?=↑x):zf K H d x:=by
 let#[y,e1,e2]:=r.get h1;rw[h2] at e1;cases e1;show e2
def vZ (lo:Int) (n:Nat):List D:=(List.range n).map λ(k:Nat)=>D.int (lo+(k:Int))
def US {lo:Int}{n i:Nat}{d:D}(h:(vZ lo n)[i]?=↑d):i<n/\d=.int (lo+(i:Int)):=by
 unfold vZ at h;rw[AD] at h;cases q:(List.range n)[i]? with
 | none=>rw[q] at h;cases h
 | some j=>
  rw[q] at h;let#[h1,h2]:=AO.mp q;rw[CB] at h1;rw[D7] at h2;subst h2;cases h;show#[h1,rfl]
def UR (lo:Int) (n:Nat):(vZ lo n).length=n:=by unfold vZ;rw[AA,CB]
def dA.range {H1:Hp}{lo:Int}{n:Nat}:dA K H1 (iz lo n) #[vZ lo n,λ _=>True]:=λ i H S _ x2 _=>by
 exact#[λ d hd=>?_,λ hl=>by rw[show (kg.mk (vZ lo n) λ _=>True).items=vZ lo n from rfl,UR] at hl;show hl];let#[h1,rfl]:=US hd;exact#[h1,λ x H' q=>?_];let#[rfl,rfl]:=q;show#[.refl _,x2,by simp![zf]]
def fG (t:yk):wF:=fun δ S R=>t δ S λ ds S1=>match ds with
 | [.int j]=>(-(2 ^ 62)<=j/\j<2 ^ 62)/\R #[vZ 0 j.toNat,λ _=>True] S1
 | _=>False
variable {tA:yk}
def R6 (h:PI X tg e (ZD (w6 X.K tA))) (hm:sE tA):tw X tg e (fG tA):=by
 exact#[fun δ S Q Q' hq z=>hm δ S _ _ (λ ds S1 z=>?_) z,PI.imp h fun B H R hu=>?_]
 .split at z
  .show#[z.1,hq _ _ z.2]
  .show z.elim
 .let#[δ,S,r1,r2,z]:=hu;exact w6.go hm r1 r2 z λ ds S1 xs H1 h1 q1 e1 p1=>?_;split at h1
  .let#[x,rfl,q]:=q1.one;simp![zf] at q;subst q;show#[_,rfl,h1.1.1,h1.1.2,h1.2 _ H1 e1 p1 .range]
  .show h1.elim
def ll (ti:wF) (g:xl) (tb:yH):yH:=λ E δ S=>ti δ S λ I S1=>∃ W:Nat->yg->SS->Prop,W 0 δ S1/\(∀ i δ S,W i δ S->I.keep S)/\
 (∀ i d δ S,I.items[i]?=↑d->W i δ S->g d δ S fun δ2 S2=>tb { E with nx:=W (i+1),ct:=W (i+1),bk:=E.nx } δ2 S2)/\∀ δ S,W I.items.length δ S->E.nx δ S
def ll.mo {ti:wF}{g:xl}{tb:yH}(hi:iy ti) (hg:lJ g) (hb:sD tb):sD (ll ti g tb):=λ E E' δ S hE z=>hi δ S _ _ (λ I S1 #[W,w0,wk,ws,wd]=>by
 exact#[W,w0,wk,λ i d δ S hd hw=>hg d δ S _ _ (fun δ2 S2 z=>hb { E with nx:=W (i+1),ct:=W (i+1),bk:=E.nx } { E' with nx:=W (i+1),ct:=W (i+1),bk:=E'.nx } δ2 S2 #[λ _ _ q=>q,hE.rt,hE.nx,λ _ _ q=>q] z) (ws i d δ S hd hw),fun δ S q=>hE.nx _ _ (wd δ S q)]) z
def Rv {iter:Expr}{body:List Stmt}{ti:wF}{g:xl}{tb:yH}(hp:PassesOwn (model X.prog X.w) X.A X.env X.xe) (hc:X.calm=true) (hi:tw X tg iter ti) (hg:vM X tg g) (hb:xS X body tb)
  (hs:∀ x,foldedSetIterable iter X.env x=pure x):wy X (.For tg iter body [] pos) (ll ti g tb):=by
 exact#[ll.mo hi.mo hg.mo hb.mo,PS.imp (Tt hp hc hi.pi hg.pg hb.ps hs) λ D B H hu=>?_];let#[δ,S,r1,r2,z]:=hu;exact#[δ,S,r1,r2,hi.mo δ S _ _ (λ I S1 hW J H1 e1 p1 rep=>?_) z];let#[W,w0,wk,ws,wd]:=hW;exact#[λ i m B H2=>m=I.items.length-i/\i<=I.items.length/\Ext H1 H2/\∃ δ S,yL X.K H2 δ B/\zQ X.K H2 S/\W i δ S,#[_,rfl,AW _,.refl _,δ,S1,r1.ext e1,p1,w0],?_];rintro i m B2 H2 ⟨rfl,Hh,x2,δ2,S2,q1,q2,w2⟩;let#[g1,g2]:=rep i H2 S2 x2 q2 (wk i δ2 S2 w2);by_cases hl:i<I.items.length
 .have hd:I.items[i]?=↑I.items[i]:=by simp[hl]
  let#[go,yl]:=g1 _ hd;exact .inr #[go,fun B' H'=>Ext H1 H'/\∃ δ S,yL X.K H' δ B'/\zQ X.K H' S/\W (i+1) δ S,fun B' H' q=>#[_,⋯,rfl,hl,q],λ x H3 hy=>?_];let#[x3,p3,d3]:=yl x H3 hy;exact#[_,δ2,S2,d3,q1.ext x3,p3,hg.mo _ δ2 S2 _ _ (fun δ4 S4 z4 B4 H4 a1 a2 a3=>?_) (ws i _ δ2 S2 hd w2)];exact#[δ4,S4,a1,a3,hb.mo _ _ δ4 S4 #[fun δ5 S5 w5 B5 H5 b1 b2 b3=>#[((x2.trans x3).trans a2).trans b2,δ5,S5,b1,b3,w5],λ _ _ q=>wj.ext (((e1.trans x2).trans x3).trans a2) q,λ _ _ q=>vA.ext (((e1.trans x2).trans x3).trans a2) q,fun δ5 S5 w5 B5 H5 b1 b2 b3=>#[((x2.trans x3).trans a2).trans b2,δ5,S5,b1,b3,w5]] z4]
 .have e:i=I.items.length:=⋯;subst e;show .inl #[g2 (Aj _),wd δ2 S2 w2 B2 H2 q1 (e1.trans x2) q2]
abbrev wZ:=List D->SS->DK->Prop
def qz (sp:wZ):Prop:=∀ ds S (Q Q':DK),(∀ d S',Q d S'->Q' d S')->sp ds S Q->sp ds S Q'
def vE (K:Ac) (sp:wZ):Sp:=λ vs H Q _=>∃ ds S,zm K H ds vs/\zQ K H S/\sp ds S (wj K H Q)
def jD (sp:wZ) (t:yk):zv:=fun δ S Q=>t δ S λ ds S1=>sp ds S1 Q
def QA {sp:wZ}{E:XK}{e:Expr}(h:PE X e (cQ (vE X.K sp) [] E (w6 X.K tA))) (hs:qz sp) (hm:sE tA):PD X e (jD sp tA):=by
 exact#[fun δ S Q Q' hq z=>hm δ S _ _ (λ ds S1 z=>hs ds S1 _ _ hq z) z,PE.imp h fun B H Q hu=>?_];let#[δ,S,r1,r2,z]:=hu;exact w6.go hm r1 r2 z λ ds S1 xs H1 h1 q1 e1 p1=>?_;rw[Cs];show#[ds,S1,q1,p1,hs ds S1 _ _ (λ d S' q=>wj.ext e1 q) h1]
def vX (N:List Str) (ds:List D):yg:=ds.map some++List.replicate (N.length-ds.length) none
theorem yL.init {H:Hp}{N:List Str}{ds:List D}{vs:List V}(r:zm K H ds vs):yL K H (vX N ds) (start N vs):=by
 have hl:=r.length;exact#[by unfold vX L2.start;simp[hl],λ i d h=>?_];unfold vX at h;have hi:i<ds.length:=by
  rcases Bj i ds.length with q | q
  .show q
  .rw[Cc (by exists q),CQ] at h;split at h <;> cases h
 rw[Cb (by exists hi),AD] at h;cases q:ds[i]? with
 | none=>rw[q] at h;cases h
 | some d'=>
  rw[q] at h;cases h;let#[x,e1,e2]:=r.get q;exact#[x,?_,e2];unfold L2.start;rw[Cb (by exists by lia),AD,e1];rfl
def jo {P:Program}{w:World}{K:Ac}{mg:AF}{base:Heap}{x qual:Str}{st:Stmt}{f:Addr}{fd:FuncData}{N ps:List Str}{k:Nat}{sp:wZ}(F:vR K x qual st f fd) (Sc:vt N ps (zE st))
  (len:∀ ds S Q,sp ds S Q->ds.length=ps.length)
  (E9:∀ (Af:Value) (A:Around) (outer:List Env) (s:Shared) (H:Hp) (E:XK),yb k (A.deeper (envOfC qual (zE st) s.heap.objs.size f Af))->
   ∃ t,xS (yT y7 P w K mg base N qual (zE st) f Af A outer s H E).xa (yQ st) t/\∀ ds S Q,sp ds S Q->t { nx:=λ _ S'=>Q .zp S',rt:=Q } (vX N ds) S):w_ P w K mg base y7 (k+1) f fd ps (vE K sp):=by
 exact F.ok Sc (λ vs H Q E h=>?_) λ Af A outer s H vs Q E hr h=>?_
 .let#[ds,S,r1,_,z]:=h;rw[<- r1.length];show len _ _ _ z
 .let#[ds,S,r1,r2,z]:=h;let#[t,ht,hq]:=E9 Af A outer s H E hr;exact#[_,ht.ps,vX N ds,S,.init r1,r2,ht.mo { nx:=λ _ S'=>wj K H Q .zp S',rt:=wj K H Q } _ _ _ #[fun δ S' q B' H' _ b c=>q .zp H' (by simp![zf]) b c,λ _ _ q=>q,λ _ _ q=>False.elim q,λ _ _ q=>False.elim q] (hq ds S _ z)]
def u5 (pick:List (Option Nat)) (δ:yg):yg:=pick.map λ o=>o.bind λ i=>(δ[i]?).join
theorem yL.pick {H:Hp}{δ:yg}{B:St}(r:yL K H δ B) (pick:List (Option Nat)):yL K H (u5 pick δ) (uz pick B):=by
 exact#[by unfold u5 uz;simp,λ i d h=>?_];unfold u5 at h;rw[AD] at h;cases q:pick[i]? with
 | none=>rw[q] at h;cases h
 | some o=>
  rw[q] at h;cases o with
  | none=>simp at h
  | some j=>
   simp![Option.map_some,BO,Option.some.injEq] at h;have hj:δ[j]?=↑↑d:=by
    cases q2:δ[j]? with
    | none=>rw[q2] at h;cases h
    | some o2=>rw[q2] at h;simp![Option.join_some] at h;rw[h]
   let#[v,e1,e2]:=r.2 j d hj;exact#[v,?_,e2];unfold uz;rw[AD,q];simp[e1]
def p9 (δ δ':yg):Prop:=δ.length=δ'.length/\∀ (i:Nat) d,δ[i]?=↑↑d->δ'[i]?=↑↑d
def p9.rep {H:Hp}{δ δ':yg}{B:St}(h:p9 δ δ') (r:yL K H δ' B):yL K H δ B:=#[h.1.trans r.1,λ i d q=>r.2 i d (h.2 i d q)]
structure nh (X:Cx) (ifs:List Expr) (t:yF):Prop where
 mo:vq t
 pf:PF X ifs (wK X.K t)
def PF.imp {ifs:List Expr}{t t':TT}(h:PF X ifs t) (hi:∀ B H Q,t' B H Q->t B H Q):PF X ifs t':=λ EY s B H Q I q=>h EY s B H Q I (hi B H Q q)
def Yj:yF:=λ _ S Q=>Q true S
def RF:nh X [] Yj:=#[λ _ _ _ _ hq z=>hq _ _ z,PF.imp T_ λ _ H _ #[_,_,_,r2,z]=>z H (.refl H) r2]
def RE {c:Expr}{t:yF}(h:xq X c t):nh X [c] t:=#[h.mo,TZ h.pt]
end
end L3
namespace L2
open PySem PySem.Spec PyProof.Rows
def Li (K:Ac) (tl:TE):TI:=fun B H R=>tl B H λ x H1=>∃ a,x=.ref a/\(((∃ xs,zT K H1 a xs)/\R (X5 K a) H1)\/((∃ xs,zX K H1 a xs)/\R (X4 K a) H1))
def TH {X:Cx}{tg l:Expr}{tl:TE}(hl:PE X l tl):PI X tg l (Li X.K tl):=by
 intro EY s B H R I h;exact zB (hl EY s B H _ I h) λ v s1 #[x,H1,I1,r1,a,hx,q1]=>?_;subst hx;cases r1;have new:∀ b∈[s1.heap.objs.size],uo X EY H1 b:=λ b hb=>by
  obtain rfl:b=s1.heap.objs.size:=AH.mp hb;show I1.jr (Aj _) (I1.zw.fresh (Aj _))
 rcases q1 with ⟨⟨xs,hq⟩,q⟩ | ⟨⟨xs,hq⟩,q⟩
 .let#[Aa,_,pl,_]:=I1.list hq;show zaH pl.isList #[_,_,_,_,H1,rfl,I1.kept (t':=s1.toks) λ b o eo=>za1 _ eo,V8 a _,#[_,AK _ rfl,rfl,rfl],new,q]
 .let#[Aa,_,pt,_]:=I1.tuple hq;show zaM (show s1.heap.IsTuple a Aa.toArray from pt) #[_,_,_,_,H1,rfl,I1.kept (t':=s1.toks) λ b o eo=>za1 _ eo,V6 a _,#[_,AK _ rfl,rfl,rfl],new,q]
def range_all (bs:List Bool):(List.range bs.length).all (λ i=>bs.getD i true)=bs.all id:=by
 rw[Be,BA,BA];constructor
 .intro h b hb;let#[i,hi,rfl]:=Ca.mp hb;have:=h i (AG.mpr hi);simpa [hi] using this
 .intro h i hi;have Hh:=AG.mp hi;have:=h bs[i] (Bl Hh);simpa [Hh] using this
def range_any (bs:List Bool):(List.range bs.length).any (λ i=>bs.getD i true)=bs.any id:=by
 rw[Be,A8,A8];constructor
 .rintro⟨i,hi,h⟩;have Hh:=AG.mp hi;show#[bs[i],Bl Hh,by simpa [Hh] using h]
 .rintro⟨b,hb,h⟩;let#[i,hi,rfl]:=Ca.mp hb;show#[i,AG.mpr hi,by simpa [hi] using h]
theorem YT {bs:List Bool}{Aa:Ah}(r:Vals (bs.map V.bl) Aa) {i:Nat}{v:Value}(h:Aa.toArray[i]?=↑v):v=.bool (bs.getD i true):=by
 have hl:=r.length;rw[AA] at hl;have h':Aa[i]?=↑v:=by exists h
 have hi:i<bs.length:=by
  rw[hl];rcases Bj i Aa.length with q | q
  .show q
  .rw[DF q] at h';cases h'
 let#[u,e1,e2]:=r.get (i:=i) (x:=.bl bs[i]) (by simp[hi]);rw[h'] at e1;cases e1;have:v=.bool bs[i]:=e2;rw[this];simp[hi]
section
variable {X:Cx}
theorem Jz (hc:X.calm=true):yI X (.builtin "all") (λ xs H Q=>∃ p,∃ bs:List Bool,xs=[.ref p]/\zT X.K H p (bs.map V.bl)/\Q (.bl (bs.all id)) H):=by
 intro EY s B H xs us Q I r h;let#[p,bs,rfl,hq,q]:=h;let#[u,rfl,ru]:=vals1 r;cases ru;let#[Aa,rv,pl,hz]:=I.list hq;have hl:=rv.length;rw[AA] at hl;have Au:p<s.heap.objs.size:=by let#[o,n,e,_]:=pl;show Ax e
 exact call_all_walk (zaH pl.isList ?_);exact#[s.heap.objs.size,_,_,_,_,_,λ i=>bs.getD i true,rfl,Walks.list (A:=X.A.in1) (I.ok.hd hc) s.heap.objs.size p (AI Au) Aa.toArray,#[#[_,AK _ rfl,rfl,rfl],pl.isList.push _],λ i v s' Q' E' hv HM=>?_,λ h' tk hk=>?_]
 .rw[YT rv hv];show zaC HM
 .have e:(List.range Aa.toArray.size).all (λ i=>bs.getD i true)=bs.all id:=by rw[AB,<- hl,range_all]
  rw[e];show#[.bl _,H,I.kept (t':=tk) λ b o eo=>hk b o (by exists AI (Ax eo)) (za1 _ eo),rfl,q]
theorem Jy (hc:X.calm=true):yI X (.builtin "any") (λ xs H Q=>∃ p,∃ bs:List Bool,xs=[.ref p]/\zT X.K H p (bs.map V.bl)/\Q (.bl (bs.any id)) H):=by
 intro EY s B H xs us Q I r h;let#[p,bs,rfl,hq,q]:=h;let#[u,rfl,ru]:=vals1 r;cases ru;let#[Aa,rv,pl,hz]:=I.list hq;have hl:=rv.length;rw[AA] at hl;have Au:p<s.heap.objs.size:=by let#[o,n,e,_]:=pl;show Ax e
 exact call_any_walk (zaH pl.isList ?_);exact#[s.heap.objs.size,_,_,_,_,_,λ i=>bs.getD i true,rfl,Walks.list (A:=X.A.in1) (I.ok.hd hc) s.heap.objs.size p (AI Au) Aa.toArray,#[#[_,AK _ rfl,rfl,rfl],pl.isList.push _],λ i v s' Q' E' hv HM=>?_,λ h' tk hk=>?_]
 .rw[YT rv hv];show zaC HM
 .have e:(List.range Aa.toArray.size).any (λ i=>bs.getD i true)=bs.any id:=by rw[AB,<- hl,range_any]
  rw[e];show#[.bl _,H,I.kept (t':=tk) λ b o eo=>hk b o (by exists AI (Ax eo)) (za1 _ eo),rfl,q]
end
end L2
namespace L3
open PySem PySem.Spec L2
open PyProof.Rows hiding St
structure Bt (mg:AF):Prop where
 len:mg "len"=none
 range:mg "range"=none
 any:mg "any"=none
 all:mg "all"=none
 sorted:mg "sorted"=none
 isinstance:mg "isinstance"=none
 bool:mg "bool"=none
 int:mg "int"=none
 str:mg "str"=none
 list:mg "list"=none
 tuple:mg "tuple"=none
 max:mg "max"=none
 min:mg "min"=none
section
variable {X:Cx}{a e:Expr}{es:List Expr}{te:zv}{pos p:Pos}
def jE {N':List Str}{pick:List (Option Nat)}{scope esc:Scope}{N:List Str}(hE:X.env.scope=esc:=by rfl) (hN:X.N=N:=by rfl) (h1:scope.kind=.function:=by rfl)
  (h2:scope.names.all (λ y=>decide (scope.names.lookup y.1=↑y.2))=true:=by decide +kernel)
  (h4:scope.names.all (λ y=>!decide (y.2=.free)||(decide (esc.names.lookup y.1=↑.cell)||decide (esc.names.lookup y.1=↑.free)))=true:=by decide +kernel)
  (h5:pick.length=N'.length:=by rfl) (h6:ou N N' pick scope=true:=by decide +kernel):rL X N' pick scope:=by
 exact#[h1,λ y hy=>of_decide_eq_true (BA.mp h2 y hy),λ y hy hf=>?_,h5,by rw[hN];show h6];have:=BA.mp h4 y hy;rw[za2 hf] at this;rw[hE];exists this
def RC (i:Nat) {x:Str}(hN:X.N.Nodup) (hi:X.N[i]?=↑x) (hx:Loc X.env.scope x) (hf:X.fn x=true\/X.env.scope.names.lookup x=↑.local):vM X (.Name x pos) (hName i):=
 RD (TU hN hi hx hf)
def gR {k:Nat}{t:wu}{n:Nat}(h:pF X es t) (hc:X.calm=true) (hn:(assignEach es X.env).length=n) (AU:(assignEach es X.env).findIdx? (·.1)=none):vM X (.Tuple es k pos) (qZ n t):=
 RB (TQ hc h.pg hn AU) h.mo
def Rm (i:Nat) {x:Str}{pos':Pos}(hN:X.N.Nodup) (he:PD X e te) (hi:X.N[i]?=↑x) (hx:Loc X.env.scope x) (hs:swapsWith e ↑(.Name x pos') pos.line X.env=pure false)
  (hf:X.fn x=true\/X.env.scope.names.lookup x=↑.local):wy X (.Assign [.Name x pos'] e pos) (wX te (hName i)):=
 Rn (Tq hN hi hx he.pe hs hf) he.mo
def fF (te:zv):wF:=fun δ S R=>te δ S λ x S1=>match x with
 | .tup ds=>R #[ds,λ _=>True] S1
 | .xV ds=>R #[ds,λ _=>True] S1
 | .ref p=>match S1 p with
  | some (.lst ds)=>R #[ds,λ S=>S p=↑(.lst ds)] S1
  | _=>False
 | _=>False
def R4 {tg:Expr}(h:PD X e te):tw X tg e (fF te):=by
 exact#[fun δ S Q Q' hq z=>h.mo δ S _ _ (λ x S1 z=>?_) z,?_]
 .cases x with
  | ref p=>
   dsimp only at z ⊢;split at z
   .show hq _ _ z
   .show z.elim
  | xV ds=>show hq _ _ z
  | tup ds=>show hq _ _ z
  | _=>show z
 .exact PI.imp (TH h.pe) fun B H R hu=>?_
  let#[δ,S,r1,r2,z]:=hu;exact zN.go h.mo r1 r2 z λ x S1 v H1 h1 q1 e1 p1=>?_;cases x with
  | tup ds=>
   simp![zf] at q1;let#[a,xs,rfl,g1,g2]:=q1;exact#[a,rfl,.inr #[#[xs,g1],h1 _ H1 e1 p1 λ i H2 S2 x1 x2 _=>#[λ d hd=>?_,λ hl=>#[xs,x1.kC g1,by rw[<- g2.length];show hl]]]];let#[y,hy,_]:=g2.get hd;exact#[#[xs,y,x1.kC g1,hy],λ x H' q=>?_];let#[rfl,q]:=q;show#[.refl _,x2,(zm.ext x1 ds g2).at hd (q xs (x1.kC g1))]
  | ref p=>
   dsimp only at h1;split at h1
   .rename_i ds e2;simp![zf] at q1;subst q1;let#[xs0,g1,_]:=p1 _ _ e2;exact#[p,rfl,.inl #[#[xs0,zT.of g1],h1 _ H1 e1 p1 λ i H2 S2 x1 x2 hk=>?_]];let#[xs,g3,g4]:=x2 _ _ hk;exact#[λ d hd=>?_,λ hl=>#[xs,zT.of g3,by rw[<- g4.length];show hl]];let#[y,hy,_]:=g4.get hd;exact#[#[xs,y,zT.of g3,hy],λ x H' q=>?_];let#[rfl,q]:=q;show#[.refl _,x2,g4.at hd (q xs (zT.of g3))]
   .show h1.elim
  | xV ds=>
   simp![zf] at q1;let#[a,xs,rfl,g1,g2]:=q1;exact#[a,rfl,.inl #[#[xs,g1.sq],h1 _ H1 e1 p1 λ i H2 S2 x1 x2 _=>#[λ d hd=>?_,λ hl=>#[xs,(x1.kD g1).sq,by rw[<- g2.length];show hl]]]];let#[y,hy,_]:=g2.get hd;exact#[#[xs,y,(x1.kD g1).sq,hy],λ x H' q=>?_];let#[rfl,q]:=q;show#[.refl _,x2,(zm.ext x1 ds g2).at hd (q xs (x1.kD g1).sq)]
  | _=>show h1.elim
end
end L3
namespace L4
open PySem PySem.W PyProof.Rows
def yD {α:Type}(n:Nat) (lt:Nat->Nat->Bool):KasT α->(α->Prop)->Prop
 | .ret a,Q=>Q a
 | .ask i j k,Q=>i<n/\j<n/\yD n lt (k (lt i j)) Q
theorem yD.mono {α:Type}{n:Nat}{lt:Nat->Nat->Bool}{Q Q':α->Prop}(hq:∀ a,Q a->Q' a):∀ {t:KasT α},yD n lt t Q->yD n lt t Q'
 | .ret _,h=>hq _ h
 | .ask _ _ _,h=>#[h.1,h.2.1,yD.mono hq h.2.2]
theorem yD.bind {α β:Type}{n:Nat}{lt:Nat->Nat->Bool}{f:α->KasT β}{Q:β->Prop}:∀ {t:KasT α},yD n lt t (λ a=>yD n lt (f a) Q)->yD n lt (t.bind f) Q
 | .ret _,h=>h
 | .ask _ _ _,h=>#[h.1,h.2.1,yD.bind h.2.2]
section
variable {n:Nat}{lt:Nat->Nat->Bool}
def Le (lt:Nat->Nat->Bool) (a b:Nat):Prop:=lt b a=false
structure Ord (lt:Nat->Nat->Bool):Prop where
 tr:∀ a b c,Le lt a b->Le lt b c->Le lt a c
 as:∀ a b,lt a b=true->Le lt a b
def Ord.refl (o:Ord lt) (a:Nat):Le lt a a:=by
 cases h:lt a a with
 | false=>show h
 | true=>show o.as a a h
def x8 (n:Nat) (p:Array Nat):Prop:=p.Perm (List.range n).toArray
theorem x8.size {p:Array Nat}(h:x8 n p):p.size=n:=by rw[Array.Perm.size_eq h];simp
theorem x8.below {p:Array Nat}(h:x8 n p) {i:Nat}(hi:i<n):p.getD i 0<n:=by
 have hs:=h.size;have hm:p.getD i 0∈p:=by
  rw[DE,Bo ⋯];show Array.getElem_mem ⋯
 have:p.getD i 0∈(List.range n).toArray:=(Array.Perm.mem_iff h).mp hm;exists this
def mK {p q:Array Nat}{i j:Nat}(h:p[i]?=q[j]?):p.getD i 0=q.getD j 0:=by rw[DE,DE,h]
def vL (lt:Nat->Nat->Bool) (p:Array Nat) (k:Nat):Prop:=∀ i j,i<=j->j<k->Le lt (p.getD i 0) (p.getD j 0)
def sI (lt:Nat->Nat->Bool) (p:Array Nat) (k:Nat):Prop:=∀ i j,i<=j->j<k->Le lt (p.getD j 0) (p.getD i 0)
def vL.next (o:Ord lt) {p:Array Nat}{k:Nat}(h:vL lt p k) (hk:1<=k) (hl:Le lt (p.getD (k-1) 0) (p.getD k 0)):vL lt p (k+1):=λ i j Bi hj=>by
 by_cases EJ:j<k
 .show h i j Bi EJ
 .have e:j=k:=⋯;subst e;by_cases hi:i=j
  .subst hi;show o.refl _
  .show o.tr _ _ _ (h i (j-1) ⋯ ⋯) hl
def sI.next (o:Ord lt) {p:Array Nat}{k:Nat}(h:sI lt p k) (hk:1<=k) (hl:Le lt (p.getD k 0) (p.getD (k-1) 0)):sI lt p (k+1):=λ i j Bi hj=>by
 by_cases EJ:j<k
 .show h i j Bi EJ
 .have e:j=k:=⋯;subst e;by_cases hi:i=j
  .subst hi;show o.refl _
  .show o.tr _ _ _ hl (h i (j-1) ⋯ ⋯)
theorem dh (o:Ord lt) {p:Array Nat}(hp:x8 n p):∀ (f a:Nat),1<=a->a+f<=n->vL lt p a->
  yD n lt (kas_asc p f a) λ m=>a<=m/\m<=a+f/\vL lt p m/\(m=a+f\/lt (p.getD m 0) (p.getD (m-1) 0)=true)
 | 0,a,_,_,hs=>#[Aj _,Aj _,hs,.inl rfl]
 | f+1,a,h1,h2,hs=>by
  exact#[hp.below ⋯,hp.below ⋯,?_];cases c:lt (p.getD a 0) (p.getD (a-1) 0) with
  | true=>show#[Aj _,⋯,hs,.inr c]
  | false=>
   exact yD.mono ?_ (dh o hp f (a+1) ⋯ ⋯ (hs.next o h1 c));rintro m ⟨g1,g2,g3,g4⟩;show#[⋯,⋯,g3,g4.imp (λ e=>⋯) id]
def nL {p:Array Nat}(hp:x8 n p) (i j:Nat):x8 n (kas_rev p i j):=Array.Perm.trans (mirror_perm _ _ _ _) hp
theorem nM {p:Array Nat}(hp:x8 n p) {i j:Nat}(hj:j<=n) (k:Nat):(kas_rev p i j).getD k 0=if i<=k/\k<j then p.getD (i+j-1-k) 0 else p.getD k 0:=by
 have e:=getElem?_mirror_all (xs:=p) (i:=i) (j:=j) (by rw[hp.size];show hj) k;split
 .rename_i h;rw[if_pos h] at e;show mK e
 .rename_i h;rw[if_neg h] at e;show mK e
def rev_eq (o:Ord lt) {p:Array Nat}(hp:x8 n p) {i j:Nat}(hj:j<=n) (he:∀ a b,i<=a->a<j->i<=b->b<j->Le lt (p.getD a 0) (p.getD b 0)) (k:Nat):
  Le lt ((kas_rev p i j).getD k 0) (p.getD k 0)/\Le lt (p.getD k 0) ((kas_rev p i j).getD k 0):=by
 rw[nM hp hj];split
 .rename_i h;show#[he _ _ ⋯ ⋯ h.1 h.2,he _ _ h.1 h.2 ⋯ ⋯]
 .show#[o.refl _,o.refl _]
def sI.of_eq (o:Ord lt) {p q:Array Nat}{k:Nat}(h:sI lt p k) (e:∀ k,Le lt (q.getD k 0) (p.getD k 0)/\Le lt (p.getD k 0) (q.getD k 0)):sI lt q k:=λ i j Bi hj=>
 o.tr _ _ _ (e j).1 (o.tr _ _ _ (h i j Bi hj) (e i).2)
def ck (lt:Nat->Nat->Bool) (p:Array Nat) (m q:Nat):Prop:=∀ a b,m-(q+1)<=a->a<m->m-(q+1)<=b->b<m->Le lt (p.getD a 0) (p.getD b 0)
theorem jB (o:Ord lt):∀ (f:Nat) (p:Array Nat) (m q:Nat),x8 n p->1<=m->m+f<=n->sI lt p m->q+1<=m->ck lt p m q->
  yD n lt (kas_desc f p m q) λ r=>x8 n r.1/\m<=r.2.1/\r.2.1<=m+f/\sI lt r.1 r.2.1/\r.2.2+1<=r.2.1/\ck lt r.1 r.2.1 r.2.2
 | 0,p,m,q,hp,_,_,hd,hq,hb=>#[hp,Aj _,Aj _,hd,hq,hb]
 | f+1,p,m,q,hp,h1,h2,hd,hq,hb=>by
  have one:∀ p':Array Nat,ck lt p' (m+1) 0:=λ p' a b a1 a2 b1 b2=>by
   have:a=b:=⋯;subst this;show o.refl _
  exact#[hp.below ⋯,hp.below ⋯,?_];cases c:lt (p.getD m 0) (p.getD (m-1) 0) with
  | true=>
   dsimp only;rw[if_pos rfl];have hl:=o.as _ _ c;by_cases h0:q>0
   .rw[if_pos h0];have e:=rev_eq o hp (i:=m-(q+1)) (j:=m) ⋯ hb;have HV:=nL hp (m-(q+1)) m;exact yD.mono ?_ (jB o f _ (m+1) 0 HV ⋯ ⋯ ((hd.of_eq o e).next o h1 (o.tr _ _ _ (e m).1 (o.tr _ _ _ hl (e (m-1)).2))) ⋯ (one _));rintro r ⟨a1,a2,a3,a4⟩;show#[a1,⋯,⋯,a4]
   .rw[if_neg h0];exact yD.mono ?_ (jB o f _ (m+1) 0 hp ⋯ ⋯ (hd.next o h1 hl) ⋯ (one _));rintro r ⟨a1,a2,a3,a4⟩;show#[a1,⋯,⋯,a4]
  | false=>
   dsimp only;rw[if_neg BL];exact#[hp.below ⋯,hp.below ⋯,?_];cases d:lt (p.getD (m-1) 0) (p.getD m 0) with
   | true=>show#[hp,Aj _,(by change m<=m+(f+1);lia),hd,hq,hb]
   | false=>
    dsimp only;rw[if_neg BL];exact yD.mono ?_ (jB o f _ (m+1) (q+1) hp ⋯ ⋯ (hd.next o h1 d) ⋯ λ a b a1 a2 b1 b2=>?_)
    .rintro r ⟨a1,a2,a3,a4⟩;show#[a1,⋯,⋯,a4]
    .by_cases ha:a=m
     .by_cases hb':b=m
      .subst ha;subst hb';show o.refl _
      .subst ha;show o.tr _ _ _ d (hb (a-1) b ⋯ ⋯ ⋯ ⋯)
     .by_cases hb':b=m
      .subst hb';show o.tr _ _ _ (hb a (b-1) ⋯ ⋯ ⋯ ⋯) c
      .show hb a b ⋯ ⋯ ⋯ ⋯
theorem cO (o:Ord lt) {p:Array Nat}{m:Nat}(hp:x8 n p) (h1:1<=m) (h2:m<=n) (hd:sI lt p m):yD n lt (kas_tail3 m n p) λ r=>x8 n r.2/\r.1<=n/\vL lt r.2 r.1:=by
 exact yD.bind (yD.mono ?_ (dh o (nL hp 0 m) (n-m) m h1 ⋯ λ i j Bi hj=>?_))
 .rintro k ⟨a1,a2,a3,_⟩;show#[nL hp 0 m,⋯,a3]
 .rw[nM hp h2,nM hp h2,if_pos #[AW _,⋯],if_pos #[AW _,hj]];show hd _ _ ⋯ ⋯
theorem Yo (o:Ord lt) {p:Array Nat}{m:Nat}(hp:x8 n p) (h1:1<=m) (h2:m<n) (hd:sI lt p m) (hl:lt (p.getD m 0) (p.getD (m-1) 0)=true):yD n lt (kas_descPart m n p) λ r=>x8 n r.2/\r.1<=n/\vL lt r.2 r.1:=by
 exact yD.bind (yD.mono ?_ (jB o (n-(m+1)) p (m+1) 0 hp ⋯ ⋯ (hd.next o h1 (o.as _ _ hl)) ⋯ λ a b a1 a2 b1 b2=>?_))
 .rintro⟨p',m',q'⟩ ⟨a1,a2,a3,a4,a5,a6⟩;dsimp only at a1 a2 a3 a4 a5 a6 ⊢;by_cases h0:q'>0
  .rw[if_pos h0];show cO o (nL a1 _ _) ⋯ ⋯ (a4.of_eq o (rev_eq o a1 (i:=m'-(q' + 1)) (j:=m') ⋯ a6))
  .rw[if_neg h0];show cO o a1 ⋯ ⋯ a4
 .have:a=b:=⋯;subst this;show o.refl _
theorem KL (o:Ord lt) {p:Array Nat}(hp:x8 n p) (h1:1<=n):yD n lt (kas_count n p) λ r=>x8 n r.2/\r.1<=n/\vL lt r.2 r.1:=by
 exact yD.bind (yD.mono ?_ (dh o hp (n-1) 1 (Aj _) ⋯ λ i j Bi hj=>?_))
 .rintro m ⟨a1,a2,a3,a4⟩;by_cases hm:m=n
  .rw[if_pos (by simp[hm])];show#[hp,⋯,a3]
  .rw[if_neg (by simp[hm])];have hl:lt (p.getD m 0) (p.getD (m-1) 0)=true:=a4.resolve_left ⋯;by_cases h2:m>1
   .rw[if_pos h2];exact#[hp.below ⋯,hp.below ⋯,?_];cases c:lt (p.getD 0 0) (p.getD (m-1) 0) with
    | true=>show#[hp,⋯,a3]
    | false=>
     dsimp only;rw[if_neg BL];have all:∀ a b,0<=a->a<m->0<=b->b<m->Le lt (p.getD a 0) (p.getD b 0):=λ a b _ ha _ hb=>
      o.tr _ _ _ (a3 a (m-1) ⋯ ⋯) (o.tr _ _ _ c (a3 0 b ⋯ hb))
     have e:=rev_eq o hp (i:=0) (j:=m) ⋯ all;exact Yo o (nL hp 0 m) ⋯ ⋯ (λ i j Bi hj=>o.tr _ _ _ (e j).1 (o.tr _ _ _ (all _ _ (AW _) hj (AW _) ⋯) (e i).2)) ?_;rw[nM hp ⋯,nM hp ⋯,if_neg ⋯,if_pos ⋯];cases q:lt (p.getD m 0) (p.getD (0+m-1-(m-1)) 0) with
     | true=>rfl
     | false=>
      have:=o.tr _ _ _ (all (m-1) (0+m-1-(m-1)) (AW _) ⋯ (AW _) ⋯) q;unfold Le at this;rw[this] at hl;cases hl
   .rw[if_neg h2];have e:m=1:=⋯;subst e;exact Yo o hp (Aj _) ⋯ (λ i j Bi hj=>?_) hl;have:i=j:=⋯;subst this;show o.refl _
 .have:i=j:=⋯;subst this;show o.refl _
theorem gN {p:Array Nat}{k:Nat}(hp:x8 n p) (hk:k<n) (hs:vL lt p k) (o:Ord lt):∀ (f l r:Nat),r-l<=f->l<=r->r<=k->(∀ i,i<l->Le lt (p.getD i 0) (p.getD k 0))->(∀ i,r<=i->i<k->lt (p.getD k 0) (p.getD i 0)=true)->
  yD n lt (kas_place p k f l r) λ m=>m<=k/\(∀ i,i<m->Le lt (p.getD i 0) (p.getD k 0))/\(∀ i,m<=i->i<k->lt (p.getD k 0) (p.getD i 0)=true)
 | 0,l,r,h0,h1,h2,ha,hb=>by
  have:l=r:=⋯;subst this;show#[h2,ha,hb]
 | f+1,l,r,h0,h1,h2,ha,hb=>by
  unfold kas_place;by_cases CI:l≥r
  .rw[if_pos CI];have:l=r:=⋯;subst this;show#[h2,ha,hb]
  .rw[if_neg CI];exact#[hp.below hk,hp.below ⋯,?_];cases c:lt (p.getD k 0) (p.getD ((l+r)/2) 0) with
   | true=>
    dsimp only;rw[if_pos rfl];exact gN hp hk hs o f l ((l+r)/2) ⋯ ⋯ ⋯ ha λ i hi DT=>?_;cases q:lt (p.getD k 0) (p.getD i 0) with
    | true=>rfl
    | false=>
     have:=o.tr _ _ _ (hs ((l+r)/2) i hi DT) q;unfold Le at this;rw[this] at c;cases c
   | false=>
    dsimp only;rw[if_neg BL];exact gN hp hk hs o f ((l+r)/2+1) r ⋯ ⋯ h2 (λ i hi=>?_) hb;show o.tr _ _ _ (hs i ((l+r)/2) ⋯ ⋯) c
theorem Xe (o:Ord lt):∀ (f:Nat) (p:Array Nat) (k:Nat),x8 n p->k+f=n->vL lt p k->yD n lt (kas_bin f p k) λ r=>x8 n r/\vL lt r n
 | 0,p,k,hp,h1,hs=>by
  have:k=n:=⋯;subst this;show#[hp,hs]
 | f+1,p,k,hp,h1,hs=>by
  exact yD.bind (yD.mono ?_ (gN hp ⋯ hs o k 0 k ⋯ (AW _) (Aj _) (λ i hi=>absurd hi (Nat.not_lt_zero _)) λ i hi DT=>absurd DT ⋯));rintro l ⟨a1,a2,a3⟩;exact Xe o f _ (k+1) (Array.Perm.trans (bubble_perm _ _ _) hp) ⋯ λ i j Bi hj=>?_;have ev:∀ x,(bubble p k (k-l)).getD x 0=if x=l then p.getD k 0 else if l<x/\x<=k then p.getD (x-1) 0 else p.getD x 0:=λ x=>by
   have e:=getElem?_bubble (xs:=p) (src:=k) (by rw[hp.size];lia) (k-l) ⋯ x;rw[show k-(k-l)=l by lia] at e;split
   .rename_i h;rw[if_pos h] at e;show mK e
   .rename_i h;rw[if_neg h] at e;split
    .rename_i h';rw[if_pos h'] at e;show mK e
    .rename_i h';rw[if_neg h'] at e;show mK e
  rw[ev i,ev j];by_cases hi:i=l
  .rw[if_pos hi];by_cases Hg:j=l
   .rw[if_pos Hg];show o.refl _
   .rw[if_neg Hg,if_pos #[⋯,⋯]];show o.as _ _ (a3 (j-1) ⋯ ⋯)
  .rw[if_neg hi];by_cases Hg:j=l
   .rw[if_pos Hg,if_neg ⋯];show a2 i ⋯
   .rw[if_neg Hg];by_cases hi2:l<i/\i<=k
    .rw[if_pos hi2,if_pos #[⋯,⋯]];show hs _ _ ⋯ ⋯
    .rw[if_neg hi2];by_cases hj2:l<j/\j<=k
     .rw[if_pos hj2];show hs _ _ ⋯ ⋯
     .rw[if_neg hj2];show hs _ _ Bi ⋯
theorem Ur (o:Ord lt) (h1:1<=n):yD n lt (kas_sort n) λ r=>x8 n r/\vL lt r n:=by
 have hp:x8 n (List.range n).toArray:=Array.Perm.refl _;exact yD.bind (yD.mono ?_ (KL o hp h1));rintro⟨m,p⟩ ⟨a1,a2,a3⟩;dsimp only at a1 a2 a3 ⊢;by_cases hm:m<n
 .rw[if_pos hm];exact Xe o _ p (max m 1) a1 ⋯ ?_;by_cases h0:m=0
  .subst h0;intro i j Bi hj;have:i=j:=⋯;subst this;show o.refl _
  .rw[show max m 1=m by lia];show a3
 .rw[if_neg hm];have:m=n:=⋯;subst this;show#[a1,a3]
end
end L4
namespace L4
open PySem PySem.W PySem.Calls PyProof.Rows
section
variable {prog:Program}{w:World}{A:Around}{E:Ai}{s:Shared}
def Core (prog:Program) (w:World) (A:Around) (E:Ai) (vs:Ah) (Out:Array Value->Prop) (s6:Shared):Prop:=
 wpAny (model prog w) A (keyKind' vs.toArray) (fun κ s'=>s'=s6/\wpAny (model prog w) A ((sortRuns').run (SortSt.mk' κ (vs.toArray.zip vs.toArray) [].toArray 7 none))
  (λ r HJ=>HJ=s6/\failedOf r.2=none/\Out ((arrOf r.2).map (·.2))/\(arrOf r.2).size=vs.length) E s') E s6
def Mt {a:Addr}{vs:Ah}{n:Nat}{P:PySem.Fin->Shared->Prop}{Out:Array Value->Prop}(ho:s.heap.get? a=↑(seqObj "list" vs.toArray n)) (hz:vs.length<=sizeLine)
  (core:2<=vs.length->∀ s6:Shared,(∀ b o,b≠a->s.heap.get? b=↑o->s6.heap.get? b=↑o)->Core prog w A E vs Out s6) (short:vs.length<2->Out vs.toArray)
  (fin:∀ out:Array Value,Out out->out.size=vs.length->P (.done (.ret .none)) { s with heap:=sortedHeap s.heap a vs out }):
  wpAny (model prog w) A (Builtin.«list.sort» #[[.ref a],[]]) P E s:=by
 have ha:a<s.heap.objs.size:=Ax ho;obtain⟨e1,g1⟩:∃ e1,(s.heap.update a (Obj.mapSeq λ _=>[].toArray)).get? a=↑(seqObj "list" [].toArray e1):=#[_,get?_update_seq ho (λ _=>[].toArray)];have hz':vs.toArray.size<=sizeLine:=by rw[AB];show hz
 have g6:(((s.heap.update a (Obj.mapSeq λ _=>[].toArray)).push (seqObj "tuple" vs.toArray 0)).push (seqObj "list" [].toArray 0)).get? a=↑(seqObj "list" [].toArray e1):=za1 _ (za1 _ g1);have keep:∀ b o,b≠a->s.heap.get? b=↑o->(((s.heap.update a (Obj.mapSeq λ _=>[].toArray)).push (seqObj "tuple" vs.toArray 0)).push (seqObj "list" [].toArray 0)).get? b=↑o:=
  λ b o hb e=>za1 _ (za1 _ (by rw[zaN _ _ _ _ hb];show e))
 rw[list_sort_plain];exact gV (listItems_at ho rfl (gV (listUpdate_at ho rfl (gV (seqEpoch_at g1 rfl (gV (wpAny_newTuple (gV (wpAny_newList (za6 ?_))) (by exists hz))))) hz' (AW _))));by_cases h2:vs.toArray.size<2
 .rw[if_pos h2,if_pos h2];have e2:(arrOf (SortSt.mk' general' (vs.toArray.zip vs.toArray) [].toArray 7 none)).map (·.2)=vs.toArray:=by
   change (vs.toArray.zip vs.toArray).map (·.2)=vs.toArray;apply Array.ext #[];intro i h1 h2;simp
  exact gV (Ad ?_);dsimp only;rw[StateT.run_pure];exact gV (Ad ?_);dsimp only;exact gV (seqEpoch_at g6 rfl (gV (listUpdate_at g6 rfl ?_ (AW _) ?_)))
  .simp![bne_self_eq_false,Bm,if_false];have q:=fin _ (e2▸short (by exists h2)) (by rw[e2];simp);show Ad q
  .change (((arrOf (SortSt.mk' general' (vs.toArray.zip vs.toArray) [].toArray 7 none)).map (·.2))).size<=sizeLine+1;rw[e2];lia
 .rw[if_neg h2,if_neg h2];have h2':2<=vs.length:=by exists h2
  exact gV (za5 (core h2' _ keep) (fun κ s7 #[hs,h7]=>?_) λ _ _ z=>z);subst hs;exact gV (za5 h7 (λ r s8 #[hs,hf,Eu,hsz]=>?_) λ _ _ z=>z);subst hs;obtain⟨⟨⟩,st⟩:=r;exact gV (seqEpoch_at g6 rfl (gV (listUpdate_at g6 rfl ?_ (AW _) ?_)))
  .have GZ:failedOf st=none:=hf;rw[GZ];simp![bne_self_eq_false,Bm,if_false];show Ad (fin _ Eu (by rw[C7];show hsz))
  .change ((arrOf st).map (·.2)).size<=sizeLine+1;rw[C7];have:(arrOf st).size=vs.length:=hsz;lia
def Uq {h:Heap}{vs:Ah}(out:Az):∃ e,(sortedHeap (h.push (seqObj "list" vs.toArray 0)) h.objs.size vs out).get? h.objs.size=↑(seqObj "list" out e):=by
 have there:(h.push (seqObj "list" vs.toArray 0)).get? h.objs.size=↑(seqObj "list" vs.toArray 0):=AK _ rfl;show#[_,get?_update_seq (za1 _ (za1 _ (get?_update_seq there λ _=>[].toArray))) λ _=>out]
def cV {a:Addr}{vs:Ah}{Q:Ai}{Out:Array Value->Prop}{N:Addr->Prop}
  (C:∀ Q':List Value->Shared->Prop,(∀ h1 tk,(∀ b o,¬ N b->s.heap.get? b=↑o->h1.get? b=↑o)->s.heap.objs.size<=h1.objs.size->Q' vs { s with heap:=h1,toks:=tk })->wpAny (model prog w) A.in1 (collect (.ref a)) Q' E s) (hz:vs.length<=sizeLine)
  (core:2<=vs.length->∀ s6:Shared,(∀ b o,¬ N b->s.heap.get? b=↑o->s6.heap.get? b=↑o)->Core prog w A.in1.in1 E vs Out s6) (short:vs.length<2->Out vs.toArray)
  (fin:∀ (out:Az) (h':Heap) (tk l:Nat),Out out->out.size=vs.length->s.heap.objs.size<=l->(∀ b o,¬ N b->s.heap.get? b=↑o->h'.get? b=↑o)->(∃ e,h'.get? l=↑(seqObj "list" out e))->Q (.ref l) { s with heap:=h',toks:=tk }):
  wpAny (model prog w) A (call (.builtin "sorted") [.ref a]) Q E s:=by
 exact Calls.call_function_entry kind_sorted plain_sorted entry_sorted (args_sorted1 _) ?_;unfold Builtin.«sorted»;exact gV (m:=checkCount "sorted" 1 1 _) (Ad (gV (C _ λ h1 tk k1 k2=>gV (wpAny_newList ?_ hz))));have hoL:(h1.push (seqObj "list" vs.toArray 0)).get? h1.objs.size=↑(seqObj "list" vs.toArray 0):=AK _ rfl;change wpAny _ _ _ _ _ { s with heap:=h1.push (seqObj "list" vs.toArray 0),toks:=tk };exact gV (za6 (za7 slot_list_sort #[_,hoL,rfl] entry_list_sort (Mt hoL hz (λ h2 s6 k=>core h2 s6 λ b o n q=>k b o (AI (Ax (k1 b o n q))) (za1 _ (k1 b o n q))) short λ out g1 g2=>#[_,rfl,?_]) (args_list_sort _)));exact Ad #[_,rfl,fin out _ tk h1.objs.size g1 g2 k2 (λ b o n q=>?_) (Uq out)];have q1:=k1 b o n q;have hb:=AI (Ax q1);unfold sortedHeap;rw[zaN _ _ _ _ hb];exact za1 _ (za1 _ ?_);rw[zaN _ _ _ _ hb];show za1 _ q1
end
end L4
namespace L4
open PySem PySem.W PySem.Calls PyProof.Rows L2
theorem fB:∀ a b:List Int,HT.lexLt a b=true->HT.lexLt b a=false
 | [],[],h=>by cases h
 | [],_::_,_=>rfl
 | _::_,[],h=>by cases h
 | x::a,y::b,h=>by
  rw[HT.r_] at h ⊢;by_cases e:x=y
  .subst e;rw[if_pos rfl] at h ⊢;show fB a b h
  .rw[if_neg e] at h;rw[if_neg (Ne.symm e)];have:=of_decide_eq_true h;show za3 ⋯
theorem Za:∀ a b:List Int,HT.lexLt a b=false->HT.lexLt b a=false->a=b
 | [],[],_,_=>rfl
 | [],_::_,h,_=>by cases h
 | _::_,[],_,h=>by cases h
 | x::a,y::b,h,h'=>by
  rw[HT.r_] at h h';by_cases e:x=y
  .subst e;rw[if_pos rfl] at h h';rw[Za a b h h']
  .rw[if_neg e] at h;rw[if_neg (Ne.symm e)] at h';have h1:=of_decide_eq_false h;have h2:=of_decide_eq_false h';lia
theorem fA:∀ a b c:List Int,HT.lexLt b a=false->HT.lexLt c b=false->HT.lexLt c a=false
 | [],[],[],_,_=>rfl
 | [],[],_::_,_,h=>h
 | [],_::_,[],_,h=>by cases h
 | [],_::_,_::_,_,_=>rfl
 | _::_,[],_,h,_=>by cases h
 | _::_,_::_,[],_,h=>by cases h
 | x::a,y::b,z::c,h,h'=>by
  rw[HT.r_] at h h' ⊢;by_cases e1:y=x
  .subst e1;rw[if_pos rfl] at h;by_cases e2:z=y
   .subst e2;rw[if_pos rfl] at h' ⊢;show fA a b c h h'
   .rw[if_neg e2] at h' ⊢;show h'
  .rw[if_neg e1] at h;have h1:=of_decide_eq_false h;by_cases e2:z=y
   .subst e2;rw[if_neg e1];show h
   .rw[if_neg e2] at h';have h2:=of_decide_eq_false h';rw[if_neg ⋯];show za3 ⋯
theorem gQ {α:Type}{r:α->α->Prop}(an:∀ a b,r a b->r b a->a=b):∀ {l₁ l₂:List α},l₁.Perm l₂->l₁.Pairwise r->l₂.Pairwise r->l₁=l₂
 | [],l₂,h,_,_=>(List.nil_perm.mp h).symm
 | a::l₁,[],h,_,_=>absurd (List.perm_nil.mp h) #[]
 | a::l₁,b::l₂,h,h1,h2=>by
  have BF:a=b:=by
   have ha:a∈b::l₂:=h.mem_iff.mp Ar;have hb:b∈a::l₁:=h.mem_iff.mpr Ar;rcases Am.mp ha with e | ha
   .show e
   .rcases Am.mp hb with e | hb
    .show e.symm
    .show an _ _ (List.rel_of_pairwise_cons h1 hb) (List.rel_of_pairwise_cons h2 ha)
  subst BF;rw[gQ an (List.Perm.cons_inv h) (Bs.mp h1).2 (Bs.mp h2).2]
def xI (rows:List (List Int)):List (List Int):=rows.mergeSort λ a b=>!HT.lexLt b a
def tL (rows:List (List Int)):(xI rows).Perm rows:=List.mergeSort_perm _ _
def kE (rows:List (List Int)):(xI rows).Pairwise λ a b=>HT.lexLt b a=false:=by
 have:=List.pairwise_mergeSort (le:=λ a b:List Int=>!HT.lexLt b a) (λ a b c h1 h2=>by simp at h1 h2 ⊢;show fA a b c h1 h2)
  (λ a b=>by
   cases h:HT.lexLt b a with
   | false=>simp
   | true=>simp[fB b a h]) rows
 show this.imp λ h=>by exists h
def cW {rows out:List (List Int)}(hp:out.Perm rows) (hs:out.Pairwise λ a b=>HT.lexLt b a=false):out=xI rows:=
 gQ (λ a b h1 h2=>Za a b h2 h1) (hp.trans (tL rows).symm) hs (kE rows)
def nK (rows:List (List Int)) (i j:Nat):Bool:=HT.lexLt (rows.getD i []) (rows.getD j [])
def UI (rows:List (List Int)):Ord (nK rows):=#[λ _ _ _ h1 h2=>fA _ _ _ h1 h2,λ _ _ h=>fB _ _ h]
section
variable {prog:Program}{w:World}{A:Around}{E:Ai}{s:Shared}{Q:Bool->Shared->Prop}
theorem Zm {b:Bool}:∀ (ns ms:List Int) (us ws:Ah) (i:Nat),IntsAre us ns->IntsAre ws ms->Q (HT.lexLt ns ms) s->KatLex prog w A b (decide (ns.length<ms.length)) Q (us.zip ws) i s
 | [],[],_,_,_,.nil,.nil,h=>kat_nil (by simpa [HT.lexLt] using h)
 | [],_::_,_,_,_,.nil,.cons _ _ _,h=>kat_nil (by simpa [HT.lexLt] using h)
 | _::_,[],_,_,_,.cons _ _ _,.nil,h=>kat_nil (by simpa [HT.lexLt] using h)
 | n::ns,m::ms,_,_,i,.cons _ t hu,.cons _ u hw,h=>by
  rw[HT.r_] at h;exact kat_cons (SeqAt.EqAt.int_int n t m u prog w _ _ (kat_go (λ e=>kat_yes ?_) λ e=>kat_no ?_))
  .have e':n=m:=by exists e
   rw[if_pos e'] at h;rw[show decide ((n::ns).length<(m::ms).length)=decide (ns.length<ms.length) by simp];show Zm ns ms _ _ (i+1) hu hw h
  .have e':¬ n=m:=by exists e
   rw[if_neg e'] at h;cases b&&i == 0 with
   | true=>show kat_lt_int h
   | false=>show kat_one _ _ (lt_int h)
def pD (h:Heap):List Value->List (List Int)->Prop:=Paired λ v r=>r≠[]/\∃ b o Aa n,v=.ref b/\h.get? b=↑o/\o.cls=.type "tuple"/\o.data=.seq Aa n/\IntsAre Aa.toList r
theorem pD.ZW {h:Heap}:∀ {vs:Ah}{rows:List (List Int)},pD h vs rows->∃ fs,KatTups h vs fs/\fs.length=vs.length/\∀ v∈fs,∃ n t,v=Value.int n t
 | _,_,.nil=>#[[],KatTups.nil,rfl,λ _ hv=>absurd hv #[]]
 | _,_,.cons #[Av,b,o,Aa,n,hv,ho,hc,hd,hi] r=>by
  let#[fs,h1,h2,h3]:=pD.ZW r;subst hv;let#[Aa]:=Aa;cases hi with
  | nil=>show absurd rfl Av
  | cons k t _=>show#[.int k t::fs,KatTups.cons ho hc hd rfl h1,by simp[h2],λ v hv=>(Am.mp hv).elim (λ e=>#[k,t,e]) (h3 v)]
theorem Paired.at' {α β:Type}{F:α->β->Prop}:∀ {l₁:List α}{l₂:List β}{i:Nat},Paired F l₁ l₂->i<l₁.length->∀ (d:α) (e:β),F (l₁.getD i d) (l₂.getD i e)
 | _,_,_,.nil,h,_,_=>absurd h #[]
 | _,_,0,.cons r _,_,_,_=>r
 | _,_,i+1,.cons _ t,h,d,e=>by exists Paired.at' (i:=i) t (by exists h) d e
def pD.ask {vs:Ah}{rows:List (List Int)}{b:Bool}(r:pD s.heap vs rows) {i j:Nat}(hi:i<vs.length) (hj:j<vs.length) {C:Bool->Shared->Prop}(h:C (nK rows i j) s):kas_ask prog w A (tuples' b) vs i j C s:=by
 let#[_,b1,o1,its1,n1,e1,g1,_,d1,q1]:=Paired.at' r hi Value.none [];let#[_,b2,o2,FL,n2,e2,g2,_,d2,q2]:=Paired.at' r hj Value.none [];unfold kas_ask;rw[e1,e2];exact kat_lt g1 d1 g2 d2 ?_;have l1:=q1.length;have l2:=q2.length;rw[Bw] at l1 l2;rw[l1,l2];show Zm _ _ _ _ 0 q1 q2 h
theorem cz {α:Type}{n:Nat}{lt:Nat->Nat->Bool}{cmp:Nat->Nat->(Bool->Shared->Prop)->Shared->Prop}{Q:α->Shared->Prop}(hc:∀ i j C,i<n->j<n->C (lt i j) s->cmp i j C s):∀ {t:KasT α},yD n lt t (λ a=>Q a s)->t.kasWp cmp Q s
 | .ret _,h=>h
 | .ask i j _,h=>hc i j _ h.1 h.2.1 (cz hc h.2.2)
def dv (vs:Ah) (rows:List (List Int)) (out:Az):Prop:=
 ∃ ps:List (Value×List Int),ps.Perm (vs.zip rows)/\out.toList=ps.map (·.1)/\(ps.map (·.2)).Pairwise λ a b=>HT.lexLt b a=false
theorem Vm {α β:Type}{l:List α}{m:List β}(h:l.length=m.length) (a:α) (b:β):(List.range l.length).map (λ i=>(l.getD i a,m.getD i b))=l.zip m:=by
 exact C6 (by simp;lia) λ i h1 h2=>?_;have h3:i<l.length/\i<m.length:=by simp at h1;lia
 simp[h3.1,h3.2]
theorem Um {rows:List (List Int)}{p:Array Nat}{n:Nat}(hn:p.size=n) (h:vL (nK rows) p n):(p.toList.map λ i=>rows.getD i []).Pairwise λ a b=>HT.lexLt b a=false:=by
 rw[C5,C4];intro i j hi hj Bi;have:=h i j (Bv Bi) (by rw[<- hn];exists hj);simp![Bw] at hi hj;unfold Le nK at this;simpa [DE,hi,hj] using this
theorem KN {vs:Ah}{rows:List (List Int)}(r:pD s.heap vs rows) (h2:2<=vs.length) (GF:vs.length<64):Core prog w A E vs (dv vs rows) s:=by
 let#[fs,t,hl,hf]:=r.ZW;unfold Core;exact kat_kind (T:=.type "int") t ⋯ (λ v hv=>?_) rfl #[rfl,?_]
 .let#[n,t,rfl]:=hf v hv;show Looks.of_pure rfl
 .exact kat_run (ks:=vs) (Q:=λ st HJ=>HJ=s/\failedOf st=none/\dv vs rows ((arrOf st).map (·.2))/\(arrOf st).size=vs.length) (G:=λ p HJ=>HJ=s/\x8 vs.length p/\vL (nK rows) p vs.length) rfl h2 GF (λ p st s' hs ha EM hg=>?_) ?_
  .let#[h1,h3,h4]:=hg;exact#[h1,EM,#[p.toList.map λ i=>(vs.getD i Value.none,rows.getD i []),?_,?_,?_],by rw[ha,C7];show hs]
   .rw[<- Vm (Paired.length r) Value.none []];have:=Array.Perm.toList h3;show List.Perm.map _ (by exists this)
   .rw[kat_snds rfl ha,A2];rfl
   .rw[A2];show Um hs h4
  .show cz (λ i j C hi hj hC=>r.ask hi hj hC) (yD.mono (λ p hp=>#[rfl,hp]) (Ur (UI rows) ⋯))
end
section
variable {X:Cx}
def Paired.perm {α β:Type}{F:α->β->Prop}{l l':List α}(p:l'.Perm l):∀ {m:List β},Paired F l m->∃ m',m'.Perm m/\Paired F l' m':=by
 induction p with
 | nil=>intro m h;show#[m,.refl _,h]
 | cons x _ ih=>
  intro m h;cases h with
  | cons a h=>
   let#[m',h1,h2]:=ih h;show#[_,h1.cons _,.cons a h2]
 | swap x y l=>
  intro m h;cases h with
  | cons a h=>
   cases h with
   | cons b h=>show#[_,.swap _ _ _,.cons b (.cons a h)]
 | trans _ _ ih1 ih2=>
  intro m h;let#[m1,h1,h2]:=ih2 h;let#[m2,h3,h4]:=ih1 h2;show#[m2,h3.trans h1,h4]
abbrev Xt (K:Ac) (H:Hp) (v:V) (r:List Int):Prop:=r≠[]/\∃ b,v=V.ref b/\zX K H b (r.map V.int)
abbrev qw (K:Ac) (H:Hp) (ys:List V) (rows:List (List Int)):Prop:=Paired (Xt K H) ys rows
abbrev VR (K:Ac) (H:Hp):List Value->List (V×List Int)->Prop:=Paired λ u q=>RelV q.1 u/\Xt K H q.1 q.2
theorem VR.of {K:Ac}{H:Hp}:∀ {ys:List V}{vs:Ah}{rows:List (List Int)},Vals ys vs->qw K H ys rows->VR K H vs (ys.zip rows)
 | _,_,_,.nil,.nil=>.nil
 | _,_,_,.cons r t,.cons r' t'=>.cons #[r,r'] (VR.of t t')
abbrev lG (qs:List (V×List Int)) (H:Hp) (Q:VK):Prop:=∀ p (ps:List (V×List Int)),H p=none->ps.Perm qs->(ps.map (·.2)).Pairwise (λ a b=>HT.lexLt b a=false)->Q (.ref p) (upd H p (.lst (ps.map (·.1))))
def gm {EY:Ak}{B:L2.St}{H:Hp}{s:Shared}{a:Addr}{vs:Ah}{qs:List (V×List Int)}{Q:VK}(I:Inv X EY B H s)
  (C:∀ Q':List Value->Shared->Prop,(∀ h1 tk,(∀ b o,¬ False->s.heap.get? b=↑o->h1.get? b=↑o)->s.heap.objs.size<=h1.objs.size->Q' vs { s with heap:=h1,toks:=tk })->wpAny (model X.prog X.w) X.A.in1 (collect (.ref a)) Q' X.xe s)
  (hv:VR X.K H vs qs) (GF:qs.length<64) (q:lG qs H Q):wpAny (model X.prog X.w) X.A (call (.builtin "sorted") [.ref a]) (EP X EY B Q) X.xe s:=by
 have hl:vs.length=qs.length:=Paired.length hv;have hz:qs.length<=sizeLine:=AY (Bv GF) ();have G6:∀ h6:Heap,(∀ b o,¬ False->s.heap.get? b=↑o->h6.get? b=↑o)->pD h6 vs (qs.map (·.2)):=λ h6 k=>by
  clear q hl GF hz C
  induction hv with
  | nil=>show .nil
  | cons g t ih=>
   exact .cons ?_ ih;let#[r1,Av,b,e1,hb]:=g;rw[e1] at r1;cases r1;let#[FL,rv2,#[o,e,hc,n,hd],_]:=I.tuple hb;show#[Av,b,o,_,n,rfl,k _ _ id e,hc,hd,by exists intsAre_of rv2]
 exact cV (Out:=dv vs (qs.map (·.2))) C ⋯ (λ h2 s6 k=>KN (G6 _ k) h2 ⋯) (λ h1=>#[vs.zip (qs.map (·.2)),.refl _,by rw[List.map_fst_zip (by simp;lia)],?_]) λ out h' tk p ho hs hp k EX=>?_
 .rw[List.map_snd_zip (by simp;lia),C4];intro i j hi hj Bi;simp at hi hj;lia
 .let#[ps,g1,g2,g3]:=ho;let#[e,he]:=EX;have z:Paired (λ p q=>RelV q.1 p.1/\p.2=q.2) (vs.zip (qs.map (·.2))) qs:=by
   clear g1 hs hl GF hz C G6 q
   induction hv with
   | nil=>show .nil
   | cons a _ ih=>show .cons #[a.1,rfl] ih
  let#[HK,q1,q2]:=Paired.perm g1 z;have f:Vals (HK.map (·.1)) (ps.map (·.1))/\HK.map (·.2)=ps.map (·.2):=by
   clear q1 g1 g2 g3
   induction q2 with
   | nil=>show#[.nil,rfl]
   | cons a _ ih=>show#[.cons a.1 ih.1,by rw[Aw,Aw,ih.2,a.2]]
  exact#[.ref p,_,I.laid (t':=tk) (o:=.lst (HK.map (·.1))) (λ b o e=>k b o id e) hp #[?_,out.toList,e,by rw[g2];show f.1,by exists he],rfl,q p HK (I.zw.fresh hp) q1 (by rw[f.2];show g3)];rw[AA,q1.length_eq];show hz
end
end L4
namespace L2
open PySem PySem.Spec PyProof.Rows
def uV (ty T:String):Bool:=ty == T||(ty == "bool"&&T == "int")
def ku (ty T:String):Bool:=PySem.W.kitMeta T&&decide ((fastBuiltinMro ty).map (λ l=>l.contains (Value.type T))=↑(uV ty T))
def V4:(["NoneType","bool","int","str","tuple","list","dict"].all λ ty=>["int","bool","tuple","list","str"].all λ T=>ku ty T)=true:=by decide +kernel
def ME {K:Ac}{ty T:String}(h:ku ty T=true):PySem.W.kitOne K (.type ty) (.type T)=↑(uV ty T):=by
 unfold ku at h;rw[Cd] at h;unfold PySem.W.kitOne;split
 .rename_i e;have e':ty=T:=by have:=eq_of_beq e;injection this
  subst e';simp[uV]
 .change (if PySem.W.kitMeta T=true then PySem.W.subIn K (.type ty) (.type T) else none)=_;rw[if_pos h.1];show of_decide_eq_true h.2
def Xs (K:Ac) (H:Hp):V->String->Prop
 | .zp,t=>t="NoneType"
 | .bl _,t=>t="bool"
 | .int _,t=>t="int"
 | .str _,t=>t="str"
 | .ref a,t=>(t="tuple"/\∃ xs,zX K H a xs)\/(t="list"/\∃ xs,zT K H a xs)\/(t="dict"/\∃ Ab,H a=↑(.dK Ab))
 | _,_=>False
def Jx {X:Cx}:yI X (.builtin "isinstance") (λ xs H Q=>∃ x T ty,xs=[x,.ty T]/\Xs X.K H x ty/\ku ty T=true/\Q (.bl (uV ty T)) H):=by
 intro EY s B H xs us Q I r h;let#[x,T,ty,rfl,hx,hT,q]:=h;let#[u,c,rfl,ru,rc]:=vals2 r;cases (show c=Value.type T from rc);have e:PySem.W.kitOne X.K (.type ty) (.type T)=↑(uV ty T):=ME hT;have fin:∀ tk,EP X EY B Q (.bool (uV ty T)) { s with toks:=tk }:=λ tk=>#[.bl _,H,I.tok tk,rfl,q];cases x with
 | zp=>cases (show u=Value.none from ru);cases (show ty=_ from hx);show PySem.W.kia_one PySem.W.kitx_none I.xK True.intro e (λ z=>nomatch z) fin
 | bl y=>cases (show u=Value.bool y from ru);cases (show ty=_ from hx);show PySem.W.kia_one PySem.W.kitx_bool I.xK True.intro e (λ z=>nomatch z) fin
 | int i=>let#[t,rfl]:=(show ∃ t,u=Value.int i t from ru);cases (show ty=_ from hx);show PySem.W.kia_one PySem.W.kitx_int I.xK True.intro e (λ z=>nomatch z) fin
 | str y=>let#[t,rfl]:=(show ∃ t,u=Value.str y t from ru);cases (show ty=_ from hx);show PySem.W.kia_one PySem.W.kitx_str I.xK True.intro e (λ z=>nomatch z) fin
 | ref a=>
  cases (show u=Value.ref a from ru);rcases hx with ⟨rfl,ys,hq⟩ | ⟨rfl,ys,hq⟩ | ⟨rfl,Ab,hq⟩
  .let#[Aa,_,#[o,h1,h2,_],_]:=I.tuple hq;show PySem.W.kia_one PySem.W.kitx_tuple I.xK #[o,h1,h2] e (λ z=>nomatch z) fin
  .let#[Aa,_,#[o,n,h1,h2,_],_]:=I.list hq;show PySem.W.kia_one PySem.W.kitx_list I.xK #[o,h1,h2] e (λ z=>nomatch z) fin
  .let#[_,_,vs,_,p]:=(show yU X.prog X.w H s.heap a (.dK Ab) from I.zw a _ hq)
   let#[o,es,ep,h1,h2,_]:=p;show PySem.W.kia_one PySem.W.kitx_dict I.xK #[o,h1,h2.1] e (λ z=>nomatch z) fin
 | _=>show hx.elim
end L2
namespace L3
open PySem PySem.Spec L2
open PyProof.Rows hiding St
section
variable {X:Cx}{K:Ac}{a e:Expr}{es:List Expr}{te:zv}{tA:yk}{pos p q:Pos}
def Ql (hm:X.mg "len"=none) (ha:xh X (e::es) tA) (hg:Gl X "len") (he:AJ X e es) (Ao:AN X pos es):PD X (.Call (.Name "len" p) (e::es) [] pos) (xC uH tA):=
 uU (uT (Jv.or Ju) hg hm PySem.boot_len ha.pa () () he Ao) uH.mo uH.fits ha.mo
def Qk (hm:X.mg "list"=none) (ha:xh X (e::es) tA) (hg:Gl X "list") (he:AJ X e es) (Ao:AN X pos es):PD X (.Call (.Name "list" p) (e::es) [] pos) (xC uG tA):=
 uU (nV Js hg hm PyProof.Rows.boot_list ha.pa () () he Ao) uG.mo uG.fits ha.mo
def RJ (hm:X.mg "tuple"=none) (ha:xh X (e::es) tA) (hg:Gl X "tuple") (he:AJ X e es) (Ao:AN X pos es):PD X (.Call (.Name "tuple" p) (e::es) [] pos) (xC uE tA):=
 uU (nV Jg hg hm PyProof.Rows.boot_tuple ha.pa () () he Ao) uE.mo uE.fits ha.mo
abbrev Z_:xE:=ug λ i j=>.int (if j>i then j else i)
abbrev ZZ:xE:=ug λ i j=>.int (if j<i then j else i)
def Qd (hm:X.mg "max"=none) (ha:xh X (e::es) tA) (hc:X.calm=true) (hg:Gl X "max") (he:AJ X e es) (Ao:AN X pos es):PD X (.Call (.Name "max" p) (e::es) [] pos) (xC Z_ tA):=
 uU (uT (Jr hc) hg hm boot_max ha.pa () () he Ao) ug.mo (ug.fits λ _ _ _=>by simp![zf]) ha.mo
def R_ (hm:X.mg "min"=none) (ha:xh X (e::es) tA) (hc:X.calm=true) (hg:Gl X "min") (he:AJ X e es) (Ao:AN X pos es):PD X (.Call (.Name "min" p) (e::es) [] pos) (xC ZZ tA):=
 uU (uT (Jq hc) hg hm boot_min ha.pa () () he Ao) ug.mo (ug.fits λ _ _ _=>by simp![zf]) ha.mo
def vG (r:List Int):D:=.tup (r.map D.int)
theorem zm.kO {H:Hp}:∀ {ps:List (V×List Int)},(∀ q∈ps,zf K H (vG q.2) q.1)->zm K H ((ps.map (·.2)).map vG) (ps.map (·.1))
 | [],_=>.nil
 | q::ps,h=>.cons (h q Ar) (zm.kO λ q hq=>h q (Ay _ hq))
theorem zm.ki {H:Hp}:∀ {rows:List (List Int)}{ys:List V},zm K H (rows.map vG) ys->∀ q∈ys.zip rows,zf K H (vG q.2) q.1
 | [],ys,_,q,hq=>by simp at hq
 | r::rows,ys,h,q,hq=>by
  rw[Aw] at h;simp![zm] at h;let#[x,ys',rfl,h1,h3]:=h;rcases Am.mp hq with e | hq
  .subst e;show h1
  .show zm.ki h3 q hq
theorem kH {H:Hp}:∀ {rows:List (List Int)}{ys:List V},zm K H (rows.map vG) ys->(∀ r∈rows,r≠[])->L4.qw K H ys rows
 | [],ys,h,_=>by simp![Bu,zm] at h;subst h;show .nil
 | r::rows,ys,h,hn=>by
  rw[Aw] at h;simp![zm,vG,zf] at h;let#[x,ys',rfl,#[a,xs,rfl,g1,g2],h3]:=h;rw[g2.ints] at g1;show .cons #[hn r Ar,a,rfl,g1] (kH h3 λ r' hr=>hn r' (Ay _ hr))
def R5 {tg:Expr}(hm:X.mg "range"=none) (ha:xh X [a] tA) (hg:Gl X "range") (hs:starEach [a] X.env=[(false,eval a X.env)]):tw X tg (.Call (.Name "range" p) [a] [] pos) (fG tA):=R6 (TJ hg hm ha.pa hs) ha.mo
def rM (d:D) (S:SS):Option String:=match d with
 | .zp=>↑"NoneType"
 | .bl _=>↑"bool"
 | .int _=>↑"int"
 | .str _=>↑"str"
 | .tup _=>↑"tuple"
 | .xV _=>↑"list"
 | .ref p=>match S p with
  | some (.lst _)=>↑"list"
  | some (.yj _)=>↑"dict"
  | _=>none
 | .err _ _ _=>none
def lh (T:String) (te:zv):zv:=fun δ S Q=>te δ S λ x S1=>match rM x S1 with
 | some ty=>Q (.bl (uV ty T)) S1
 | _=>False
theorem rM.ok {H:Hp}{d:D}{v:V}{S:SS}{ty:String}(r:zf K H d v) (p:zQ K H S) (h:rM d S=↑ty):Xs K H v ty/\ty∈["NoneType","bool","int","str","tuple","list","dict"]:=by
 cases d with
 | err _ _ _=>cases h
 | tup ds=>
  simp![zf] at r;let#[a,xs,rfl,g1,_]:=r;cases h;show#[.inl #[rfl,xs,g1],#[]]
 | xV ds=>
  simp![zf] at r;let#[a,xs,rfl,g1,_]:=r;cases h;show#[.inr (.inl #[rfl,xs,g1.sq]),#[]]
 | ref a=>
  simp![zf] at r;subst r;unfold rM at h;dsimp only at h;split at h
  .rename_i e;cases h;let#[xs,g1,_]:=p _ _ e;show#[.inr (.inl #[rfl,xs,zT.of g1]),#[]]
  .rename_i e;cases h;let#[xs,g1,_]:=p _ _ e;show#[.inr (.inr #[rfl,xs,g1]),#[]]
  .cases h
 | _=>simp![zf] at r;subst r;cases h;show#[rfl,#[]]
def gS {T:String}{x:Str}(hT:T∈["int","bool","tuple","list","str"]) (hm:X.mg "isinstance"=none) (hm2:X.mg x=none) (hv:bootBuiltins x=↑(.type T)) (HB:Gl X x) (hn:x≠"__name__") (hd:(x == ("__debug__":Str))=false) (he:PD X e te) (hg:Gl X "isinstance")
  (h1:AJ X e [.Name x q]) (h2:AN X pos [.Name x q]) (h3:AJ X (.Name x q) []):
  PD X (.Call (.Name "isinstance" p) [e,.Name x q] [] pos) (lh T te):=by
 exact#[fun δ S Q Q' hq z=>he.mo δ S _ _ (λ y S1 z=>?_) z,PE.imp (uT Jx hg hm boot_isinstance (qN he.pe (qN (SK (v:=.ty T) HB hm2 hv rfl hn hd) ox h3) h1) () () h1 h2) fun B H Q hu=>?_]
 .split at z
  .show hq _ _ z
  .show z
 .let#[δ,S,r1,r2,z]:=hu;exact zN.go he.mo r1 r2 z λ y S1 v H1 z1 q1 e1 p1=>?_;split at z1
  .rename_i ty ht;let#[g1,g2]:=rM.ok q1 p1 ht;exact#[v,T,ty,rfl,g1,?_,z1 _ H1 (by simp![zf]) e1 p1];show BA.mp (BA.mp V4 ty g2) T hT
  .show z1.elim
def Qr (T:Bt X.mg) (he:PD X e te) (hg:Gl X "isinstance") (HB:Gl X "bool") (h1:AJ X e [.Name "bool" q]) (h2:AN X pos [.Name "bool" q]) (h3:AJ X (.Name "bool" q) []):
  PD X (.Call (.Name "isinstance" p) [e,.Name "bool" q] [] pos) (lh "bool" te):=gS #[] T.isinstance T.bool PyProof.Rows.boot_bool HB () () he hg h1 h2 h3
def Qq (T:Bt X.mg) (he:PD X e te) (hg:Gl X "isinstance") (HB:Gl X "int") (h1:AJ X e [.Name "int" q]) (h2:AN X pos [.Name "int" q]) (h3:AJ X (.Name "int" q) []):
  PD X (.Call (.Name "isinstance" p) [e,.Name "int" q] [] pos) (lh "int" te):=gS #[] T.isinstance T.int PyProof.Rows.boot_int HB () () he hg h1 h2 h3
def Qp (T:Bt X.mg) (he:PD X e te) (hg:Gl X "isinstance") (HB:Gl X "tuple") (h1:AJ X e [.Name "tuple" q]) (h2:AN X pos [.Name "tuple" q]) (h3:AJ X (.Name "tuple" q) []):
  PD X (.Call (.Name "isinstance" p) [e,.Name "tuple" q] [] pos) (lh "tuple" te):=gS #[] T.isinstance T.tuple PyProof.Rows.boot_tuple HB () () he hg h1 h2 h3
def Qg {o:Expr}{to:zv}{apos Ap:Pos}(ho:PD X o to) (he:PD X e te)
  (GV:attributeBase o "append" X.env (eval o X.env)=eval o X.env)
  (AV:((backTo Ap (starEach [e] X.env)).all (λ x=>!x.1)&&(backToKw Ap (keywordEach [] X.env)).all (λ x=>x.1.isSome)
   && decide ([e].length+([]:List Keyword).length+(if ([]:List Keyword).isEmpty then 0 else 1)<30))=true)
  (GU:(apos.endLine == Ap.line)=true) (hs:AJ X e []) (Gw:AN X Ap []):
  PD X (.Call (.Attribute o "append" apos) [e] [] Ap) (ql to te):=
 QC (o:=o) (e:=e) (bZ PySem.F.plainAttrs_list PySem.F.slot_list_append PySem.F.type_list_append aM ho.pe (qN he.pe ox hs) GV AV GU hs Gw) ho.mo he.mo
structure FD (P:Program) (w:World) (K:Ac) (mg:AF) (base:Heap) (x:Str) (k:Nat) (ps:List Str) (sp:wZ):Prop where
 ex:∃ (f:Addr) (fd:FuncData),w_ P w K mg base y7 k f fd ps (vE K sp)/\mg x=↑(.ref f)/\PySem.W.keepIn K (.ref f)=true/\Binds K fd ps []
 mo:qz sp
def Q9 {x:Str}{k:Nat}{ps:List Str}{sp:wZ}(F:FD X.prog X.w X.K X.mg X.base x k ps sp) (hr:yb k X.A) (ha:xh X (e::es) tA) (hg:Gl X x) (BD:(x == ("__debug__":Str))=false)
  (he:AJ X e es) (Ao:AN X pos es):PD X (.Call (.Name x p) (e::es) [] pos) (jD sp tA):=by
 let#[#[f,fd,h1,h2,h3,h4],hm]:=F;show QA (E:=E0) (SJ h1 hr hg h2 h3 h4 .nil kP ha.pa BD he Ao) hm ha.mo
end
def Kg {S:SS}{p:Addr}{ds:List D}{Q:DK}(e:S p=↑(.lst ds)) (h:Q (.tup ds) S):uE [.ref p] S Q:=by
 unfold uE;dsimp only;rw[e];show h
def Kh {S:SS}{d:D}{ds:List D}{Q:DK}(e:zS d S=↑ds) (h:∀ p,S p=none->Q (.ref p) (ups S p (.lst ds))):uG [d] S Q:=by
 unfold uG;dsimp only;rw[e];show h
def Ki {S:SS}{d:D}{ds:List D}{Q:DK}(e:zS d S=↑ds) (h:Q (.int ds.length) S):uH [d] S Q:=by
 unfold uH;dsimp only;rw[e];show h
def VB {S:SS}{p:Addr}{ds:List D}{Q:Bool->SS->Prop}(e:S p=↑(.lst ds)) (h:Q (!ds.isEmpty) S):vV (.ref p) S Q:=by
 unfold vV;dsimp only;rw[e];show h
def Km {S:SS}{p:Addr}{ds:List D}{i:Int}{d:D}{Q:DK}(e:S p=↑(.lst ds)) (e2:L2.zM ds i=↑d) (h:Q d S):wW (.ref p) (.int i) S Q:=by
 unfold wW;dsimp only;rw[e];dsimp only;rw[e2];show h
def Kj {S:SS}{ds:List D}{i:Int}{d:D}{Q:DK}(e2:L2.zM ds i=↑d) (h:Q d S):wW (.tup ds) (.int i) S Q:=by
 unfold wW;dsimp only;rw[e2];show h
def Kk {S:SS}{ds:List D}{i:Int}{d:D}{Q:DK}(e2:L2.zM ds i=↑d) (h:Q d S):wW (.xV ds) (.int i) S Q:=by
 unfold wW;dsimp only;rw[e2];show h
inductive T where
 | zp | bl (b:Bool) | int (i:Int) | str (x:Str) | tup (ts:List T) | lst (ts:List T) | xo | err (c f:Str) (t:T)
mutual
def eqT:T->T->Bool
 | .zp,.zp=>true
 | .bl a,.bl b=>a == b
 | .bl a,.int b=>(if a then 1 else 0) == b
 | .int a,.bl b=>a == (if b then 1 else 0)
 | .int a,.int b=>a == b
 | .str a,.str b=>a == b
 | .tup a,.tup b=>xP a b
 | .lst a,.lst b=>xP a b
 | .xo,.xo=>true
 | .err a b t,.err c d u=>a == c&&(b == d&&eqT t u)
 | _,_=>false
def xP:List T->List T->Bool
 | [],[]=>true
 | a::as,b::bs=>eqT a b&&xP as bs
 | _,_=>false
end
mutual
def dep:T->Nat
 | .tup ts=>1+xZ ts
 | .lst ts=>1+xZ ts
 | .xo=>cLine
 | .err _ _ _=>cLine
 | _=>0
def xZ:List T->Nat
 | []=>0
 | t::ts=>max (dep t) (xZ ts)
end
def gW:List T->Bool
 | []=>true
 | .int _::ts=>gW ts
 | _=>false
def Pe (ns:List Int):gW (ns.map T.int)=true:=by
 induction ns with
 | nil=>rfl
 | cons n ns ih=>show ih
mutual
def Sn (S:SS):T->D->Prop
 | .zp,d=>d=.zp
 | .bl b,d=>d=.bl b
 | .int i,d=>d=.int i
 | .str x,d=>d=.str x
 | .tup ts,d=>∃ ds,d=.tup ds/\zi S ts ds
 | .lst ts,d=>∃ ds,((d=.xV ds/\gW ts=true)\/∃ a,d=.ref a/\S a=↑(.lst ds))/\zi S ts ds
 | .xo,d=>∃ a Ab,(d=.ref a/\Ab=[])/\S a=↑(.yj Ab)
 | .err c f t,d=>∃ x,d=.err c f x/\Sn S t x
def zi (S:SS):List T->List D->Prop
 | [],ds=>ds=[]
 | t::ts,ds=>∃ c cs,ds=c::cs/\Sn S t c/\zi S ts cs
end
mutual
theorem eB:∀ t:T,eqT t t=true
 | .zp=>by simp[eqT]
 | .bl b=>by simp[eqT]
 | .int i=>by simp[eqT]
 | .str x=>by simp[eqT]
 | .tup ts=>by simp![eqT];show j0 ts
 | .lst ts=>by simp![eqT];show j0 ts
 | .xo=>by simp[eqT]
 | .err _ _ t=>by simp[eqT,eB t]
theorem j0:∀ ts:List T,xP ts ts=true
 | []=>by simp[xP]
 | t::ts=>by simp![xP,eB t,j0 ts,DD]
end
theorem eA:∀ ts us:List T,xP ts us=((List.range (min ts.length us.length)).all (λ j=>eqT (ts.getD j .zp) (us.getD j .zp))&&ts.length == us.length)
 | [],[]=>by simp[xP]
 | [],_::_=>by simp[xP]
 | _::_,[]=>by simp[xP]
 | t::ts,u::us=>by
  simp![xP,eA ts us,A4];rw[show min (ts.length+1) (us.length+1)=min ts.length us.length+1 by lia,List.range_succ_eq_map,List.all_cons,List.all_map];have:(ts.length+1 == us.length+1)=(ts.length == us.length):=by rw[Be];simp
  rw[this,Bool.and_assoc];rfl
theorem zi.length {S:SS}:∀ {ts:List T}{ds:List D},zi S ts ds->ts.length=ds.length
 | [],ds,h=>by simp![zi] at h;subst h;rfl
 | t::ts,ds,h=>by
  simp![zi] at h;let#[c,cs,rfl,_,h2]:=h;simp[zi.length h2]
section
variable {X:Cx}{EY:Ak}{B:St}{H:Hp}{s:Shared}{S:SS}
theorem Zv (I:Inv X EY B H s) {a:Addr}{xs ys:List V}(h1:zX X.K H a xs) (h2:zT X.K H a ys):False:=by
 let#[_,_,#[o,e,c,_],_]:=I.tuple h1;let#[_,_,#[o',n,e',c',_],_]:=I.list h2;rw[e] at e';cases e';rw[c] at c'
 injection c' with q
 show absurd q ()
def Sn.tR (p:zQ X.K H S) {ts:List T}{d:D}{x:V}(h:Sn S (.lst ts) d) (r:zf X.K H d x):∃ a xs ds,x=.ref a/\zT X.K H a xs/\zm X.K H ds xs/\zi S ts ds:=by
 simp![Sn] at h;obtain⟨ds,⟨h,_⟩ | ⟨a,h,e⟩,h2⟩:=h
 .subst h;simp![zf] at r;let#[a,xs,rfl,g1,g2]:=r;show#[a,xs,ds,rfl,g1.sq,g2,h2]
 .subst h;simp![zf] at r;let#[xs,g1,g2]:=p _ _ e;show#[a,xs,ds,r,zT.of g1,g2,h2]
def Sn.tH {ts:List T}{d:D}{x:V}(h:Sn S (.tup ts) d) (r:zf X.K H d x):∃ a xs ds,x=.ref a/\zX X.K H a xs/\zm X.K H ds xs/\zi S ts ds:=by
 simp![Sn] at h;let#[ds,rfl,h2]:=h;simp![zf] at r;let#[a,xs,rfl,g1,g2]:=r;show#[a,xs,ds,rfl,g1,g2,h2]
def Sn.qh (p:zQ X.K H S) {d:D}{x:V}(h:Sn S .xo d) (r:zf X.K H d x):∃ a vs,x=.ref a/\H a=↑(.dK vs):=by
 simp![Sn] at h;let#[a,Ab,#[rfl,_],e]:=h;simp![zf] at r;let#[xs,g1,g2]:=p _ _ e;show#[a,xs,r,g1]
def Z4 (I:Inv X EY B H s) {a:Addr}{vs:List (Key×V)}(h:H a=↑(.dK vs)):∃ o,s.heap.get? a=↑o/\o.cls=.type "dict":=by
 let#[_,_,_,_,o,_,_,e,c]:=(show yU X.prog X.w H s.heap a (.dK vs) from I.zw a _ h)
 show#[o,e,c.1.1]
theorem Zx (I:Inv X EY B H s) {a:Addr}{xs:List V}{vs:List (Key×V)}(h1:zX X.K H a xs) (h2:H a=↑(.dK vs)):False:=by
 let#[_,_,#[o,e,c,_],_]:=I.tuple h1;let#[o',e',c']:=Z4 I h2;rw[e] at e';cases e';rw[c] at c'
 injection c' with q
 show absurd q ()
theorem Z2 (I:Inv X EY B H s) {a:Addr}{xs:List V}{vs:List (Key×V)}(h1:zT X.K H a xs) (h2:H a=↑(.dK vs)):False:=by
 let#[_,_,#[o,n,e,c,_],_]:=I.list h1;let#[o',e',c']:=Z4 I h2;rw[e] at e';cases e';rw[c] at c'
 injection c' with q
 show absurd q ()
theorem Sn.flat {t:T}{d:D}{x:V}(h:Sn S t d) (r:zf X.K H d x):match t with
  | .zp=>x=.zp
  | .bl b=>x=.bl b
  | .int i=>x=.int i
  | .str y=>x=.str y
  | _=>True:=by
 cases t <;> first
  | trivial
  | (simp![Sn] at h;subst h;simpa only [zf] using r)
def Sn.rq {c f:Str}{t:T}{d:D}{x:V}(h:Sn S (.err c f t) d) (r:zf X.K H d x):∃ e C dx w y,x=.ref e/\(kd X.K c C/\H e=↑(rH e C dx)/\Xd H f w dx)/\Sn S t y/\zf X.K H y w:=by
 simp![Sn] at h;let#[y,rfl,h]:=h;simp![zf] at r;let#[e,C,dx,w,r1,r2,r3]:=r;show#[e,C,dx,w,y,r1,r2,h,r3]
def jh (I:Inv X EY B H s) {e C:Addr}{dx:Option Addr}(h:H e=↑(rH e C dx)):∃ oe vs,s.heap.get? e=↑oe/\oe.cls=.ref C/\oe.dict=dx/\oe.data=.fields vs:=(show yU X.prog X.w H s.heap e (rH e C dx) from I.zw e _ h).1
def Zw (I:Inv X EY B H s) {a C:Addr}{dx:Option Addr}{xs:List V}(h1:zX X.K H a xs) (h2:H a=↑(rH a C dx)):False:=by
 let#[_,_,#[o,e,c,_],_]:=I.tuple h1;let#[o',_,e',c',_]:=jh I h2;rw[e] at e';cases e';rw[c] at c';cases c'
def Zz (I:Inv X EY B H s) {a C:Addr}{dx:Option Addr}{xs:List V}(h1:zT X.K H a xs) (h2:H a=↑(rH a C dx)):False:=by
 let#[_,_,#[o,n,e,c,_],_]:=I.list h1;let#[o',_,e',c',_]:=jh I h2;rw[e] at e';cases e';rw[c] at c';cases c'
def Z5 (I:Inv X EY B H s) {a C:Addr}{dx:Option Addr}{vs:List (Key×V)}(h1:H a=↑(.dK vs)) (h2:H a=↑(rH a C dx)):False:=by
 rw[h1] at h2;cases h2
def M_ (I:Inv X EY B H s) {e C C':Addr}{dx dx':Option Addr}(h1:H e=↑(rH e C dx)) (h2:H e=↑(rH e C' dx')):C=C'/\dx=dx':=by
 let#[o,_,e1,c1,d1,_]:=jh I h1;let#[o',_,e2,c2,d2,_]:=jh I h2;rw[e1] at e2;cases e2;rw[c1] at c2;rw[d1] at d2;cases c2;cases d2;show#[rfl,rfl]
def Xd.inj {H:Hp}{f f':Str}{w w':V}{dx:Option Addr}(h1:Xd H f w dx) (h2:Xd H f' w' dx):f=f'/\w=w':=by
 cases dx with
 | none=>show#[h1.1.trans h2.1.symm,h1.2.trans h2.2.symm]
 | some x=>have:=h1.symm.trans h2;cases this;show#[rfl,rfl]
def kd.inj {K:Ac}{c c':Str}{C:Addr}(h1:kd K c C) (h2:kd K c' C):c=c':=by
 let#[_,_,_,#[#[#[_,_,_,_,_,_,_,_,_,_,_,_,a],_],_,_,_,_]]:=h1;let#[_,_,_,#[#[#[_,_,_,_,_,_,_,_,_,_,_,_,b],_],_,_,_,_]]:=h2;rw[a] at b;cases b;rfl
mutual
theorem kr (I:Inv X EY B H s) (p:zQ X.K H S):∀ (t u:T) {d e:D}{x:V},Sn S t d->Sn S u e->zf X.K H d x->zf X.K H e x->t=u
 | .tup ts,u,d,e,x,h1,h2,r1,r2=>by
  let#[a,xs,ds,rfl,g1,g2,g3]:=h1.tH r1;cases u with
  | xo=>let#[_,_,q,g]:=h2.qh p r2;cases q;show (Zx I g1 g).elim
  | err _ _ _=>let#[_,_,_,_,_,q,g,_]:=h2.rq r2;cases q;show (Zw I g1 g.2.1).elim
  | tup us=>
   let#[a',Fq,HH,q,k1,k2,k3]:=h2.tH r2;cases q;have:=I.iY g1 k1;subst this;rw[iX I p ts us g3 k3 g2 k2]
  | lst us=>
   let#[a',Fq,HH,q,k1,k2,k3]:=h2.tR p r2;cases q;show (Zv I g1 k1).elim
  | _=>show nomatch h2.flat r2
 | .lst ts,u,d,e,x,h1,h2,r1,r2=>by
  let#[a,xs,ds,rfl,g1,g2,g3]:=h1.tR p r1;cases u with
  | xo=>let#[_,_,q,g]:=h2.qh p r2;cases q;show (Z2 I g1 g).elim
  | err _ _ _=>let#[_,_,_,_,_,q,g,_]:=h2.rq r2;cases q;show (Zz I g1 g.2.1).elim
  | lst us=>
   let#[a',Fq,HH,q,k1,k2,k3]:=h2.tR p r2;cases q;have:=I.f9 g1 k1;subst this;rw[iX I p ts us g3 k3 g2 k2]
  | tup us=>
   let#[a',Fq,HH,q,k1,k2,k3]:=h2.tH r2;cases q;show (Zv I k1 g1).elim
  | _=>show nomatch h2.flat r2
 | .zp,u,d,e,x,h1,h2,r1,r2=>by
  have q:=h1.flat r1;subst q;cases u with
  | xo=>let#[_,_,q,g]:=h2.qh p r2;cases q
  | err _ _ _=>let#[_,_,_,_,_,q,_]:=h2.rq r2;cases q
  | zp=>rfl
  | tup us=>let#[_,_,_,q,_]:=h2.tH r2;cases q
  | lst us=>let#[_,_,_,q,_]:=h2.tR p r2;cases q
  | _=>show nomatch h2.flat r2
 | .bl b,u,d,e,x,h1,h2,r1,r2=>by
  have q:=h1.flat r1;subst q;cases u with
  | xo=>let#[_,_,q,g]:=h2.qh p r2;cases q
  | err _ _ _=>let#[_,_,_,_,_,q,_]:=h2.rq r2;cases q
  | bl _=>have q:=h2.flat r2;cases q;rfl
  | tup us=>let#[_,_,_,q,_]:=h2.tH r2;cases q
  | lst us=>let#[_,_,_,q,_]:=h2.tR p r2;cases q
  | _=>show nomatch h2.flat r2
 | .int b,u,d,e,x,h1,h2,r1,r2=>by
  have q:=h1.flat r1;subst q;cases u with
  | xo=>let#[_,_,q,g]:=h2.qh p r2;cases q
  | err _ _ _=>let#[_,_,_,_,_,q,_]:=h2.rq r2;cases q
  | int _=>have q:=h2.flat r2;cases q;rfl
  | tup us=>let#[_,_,_,q,_]:=h2.tH r2;cases q
  | lst us=>let#[_,_,_,q,_]:=h2.tR p r2;cases q
  | _=>show nomatch h2.flat r2
 | .str b,u,d,e,x,h1,h2,r1,r2=>by
  have q:=h1.flat r1;subst q;cases u with
  | xo=>let#[_,_,q,g]:=h2.qh p r2;cases q
  | err _ _ _=>let#[_,_,_,_,_,q,_]:=h2.rq r2;cases q
  | str _=>have q:=h2.flat r2;cases q;rfl
  | tup us=>let#[_,_,_,q,_]:=h2.tH r2;cases q
  | lst us=>let#[_,_,_,q,_]:=h2.tR p r2;cases q
  | _=>show nomatch h2.flat r2
 | .err c f t,u,d,e,x,h1,h2,r1,r2=>by
  let#[a,C,dx,w,y,rfl,#[g1,g2,g3],g4,g5]:=h1.rq r1;cases u with
  | err c' f' t'=>
   let#[a',C',dx',w',y',q,#[k1,k2,k3],k4,k5]:=h2.rq r2;cases q;let#[rfl,rfl]:=M_ I g2 k2;let#[rfl,rfl]:=g3.inj k3;cases g1.inj k1;rw[kr I p t t' g4 k4 g5 k5]
  | xo=>let#[_,_,q,g]:=h2.qh p r2;cases q;show (Z5 I g g2).elim
  | tup us=>let#[_,_,_,q,k1,_]:=h2.tH r2;cases q;show (Zw I k1 g2).elim
  | lst us=>let#[_,_,_,q,k1,_]:=h2.tR p r2;cases q;show (Zz I k1 g2).elim
  | _=>show nomatch h2.flat r2
 | .xo,u,d,e,x,h1,h2,r1,r2=>by
  let#[a,vs,rfl,g]:=h1.qh p r1;cases u with
  | xo=>rfl
  | err _ _ _=>let#[_,_,_,_,_,q,g',_]:=h2.rq r2;cases q;show (Z5 I g g'.2.1).elim
  | tup us=>let#[_,_,_,q,g1,_]:=h2.tH r2;cases q;show (Zx I g1 g).elim
  | lst us=>let#[_,_,_,q,g1,_]:=h2.tR p r2;cases q;show (Z2 I g1 g).elim
  | _=>show nomatch h2.flat r2
theorem iX (I:Inv X EY B H s) (p:zQ X.K H S):∀ (ts us:List T) {ds es:List D}{xs:List V},zi S ts ds->zi S us es->zm X.K H ds xs->zm X.K H es xs->ts=us
 | [],us,ds,es,xs,h1,h2,r1,r2=>by
  have e:=h1.length.trans (r1.length.trans (r2.length.symm.trans h2.length.symm));cases us with
  | nil=>rfl
  | cons _ _=>simp at e
 | t::ts,[],ds,es,xs,h1,h2,r1,r2=>by
  have e:=h1.length.trans (r1.length.trans (r2.length.symm.trans h2.length.symm));simp at e
 | t::ts,u::us,ds,es,xs,h1,h2,r1,r2=>by
  simp![zi] at h1 h2;let#[c,cs,rfl,a1,a2]:=h1;let#[c',cs',rfl,b1,b2]:=h2;simp![zm] at r1 r2;let#[y,ys,rfl,g1,g2]:=r1;let#[y',ys',q,k1,k2]:=r2;cases q;rw[kr I p t u a1 b1 g1 k1,iX I p ts us a2 b2 g2 k2]
end
theorem zi.get {ts:List T}{ds:List D}(h:zi S ts ds):∀ {j:Nat},j<ts.length->∃ c,ds[j]?=↑c/\Sn S (ts.getD j .zp) c:=by
 induction ts generalizing ds with
 | nil=>intro j hj;simp at hj
 | cons t ts ih=>
  intro j hj;simp![zi] at h;let#[c,cs,rfl,h1,h2]:=h;cases j with
  | zero=>show#[c,rfl,h1]
  | succ j=>
   let#[c',e,h3]:=ih h2 (j:=j) (by exists hj);show#[c',by simpa using e,by exists h3]
theorem jC:∀ {ts:List T}{j:Nat},j<ts.length->dep (ts.getD j .zp)<=xZ ts
 | [],j,h=>by simp at h
 | t::ts,0,_=>by simp![xZ,List.getD_cons_zero];lia
 | t::ts,j+1,h=>by
  have:=jC (ts:=ts) (j:=j) (by exists h);simp![xZ,List.getD_cons_succ];lia
inductive pB (K:Ac) (H:Hp) (S:SS) (s:Shared):T->Value->Prop
 | zp:pB K H S s .zp .none
 | bl {b:Bool}:pB K H S s (.bl b) (.bool b)
 | int {i:Int}{k:Tok}:pB K H S s (.int i) (.int i k)
 | str {i:Str}{k:Tok}:pB K H S s (.str i) (.str i k)
 | tup {ts:List T}{ds:List D}{xs:List V}{us:Ah}{l:Addr}(g:zi S ts ds) (r:zm K H ds xs) (v:Vals xs us) (h:s.heap.IsTuple l us.toArray):pB K H S s (.tup ts) (.ref l)
 | lst {ts:List T}{ds:List D}{xs:List V}{us:Ah}{l:Addr}(g:zi S ts ds) (r:zm K H ds xs) (v:Vals xs us) (h:s.heap.IsList l us.toArray):pB K H S s (.lst ts) (.ref l)
def bo (I:Inv X EY B H s) (p:zQ X.K H S) {t:T}{d:D}{x:V}{a:Value}(h:Sn S t d) (r:zf X.K H d x) (v:RelV x a) (z:dep t<cLine):pB X.K H S s t a:=by
 cases t with
 | zp=>have q:=h.flat r;subst q;cases v;show .zp
 | bl _=>have q:=h.flat r;subst q;cases v;show .bl
 | int _=>have q:=h.flat r;subst q;let#[_,rfl]:=v;show .int
 | str _=>have q:=h.flat r;subst q;let#[_,rfl]:=v;show .str
 | tup _=>let#[l,xs,ds,rfl,g,r,q]:=h.tH r;cases v;let#[_,w,i,_]:=I.tuple g;show .tup q r w i
 | lst _=>let#[l,xs,ds,rfl,g,r,q]:=h.tR p r;cases v;let#[_,w,i,_]:=I.list g;show .lst q r w i.isList
 | _=>simp![dep] at z;lia
abbrev J3 (A:Around) (s:Shared) (a b:Value) (k:Bool):Prop:=SeqAt.EqAt A s a b k/\SeqAt.RcAt A s a b k/\SeqAt.RcNeAt A s a b (!k)
theorem JP (I:Inv X EY B H s) (p:zQ X.K H S):∀ (n:Nat) (t u:T) {A:Around}{d e:D}{x y:V}{a b:Value},dep t<n->A.units+dep t<cLine->A.units+dep u<cLine->Sn S t d->Sn S u e->zf X.K H d x->zf X.K H e y->RelV x a->RelV y b->J3 A s a b (eqT t u):=by
 intro n
 induction n with
 | zero=>intros;lia
 | succ n ih=>
  intro t u A d e x y a b hn hu hu' h1 h2 r1 r2 v1 v2;have hq:a=b->t=u:=λ z=>by subst z;have:=v1.inj v2;subst this;show kr I p t u h1 h2 r1 r2
  have c1:=bo I p h1 r1 v1 ⋯;have c2:=bo I p h2 r2 v2 ⋯;clear h1 h2 r1 r2 v1 v2;have hA:A.units<cLine:=⋯;have el:∀ {ts us:List T}{ds HH:List D}{xs Fq:List V}{is is':Ah},1+xZ ts<n+1->A.units+(1+xZ ts)<cLine->A.units+(1+xZ us)<cLine->zi S ts ds->zi S us HH->zm X.K H ds xs->zm X.K H HH Fq->Vals xs is->Vals Fq is'->is.toArray.size=ts.length/\is'.toArray.size=us.length/\
    ∀ (j:Nat) (h1:j<is.toArray.size) (h2:j<is'.toArray.size),SeqAt.EqAt A.in1 s is.toArray[j] is'.toArray[j] (eqT (ts.getD j .zp) (us.getD j .zp)):=by
   intro ts us ds HH xs Fq is is' a1 a2 a3 g1 g2 r1 r2 v1 v2;have e1:is.toArray.size=ts.length:=by rw[AB,<- v1.length,<- r1.length,<- g1.length]
   have e2:is'.toArray.size=us.length:=by rw[AB,<- v2.length,<- r2.length,<- g2.length]
   exact#[e1,e2,λ j h1 h2=>?_];let#[_,k1,s1]:=g1.get (e1▸h1);let#[_,k2,s2]:=g2.get (e2▸h2);let#[_,f1,q1]:=r1.get k1;let#[_,f2,q2]:=r2.get k2;let#[w1,o1,m1]:=v1.get f1;let#[w2,o2,m2]:=v2.get f2;have y1:=jC (e1▸h1);have y2:=jC (e2▸h2);let#[_,z1]:=AO.mp o1;let#[_,z2]:=AO.mp o2;rw[List.getElem_toArray,List.getElem_toArray,z1,z2];show (ih _ _ (A:=A.in1) ⋯ (by change A.units+1+_<_;lia) (by change A.units+1+_<_;lia) s1 s2 q1 q2 m1 m2).1
  have en:∀ {l l':Addr}{ts us:List T},(Value.ref l=.ref l'->ts=us)->SeqAt.RcAt A s (.ref l) (.ref l') (xP ts us)/\SeqAt.RcNeAt A s (.ref l) (.ref l') (!xP ts us)->J3 A s (.ref l) (.ref l') (xP ts us):=λ{l l' ts us} h q=>by
   exact#[?_,q];by_cases z:l=l'
   .subst z;rw[h rfl,j0];show .same _
   .show .of_refs z q.1
  cases c1 <;> cases c2 <;> simp![eqT,CS,CT]
  .show#[.same _,.none_none,.none_none]
  .show#[.none_bool _,.none_bool _,.none_bool _]
  .show#[.none_int _ _,.none_int _ _,.none_int _ _]
  .show#[.none_str _ _,.none_str _ _,.none_str _ _]
  .show#[.none_tuple ‹_› hA,.none_tuple ‹_› hA,.none_tuple ‹_› hA]
  .show#[.none_list ‹_› hA,.none_list ‹_› hA,.none_list ‹_› hA]
  .show#[.bool_none _,.bool_none _,.bool_none _]
  .show#[.bool_bool _ _,.bool_bool _ _,.bool_bool _ _]
  .show#[.bool_int _ _ _,.bool_int _ _ _,.bool_int _ _ _]
  .show#[.bool_str _ _ _,.bool_str _ _ _,.bool_str _ _ _]
  .show#[.bool_tuple _ ‹_› hA,.bool_tuple _ ‹_› hA,.bool_tuple _ ‹_› hA]
  .show#[.bool_list _ ‹_› hA,.bool_list _ ‹_› hA,.bool_list _ ‹_› hA]
  .show#[.int_none _ _,.int_none _ _,.int_none _ _]
  .show#[.int_bool _ _ _,.int_bool _ _ _,.int_bool _ _ _]
  .show#[.int_int _ _ _ _,.int_int _ _ _ _,.int_int _ _ _ _]
  .show#[.int_str _ _ _ _,.int_str _ _ _ _,.int_str _ _ _ _]
  .show#[.int_tuple _ _ ‹_› hA,.int_tuple _ _ ‹_› hA,.int_tuple _ _ ‹_› hA]
  .show#[.int_list _ _ ‹_› hA,.int_list _ _ ‹_› hA,.int_list _ _ ‹_› hA]
  .show#[.str_none _ _,.str_none _ _,.str_none _ _]
  .show#[.str_bool _ _ _,.str_bool _ _ _,.str_bool _ _ _]
  .show#[.str_int _ _ _ _,.str_int _ _ _ _,.str_int _ _ _ _]
  .show#[.str_str _ _ _ _,.str_str _ _ _ _,.str_str _ _ _ _]
  .show#[.str_tuple _ _ ‹_› hA,.str_tuple _ _ ‹_› hA,.str_tuple _ _ ‹_› hA]
  .show#[.str_list _ _ ‹_› hA,.str_list _ _ ‹_› hA,.str_list _ _ ‹_› hA]
  .show#[.tuple_none ‹_› hA,.tuple_none ‹_› hA,.tuple_none ‹_› hA]
  .show#[.tuple_bool _ ‹_› hA,.tuple_bool _ ‹_› hA,.tuple_bool _ ‹_› hA]
  .show#[.tuple_int _ _ ‹_› hA,.tuple_int _ _ ‹_› hA,.tuple_int _ _ ‹_› hA]
  .show#[.tuple_str _ _ ‹_› hA,.tuple_str _ _ ‹_› hA,.tuple_str _ _ ‹_› hA]
  .rename_i g1 r1 v1 k1 _ _ _ _ _ g2 r2 v2 k2;simp![dep] at hn hu hu';let#[e1,e2,q]:=el hn hu hu' g1 g2 r1 r2 v1 v2;exact en (λ z=>by cases hq z;rfl) ?_;rw[eA,<- e1,<- e2];show#[.tuples k1 k2 hA q,.tuples k1 k2 hA q]
  .show#[.tuple_list ‹_› ‹_› hA,.tuple_list ‹_› ‹_› hA,.tuple_list ‹_› ‹_› hA]
  .show#[.list_none ‹_› hA,.list_none ‹_› hA,.list_none ‹_› hA]
  .show#[.list_bool _ ‹_› hA,.list_bool _ ‹_› hA,.list_bool _ ‹_› hA]
  .show#[.list_int _ _ ‹_› hA,.list_int _ _ ‹_› hA,.list_int _ _ ‹_› hA]
  .show#[.list_str _ _ ‹_› hA,.list_str _ _ ‹_› hA,.list_str _ _ ‹_› hA]
  .show#[.list_tuple ‹_› ‹_› hA,.list_tuple ‹_› ‹_› hA,.list_tuple ‹_› ‹_› hA]
  .rename_i i1 _ g1 r1 v1 k1 _ _ _ i2 _ g2 r2 v2 k2;simp![dep] at hn hu hu';let#[e1,e2,q]:=el hn hu hu' g1 g2 r1 r2 v1 v2;exact en (λ z=>by cases hq z;rfl) ?_;rw[eA,<- e1,<- e2];by_cases z:i1.toArray.size=i2.toArray.size
   .rw[<- z,Nat.min_self,beq_self_eq_true,Bool.and_true];show#[.lists k1 k2 z hA q,.lists k1 k2 z hA q]
   .rw[beq_eq_false_iff_ne.mpr z,CO];have z':=bne_iff_ne.mpr z;show#[.lists_lengths k1 k2 z' hA,.lists_lengths k1 k2 z' hA]
def dk (I:Inv X EY B H s) (p:zQ X.K H S) (t u:T) {A:Around}{d e:D}{x y:V}{a b:Value}(hu:A.units+dep t<cLine) (hu':A.units+dep u<cLine) (h1:Sn S t d) (h2:Sn S u e) (r1:zf X.K H d x) (r2:zf X.K H e y) (v1:RelV x a) (v2:RelV y b):J3 A s a b (eqT t u):=JP I p _ t u (BV _) hu hu' h1 h2 r1 r2 v1 v2
end
def gL (K:Ac) (neg:Bool):R2:=λ x y H Q=>∃ S d e t u,zf K H d x/\zf K H e y/\zQ K H S/\Sn S t d/\Sn S u e/\dep t<=60/\dep u<=60/\Q (.bl (cond neg (!eqT t u) (eqT t u))) H
def vJ (neg:Bool):yM:=λ x y S Q=>∃ t u,Sn S t x/\Sn S u y/\dep t<=60/\dep u<=60/\Q (.bl (cond neg (!eqT t u) (eqT t u))) S
def vJ.mo {neg:Bool}:xT (vJ neg):=λ _ _ _ _ _ hq #[t,u,a,b,c,d,h]=>#[t,u,a,b,c,d,hq _ _ h]
def vJ.fits {K:Ac}{neg:Bool}:x9 K (vJ neg) (gL K neg):=λ x y d e H S Q h1 h2 h3 #[t,u,a,b,c,c',h]=>#[S,d,e,t,u,h1,h2,h3,a,b,c,c',h _ H (by simp![zf]) (.refl H) h3]
section
variable {X:Cx}{a b:Expr}{ta tb:zv}{pos:Pos}
theorem au (hu:X.A.units+64<cLine):yp X (compareOp .Eq) (gL X.K false):=by
 intro EY s B H x y v u Q I rx ry h;let#[S,d,e,t,u',a1,a2,a3,a4,a5,a6,a7,q]:=h;show (dk I a3 t u' (A:=X.A) ⋯ ⋯ a4 a5 a1 a2 rx ry).2.1 X.prog X.w X.xe _ #[.bl _,H,I,rfl,q]
theorem QM (hu:X.A.units+64<cLine):yp X (compareOp .NotEq) (gL X.K true):=by
 intro EY s B H x y v u Q I rx ry h;let#[S,d,e,t,u',a1,a2,a3,a4,a5,a6,a7,q]:=h;show (dk I a3 t u' (A:=X.A) ⋯ ⋯ a4 a5 a1 a2 rx ry).2.2 X.prog X.w X.xe _ #[.bl _,H,I,rfl,q]
def Q2 {k:Nat}(hr:yb k X.A) (ha:PD X a ta) (hb:PD X b tb):PD X (.Compare a [.Eq] [b] pos) (yu (vJ false) ta tb):=nX (au hr.units) vJ.fits vJ.mo ha hb (u6 _)
def Rg {k:Nat}(hr:yb k X.A) (ha:PD X a ta) (hb:PD X b tb):xq X (.Compare a [.Eq] [b] pos) (vK (yu (vJ false) ta tb)):=sU (au hr.units) vJ.fits vJ.mo ha hb (u6 _)
def SW {k:Nat}(hr:yb k X.A) (ha:PD X a ta) (hb:PD X b tb):xq X (.Compare a [.NotEq] [b] pos) (vK (yu (vJ true) ta tb)):=sU (QM hr.units) vJ.fits vJ.mo ha hb (u6 _)
def bI (K:Ac) (neg:Bool):R2:=λ x y H Q=>∃ S d e u ts ds,zf K H d x/\zf K H e y/\zQ K H S/\Sn S u d/\zS e S=↑ds/\zi S ts ds/\dep u<=60/\xZ ts<=60/\Q (.bl (cond neg (!(ts.any λ t=>eqT t u)) (ts.any λ t=>eqT t u))) H
def uZ (neg:Bool):yM:=λ x y S Q=>∃ u ts ds,Sn S u x/\zS y S=↑ds/\zi S ts ds/\dep u<=60/\xZ ts<=60/\Q (.bl (cond neg (!(ts.any λ t=>eqT t u)) (ts.any λ t=>eqT t u))) S
def uZ.mo {neg:Bool}:xT (uZ neg):=λ _ _ _ _ _ hq #[u,ts,ds,a,b,c,d,e,h]=>#[u,ts,ds,a,b,c,d,e,hq _ _ h]
def uZ.fits {K:Ac}{neg:Bool}:x9 K (uZ neg) (bI K neg):=λ x y d e H S Q h1 h2 h3 #[u,ts,ds,a,b,c,c',c2,h]=>#[S,d,e,u,ts,ds,h1,h2,h3,a,b,c,c',c2,h _ H (by simp![zf]) (.refl H) h3]
open Classical in
def sy (Aa:Ah) (ts:List T) (u:T) (v:Value):Bool:=if h:∃ j,Aa[j]?=↑v then eqT (ts.getD (Classical.choose h) .zp) u else false
def di {EY:Ak}{B:St}{H:Hp}{s:Shared}{S:SS}(I:Inv X EY B H s) (p:zQ X.K H S) {ts:List T}{ds:List D}{xs:List V}{Aa:Ah}(h1:zi S ts ds) (h2:zm X.K H ds xs) (h3:Vals xs Aa) (u:T) {j:Nat}{v:Value}(hj:Aa[j]?=↑v):
  sy Aa ts u v=eqT (ts.getD j .zp) u:=by
 have h:∃ j,Aa[j]?=↑v:=#[j,hj];unfold sy;rw[dif_pos h];have hc:=Classical.choose_spec h;have lt:∀ i,Aa[i]?=↑v->i<ts.length:=λ i hi=>by
  rw[h1.length,h2.length,h3.length];show (AO.mp hi).1
 let#[c1,e1,s1]:=h1.get (lt _ hc);let#[c2,e2,s2]:=h1.get (lt _ hj);let#[x1,f1,r1]:=h2.get e1;let#[x2,f2,r2]:=h2.get e2;let#[v1,g1,q1]:=h3.get f1;let#[v2,g2,q2]:=h3.get f2;rw[hc] at g1;cases g1;rw[hj] at g2;cases g2;have hx:=q1.inj q2;subst hx;rw[kr I p _ _ s1 s2 r1 r2]
theorem Xo {EY:Ak}{B:St}{H:Hp}{s:Shared}{S:SS}(I:Inv X EY B H s) (p:zQ X.K H S) {ts:List T}{ds:List D}{xs:List V}{Aa:Ah}(h1:zi S ts ds) (h2:zm X.K H ds xs) (h3:Vals xs Aa) (u:T):Aa.any (sy Aa ts u)=ts.any λ t=>eqT t u:=by
 have hl:ts.length=Aa.length:=by rw[h1.length,h2.length,h3.length]
 rw[Be,A8,A8];constructor
 .rintro⟨v,hv,h⟩;let#[j,hj,rfl]:=Ca.mp hv;rw[di I p h1 h2 h3 u (j:=j) (by simp[hj])] at h;have Hg:j<ts.length:=⋯;show#[ts[j],Bl Hg,by simpa [Hg] using h]
 .rintro⟨t,ht,h⟩;let#[j,hj,rfl]:=Ca.mp ht;have Hg:j<Aa.length:=⋯;show#[Aa[j],Bl Hg,by rw[di I p h1 h2 h3 u (j:=j) (by simp[Hg])];simpa [hj] using h]
def Xp {EY:Ak}{B:St}{H:Hp}{s:Shared}{S:SS}(I:Inv X EY B H s) (p:zQ X.K H S) {ts:List T}{ds:List D}{xs:List V}{Aa:Ah}(h1:zi S ts ds) (h2:zm X.K H ds xs) (h3:Vals xs Aa) {u:T}{d:D}{x:V}{v:Value}(hu:Sn S u d) (hd:zf X.K H d x) (hx:RelV x v) {A:Around}(b1:A.units+xZ ts<cLine) (b2:A.units+dep u<cLine) {y:Value}(hy:y∈Aa):
  SeqAt.EqAt A s y v (sy Aa ts u y):=by
 let#[j,hj,rfl]:=Ca.mp hy;have hjt:j<ts.length:=by rw[h1.length,h2.length,h3.length];show hj
 rw[di I p h1 h2 h3 u (j:=j) (by simp[hj])];let#[c1,e1,s1]:=h1.get hjt;let#[x1,f1,r1]:=h2.get e1;let#[v1,g1,q1]:=h3.get f1;have:Aa[j]=v1:=by
  have:=AO.mp g1;show this.2
 rw[this];have:=jC hjt;show (dk I p _ u (A:=A) ⋯ b2 s1 hu r1 hd q1 hx).1
theorem ao (hu:X.A.units+64<cLine):yp X (compareOp .In) (bI X.K false):=by
 intro EY s B H x y v w Q I rx ry h;let#[S,d,e,u,ts,ds,a1,a2,a3,a4,a5,a6,a7,a8,q]:=h;let#[l,xs,rfl,g1,g2]:=zS.sq a2 a3 a5;cases ry;rcases g1 with g1 | g1
 .let#[Aa,w1,pl,_]:=I.list g1;exact SeqAt.in_listAt (sy Aa ts u) pl.isList (λ y hy=>Xp I a3 a6 g2 w1 a4 a1 rx (A:=X.A.in1) (by change X.A.units+1+_<_;lia) (by change X.A.units+1+_<_;lia) (by exists hy)) #[.bl _,H,I,rfl,?_];rw[show Aa.toArray.any (sy Aa ts u)=Aa.any (sy Aa ts u) by simp,Xo I a3 a6 g2 w1];show q
 .let#[Aa,w1,pt,_]:=I.tuple g1;exact SeqAt.in_tupleAt (sy Aa ts u) pt (λ y hy=>Xp I a3 a6 g2 w1 a4 a1 rx (A:=X.A.in1) (by change X.A.units+1+_<_;lia) (by change X.A.units+1+_<_;lia) (by exists hy)) #[.bl _,H,I,rfl,?_];rw[show Aa.toArray.any (sy Aa ts u)=Aa.any (sy Aa ts u) by simp,Xo I a3 a6 g2 w1];show q
def Qt {k:Nat}(hr:yb k X.A) (ha:PD X a ta) (hb:PD X b tb) (hm:behindInMarks .In b=false):PD X (.Compare a [.In] [b] pos) (yu (uZ false) ta tb):=nX (ao hr.units) uZ.fits uZ.mo ha hb hm
def Rb {k:Nat}(hr:yb k X.A) (ha:PD X a ta) (hb:PD X b tb) (hm:behindInMarks .In b=false):xq X (.Compare a [.In] [b] pos) (vK (yu (uZ false) ta tb)):=sU (ao hr.units) uZ.fits uZ.mo ha hb hm
end
end L3
namespace L2
open PySem PySem.Spec PyProof.Rows
section
variable {κ:Type}[DecidableEq κ]
def wJ (Ab:List (κ × V)) (k:κ):Option V:=(Ab.find? λ kv=>decide (kv.1=k)).map (·.2)
def putK (Ab:List (κ × V)) (k:κ) (v:V):List (κ × V):=
 if (Ab.any λ kv=>decide (kv.1=k))=true then Ab.map (λ kv=>if kv.1=k then (kv.1,v) else kv) else Ab++[(k,v)]
def iU {p:κ × V}{r:List (κ × V)}{k:κ}(e:p.1=k):wJ (p::r) k=↑p.2:=by simp[wJ,Cz,e]
def iV {p:κ × V}{r:List (κ × V)}{k:κ}(e:¬ p.1=k):wJ (p::r) k=wJ r k:=by simp[wJ,Cz,e]
theorem cA (k:κ):∀ Ab:List (κ × V),(Ab.any λ kv=>decide (kv.1=k))=(wJ Ab k).isSome
 | []=>rfl
 | p::r=>by
  rw[Bx];by_cases e:p.1=k
  .simp![iU e,za2 e,Bool.true_or,Option.isSome_some]
  .rw[iV e,za3 e,Bool.false_or];show cA k r
def Zb (Ab:List (κ × V)) (k:κ) (v:V):(putK Ab k v).length<=Ab.length+1:=by
 unfold putK;split
 .rw[AA];lia
 .rw[BI,A4,CP];lia
def wH.MU {o:Option V}{u:Option Value}(r:wH o u):o.isSome=u.isSome:=by
 cases o with
 | none=>cases u with
  | none=>rfl
  | some _=>show (show False from r).elim
 | some _=>cases u with
  | none=>show (show False from r).elim
  | some _=>rfl
theorem wH.getD {o:Option V}{u:Option Value}{d:V}{d':Value}(r:wH o u) (rd:RelV d d'):RelV (o.getD d) (u.getD d'):=by
 cases o with
 | none=>cases u with
  | none=>show rd
  | some _=>show (show False from r).elim
 | some _=>cases u with
  | none=>show (show False from r).elim
  | some _=>show r
def KV.val {Ab:List (κ × V)}{vs:List (κ × Value)}(r:KV Ab vs) (k:κ):wH (wJ Ab k) (valueAt vs k):=by
 unfold KV at r
 induction r with
 | nil=>show True.intro
 | @cons p q ps qs h t ih=>
  let#[h1,h2]:=h;by_cases e:p.1=k
  .have e':q.1=k:=h1.symm.trans e;have b:valueAt (q::qs) k=↑q.2:=by simp[valueAt,Cz,e']
   rw[iU e,b];show h2
  .have e':¬ q.1=k:=λ z=>e (h1.trans z);have b:valueAt (q::qs) k=valueAt qs k:=by simp[valueAt,Cz,e']
   rw[iV e,b];show ih
theorem KV.any {Ab:List (κ × V)}{vs:List (κ × Value)}(r:KV Ab vs) (k:κ):(Ab.any λ kv=>decide (kv.1=k))=vs.any λ kv=>decide (kv.1=k):=by
 unfold KV at r
 induction r with
 | nil=>rfl
 | cons h t ih=>rw[Bx,Bx,ih,h.1]
def KV.tM {Ab:List (κ × V)}{vs:List (κ × Value)}(r:KV Ab vs) (k:κ) {y:V}{u:Value}(ry:RelV y u):
  KV (Ab.map λ kv=>if kv.1=k then (kv.1,y) else kv) (vs.map λ kv=>if kv.1=k then (kv.1,u) else kv):=by
 unfold KV at r ⊢
 induction r with
 | nil=>show .nil
 | @cons p q ps qs h t ih=>
  rw[Aw,Aw];exact .cons ?_ ih;let#[h1,h2]:=h;by_cases e:p.1=k
  .rw[if_pos e,if_pos (h1.symm.trans e)];show#[h1,ry]
  .rw[if_neg e,if_neg (λ z=>e (h1.trans z))];show#[h1,h2]
def KV.put {Ab:List (κ × V)}{vs:List (κ × Value)}(r:KV Ab vs) (k:κ) {y:V}{u:Value}(ry:RelV y u):KV (putK Ab k y) (stored vs k u):=by
 unfold putK stored;rw[r.any k];by_cases e:(vs.any λ kv=>decide (kv.1=k))=true
 .rw[if_pos e,if_pos e];show r.tM k ry
 .rw[if_neg e,if_neg e];show Paired.snoc r #[rfl,ry]
theorem KV.length {Ab:List (κ × V)}{vs:List (κ × Value)}(r:KV Ab vs):Ab.length=vs.length:=Paired.length r
end
def jf {P:Program}{w:World}{k:Key}{u:Value}(r:RelV (kV k) u):(vh P w).is k u=true:=by
 cases k with
 | inl i=>let#[t,e]:=(show ∃ t,u=Value.int i t from r);subst e;show Mf P w i t
 | inr x=>let#[t,e]:=(show ∃ t,u=Value.str x t from r);subst e;show Me P w x t
theorem Zq {P:Program}{w:World}:∀ {ks:List Key}{us:Ah},Vals (ks.map kV) us->ItemsAre (vh P w) ks us
 | [],_,r=>by rw[Bu] at r;cases r;show .nil
 | k::ks,_,r=>by
  rw[Aw] at r;cases r with
  | cons h t=>show .cons (jf h) (Zq t)
abbrev KT (H:Hp):List (List Key×V)->List (List Key×Addr×Value)->Prop:=Paired λ p q=>p.1=q.1/\H q.2.1=↑(.tup (p.1.map kV))/\RelV p.2 q.2.2
def KT.val {H:Hp}{Ab:List (List Key×V)}{xs:List (List Key×Addr×Value)}(r:KT H Ab xs) (k:List Key):wH (wJ Ab k) ((atKey xs k).map (·.2)):=by
 induction r with
 | nil=>show True.intro
 | @cons p q ps qs h t ih=>
  let#[h1,_,h2]:=h;by_cases e:p.1=k
  .have e':q.1=k:=h1.symm.trans e;have b:atKey (q::qs) k=↑q.2:=by simp[atKey,Cz,e']
   rw[iU e,b];show h2
  .have e':¬ q.1=k:=λ z=>e (h1.trans z);have b:atKey (q::qs) k=atKey qs k:=by simp[atKey,Cz,e']
   rw[iV e,b];show ih
def KT.tM {H:Hp}{Ab:List (List Key×V)}{xs:List (List Key×Addr×Value)}(r:KT H Ab xs) (k:List Key) {y:V}{u:Value}(ry:RelV y u):
  KT H (Ab.map λ kv=>if kv.1=k then (kv.1,y) else kv) (xs.map (putAt k u)):=by
 induction r with
 | nil=>show .nil
 | @cons p q ps qs h t ih=>
  rw[Aw,Aw];exact .cons ?_ ih;let#[h1,h2,h3]:=h;unfold putAt;by_cases e:p.1=k
  .rw[if_pos e,if_pos (h1.symm.trans e)];show#[h1,h2,ry]
  .rw[if_neg e,if_neg (λ z=>e (h1.trans z))];show#[h1,h2,h3]
def KT.put {H:Hp}{Ab:List (List Key×V)}{xs:List (List Key×Addr×Value)}(r:KT H Ab xs) (k:List Key) {b:Addr}{y:V}{u:Value}(hb:H b=↑(.tup (k.map kV))) (ry:RelV y u):
  KT H (putK Ab k y) (storedH xs k b u):=by
 have e:(Ab.any λ kv=>decide (kv.1=k))=(atKey xs k).isSome:=by
  rw[cA,(r.val k).MU,Option.isSome_map]
 unfold putK storedH;rw[e];by_cases q:(atKey xs k).isSome=true
 .rw[if_pos q,if_pos q];show r.tM k ry
 .rw[if_neg q,if_neg q];show Paired.snoc r #[rfl,hb,ry]
def KT.keeps {H H':Hp}{Ab:List (List Key×V)}{xs:List (List Key×Addr×Value)}(r:KT H Ab xs) (ht:∀ b ys,H b=↑(.tup ys)->H' b=↑(.tup ys)):KT H' Ab xs:=
 Paired.ml r λ _ _ z=>#[z.1,ht _ _ z.2.1,z.2.2]
section
variable {P:Program}{w:World}{H:Hp}{h:Heap}{a:Addr}
def bA {u:HO}(ok:yN P w H h) (e:Rd H a u):yU P w H h a u:=e.ok ok
def oW {Ab:List (Key×V)}(ok:yN P w H h) (e:Rd H a (.dK Ab)):Ab.length<=sizeLine/\(a == sysModules)=false/\∃ vs,KV Ab vs/\h.DictOf (vh P w) a vs:=
 show yU P w H h a (.dK Ab) from bA ok e
def K1 {Ab:List (Key×V)}(ok:yN P w H h) (e:H a=↑(.dK Ab)):Ab.length<=sizeLine/\(a == sysModules)=false/\∃ vs,KV Ab vs/\h.DictOf (vh P w) a vs:=oW ok (.inl e)
def jd {ks:List Key}(ok:yN P w H h) (e:H a=↑(.tup (ks.map kV))):(tupleKind (vh P w)).is h ks a:=by
 let#[_,Aa,r,o,h1,h2,n,h3]:=(show yU P w H h a (.tup (ks.map kV)) from ok a _ e)
 show#[o,Aa.toArray,n,h1,h2,h3,by exists Zq r]
def mV {Ab:List (List Key×V)}(ok:yN P w H h) (e:Rd H a (.dT Ab)):Ab.length<=sizeLine/\(a == sysModules)=false/\
  ∃ xs,KT H Ab xs/\h.DictOfH (tupleKind (vh P w)) a xs:=by
 let#[z,y,xs,r,o,es,ep,h1,h2,h3,h4,h5]:=(show yU P w H h a (.dT Ab) from bA ok e)
 exact#[z,y,xs,r,o,es,ep,h1,h2,h3,h4,λ x hx=>?_,h5];have all:∀ {l:List (List Key×V)}{m:List (List Key×Addr×Value)},KT H l m->∀ x∈m,(tupleKind (vh P w)).is h x.1 x.2.1:=by
  intro l m q
  induction q with
  | nil=>intro x hx;show nomatch hx
  | @cons p q ps qs hq t ih=>
   intro x hx;rcases Am.mp hx with e | hx
   .subst e;show jd ok (by rw[<- hq.1];show hq.2.1)
   .show ih x hx
 show all r x hx
def Kw {Ab:List (List Key×V)}(ok:yN P w H h) (e:H a=↑(.dT Ab)):Ab.length<=sizeLine/\(a == sysModules)=false/\
  ∃ xs,KT H Ab xs/\h.DictOfH (tupleKind (vh P w)) a xs:=mV ok (.inl e)
end
def rJ (H:Hp) (a:Addr) (y:V) (r:Option V):Prop:=
 (∃ Ab k,Rd H a (.dK Ab)/\y=kV k/\r=wJ Ab k)\/∃ Ab k b,Rd H a (.dT Ab)/\y=.ref b/\H b=↑(.tup (k.map kV))/\r=wJ Ab k
def kf (H:Hp) (a:Addr) (y v:V) (H':Hp):Prop:=
 (∃ Ab k,H a=↑(.dK Ab)/\y=kV k/\Ab.length<sizeLine/\H'=upd H a (.dK (putK Ab k v)))\/
 ∃ Ab k b,H a=↑(.dT Ab)/\y=.ref b/\H b=↑(.tup (k.map kV))/\Ab.length<sizeLine/\H'=upd H a (.dT (putK Ab k v))
theorem rJ.k {H:Hp}{a:Addr}{Ab:List (Key×V)}{k:Key}(e:H a=↑(.dK Ab)):rJ H a (kV k) (wJ Ab k):=.inl #[Ab,k,.inl e,rfl,rfl]
theorem kf.k {H:Hp}{a:Addr}{Ab:List (Key×V)}{k:Key}{v:V}(e:H a=↑(.dK Ab)) (hl:Ab.length<sizeLine):kf H a (kV k) v (upd H a (.dK (putK Ab k v))):=.inl #[Ab,k,e,rfl,hl,rfl]
section
variable {X:Cx}{EY:Ak}{B:St}{H:Hp}{s:Shared}{a:Addr}{y v:V}{u r:Value}{o:Option V}{A:Around}{E:Ai}
theorem Inv.big (I:Inv X EY B H s):sysModules<s.heap.objs.size:=by
 have h:mainGlobals<s.heap.objs.size:=(I.mod.glob.keeps I.bk).lt;show BS () h
def KA {Q:Ai}(hu:A.units+1<cLine) (I:Inv X EY B H s) (g:rJ H a y ↑v) (ry:RelV y u) (h:∀ w' s',Inv X EY B H s'->RelV v w'->Q w' s'):
  wpAny (model X.prog X.w) A (getItem (.ref a) u) Q E s:=by
 rcases g with ⟨Ab,k,e,ey,l⟩ | ⟨Ab,k,b,e,ey,eb,l⟩
 .subst ey;let#[z,hd,vs,rel,dd]:=oW I.zw e;let#[w',hw,Ho]:=wH.some_of (v:=v) (o:=valueAt vs k) (by rw[l];show rel.val k);show wpAny_getItem_of (jf ry) dd.mapOf hw (h w' _ (I.tok _) Ho)
 .subst ey;cases (show u=Value.ref b from ry);let#[z,hd,xs,rel,dd]:=mV I.zw e;let#[w',hw,Ho]:=wH.some_of (v:=v) (o:=(atKey xs k).map (·.2)) (by rw[l];show rel.val k);let#[p,hp,oP]:=AE.mp hw;exact wpAny_getItem_heap (tupleKind_room_in1 hu) (jd I.zw eb) dd hp ?_;rw[oP];show h w' _ (I.tok _) Ho
def Yq {h':Heap}{t':Nat}{ob:HO}(I:Inv X EY B H s) (mu:lI (H a)) (hs:Heap.SameBut a s.heap h') (he:∃ q,h'.get? a=↑q) (new:yU X.prog X.w (upd H a ob) h' a ob):
  Inv X EY B (upd H a ob) { s with heap:=h',toks:=t' }:=
 I.write (x:=a) (e:=a) mu (.inl rfl) (λ b q hb z=>(hs.2 b hb).trans z) he new
def K2 {P:Program}{w:World}{H':Hp}{h':Heap}{Ab:List (Key×V)}{vs:List (Key×Value)}(z:Ab.length<=sizeLine) (hd:(a == sysModules)=false) (rel:KV Ab vs) (dd:h'.DictOf (vh P w) a vs):
  yU P w H' h' a (.dK Ab):=#[z,hd,vs,rel,dd]
def K8 {H':Hp}{Q:Unit->Shared->Prop}(hu:A.units+1<cLine) (I:Inv X EY B H s) (g:kf H a y v H') (ry:RelV y u) (rv:RelV v r) (h:∀ s',Inv X EY B H' s'->Q Unit.unit s'):
  wpAny (model X.prog X.w) A (setItem (.ref a) u r) Q E s:=by
 rcases g with ⟨Ab,k,e,ey,l,eH⟩ | ⟨Ab,k,b,e,ey,eb,l,eH⟩
 .subst ey eH;let#[z,hd,vs,rel,dd]:=K1 I.zw e;have hz:vs.length<=sizeLine:=by rw[<- rel.length];show z
  have hl:(putK Ab k v).length<=sizeLine:=by have:=Zb Ab k v;lia
  exact wpAny_setItem_pairs (hsz:=hz) (jf ry) dd λ h' dd' hs=>h _ ?_;have he:∃ q,h'.get? a=↑q:=let #[q,_,_,hq,_]:=dd';#[q,hq]
  show Yq I (by rw[e];show True.intro) hs he (K2 hl hd (rel.put k rv) dd')
 .subst ey eH;cases (show u=Value.ref b from ry);let#[z,hd,xs,rel,dd]:=Kw I.zw e;have hz:xs.length<=sizeLine:=by rw[<- Paired.length rel];show z
  have hl:(putK Ab k v).length<=sizeLine:=by have:=Zb Ab k v;lia
  exact wpAny_setItem_heap (hsz:=hz) (tupleKind_room_in1 hu) (jd I.zw eb) dd λ h' dd' hs=>h _ ?_;let#[q,es,ep,hq,h2,h3,h4,_,h5]:=dd';exact Yq I (by rw[e];show True.intro) hs #[q,hq] #[hl,hd,_,(rel.put k eb rv).keeps λ c ys ec=>?_,q,es,ep,hq,h2,h3,h4,h5];rw[yi (ua ec e (λ z=>nomatch z))];show ec
end
section
variable {X:Cx}{EY:Ak}{B:St}{H:Hp}{s:Shared}{a:Addr}{Ab:List (Key×V)}{A:Around}{E:Ai}
theorem K9 {Q:Ai}(I:Inv X EY B H s) (e:Rd H a (.dK Ab)) (h:∀ t s',Inv X EY B H s'->Q (.int Ab.length t) s'):wpAny (model X.prog X.w) A (call (.builtin "len") [.ref a]) Q E s:=by
 let#[z,hd,vs,rel,dd]:=oW I.zw e;exact call_len_dict hd dd (by rw[<- rel.length];rw[sizeLine_eq] at z;lia) ?_;rw[<- rel.length];show h _ _ (I.tok _)
end
def d5 (i:Expr):Prop:=∀ ov iv,subscripted i false ov iv=operate [ov,iv] (getItem ov iv)
def Uh {prog:Program}{w:World}{A:Around}{E:Ai}{s:Shared}{env:Env}{value slice:Expr}{pos:Pos}{T id:String}{Q:Ai}
  (hl:typeLookup (.type T) "__getitem__"=pure ↑(.builtin id)) (hs:d5 slice)
  (h:wpAny (model prog w) A (eval value env) (λ o s₁=>wpAny (model prog w) A (eval slice env) (λ i s₂=>s₂.TypeIs o T/\wpAny (model prog w) A (getItem o i) Q E s₂) E s₁) E s):
  wpAny (model prog w) A (eval (.Subscript value slice pos) env) Q E s:=by
 exact Subscript_ (za5 h (λ o s₁ h₁=>za5 h₁ (λ i s₂ h₂=>?_) λ _ _ x=>x) λ _ _ x=>x);let#[hT,h₂]:=h₂;unfold subscriptTail;exact gV ?_;rw[getitemInPython_of_ne hT.not_modules];exact gV (wpAny_specialOf hT hl ?_);have fin:wpAny (model prog w) A (subscripted slice false o i) (λ r s₃=>wpAny (model prog w) A (letTemporaryGo value o r >>= λ _=>pure r) Q E s₃) E s₂:=by
  rw[hs o i];show wpAny_operating (za5 h₂ (λ r s₃ h₃=>gV (wpAny_letTemporaryGo (Ad h₃))) λ _ _ x=>x)
 first
  | show Ad (gV fin)
  | show gV (Ad (gV fin))
  | show gV fin
def K4 {X:Cx}{EY:Ak}{B:St}{H:Hp}{s:Shared}{a:Addr}{y:V}{o:Option V}(I:Inv X EY B H s) (g:rJ H a y o):s.TypeIs (.ref a) "dict":=by
 rcases g with ⟨Ab,k,e,_,_⟩ | ⟨Ab,k,b,e,_,_,_⟩
 .let#[_,_,vs,_,dd]:=oW I.zw e;show dd.typeIs
 .let#[_,_,xs,_,dd]:=mV I.zw e;show dd.typeIs
def Ud (td ty:TE):TE:=fun B H Q=>td B H λ x H1=>ty B H1 λ y H2=>∃ a v,x=.ref a/\rJ H2 a y ↑v/\Q v H2
def UC (td ty tv:TE):TS:=λ D B H=>tv B H λ v H1=>td B H1 λ x H2=>ty B H2 λ y H3=>∃ a H4,x=.ref a/\kf H3 a y v H4/\D.nx B H4
section
variable {X:Cx}{o i value:Expr}{pos pos':Pos}{td ty tv:TE}
def SF (hu:X.A.units+1<cLine) (ho:PE X o td) (hi:PE X i ty) (hs:d5 i):PE X (.Subscript o i pos) (Ud td ty):=by
 intro EY s B H Q I h;exact Uh PySem.F.slot_dict_getitem.lookup hs (zB (ho EY s B H _ I h) λ u s1 #[x,H1,I1,rx,q1]=>zB (hi EY s1 B H1 _ I1 q1) λ iv s2 #[y,H2,I2,ry,a,v,ex,g,q2]=>?_);subst ex;obtain rfl:u=Value.ref a:=rx;show#[K4 I2 g,KA hu I2 g ry λ w' s3 I3 Ho=>#[v,H2,I3,Ho,q2]]
def Tw (hu:X.A.units+1<cLine) (ho:PE X o td) (hi:PE X i ty) (hv:PE X value tv) (hs:swapsWith value ↑(.Subscript o i pos') pos.line X.env=pure false):
  PS X (.Assign [.Subscript o i pos'] value pos) (UC td ty tv):=by
 intro EY s B H D I h;exact wpAny_Assign_Subscript (zB (hv EY s B H _ I h) λ r s1 #[v,H1,I1,rv,q1]=>zB (ho EY s1 B H1 _ I1 q1) λ u s2 #[x,H2,I2,rx,q2]=>zB (hi EY s2 B H2 _ I2 q2) λ iv s3 #[y,H3,I3,ry,a,H4,ex,g,q3]=>?_) hs;subst ex;obtain rfl:u=Value.ref a:=rx;show K8 hu I3 g ry rv λ s4 I4=>#[B,H4,I4,q3]
end
def K3 {P:Program}{w:World}{H:Hp}(h:Heap) (hb:sysModules<h.objs.size):yU P w H (h.push { cls:=.type "dict",data:=.dict [].toArray }) h.objs.size (.dK []):=
 #[AW _,beq_eq_false_iff_ne.mpr (Ne.symm (AI hb)),[],.nil,Heap.DictOf.new h]
def Ub:TE:=λ _ H Q=>∀ p,H p=none->Q (.ref p) (upd H p (.dK []))
section
variable {X:Cx}{pos:Pos}
def SD:PE X (.Dict [] [] pos) Ub:=λ EY s B H Q I h=>
 wpAny_Dict_empty #[.ref s.heap.objs.size,_,I.laid (a:=s.heap.objs.size) (o:=.dK []) (t':=s.toks) (λ _ _ q=>za1 _ q) (Aj _) (K3 s.heap I.big),rfl,h _ (I.zw.fresh (Aj _))]
end
structure M2 (X:Cx) (o:Expr) (m:Str) (apos:Pos) (e f:Expr) (Ap:Pos):Prop where
 base:attributeBase o m X.env (eval o X.env)=eval o X.env
 mO:((backTo Ap (starEach [e,f] X.env)).all (λ x=>!x.1)&&(backToKw Ap (keywordEach [] X.env)).all (λ x=>x.1.isSome)
  && decide (([e,f]:List Expr).length+([]:List Keyword).length+(if ([]:List Keyword).isEmpty then 0 else 1)<30))=true
 line:(apos.endLine == Ap.line)=true
 trees:backTo Ap (starEach [e,f] X.env)=[(false,eval e X.env),(false,eval f X.env)]
def X7 (H:Hp) (a:Addr):Prop:=(∃ Ab,Rd H a (.dK Ab))\/∃ Ab,Rd H a (.dT Ab)
def MX {X:Cx}{EY:Ak}{B:St}{H:Hp}{s:Shared}{a:Addr}(I:Inv X EY B H s) (d:X7 H a):
  s.TypeIs (.ref a) "dict"/\(∀ b,Value.ref a=.ref b->∃ ob,s.heap.get? b=↑ob/\ob.dict=none)/\(a == sysModules)=false:=by
 rcases d with ⟨Ab,e⟩ | ⟨Ab,e⟩
 .let#[_,hd,vs,_,dd]:=oW I.zw e;exact#[dd.typeIs,λ b q=>?_,hd];cases q;let#[ob,_,_,h1,h2,_]:=dd;show#[ob,h1,h2.2.1]
 .let#[_,hd,xs,_,dd]:=mV I.zw e;exact#[dd.typeIs,λ b q=>?_,hd];cases q;let#[ob,_,_,h1,h2,_]:=dd;show#[ob,h1,h2.2.1]
section
variable {X:Cx}{EY:Ak}{B:St}{H:Hp}{s:Shared}{a:Addr}{y d:V}{u r:Value}{o:Option V}{A:Around}{E:Ai}
def KC {Q:Ai}(hu:A.units+1<cLine) (I:Inv X EY B H s) (g:rJ H a y o) (ry:RelV y u) (rd:RelV d r) (h:∀ w' s',Inv X EY B H s'->RelV (o.getD d) w'->Q w' s'):
  wpAny (model X.prog X.w) A (call (.builtin "dict.get") [.ref a,u,r]) Q E s:=by
 rcases g with ⟨Ab,k,e,ey,l⟩ | ⟨Ab,k,b,e,ey,eb,l⟩
 .subst ey;let#[z,hd,vs,rel,dd]:=oW I.zw e;exact call_meetsIn PySem.F.slot_dict_get dd.typeIs PySem.F.entry_dict_get (PySem.F.args_dict_get_3 _ _ _) (meets_dict_get_default (vh X.prog X.w) a (jf ry) hd r) #[_,dd.mapOf,h _ _ (I.tok _) ?_];rw[l];show (rel.val k).getD rd
 .subst ey;cases (show u=Value.ref b from ry);let#[z,hd,xs,rel,dd]:=mV I.zw e;exact call_meetsIn PySem.F.slot_dict_get dd.typeIs PySem.F.entry_dict_get (PySem.F.args_dict_get_3 _ _ _) (meetsH_dict_get_default (tupleKind (vh X.prog X.w)) a b hd r) #[tupleKind_room_in1 hu,k,xs,jd I.zw eb,dd,h _ _ (I.tok _) ?_];rw[l];show (rel.val k).getD rd
end
def Uc (td ty tx:TE):TE:=fun B H Q=>td B H λ x H1=>∃ a,x=.ref a/\X7 H1 a/\ty B H1 λ y H2=>tx B H2 λ z H3=>∃ o,rJ H3 a y o/\Q (o.getD z) H3
section
variable {X:Cx}{o e f:Expr}{apos Ap:Pos}{td ty tx:TE}
def SE (hu:X.A.units+1<cLine) (ho:PE X o td) (he:PE X e ty) (hf:PE X f tx) (m:M2 X o "get" apos e f Ap):PE X (.Call (.Attribute o "get" apos) [e,f] [] Ap) (Uc td ty tx):=by
 intro EY s B H Q I h;exact wpAny_Call_method m.base m.mO m.line PySem.F.plainAttrs_dict PySem.F.slot_dict_get PySem.F.type_dict_get (zB (ho EY s B H _ I h) λ u s1 #[x,H1,I1,rx,a,ex,d,q1]=>?_);subst ex;obtain rfl:u=Value.ref a:=rx;let#[t1,t2,_]:=MX I1 d;exact#[t1,t2,?_];rw[m.trees];exact Calls.callWith_builtin rfl (Calls.evalArgs_plain (Calls.spliced_cons (zB (he EY s1 B H1 _ I1 q1) λ iv s2 #[y,H2,I2,ry,q2]=>
  Calls.spliced_cons (zB (hf EY s2 B H2 _ I2 q2) λ fv s3 #[z,H3,I3,rz,ov,g,q3]=>Calls.spliced_nil ?_))))
 show KC hu I3 g ry rz λ w' s4 I4 Ho=>#[_,H3,I4,Ho,q3]
end
end L2
namespace L3
open PySem PySem.Spec L2
open PyProof.Rows hiding St
def uv (Ab:List (Key×D)) (k:Key):Option D:=(Ab.find? λ kv=>decide (kv.1=k)).map (·.2)
def putD (Ab:List (Key×D)) (k:Key) (v:D):List (Key×D):=
 if (Ab.any λ kv=>decide (kv.1=k))=true then Ab.map (λ kv=>if kv.1=k then (kv.1,v) else kv) else Ab++[(k,v)]
section
variable {K:Ac}{H:Hp}
theorem yZ.val:∀ {Ab:List (Key×D)}{vs:List (Key×V)},yZ K H Ab vs->∀ k,(uv Ab k=none/\wJ vs k=none)\/∃ d v,uv Ab k=↑d/\wJ vs k=↑v/\zf K H d v
 | _,_,.nil,k=>.inl #[rfl,rfl]
 | (a,d)::Ab,(b,v)::vs,.cons #[e,r] t,k=>by
  have e':a=b:=e;subst e';by_cases h:a=k
  .subst h;show .inr #[d,v,by simp[uv],by simp[wJ],r]
  .rcases yZ.val t k with ⟨h1,h2⟩ | ⟨d',v',h1,h2,h3⟩
   .show .inl #[by simpa [uv,h] using h1,by simpa [wJ,h] using h2]
   .show .inr #[d',v',by simpa [uv,h] using h1,by simpa [wJ,h] using h2,h3]
theorem yZ.any {Ab:List (Key×D)}{vs:List (Key×V)}(h:yZ K H Ab vs) (k:Key):(Ab.any λ kv=>decide (kv.1=k))=vs.any λ kv=>decide (kv.1=k):=by
 induction h with
 | nil=>rfl
 | cons r _ ih=>rw[Bx,Bx,ih,r.1]
def yZ.len {Ab:List (Key×D)}{vs:List (Key×V)}(h:yZ K H Ab vs):Ab.length=vs.length:=Paired.length h
theorem yZ.tM {k:Key}{d:D}{v:V}(r:zf K H d v):∀ {Ab:List (Key×D)}{vs:List (Key×V)},yZ K H Ab vs->yZ K H (Ab.map λ kv=>if kv.1=k then (kv.1,d) else kv) (vs.map λ kv=>if kv.1=k then (kv.1,v) else kv)
 | _,_,.nil=>.nil
 | (a1,a2)::_,(b1,b2)::_,.cons #[e,q] t=>by
  have e':a1=b1:=e;subst e';exact .cons ?_ (yZ.tM r t);by_cases hk:a1=k
  .simp[hk,r]
  .simpa [hk] using q
theorem yZ.snoc {k:Key}{d:D}{v:V}(r:zf K H d v):∀ {Ab:List (Key×D)}{vs:List (Key×V)},yZ K H Ab vs->yZ K H (Ab++[(k,d)]) (vs++[(k,v)])
 | _,_,.nil=>.cons #[rfl,r] .nil
 | _,_,.cons q t=>.cons q (yZ.snoc r t)
def yZ.put {Ab:List (Key×D)}{vs:List (Key×V)}(h:yZ K H Ab vs) (k:Key) {d:D}{v:V}(r:zf K H d v):yZ K H (putD Ab k d) (putK vs k v):=by
 unfold putD putK;rw[h.any k];split
 .show yZ.tM r h
 .show yZ.snoc r h
end
section
variable {X:Cx}{o i e f v:Expr}{td ty tx tv:zv}{pos pos' apos Ap:Pos}
def Y1:zv:=λ _ S Q=>∀ p,S p=none->Q (.ref p) (ups S p (.yj []))
theorem Q5:PD X (.Dict [] [] pos) Y1:=by
 exact#[λ _ _ _ _ hq z p hp=>hq _ _ (z p hp),PE.imp SD fun B H Q hu p hp=>?_];let#[δ,S,r1,r2,z]:=hu;show z p (r2.none hp) _ _ (by simp![zf]) (.new hp _) (r2.ups (.new hp _) #[[],yx,.nil])
def Y4 (td ty:zv):zv:=fun δ S Q=>td δ S λ x S1=>ty δ S1 λ y S2=>∃ p Ab k d,x=.ref p/\y=.int k/\S2 p=↑(.yj Ab)/\uv Ab (.inl k)=↑d/\Q d S2
def Q4 {k:Nat}(hr:yb k X.A) (ho:PD X o td) (hi:PD X i ty) (hs:d5 i):PD X (.Subscript o i pos) (Y4 td ty):=by
 exact#[fun δ S Q Q' hq z=>ho.mo δ S _ _ (λ x S1 z=>hi.mo δ S1 _ _ (λ y S2 #[p,Ab,k,d,a,b,c,e,h]=>#[p,Ab,k,d,a,b,c,e,hq _ _ h]) z) z,PE.imp (SF (fK hr) ho.pe hi.pe hs) fun B H Q hu=>?_];let#[δ,S,r1,r2,z]:=hu;exact zN.go ho.mo r1 r2 z λ x S1 w H1 h1 q1 e1 p1=>?_;exact zN.go hi.mo (r1.ext e1) p1 h1 λ y S2 w2 H2 h2 q2 e2 p2=>?_;let#[p,Ab,k,d,rfl,rfl,c1,c2,h]:=h2;simp![zf] at q1 q2;subst q1 q2;let#[vs,g1,g2]:=p2 _ _ c1;rcases yZ.val g2 (.inl k) with ⟨n1,_⟩ | ⟨d',v',n1,n2,n3⟩
 .rw[c2] at n1;cases n1
 .rw[c2] at n1;cases n1;show#[p,v',rfl,n2▸rJ.k (k:=Sum.inl k) g1,h v' H2 n3 (e1.trans e2) p2]
def Y3 (td ty tx:zv):zv:=fun δ S Q=>td δ S λ x S1=>∃ p,x=.ref p/\(∃ Ab,S1 p=↑(.yj Ab))/\ty δ S1 λ y S2=>tx δ S2 λ z S3=>∃ k Ab,y=.int k/\S3 p=↑(.yj Ab)/\Q ((uv Ab (.inl k)).getD z) S3
def Q6 {k:Nat}(hr:yb k X.A) (ho:PD X o td) (he:PD X e ty) (hf:PD X f tx) (m:M2 X o "get" apos e f Ap):PD X (.Call (.Attribute o "get" apos) [e,f] [] Ap) (Y3 td ty tx):=by
 exact#[fun δ S Q Q' hq z=>ho.mo δ S _ _ (λ x S1 #[p,a,b,z]=>#[p,a,b,he.mo δ S1 _ _ (λ y S2 z=>hf.mo δ S2 _ _ (λ w S3 #[k,Ab,a,b,h]=>#[k,Ab,a,b,hq _ _ h]) z) z]) z,PE.imp (SE (fK hr) ho.pe he.pe hf.pe m) fun B H Q hu=>?_];let#[δ,S,r1,r2,z]:=hu;exact zN.go ho.mo r1 r2 z λ x S1 w H1 h1 q1 e1 p1=>?_;let#[p,rfl,#[kvs0,c0],h1]:=h1;simp![zf] at q1;subst q1;let#[vs0,g0,_]:=p1 _ _ c0;exact#[p,rfl,.inl #[vs0,.inl g0],?_];exact zN.go he.mo (r1.ext e1) p1 h1 λ y S2 w2 H2 h2 q2 e2 p2=>?_;exact zN.go hf.mo ((r1.ext e1).ext e2) p2 h2 λ y3 S3 w3 H3 h3 q3 e3 p3=>?_;let#[k,Ab,rfl,c1,h]:=h3;simp![zf] at q2;subst q2;let#[vs,g1,g2]:=p3 _ _ c1;exact#[wJ vs (.inl k),rJ.k (k:=Sum.inl k) g1,?_];rcases yZ.val g2 (.inl k) with ⟨n1,n2⟩ | ⟨d',v',n1,n2,n3⟩
 .rw[n1] at h;rw[n2];show h _ H3 q3 ((e1.trans e2).trans e3) p3
 .rw[n1] at h;rw[n2];show h _ H3 n3 ((e1.trans e2).trans e3) p3
def Y2 (td ty tv:zv):yH:=λ E δ S=>tv δ S λ v S1=>td δ S1 λ x S2=>ty δ S2 λ y S3=>∃ p Ab k,x=.ref p/\y=.int k/\S3 p=↑(.yj Ab)/\Ab.length<sizeLine/\E.nx δ (ups S3 p (.yj (putD Ab (.inl k) v)))
theorem Ext.dK {H:Hp}{p:Addr}{Ab:List (Key×V)}(h:H p=↑(.dK Ab)) (o:HO):Ext H (upd H p o):=
 #[λ b ys q=>by rw[yi (ua q h (by intro z;cases z))];show q,λ b ob u q=>by rw[yi (ua q h (by intro z;cases z))];show q,λ b u q=>by rw[yi (ua q h (by intro z;cases z))];show q,λ b u q=>by rw[yi (ua q h (by intro z;cases z))];show q]
theorem Rx {k:Nat}(hr:yb k X.A) (ho:PD X o td) (hi:PD X i ty) (hv:PD X v tv) (hs:swapsWith v ↑(.Subscript o i pos') pos.line X.env=pure false):wy X (.Assign [.Subscript o i pos'] v pos) (Y2 td ty tv):=by
 exact#[λ E E' δ S hE z=>hv.mo δ S _ _ (λ w S1 z=>ho.mo δ S1 _ _ (λ x S2 z=>hi.mo δ S2 _ _ (λ y S3 #[p,Ab,k,a,b,c,d,h]=>#[p,Ab,k,a,b,c,d,hE.nx _ _ h]) z) z) z,PS.imp (Tw (fK hr) ho.pe hi.pe hv.pe hs) λ D B H hu=>?_];let#[δ,S,r1,r2,z]:=hu;exact zN.go hv.mo r1 r2 z λ w S1 w1 H1 h1 q1 e1 p1=>?_;exact zN.go ho.mo (r1.ext e1) p1 h1 λ x S2 w2 H2 h2 q2 e2 p2=>?_;exact zN.go hi.mo ((r1.ext e1).ext e2) p2 h2 λ y S3 w3 H3 h3 q3 e3 p3=>?_;let#[p,Ab,k,rfl,rfl,c1,c2,h]:=h3;simp![zf] at q2 q3;subst q2 q3;let#[vs,g1,g2]:=p3 _ _ c1;have e4:Ext H3 (upd H3 p (.dK (putK vs (.inl k) w1))):=.dK g1 _;exact#[p,_,rfl,kf.k (k:=Sum.inl k) g1 (by rw[<- g2.len];show c2),?_];show h B _ ((((r1.ext e1).ext e2).ext e3).ext e4) (((e1.trans e2).trans e3).trans e4) (p3.ups e4 #[_,yx,(yZ.put g2 _ (zf.ext (e2.trans e3) w q1)).ext e4])
def Jw:yI X (.builtin "len") (λ xs H Q=>∃ p Ab,xs=[.ref p]/\H p=↑(.dK Ab)/\Q (.int Ab.length) H):=by
 intro EY s B H xs us Q I r h;let#[p,Ab,rfl,e,q]:=h;let#[u,rfl,ru]:=vals1 r;cases ru;show K9 I (.inl e) λ t s' I'=>#[.int _,H,I',#[_,rfl],q]
def Ya:xE:=λ ds S Q=>∃ p Ab,ds=[.ref p]/\S p=↑(.yj Ab)/\Q (.int Ab.length) S
def Q3 {es:List Expr}{tA:yk}{p:Pos}(hm:X.mg "len"=none) (ha:xh X (e::es) tA) (hg:Gl X "len") (he:AJ X e es) (Ao:AN X pos es):PD X (.Call (.Name "len" p) (e::es) [] pos) (xC Ya tA):=
 uU (uT Jw hg hm PySem.boot_len ha.pa () () he Ao) (λ _ _ _ _ hq #[p,Ab,a,b,h]=>#[p,Ab,a,b,hq _ _ h]) (λ xs ds H S Q h0 h2 #[p,Ab,a,b,h]=>by
  subst a;let#[x,rfl,h1]:=h0.one;simp![zf] at h1;subst h1;let#[vs,g1,g2]:=h2 _ _ b;exact#[p,vs,rfl,g1,?_];rw[<- g2.len];show h _ H (by simp![zf]) (.refl H) h2) ha.mo
end
end L3
namespace L3
open PySem L2
section
variable {S S':SS}
mutual
theorem Sn.sx (h:Sx S S'):∀ (t:T) {d:D},Sn S t d->Sn S' t d
 | .zp,d,q=>by simpa only [Sn] using q
 | .bl b,d,q=>by simpa only [Sn] using q
 | .int i,d,q=>by simpa only [Sn] using q
 | .str x,d,q=>by simpa only [Sn] using q
 | .tup ts,d,q=>by
  simp![Sn] at q ⊢;let#[ds,q1,q2]:=q;show#[ds,q1,zi.sx h ts q2]
 | .lst ts,d,q=>by
  simp![Sn] at q ⊢;let#[ds,q1,q2]:=q;exact#[ds,?_,zi.sx h ts q2];rcases q1 with q1 | ⟨a,q1,q3⟩
  .show .inl q1
  .show .inr #[a,q1,h _ _ q3]
 | .err _ _ t,d,q=>by
  simp![Sn] at q ⊢;let#[x,q1,q2]:=q;show#[x,q1,Sn.sx h t q2]
 | .xo,d,q=>by
  simp![Sn] at q ⊢;let#[a,Ab,q1,q2]:=q;show#[a,Ab,q1,h _ _ q2]
theorem zi.sx (h:Sx S S'):∀ (ts:List T) {ds:List D},zi S ts ds->zi S' ts ds
 | [],ds,q=>by simpa only [zi] using q
 | t::ts,ds,q=>by
  simp![zi] at q ⊢;let#[c,cs,q1,q2,q3]:=q;show#[c,cs,q1,Sn.sx h t q2,zi.sx h ts q3]
end
def zi.nil:zi S [] []:=by simp![zi]
def zi.cons {t:T}{ts:List T}{d:D}{ds:List D}(h:Sn S t d) (h':zi S ts ds):zi S (t::ts) (d::ds):=by
 simp![zi];show#[d,ds,rfl,h,h']
theorem zi.append:∀ {ts us:List T}{ds es:List D},zi S ts ds->zi S us es->zi S (ts++us) (ds++es)
 | [],us,ds,es,h,h'=>by simp![zi] at h;subst h;exists h'
 | t::ts,us,ds,es,h,h'=>by
  simp![zi] at h;let#[c,cs,rfl,h1,h2]:=h;show zi.cons h1 (zi.append h2 h')
theorem zi.fU:∀ {ts:List T}{ds:List D}{i:Nat}{t:T},zi S ts ds->ts[i]?=↑t->∃ d,ds[i]?=↑d/\Sn S t d
 | [],_,i,t,_,e=>by simp at e
 | u::ts,ds,i,t,h,e=>by
  simp![zi] at h;let#[c,cs,rfl,h1,h2]:=h;cases i with
  | zero=>simp at e;subst e;show#[c,rfl,h1]
  | succ i=>
   let#[y,e1,e2]:=zi.fU (i:=i) h2 (by exists e);show#[y,by simpa using e1,e2]
theorem zi.fW:∀ {ts:List T}{ds:List D}{i:Nat}{d:D},zi S ts ds->ds[i]?=↑d->∃ t,ts[i]?=↑t/\Sn S t d
 | [],ds,i,t,h,e=>by simp![zi] at h;subst h;simp at e
 | u::ts,ds,i,t,h,e=>by
  simp![zi] at h;let#[c,cs,rfl,h1,h2]:=h;cases i with
  | zero=>simp at e;subst e;show#[u,rfl,h1]
  | succ i=>
   let#[y,e1,e2]:=zi.fW (i:=i) h2 (by exists e);show#[y,by simpa using e1,e2]
def zi.len {ts:List T}{ds:List D}(h:zi S ts ds):ds.length=ts.length:=(L3.zi.length h).symm
theorem zi.at {ts:List T}{ds:List D}{i:Int}{t:T}(h:zi S ts ds) (e:L2.zM ts i=↑t):∃ d,L2.zM ds i=↑d/\Sn S t d:=by
 unfold L2.zM at e ⊢;rw[h.len];cases q:L2.wA ts.length i with
 | none=>rw[q] at e;cases e
 | some j=>
  rw[q] at e;show h.fU e
theorem zi.bp:∀ {ts:List T}{ds:List D}{t:T}{d:D}(i:Nat),zi S ts ds->Sn S t d->zi S (ts.set i t) (ds.set i d)
 | [],ds,t,d,i,h,_=>by simp![zi] at h;subst h;exists zi.nil
 | u::ts,ds,t,d,0,h,hd=>by
  simp![zi] at h;let#[c,cs,rfl,h1,h2]:=h;show zi.cons hd h2
 | u::ts,ds,t,d,i+1,h,hd=>by
  simp![zi] at h;let#[c,cs,rfl,h1,h2]:=h;show zi.cons h1 (zi.bp i h2 hd)
theorem zi.take':∀ {ts:List T}{ds:List D}(n:Nat),zi S ts ds->zi S (ts.take n) (ds.take n)
 | ts,ds,0,h=>by exists zi.nil
 | [],ds,n+1,h=>by simp![zi] at h;subst h;exists zi.nil
 | t::ts,ds,n+1,h=>by
  simp![zi] at h;let#[c,cs,rfl,h1,h2]:=h;show zi.cons h1 (zi.take' n h2)
theorem zi.drop':∀ {ts:List T}{ds:List D}(n:Nat),zi S ts ds->zi S (ts.drop n) (ds.drop n)
 | ts,ds,0,h=>h
 | [],ds,n+1,h=>by simp![zi] at h;subst h;exists zi.nil
 | t::ts,ds,n+1,h=>by
  simp![zi] at h;let#[c,cs,rfl,h1,h2]:=h;show zi.drop' n h2
def zi.empty {ts:List T}{ds:List D}(h:zi S ts ds):ds.isEmpty=ts.isEmpty:=by
 have:=h.len;cases ds <;> cases ts <;> simp_all
theorem zi.YY:∀ {bs:List Bool}{ds:List D},zi S (bs.map T.bl) ds->ds=bs.map D.bl
 | [],ds,h=>by simpa only [Bu,zi] using h
 | b::bs,ds,h=>by
  rw[Aw] at h;simp![zi,Sn] at h;let#[c,cs,rfl,rfl,h3]:=h;rw[zi.YY h3];rfl
end
end L3
namespace L5
open PySem L2 L3
def zx (S:SS) (Z:Addr->Prop):SS:=open Classical in λ a=>if Z a then none else S a
section
variable {S S':SS}{Z Z':Addr->Prop}{a p:Addr}
def vk (h:¬ Z a):zx S Z a=S a:=if_neg h
def mF (h:Z a):zx S Z a=none:=if_pos h
def uW {o:O}(h:zx S Z a=↑o):¬ Z a/\S a=↑o:=by
 by_cases z:Z a
 .rw[mF z] at h;cases h
 .rw[vk z] at h;show#[z,h]
def oQ (S:SS) (Z:Addr->Prop):Sx (zx S Z) S:=λ _ _ h=>(uW h).2
def wV (h:Sx S S'):Sx (zx S Z) (zx S' Z):=λ b o q=>by
 let#[q1,q2]:=uW q;rw[vk q1];show h _ _ q2
def vm (h:∀ a,Z' a->Z a):Sx (zx S Z) (zx S Z'):=λ b o q=>by
 let#[q1,q2]:=uW q;rw[vk (λ z=>q1 (h _ z))];show q2
def qY (h:Sx S S') (hp:S p=none):Sx (zx S Z) (zx S' λ a=>Z a\/a=p):=λ b o q=>by
 let#[q1,q2]:=uW q;rw[vk]
 .show h _ _ q2
 .rintro (z | z)
  .show q1 z
  .subst z;rw[hp] at q2;cases q2
theorem Lk {o:O}(h:Z p):zx (ups S p o) Z=zx S Z:=by
 funext b;by_cases z:Z b
 .rw[mF z,mF z]
 .rw[vk z,vk z,sM (λ e=>z (by rw[e];show h))]
end
inductive C where
 | lst (ts:List T) | yj (Ab:List (Key×T)) | obj (a:Option Addr) (c:Str) (fs:List (Str×T))
def ye {κ:Type}(S:SS):List (κ × T)->List (κ × D)->Prop
 | [],l=>l=[]
 | (k,t)::r,l=>∃ d m,l=(k,d)::m/\Sn S t d/\ye S r m
theorem ye.sx {κ:Type}{S S':SS}(h:Sx S S'):∀ {a:List (κ × T)}{b:List (κ × D)},ye S a b->ye S' a b
 | [],_,q=>q
 | (k,t)::r,_,q=>by
  let#[d,m,q1,q2,q3]:=q;show#[d,m,q1,Sn.sx h t q2,ye.sx h q3]
def xy (S:SS):C->O->Prop
 | .lst ts,.lst ds=>zi S ts ds
 | .yj a,.yj b=>ye S a b
 | .obj _ c a,.obj c' b=>c=c'/\ye S a b
 | _,_=>False
theorem xy.sx {S S':SS}(h:Sx S S'):∀ {c:C}{o:O},xy S c o->xy S' c o
 | .lst ts,.lst ds,q=>zi.sx h ts q
 | .yj a,.yj b,q=>ye.sx h q
 | .obj _ _ _,.obj _ _,q=>#[q.1,ye.sx h q.2]
def adr:C->Addr->Prop
 | .obj ↑q _ _,p=>q=p
 | _,_=>True
inductive W where
 | im (t:T) | own (c:C)
abbrev Ev:=List (Option W)
abbrev Ae:=Ev->Option T
abbrev Al:=List T->Option T
structure ER (S:SS) (Z:Addr->Prop) (δ:yg) (ρ:Ev):Prop where
 zd:∀ a,Z a->S a≠none
 im:∀ (i:Nat) t,ρ[i]?=↑↑(.im t)->∃ d,δ[i]?=↑↑d/\Sn (zx S Z) t d
 ow:∀ (i:Nat) c,ρ[i]?=↑↑(.own c)->∃ p o,δ[i]?=↑↑(.ref p)/\S p=↑o/\xy (zx S Z) c o/\Z p
def Vw (S:SS) (Z:Addr->Prop) (y:T) (d:D):Prop:=Sn (zx S Z) y d\/∃ ts p ds,y=.lst ts/\d=.ref p/\S p=↑(.lst ds)/\zi (zx S Z) ts ds/\Z p
abbrev Rk:=SS->SS->(Addr->Prop)->T->D->Prop
def Xu:Rk:=λ _ S' Z y d=>Vw S' Z y d
def xx:Rk:=λ _ S' Z y d=>Sn (zx S' Z) y d
def zC:Rk:=λ S S' Z y d=>Sn (zx S' Z) y d/\∀ ts,y=.lst ts->∃ p ds,d=.ref p/\S p=none/\S' p=↑(.lst ds)/\zi (zx S' λ a=>Z a\/a=p) ts ds
class Cl (R:Rk):Prop where
 cl:∀ {S S1 S':SS}{Z:Addr->Prop}{y:T}{d:D},Sx S S1->R S1 S' Z y d->R S S' Z y d
 of:∀ {S S':SS}{Z:Addr->Prop}{y:T}{d:D},(∀ ts,y≠.lst ts)->Sn (zx S' Z) y d->R S S' Z y d
instance:Cl Xu:=#[λ _ h=>h,λ _ h=>.inl h]
instance:Cl xx:=#[λ _ h=>h,λ _ h=>h]
instance:Cl zC:=#[λ s h=>#[h.1,λ ts e=>by
 let#[p,ds,h1,h2,h3]:=h.2 ts e;show#[p,ds,h1,s.none h2,h3]],λ n h=>#[h,λ ts e=>absurd e (n ts)]]
section
variable {S S':SS}{Z:Addr->Prop}{δ:yg}{ρ:Ev}{y:T}{d:D}
def ER.grow (h:ER S Z δ ρ) (s:Sx S S'):ER S' Z δ ρ:=
 #[λ a z q=>h.zd a z (s.none q),λ i t e=>by
  let#[d,h1,h2]:=h.im i t e;show#[d,h1,Sn.sx (wV s) t h2],λ i ts e=>by
  let#[p,ds,h1,h2,h3,h4]:=h.ow i ts e;show#[p,ds,h1,s _ _ h2,xy.sx (wV s) h3,h4]]
def Vw.grow (h:Vw S Z y d) (s:Sx S S'):Vw S' Z y d:=by
 rcases h with h | ⟨ts,p,ds,h1,h2,h3,h4,h5⟩
 .show .inl (Sn.sx (wV s) y h)
 .show .inr #[ts,p,ds,h1,h2,s _ _ h3,zi.sx (wV s) ts h4,h5]
def Vw.sn (h:Vw S Z y d):Sn S y d:=by
 rcases h with h | ⟨ts,p,ds,rfl,rfl,h3,h4,_⟩
 .show Sn.sx (oQ S Z) y h
 .simp![Sn];show#[ds,.inr #[p,rfl,h3],zi.sx (oQ S Z) ts h4]
theorem Vw.zp (h:Vw S Z .zp d):d=.zp:=by
 rcases h with h | ⟨_,_,_,h,_⟩
 .simpa only [Sn] using h
 .cases h
theorem Vw.bl {b:Bool}(h:Vw S Z (.bl b) d):d=.bl b:=by
 rcases h with h | ⟨_,_,_,h,_⟩
 .simpa only [Sn] using h
 .cases h
theorem Vw.int {b:Int}(h:Vw S Z (.int b) d):d=.int b:=by
 rcases h with h | ⟨_,_,_,h,_⟩
 .simpa only [Sn] using h
 .cases h
theorem Vw.str {b:Str}(h:Vw S Z (.str b) d):d=.str b:=by
 rcases h with h | ⟨_,_,_,h,_⟩
 .simpa only [Sn] using h
 .cases h
theorem Vw.tup {ts:List T}(h:Vw S Z (.tup ts) d):∃ ds,d=.tup ds/\zi (zx S Z) ts ds:=by
 rcases h with h | ⟨_,_,_,h,_⟩
 .simpa only [Sn] using h
 .cases h
theorem Vw.lst {ts:List T}(h:Vw S Z (.lst ts) d):∃ ds,(d=.xV ds\/∃ a,d=.ref a/\S a=↑(.lst ds))/\zi (zx S Z) ts ds:=by
 rcases h with h | ⟨us,p,ds,h1,h2,h3,h4,_⟩
 .simp![Sn] at h;let#[ds,h1,h2]:=h;exact#[ds,?_,h2];rcases h1 with h1 | ⟨a,h1,h3⟩
  .show .inl h1.1
  .show .inr #[a,h1,(uW h3).2]
 .cases h1;show#[ds,.inr #[p,h2,h3],h4]
def xU:T->Option (List T)
 | .tup ts=>↑ts
 | .lst ts=>↑ts
 | _=>none
@[simp] theorem zab (ts:List T):xU (.tup ts)=↑ts:=rfl
@[simp] theorem zac (ts:List T):xU (.lst ts)=↑ts:=rfl
def Vw.seq {ts:List T}(h:Vw S Z y d) (e:xU y=↑ts):∃ ds,zS d S=↑ds/\zi (zx S Z) ts ds:=by
 cases y with
 | tup us=>cases e;let#[ds,rfl,h2]:=h.tup;show#[ds,rfl,h2]
 | lst us=>
  cases e;obtain⟨ds,h1 | ⟨a,rfl,h1⟩,h2⟩:=h.lst
  .subst h1;show#[ds,rfl,h2]
  .show#[ds,by unfold zS;dsimp only;rw[h1],h2]
 | _=>cases e
theorem Vw.xo (h:Vw S Z .xo d):∃ a Ab,(d=.ref a/\Ab=[])/\S a=↑(.yj Ab):=by
 rcases h with h | ⟨_,_,_,h,_⟩
 .simp![Sn] at h;let#[a,Ab,h1,h2]:=h;show#[a,Ab,h1,(uW h2).2]
 .cases h
def gr:Sn S .zp .zp:=by simp![Sn]
def vw {b:Bool}:Sn S (.bl b) (.bl b):=by simp![Sn]
def wL {i:Int}:Sn S (.int i) (.int i):=by simp![Sn]
def ba {x:Str}:Sn S (.str x) (.str x):=by simp![Sn]
def rP {ts:List T}{ds:List D}(h:zi S ts ds):Sn S (.tup ts) (.tup ds):=by simp![Sn];show#[ds,rfl,h]
def sR {ts:List T}{ds:List D}{p:Addr}(hz:∀ a,Z a->S a≠none) (hp:S p=none) (h:zi (zx S Z) ts ds):zC S (ups S p (.lst ds)) Z (.lst ts) (.ref p):=by
 have nz:¬ Z p:=λ z=>hz p z hp;have s:Sx S (ups S p (.lst ds)):=.new hp _;exact#[?_,λ us e=>?_]
 .simp![Sn];show#[ds,.inr #[p,rfl,by rw[vk nz,tF]],zi.sx (wV s) ts h]
 .cases e;show#[p,ds,rfl,hp,tF,zi.sx (qY s hp) ts h]
end
def xF (R:Rk) (f:Ae) (t:zv):Prop:=∀ S Z δ ρ y Q,ER S Z δ ρ->f ρ=↑y->(∀ d S',Sx S S'->R S S' Z y d->Q d S')->t δ S Q
abbrev wb:=xF xx
abbrev y6:=xF Xu
abbrev xG:=xF zC
def xF.imp {R R':Rk}{f:Ae}{t:zv}(h:xF R f t) (i:∀ S S' Z y d,R S S' Z y d->R' S S' Z y d):xF R' f t:=λ S Z δ ρ y Q hE e hq=>h S Z δ ρ y Q hE e λ d S' s r=>hq d S' s (i _ _ _ _ _ r)
def xF.er {f:Ae}{t:zv}(h:wb f t):y6 f t:=h.imp λ _ _ _ _ _ r=>.inl r
def xF.fe {f:Ae}{t:zv}(h:xG f t):wb f t:=h.imp λ _ _ _ _ _ r=>r.1
def xF.fr {f:Ae}{t:zv}(h:xG f t):y6 f t:=h.fe.er
@[simp] def zh (i:Nat):Ae:=fun ρ=>match ρ[i]? with
 | some ↑(.im t)=>↑t
 | _=>none
@[simp] def zc (i:Nat):Ae:=fun ρ=>match ρ[i]? with
 | some ↑(.im t)=>↑t
 | some ↑(.own (.lst ts))=>↑(.lst ts)
 | _=>none
@[simp] def cS (t:T):Ae:=λ _=>↑t
@[simp] abbrev cI (i:Int):Ae:=cS (.int i)
def ax (i:Nat):wb (zh i) (yh i):=λ S Z δ ρ y Q hE e hq=>by
 unfold zh at e;split at e
 .rename_i t h;cases e;let#[d,h1,h2]:=hE.im i _ h;unfold yh;rw[h1];show hq d S (.refl S) h2
 .cases e
def Om (i:Nat):y6 (zc i) (yh i):=λ S Z δ ρ y Q hE e hq=>by
 unfold zc at e;split at e
 .rename_i t h;cases e;let#[d,h1,h2]:=hE.im i _ h;unfold yh;rw[h1];show hq d S (.refl S) (.inl h2)
 .rename_i ts h;cases e;let#[p,o,h1,h2,h3,h4]:=hE.ow i _ h;unfold yh;rw[h1];cases o with
  | lst ds=>show hq _ S (.refl S) (.inr #[ts,p,ds,rfl,rfl,h2,h3,h4])
  | _=>show h3.elim
 .cases e
def Nh (i:Int):xG (cS (.int i)) (dC (.int i)):=λ S Z δ ρ y Q hE e hq=>by cases e;show hq _ S (.refl S) (Cl.of (λ _=>nofun) wL)
def N7 (i:Bool):xG (cS (.bl i)) (dC (.bl i)):=λ S Z δ ρ y Q hE e hq=>by cases e;show hq _ S (.refl S) (Cl.of (λ _=>nofun) vw)
def Ow (i:Str):xG (cS (.str i)) (dC (.str i)):=λ S Z δ ρ y Q hE e hq=>by cases e;show hq _ S (.refl S) (Cl.of (λ _=>nofun) ba)
def O5:xG (cS .zp) (dC .zp):=λ S Z δ ρ y Q hE e hq=>by cases e;show hq _ S (.refl S) (Cl.of (λ _=>nofun) gr)
@[simp] def za (f:T->T->Option T) (fa fb:Ae):Ae:=fun ρ=>(fa ρ).bind λ x=>(fb ρ).bind λ y=>f x y
def Good2 (R:Rk) (f:T->T->Option T) (g:yM):Prop:=∀ S Z x y z d e Q,(∀ a,Z a->S a≠none)->Vw S Z x d->Vw S Z y e->f x y=↑z->(∀ c S',Sx S S'->R S S' Z z c->Q c S')->g d e S Q
def sW {R:Rk} [Cl R] {f:T->T->Option T}{g:yM}{fa fb:Ae}{ta tb:zv}(hg:Good2 R f g) (ha:y6 fa ta) (hb:y6 fb tb):xF R (za f fa fb) (yu g ta tb):=λ S Z δ ρ y Q hE e hq=>by
 unfold za at e;let#[x,e1,e]:=An.mp e;let#[z,e2,e]:=An.mp e;exact ha S Z δ ρ x _ hE e1 λ d S1 s1 r1=>?_;exact hb S1 Z δ ρ z _ (hE.grow s1) e2 λ d2 S2 s2 r2=>?_;show hg S2 Z x z y d d2 Q ((hE.grow (s1.trans s2)).zd) (Vw.grow r1 s2) r2 e λ c S' s r=>hq c S' ((s1.trans s2).trans s) (Cl.cl (s1.trans s2) r)
@[simp] def i2 (g:Int->Int->T):T->T->Option T
 | .int i,.int j=>↑(g i j)
 | _,_=>none
instance {i j:Int}:Decidable (vS i j):=by unfold vS;infer_instance
instance {i j:Int}:Decidable (wz i j):=by unfold wz;infer_instance
instance {i j:Int}:Decidable (qE i j):=by unfold qE;infer_instance
@[simp] def qX (C:Int->Int->Prop) [∀ i j,Decidable (C i j)] (g:Int->Int->T):T->T->Option T
 | .int i,.int j=>if C i j then ↑(g i j) else none
 | _,_=>none
def jk {g:Int->Int->T}{g':Int->Int->D}(h:∀ i j S,Sn S (g i j) (g' i j)) (n:∀ i j ts,g i j≠.lst ts):Good2 zC (i2 g) (xn g'):=λ S Z x y z d e Q hz hx hy ef hq=>by
 unfold i2 at ef;split at ef
 .cases ef;cases hx.int;cases hy.int;show hq _ S (.refl S) (Cl.of (n _ _) (h _ _ _))
 .cases ef
def mI {C:Int->Int->Prop} [∀ i j,Decidable (C i j)] {g:Int->Int->T}{g':Int->Int->D}(h:∀ i j S,Sn S (g i j) (g' i j)) (n:∀ i j ts,g i j≠.lst ts):Good2 zC (qX C g) (fI C g'):=λ S Z x y z d e Q hz hx hy ef hq=>by
 unfold qX at ef;split at ef
 .split at ef
  .rename_i hh;cases ef;cases hx.int;cases hy.int;show#[hh,hq _ S (.refl S) (Cl.of (n _ _) (h _ _ _))]
  .cases ef
 .cases ef
@[simp] def yw:T->T->Option T:=i2 λ i j=>.int (i-j)
@[simp] def ya:T->T->Option T:=qX (λ _ j=>0<j) λ i j=>.int (i%j)
@[simp] def xf:T->T->Option T:=qX wz λ i j=>.int (i/j)
@[simp] def xj:T->T->Option T:=qX qE λ i j=>.int (i ^ j.toNat)
@[simp] def qT:T->T->Option T:=i2 λ i j=>.bl (decide (i<=j))
@[simp] def rg:T->T->Option T:=i2 λ i j=>.bl (decide (j<i))
@[simp] def tT:T->T->Option T:=i2 λ i j=>.bl (decide (j<=i))
section
variable {fa fb:Ae}{ta tb:zv}
def Ov (ha:y6 fa ta) (hb:y6 fb tb):xG (za yw fa fb) (yu (xn λ i j=>.int (i-j)) ta tb):=sW (jk (λ _ _ _=>wL) λ _ _ _=>nofun) ha hb
def OA (ha:y6 fa ta) (hb:y6 fb tb):xG (za ya fa fb) (yu (fI (λ _ j=>0<j) λ i j=>.int (i%j)) ta tb):=sW (mI (λ _ _ _=>wL) λ _ _ _=>nofun) ha hb
def Nn (ha:y6 fa ta) (hb:y6 fb tb):xG (za xf fa fb) (yu (fI wz λ i j=>.int (i/j)) ta tb):=sW (mI (λ _ _ _=>wL) λ _ _ _=>nofun) ha hb
def O1 (ha:y6 fa ta) (hb:y6 fb tb):xG (za xj fa fb) (yu (fI qE λ i j=>.int (i ^ j.toNat)) ta tb):=sW (mI (λ _ _ _=>wL) λ _ _ _=>nofun) ha hb
end
def zP (neg:Bool):T->T->Option T:=λ x y=>if dep x<=60/\dep y<=60 then ↑(.bl (cond neg (!eqT x y) (eqT x y))) else none
def qc (neg:Bool):T->T->Option T:=λ x y=>match xU y with
 | some ts=>if dep x<=60/\xZ ts<=60 then ↑(.bl (cond neg (!(ts.any λ t=>eqT t x)) (ts.any λ t=>eqT t x))) else none
 | none=>none
def LD {neg:Bool}:Good2 zC (zP neg) (vJ neg):=λ S Z x y z d e Q hz hx hy ef hq=>by
 unfold zP at ef;split at ef
 .rename_i h;cases ef;show#[x,y,hx.sn,hy.sn,h.1,h.2,hq _ S (.refl S) (Cl.of (λ _=>nofun) vw)]
 .cases ef
def LC {neg:Bool}:Good2 zC (qc neg) (uZ neg):=λ S Z x y z d e Q hz hx hy ef hq=>by
 unfold qc at ef;split at ef
 .rename_i ts ht;split at ef
  .rename_i h;cases ef;let#[ds,h1,h2]:=hy.seq ht;show#[x,ts,ds,hx.sn,h1,zi.sx (oQ S Z) ts h2,h.1,h.2,hq _ S (.refl S) (Cl.of (λ _=>nofun) vw)]
  .cases ef
 .cases ef
@[simp] def zg:T->T->Option T:=λ x y=>match xU x,y with
 | some ts,.int i=>L2.zM ts i
 | _,_=>none
def ZG:Good2 xx zg wW:=λ S Z x y z d e Q hz hx hy ef hq=>by
 unfold zg at ef;split at ef
 .rename_i ts i ht;cases hy.int;let#[ds,h1,h2]:=hx.seq ht;let#[c,h3,h4]:=h2.at ef;unfold zS at h1;split at h1
  .cases h1;show Kj h3 (hq c S (.refl S) h4)
  .cases h1;show Kk h3 (hq c S (.refl S) h4)
  .split at h1
   .rename_i q;cases h1;show Km q h3 (hq c S (.refl S) h4)
   .cases h1
  .cases h1
 .cases ef
@[simp] def zY:T->T->Option T
 | .int i,.int j=>↑(.int (i+j))
 | .str i,.str j=>if i.length+j.length<=sizeLine then ↑(.str (i++j)) else none
 | .lst ts,.lst us=>if ts.length+us.length<=sizeLine then ↑(.lst (ts++us)) else none
 | .tup ts,.tup us=>if ts.length+us.length<=sizeLine then ↑(.tup (ts++us)) else none
 | _,_=>none
def uI:yM:=λ x y S Q=>match x,y with
 | .int i,.int j=>Q (.int (i+j)) S
 | .str i,.str j=>i.length+j.length<=sizeLine/\Q (.str (i++j)) S
 | .tup ds,.tup es=>ds.length+es.length<=sizeLine/\Q (.tup (ds++es)) S
 | .zp,_=>False
 | .bl _,_=>False
 | .int _,_=>False
 | .str _,_=>False
 | .tup _,_=>False
 | x,y=>match zS x S,zS y S with
  | some ds,↑es=>(∀ ts,y≠.tup ts)/\ds.length+es.length<=sizeLine/\∀ r,S r=none->Q (.ref r) (ups S r (.lst (ds++es)))
  | _,_=>False
def good_add:Good2 zC zY uI:=λ S Z x y z d e Q hz hx hy ef hq=>by
 unfold zY at ef;split at ef
 .cases ef;cases hx.int;cases hy.int;show hq _ S (.refl S) (Cl.of (λ _=>nofun) wL)
 .split at ef
  .rename_i h;cases ef;cases hx.str;cases hy.str;show#[h,hq _ S (.refl S) (Cl.of (λ _=>nofun) ba)]
  .cases ef
 .split at ef
  .rename_i h;cases ef;let#[ds,h1,h2]:=hx.seq rfl;let#[es,h3,h4]:=hy.seq rfl;have nt:∀ ts,e≠.tup ts:=by
    obtain⟨_,q | ⟨_,q,_⟩,_⟩:=hy.lst <;> subst q <;> show λ _=>nofun
   have key:(∀ ts,e≠.tup ts)/\ds.length+es.length<=sizeLine/\∀ r,S r=none->Q (.ref r) (ups S r (.lst (ds++es))):=
    #[nt,by rw[h2.len,h4.len];show h,λ r hr=>hq _ _ (.new hr _) (sR hz hr (h2.append h4))]
   obtain⟨_,q | ⟨a,q,_⟩,_⟩:=hx.lst
   .subst q;unfold uI;dsimp only;rw[h1,h3];show key
   .subst q;unfold uI;dsimp only;rw[h1,h3];show key
  .cases ef
 .split at ef
  .rename_i h;cases ef;let#[ds,rfl,h2]:=hx.tup;let#[es,rfl,h4]:=hy.tup;show#[by rw[h2.len,h4.len];show h,hq _ S (.refl S) (Cl.of (λ _=>nofun) (rP (h2.append h4)))]
  .cases ef
 .cases ef
def vD (f:Ev->Option Bool) (t:yF):Prop:=∀ S Z δ ρ y Q,ER S Z δ ρ->f ρ=↑y->(∀ S',Sx S S'->Q y S')->t δ S Q
@[simp] def zD (f:Ae):Ev->Option Bool:=fun ρ=>(f ρ).bind λ x=>match x with
 | .bl b=>↑b
 | _=>none
@[simp] def rN:T->Option Bool
 | .zp=>↑false
 | .bl b=>↑b
 | .int i=>↑(i != 0)
 | .str x=>if x.length<=sizeLine then ↑((x.length:Int) != 0) else none
 | .tup ts=>↑(!ts.isEmpty)
 | .lst ts=>↑(!ts.isEmpty)
 | .xo=>none
 | .err _ _ _=>none
@[simp] def y8 (f:Ae):Ev->Option Bool:=fun ρ=>(f ρ).bind rN
@[simp] def u_ (f g:Ev->Option Bool):Ev->Option Bool:=fun ρ=>(f ρ).bind λ b=>if b=true then g ρ else ↑false
@[simp] def v9 (f g:Ev->Option Bool):Ev->Option Bool:=fun ρ=>(f ρ).bind λ b=>if b=true then ↑true else g ρ
@[simp] def xQ (f:Ev->Option Bool):Ev->Option Bool:=fun ρ=>(f ρ).map (!·)
section
variable {f g:Ae}{t u:zv}{fb gb:Ev->Option Bool}{tb ub:yF}{R:Rk}
def Oq (h:y6 f t):vD (zD f) (vK t):=λ S Z δ ρ y Q hE e hq=>by
 let#[x,e1,e2]:=An.mp e;exact h S Z δ ρ x _ hE e1 λ d S1 s1 r1=>?_;split at e2
 .cases e2;cases Vw.bl r1;show hq S1 s1
 .cases e2
def Ou (h:y6 f t):vD (y8 f) (Yk t):=λ S Z δ ρ y Q hE e hq=>by
 let#[x,e1,e2]:=An.mp e;exact h S Z δ ρ x _ hE e1 λ d S1 s1 r1=>?_;cases x with
 | zp=>cases Vw.zp r1;cases e2;show hq S1 s1
 | bl b=>cases Vw.bl r1;cases e2;show hq S1 s1
 | int b=>cases Vw.int r1;cases e2;show hq S1 s1
 | str b=>
  cases Vw.str r1;simp![rN] at e2;split at e2
  .rename_i hh;cases e2;show#[hh,hq S1 s1]
  .cases e2
 | tup ts=>
  let#[ds,rfl,h2]:=Vw.tup r1;cases e2;change Q (!ds.isEmpty) S1;rw[h2.empty];show hq S1 s1
 | lst ts=>
  obtain⟨ds,rfl | ⟨a,rfl,h1⟩,h2⟩:=Vw.lst r1
  .cases e2;change Q (!ds.isEmpty) S1;rw[h2.empty];show hq S1 s1
  .cases e2;exact VB h1 ?_;rw[h2.empty];show hq S1 s1
 | _=>cases e2
def Nt (h:vD fb tb) (h':vD gb ub):vD (u_ fb gb) (mU tb ub):=λ S Z δ ρ y Q hE e hq=>by
 let#[b,e1,e2]:=An.mp e;exact h S Z δ ρ b _ hE e1 λ S1 s1=>?_;split at e2
 .rename_i hb;rw[if_pos hb];show h' S1 Z δ ρ y _ (hE.grow s1) e2 λ S2 s2=>hq S2 (s1.trans s2)
 .rename_i hb;rw[if_neg hb];cases e2;show hq S1 s1
def Np (h:vD fb tb) (h':vD gb ub):vD (v9 fb gb) (mS tb ub):=λ S Z δ ρ y Q hE e hq=>by
 let#[b,e1,e2]:=An.mp e;exact h S Z δ ρ b _ hE e1 λ S1 s1=>?_;split at e2
 .rename_i hb;rw[if_pos hb];cases e2;show hq S1 s1
 .rename_i hb;rw[if_neg hb];show h' S1 Z δ ρ y _ (hE.grow s1) e2 λ S2 s2=>hq S2 (s1.trans s2)
def Nq (h:vD fb tb):vD (xQ fb) (mT tb):=λ S Z δ ρ y Q hE e hq=>by
 unfold xQ at e;let#[b,e1,rfl]:=AE.mp e;show h S Z δ ρ b _ hE e1 λ S1 s1=>hq S1 s1
@[simp] def rB (f g:Ae):Ae:=fun ρ=>(f ρ).bind λ x=>match x with
 | .bl k=>if k=true then g ρ else ↑(.bl false)
 | _=>none
@[simp] def aC (f:Ae):Ae:=fun ρ=>(f ρ).bind λ x=>match x with
 | .bl k=>↑(.bl (!k))
 | _=>none
@[simp] def ZC (c:Ev->Option Bool) (f g:Ae):Ae:=fun ρ=>(c ρ).bind λ b=>if b=true then f ρ else g ρ
def NA [Cl R] (h:y6 f t) (h':xF R g u):xF R (rB f g) (lq t u):=λ S Z δ ρ y Q hE e hq=>by
 let#[x,e1,e2]:=An.mp e;exact h S Z δ ρ x _ hE e1 λ d S1 s1 r1=>?_;split at e2
 .cases Vw.bl r1;split at e2
  .rename_i hb;dsimp only;rw[if_pos hb];show h' S1 Z δ ρ y _ (hE.grow s1) e2 λ d S2 s2 r2=>hq d S2 (s1.trans s2) (Cl.cl s1 r2)
  .rename_i hb;dsimp only;rw[if_neg hb];cases e2;show hq _ S1 s1 (Cl.of (λ _=>nofun) vw)
 .cases e2
def O4 [Cl R] (h:y6 f t):xF R (aC f) (lg t):=λ S Z δ ρ y Q hE e hq=>by
 let#[x,e1,e2]:=An.mp e;exact h S Z δ ρ x _ hE e1 λ d S1 s1 r1=>?_;split at e2
 .cases Vw.bl r1;cases e2;show hq _ S1 s1 (Cl.of (λ _=>nofun) vw)
 .cases e2
def Nj [Cl R] (hc:vD fb tb) (h:xF R f t) (h':xF R g u):xF R (ZC fb f g) (lj tb t u):=λ S Z δ ρ y Q hE e hq=>by
 let#[b,e1,e2]:=An.mp e;exact hc S Z δ ρ b _ hE e1 λ S1 s1=>?_;split at e2
 .rename_i hb;rw[if_pos hb];show h S1 Z δ ρ y _ (hE.grow s1) e2 λ d S2 s2 r2=>hq d S2 (s1.trans s2) (Cl.cl s1 r2)
 .rename_i hb;rw[if_neg hb];show h' S1 Z δ ρ y _ (hE.grow s1) e2 λ d S2 s2 r2=>hq d S2 (s1.trans s2) (Cl.cl s1 r2)
end
def lF (S:SS) (Z:Addr->Prop):List T->List D->Prop
 | [],ds=>ds=[]
 | t::ts,ds=>∃ c cs,ds=c::cs/\Vw S Z t c/\lF S Z ts cs
def pG (f:Ev->Option (List T)) (t:yk):Prop:=∀ S Z δ ρ ys Q,ER S Z δ ρ->f ρ=↑ys->(∀ ds S',Sx S S'->lF S' Z ys ds->Q ds S')->t δ S Q
def t8 (f:Ev->Option (List T)) (t:yk):Prop:=∀ S Z δ ρ ys Q,ER S Z δ ρ->f ρ=↑ys->(∀ ds S',Sx S S'->zi (zx S' Z) ys ds->Q ds S')->t δ S Q
@[simp] def ze:Ev->Option (List T):=λ _=>↑[]
@[simp] def zb (f:Ae) (g:Ev->Option (List T)):Ev->Option (List T):=fun ρ=>(f ρ).bind λ x=>(g ρ).bind λ xs=>↑(x::xs)
section
variable {f:Ae}{g:Ev->Option (List T)}{t:zv}{u:yk}
def Oh:pG ze pj:=λ S Z δ ρ y Q hE e hq=>by cases e;show hq [] S (.refl S) rfl
def Oe:t8 ze pj:=λ S Z δ ρ y Q hE e hq=>by cases e;show hq [] S (.refl S) .nil
def Oi (h:y6 f t) (h':pG g u):pG (zb f g) (rA t u):=λ S Z δ ρ y Q hE e hq=>by
 let#[x,e1,e0]:=An.mp e;let#[xs,e2,e3]:=An.mp e0;cases e3;exact h S Z δ ρ x _ hE e1 λ d S1 s1 r1=>?_;exact h' S1 Z δ ρ xs _ (hE.grow s1) e2 λ ds S2 s2 r2=>?_;show hq _ S2 (s1.trans s2) #[d,ds,rfl,Vw.grow r1 s2,r2]
def Og (h:wb f t) (h':t8 g u):t8 (zb f g) (rA t u):=λ S Z δ ρ y Q hE e hq=>by
 let#[x,e1,e0]:=An.mp e;let#[xs,e2,e3]:=An.mp e0;cases e3;exact h S Z δ ρ x _ hE e1 λ d S1 s1 r1=>?_;exact h' S1 Z δ ρ xs _ (hE.grow s1) e2 λ ds S2 s2 r2=>?_;show hq _ S2 (s1.trans s2) (.cons (Sn.sx (wV s2) x r1) r2)
@[simp] def tupS (g:Ev->Option (List T)):Ae:=fun ρ=>(g ρ).bind λ xs=>if xs.length<=sizeLine then ↑(.tup xs) else none
@[simp] def we (g:Ev->Option (List T)):Ae:=fun ρ=>(g ρ).bind λ xs=>if xs.length<=sizeLine then ↑(.lst xs) else none
def Oo (h:t8 g u):xG (tupS g) (eJ u):=λ S Z δ ρ y Q hE e hq=>by
 let#[xs,e1,e2]:=An.mp e;split at e2
 .rename_i hl;cases e2;exact h S Z δ ρ xs _ hE e1 λ ds S1 s1 r1=>#[by rw[r1.len];show hl,hq _ S1 s1 (Cl.of (λ _=>nofun) (rP r1))]
 .cases e2
def OD (h:t8 g u):xG (we g) (Yx u):=λ S Z δ ρ y Q hE e hq=>by
 let#[xs,e1,e2]:=An.mp e;split at e2
 .rename_i hl;cases e2;exact h S Z δ ρ xs _ hE e1 λ ds S1 s1 r1=>#[by rw[r1.len];show hl,λ p hp=>hq _ _ (s1.trans (.new hp _)) (Cl.cl s1 (sR (hE.grow s1).zd hp r1))]
 .cases e2
end
@[simp] def zq (F:Al) (g:Ev->Option (List T)):Ae:=fun ρ=>(g ρ).bind F
def vQ (R:Rk) (F:Al) (f:xE):Prop:=∀ S Z ys z ds Q,(∀ a,Z a->S a≠none)->lF S Z ys ds->F ys=↑z->(∀ c S',Sx S S'->R S S' Z z c->Q c S')->f ds S Q
def N1 {R:Rk} [Cl R] {F:Al}{f:xE}{g:Ev->Option (List T)}{u:yk}(hf:vQ R F f) (h:pG g u):xF R (zq F g) (xC f u):=λ S Z δ ρ y Q hE e hq=>by
 let#[xs,e1,e2]:=An.mp e;exact h S Z δ ρ xs _ hE e1 λ ds S1 s1 r1=>?_;show hf S1 Z xs y ds Q (hE.grow s1).zd r1 e2 λ c S' s r=>hq c S' (s1.trans s) (Cl.cl s1 r)
@[simp] def wU:Al
 | [.str z]=>if z.length<=sizeLine then ↑(.int z.length) else none
 | [y]=>(xU y).map λ ts=>.int ts.length
 | _=>none
def vT {S:SS}{Z:Addr->Prop}{y:T}{ds:List D}(h:lF S Z [y] ds):∃ d,ds=[d]/\Vw S Z y d:=by
 let#[c,cs,rfl,h1,h2]:=h;cases h2;show#[c,rfl,h1]
def c7 {S:SS}{Z:Addr->Prop}{y z:T}{ds:List D}(h:lF S Z [y,z] ds):∃ d e,ds=[d,e]/\Vw S Z y d/\Vw S Z z e:=by
 let#[c,cs,rfl,h1,c2,cs2,rfl,h2,h3]:=h;cases h3;show#[c,c2,rfl,h1,h2]
def LA:vQ zC wU uH:=λ S Z ys z ds Q hz hv e hq=>by
 unfold wU at e;split at e
 .let#[d,rfl,h1]:=vT hv;split at e
  .rename_i hl;cases e;cases h1.str;show#[hl,hq _ S (.refl S) (Cl.of (λ _=>nofun) wL)]
  .cases e
 .let#[d,rfl,h1]:=vT hv;let#[ts,e1,rfl]:=AE.mp e;let#[es,h2,h3]:=h1.seq e1;exact Ki h2 ?_;rw[h3.len];show hq _ S (.refl S) (Cl.of (λ _=>nofun) wL)
 .cases e
@[simp] def listS:Al
 | [y]=>(xU y).map .lst
 | _=>none
def L9:vQ zC listS uG:=λ S Z ys z ds Q hz hv e hq=>by
 unfold listS at e;split at e
 .let#[d,rfl,h1]:=vT hv;let#[ts,e1,rfl]:=AE.mp e;let#[es,h2,h3]:=h1.seq e1;show Kh h2 λ p hp=>hq _ _ (.new hp _) (sR hz hp h3)
 .cases e
@[simp] def qH:Al
 | [y]=>(xU y).map .tup
 | _=>none
def Lu:vQ zC qH uE:=λ S Z ys z ds Q hz hv e hq=>by
 unfold qH at e;split at e
 .rename_i y;let#[d,rfl,h1]:=vT hv;let#[ts,e1,rfl]:=AE.mp e;let#[es,h2,h3]:=h1.seq e1;have k:Q (.tup es) S:=hq _ S (.refl S) (Cl.of (λ _=>nofun) (rP h3));unfold zS at h2;split at h2
  .cases h2;show k
  .cases h2;show k
  .split at h2
   .rename_i q;cases h2;show Kg q k
   .cases h2
  .cases h2
 .cases e
@[simp] def oK (g:Int->Int->Int):Al
 | [.int i,.int j]=>↑(.int (g i j))
 | _=>none
def ZH {g:Int->Int->Int}:vQ zC (oK g) (ug λ i j=>.int (g i j)):=λ S Z ys z ds Q hz hv e hq=>by
 unfold oK at e;split at e
 .let#[d,d',rfl,h1,h2]:=c7 hv;cases e;cases h1.int;cases h2.int;show hq _ S (.refl S) (Cl.of (λ _=>nofun) wL)
 .cases e
@[simp] def sX:Al:=oK λ i j=>if j>i then j else i
@[simp] def vi:Al:=oK λ i j=>if j<i then j else i
def qo:List T->Option (List Bool)
 | []=>↑[]
 | .bl b::ts=>(qo ts).map (b::·)
 | _::_=>none
theorem YX:∀ {ts:List T}{bs:List Bool},qo ts=↑bs->ts=bs.map T.bl
 | [],bs,h=>by cases h;rfl
 | .bl b::ts,bs,h=>by
  unfold qo at h;let#[cs,h1,rfl]:=AE.mp h;rw[Aw,<- YX h1]
 | .zp::ts,bs,h=>by cases h
 | .int _::ts,bs,h=>by cases h
 | .str _::ts,bs,h=>by cases h
 | .tup _::ts,bs,h=>by cases h
 | .lst _::ts,bs,h=>by cases h
def JB (bs:List Bool):qo (bs.map T.bl)=↑bs:=by
 induction bs with
 | nil=>rfl
 | cons b bs ih=>rw[Aw];unfold qo;rw[ih];rfl
@[simp] def l7 (g:List Bool->Bool):Al
 | [.lst ts]=>(qo ts).map λ bs=>.bl (g bs)
 | _=>none
def uh (g:List Bool->Bool):xE:=λ ds S Q=>match ds with
 | [.tup _]=>False
 | [d]=>∃ bs:List Bool,zS d S=↑(bs.map D.bl)/\Q (.bl (g bs)) S
 | _=>False
def LF {g:List Bool->Bool}:vQ zC (l7 g) (uh g):=λ S Z ys z ds Q hz hv e hq=>by
 unfold l7 at e;split at e
 .let#[d,rfl,h1]:=vT hv;let#[bs,e1,rfl]:=AE.mp e;cases YX e1;let#[es,h2,h3]:=h1.seq rfl;cases h3.YY;have key:∃ bs:List Bool,zS d S=↑(bs.map D.bl)/\Q (.bl (g bs)) S:=#[bs,h2,hq _ S (.refl S) (Cl.of (λ _=>nofun) vw)];obtain⟨_,q | ⟨a,q,_⟩,_⟩:=h1.lst
  .subst q;show key
  .subst q;show key
 .cases e
structure FR (S0:SS) (Z0:Addr->Prop) (S:SS) (Z:Addr->Prop) (δ:yg) (ρ:Ev):Prop where
 er:ER S Z δ ρ
 len:δ.length=ρ.length
 sx:Sx S0 S
 z0:∀ a,Z0 a->S0 a≠none
 zz:∀ a,Z0 a->Z a
 zn:∀ a,Z a->Z0 a\/S0 a=none
 fr:∀ (i:Nat) ts p,ρ[i]?=↑↑(.own ts)->δ[i]?=↑↑(.ref p)->S0 p=none/\adr ts p
 dj:∀ (i j:Nat) ts us p,i≠j->ρ[i]?=↑↑(.own ts)->ρ[j]?=↑↑(.own us)->δ[i]?=↑↑(.ref p)->δ[j]?=↑↑(.ref p)->False
def yJ {α:Type}{l:List α}{i j:Nat}{a b:α}(h:(l.set i a)[j]?=↑b):(i=j/\i<l.length/\b=a)\/(i≠j/\l[j]?=↑b):=by
 rw[DG] at h;by_cases e:i=j
 .subst e;rw[if_pos rfl] at h;by_cases hl:i<l.length
  .rw[if_pos hl] at h;cases h;show .inl #[rfl,hl,rfl]
  .rw[if_neg hl] at h;cases h
 .rw[if_neg e] at h;show .inr #[e,h]
def vn {α:Type}{l:List α}{i j:Nat}{a:α}(h:i≠j):(l.set i a)[j]?=l[j]?:=by rw[DG,if_neg h]
def oS {α:Type}{l:List α}{i:Nat}{a:α}(h:i<l.length):(l.set i a)[i]?=↑a:=by rw[DG,if_pos rfl,if_pos h]
section
variable {S0 S S':SS}{Z0 Z:Addr->Prop}{δ:yg}{ρ:Ev}{y:T}{d:D}
theorem FR.grow (h:FR S0 Z0 S Z δ ρ) (s:Sx S S'):FR S0 Z0 S' Z δ ρ:=#[h.er.grow s,h.len,h.sx.trans s,h.z0,h.zz,h.zn,h.fr,h.dj]
theorem FR.oa (h:FR S0 Z0 S Z δ ρ) (i:Nat) (r:Sn (zx S Z) y d):FR S0 Z0 S Z (δ.set i ↑d) (ρ.set i ↑(.im y)):=by
 exact#[#[h.er.zd,λ j t e=>?_,λ j ts e=>?_],by simp[h.len],h.sx,h.z0,h.zz,h.zn,λ j ts p e e'=>?_,λ j k ts us p n e1 e2 e3 e4=>?_]
 .rcases yJ e with ⟨rfl,hl,e⟩ | ⟨n,e⟩
  .cases e;show#[d,oS (by rw[h.len];show hl),r]
  .rw[vn n];show h.er.im j t e
 .rcases yJ e with ⟨rfl,hl,e⟩ | ⟨n,e⟩
  .cases e
  .rw[vn n];show h.er.ow j ts e
 .rcases yJ e with ⟨rfl,hl,e⟩ | ⟨n,e⟩
  .cases e
  .rw[vn n] at e';show h.fr j ts p e e'
 .rcases yJ e1 with ⟨rfl,hl,e⟩ | ⟨n1,e1⟩
  .cases e
  rcases yJ e2 with ⟨rfl,hl,e⟩ | ⟨n2,e2⟩
  .cases e
  rw[vn n1] at e3;rw[vn n2] at e4;show h.dj j k ts us p n e1 e2 e3 e4
theorem FR.gy {ts:C}{ds:O}{p:Addr}(h:FR S0 Z0 S Z δ ρ) (s:Sx S S') (i:Nat) (hp:S p=none) (hd:S' p=↑ds) (r:xy (zx S' λ a=>Z a\/a=p) ts ds) (ha:adr ts p:=by show trivial):
  FR S0 Z0 S' (λ a=>Z a\/a=p) (δ.set i ↑(.ref p)) (ρ.set i ↑(.own ts)):=by
 have np:∀ (j:Nat) us q,ρ[j]?=↑↑(.own us)->δ[j]?=↑↑(.ref q)->q≠p:=λ j us q e e' z=>by
  subst z;let#[p',HH,h1,h2,_]:=h.er.ow j us e;rw[e'] at h1;cases h1;rw[hp] at h2;cases h2
 exact#[#[λ a z=>?_,λ j t e=>?_,λ j us e=>?_],by simp[h.len],h.sx.trans s,h.z0,λ a z=>.inl (h.zz a z),λ a z=>z.elim (h.zn a) (λ q=>.inr (by subst q;show h.sx.none hp)),λ j us q e e'=>?_,λ j k us vs q n e1 e2 e3 e4=>?_]
 .rcases z with z | rfl
  .show λ q=>h.er.zd a z (s.none q)
  .rw[hd];nofun
 .rcases yJ e with ⟨rfl,hl,e⟩ | ⟨n,e⟩
  .cases e
  .rw[vn n];let#[d,h1,h2]:=h.er.im j t e;show#[d,h1,Sn.sx (qY s hp) t h2]
 .rcases yJ e with ⟨rfl,hl,e⟩ | ⟨n,e⟩
  .cases e;show#[p,ds,oS (by rw[h.len];show hl),hd,r,.inr rfl]
  .rw[vn n];let#[q,es,h1,h2,h3,h4]:=h.er.ow j us e;show#[q,es,h1,s _ _ h2,xy.sx (qY s hp) h3,.inl h4]
 .rcases yJ e with ⟨rfl,hl,e⟩ | ⟨n,e⟩
  .rw[oS (by rw[h.len];show hl)] at e';cases e';cases e;show#[h.sx.none hp,ha]
  .rw[vn n] at e';show h.fr j us q e e'
 .rcases yJ e1 with ⟨rfl,hl,e⟩ | ⟨n1,e1⟩
  .rcases yJ e2 with ⟨rfl,_,_⟩ | ⟨n2,e2⟩
   .show n rfl
   .rw[oS (by rw[h.len];show hl)] at e3;cases e3;rw[vn n2] at e4;show np k vs p e2 e4 rfl
  .rcases yJ e2 with ⟨rfl,hl,_⟩ | ⟨n2,e2⟩
   .rw[oS (by rw[h.len];show hl)] at e4;cases e4;rw[vn n1] at e3;show np j us p e1 e3 rfl
   .rw[vn n1] at e3;rw[vn n2] at e4;show h.dj j k us vs q n e1 e2 e3 e4
def FR.forget (h:FR S0 Z0 S Z δ ρ) (i:Nat):FR S0 Z0 S Z δ (ρ.set i none):=by
 exact#[#[h.er.zd,λ j t e=>?_,λ j ts e=>?_],by simp[h.len],h.sx,h.z0,h.zz,h.zn,λ j ts p e e'=>?_,λ j k ts us p n e1 e2 e3 e4=>?_]
 .rcases yJ e with ⟨rfl,hl,e⟩ | ⟨n,e⟩
  .cases e
  .show h.er.im j t e
 .rcases yJ e with ⟨rfl,hl,e⟩ | ⟨n,e⟩
  .cases e
  .show h.er.ow j ts e
 .rcases yJ e with ⟨rfl,hl,e⟩ | ⟨n,e⟩
  .cases e
  .show h.fr j ts p e e'
 .rcases yJ e1 with ⟨rfl,hl,e⟩ | ⟨n1,e1⟩
  .cases e
  rcases yJ e2 with ⟨rfl,hl,e⟩ | ⟨n2,e2⟩
  .cases e
  show h.dj j k ts us p n e1 e2 e3 e4
@[simp] def yz (is:List Nat) (ρ:Ev):Ev:=is.foldl (fun ρ i=>ρ.set i none) ρ
theorem FR.yz:∀ (is:List Nat) {ρ:Ev},FR S0 Z0 S Z δ ρ->FR S0 Z0 S Z δ (yz is ρ)
 | [],_,h=>h
 | i::is,_,h=>FR.yz is (h.forget i)
def FR.freeze {ts:List T}{p:Addr}(h:FR S0 Z0 S Z δ ρ) (i:Nat) (e:ρ[i]?=↑↑(.own (.lst ts))) (ed:δ[i]?=↑↑(.ref p)):
  FR S0 Z0 S (λ a=>Z a/\a≠p) δ (ρ.set i ↑(.im (.lst ts)))/\Sn (zx S λ a=>Z a/\a≠p) (.lst ts) (.ref p):=by
 let#[p',o,h1,h2,h3,h4]:=h.er.ow i _ e;rw[ed] at h1;cases h1;obtain⟨ds,rfl⟩:∃ ds,o=.lst ds:=by
  cases o with
  | lst ds=>show#[ds,rfl]
  | _=>show h3.elim
 replace h3:zi (zx S Z) ts ds:=h3;have hS:Sn (zx S λ a=>Z a/\a≠p) (.lst ts) (.ref p):=by
  simp![Sn];show#[ds,.inr #[p,rfl,by rw[vk (λ z=>z.2 rfl)];show h2],zi.sx (vm λ a z=>z.1) ts h3]
 exact#[?_,hS];exact#[#[λ a z=>h.er.zd a z.1,λ j t e'=>?_,λ j us e'=>?_],by simp[h.len],h.sx,h.z0,λ a z=>#[h.zz a z,λ q=>?_],λ a z=>h.zn a z.1,λ j us q e' ed'=>?_,λ j k us vs q n e1 e2 e3 e4=>?_]
 .rcases yJ e' with ⟨rfl,hl,e'⟩ | ⟨n,e'⟩
  .cases e';show#[_,ed,hS]
  .let#[d,g1,g2]:=h.er.im j t e';show#[d,g1,Sn.sx (vm λ a z=>z.1) t g2]
 .rcases yJ e' with ⟨rfl,hl,e'⟩ | ⟨n,e'⟩
  .cases e'
  .let#[q,es,g1,g2,g3,g4]:=h.er.ow j us e';show#[q,es,g1,g2,xy.sx (vm λ a z=>z.1) g3,g4,λ z=>by subst z;show h.dj i j _ us q n e e' ed g1]
 .subst q;show h.z0 a z (h.fr i _ a e ed).1
 .rcases yJ e' with ⟨rfl,hl,e'⟩ | ⟨n,e'⟩
  .cases e'
  .show h.fr j us q e' ed'
 .rcases yJ e1 with ⟨rfl,hl,e⟩ | ⟨n1,e1⟩
  .cases e
  rcases yJ e2 with ⟨rfl,hl,e⟩ | ⟨n2,e2⟩
  .cases e
  show h.dj j k us vs q n e1 e2 e3 e4
def FR.mut {ts us:C}{es:O}{p:Addr}(h:FR S0 Z0 S Z δ ρ) (i:Nat) (e:ρ[i]?=↑↑(.own ts)) (ed:δ[i]?=↑↑(.ref p)) (r:xy (zx S Z) us es) (ha:adr ts p->adr us p:=by show λ _=>trivial):
  FR S0 Z0 (ups S p es) Z δ (ρ.set i ↑(.own us)):=by
 let#[p',ds,h1,h2,h3,h4]:=h.er.ow i ts e;rw[ed] at h1;cases h1;have hh:zx (ups S p es) Z=zx S Z:=Lk h4;let#[hpn,hpa]:=h.fr i ts p e ed;exact#[#[λ a z=>?_,λ j t e'=>?_,λ j vs e'=>?_],by simp[h.len],λ b o q=>?_,h.z0,h.zz,h.zn,λ j vs q e' ed'=>?_,λ j k vs ws q n e1 e2 e3 e4=>?_]
 .by_cases hp:a=p
  .subst hp;rw[tF];nofun
  .rw[sM hp];show h.er.zd a z
 .rw[hh];rcases yJ e' with ⟨rfl,hl,e'⟩ | ⟨n,e'⟩
  .cases e'
  .show h.er.im j t e'
 .rw[hh];rcases yJ e' with ⟨rfl,hl,e'⟩ | ⟨n,e'⟩
  .cases e';show#[p,es,ed,tF,r,h4]
  .let#[q,Gg,g1,g2,g3,g4]:=h.er.ow j vs e';exact#[q,Gg,g1,?_,g3,g4];rw[sM (λ z=>by subst z;show h.dj i j ts vs q n e e' ed g1)];show g2
 .rw[sM (λ z=>by subst z;rw[hpn] at q;cases q)];show h.sx b o q
 .rcases yJ e' with ⟨rfl,hl,_⟩ | ⟨n,e'⟩
  .rw[ed] at ed';cases ed';rename_i e';cases e';show#[hpn,ha hpa]
  .show h.fr j vs q e' ed'
 .rcases yJ e1 with ⟨rfl,hl,_⟩ | ⟨n1,e1⟩
  .rcases yJ e2 with ⟨rfl,hl,_⟩ | ⟨n2,e2⟩
   .show n rfl
   .show h.dj _ k ts ws q n e e2 e3 e4
  .rcases yJ e2 with ⟨rfl,hl,_⟩ | ⟨n2,e2⟩
   .show h.dj j _ vs ts q n e1 e e3 e4
   .show h.dj j k vs ws q n e1 e2 e3 e4
def gH (S0 S:SS) (Z:Addr->Prop):SS:=open Classical in λ a=>if S0 a=none/\Z a then none else S a
def kK {a:Addr}(h:¬ (S0 a=none/\Z a)):gH S0 S Z a=S a:=if_neg h
def gG {a:Addr}(h:S0 a=none/\Z a):gH S0 S Z a=none:=if_pos h
def FR.rebase (h:FR S0 Z0 S Z δ ρ):∃ S1,Sx S0 S1/\FR S1 Z0 S Z δ ρ/\Sx (zx S Z) S1:=by
 exact#[gH S0 S Z,λ b o q=>?_,#[h.er,h.len,λ b o q=>?_,λ a z=>?_,h.zz,λ a z=>?_,λ i ts p e ed=>?_,h.dj],λ b o q=>?_]
 .rw[kK (λ z=>by rw[z.1] at q;cases q)];show h.sx _ _ q
 .by_cases w:S0 b=none/\Z b
  .rw[gG w] at q;cases q
  .rw[kK w] at q;show q
 .rw[kK (λ q=>h.z0 a z q.1)];show h.er.zd a (h.zz a z)
 .rcases h.zn a z with w | w
  .show .inl w
  .show .inr (gG #[w,z])
 .let#[p',ds,h1,h2,h3,h4]:=h.er.ow i ts e;rw[ed] at h1;cases h1;show#[gG #[(h.fr i ts p e ed).1,h4],(h.fr i ts p e ed).2]
 .let#[q1,q2]:=uW q;rw[kK (λ z=>q1 z.2)];show q2
def FR.back {S1:SS}(h:FR S1 Z0 S Z δ ρ) (s:Sx S0 S1) (z0:∀ a,Z0 a->S0 a≠none):FR S0 Z0 S Z δ ρ:=#[h.er,h.len,s.trans h.sx,z0,h.zz,λ a z=>(h.zn a z).imp id s.none,λ i ts p e ed=>#[s.none (h.fr i ts p e ed).1,(h.fr i ts p e ed).2],h.dj]
def FR.U8 {S1:SS}{Z1:Addr->Prop}(h:FR S0 Z0 S Z δ ρ) (b:Sx (zx S1 Z1) S0) (zz:∀ a,Z0 a->Z1 a):Sx (zx S1 Z1) (zx S Z):=λ a o q=>by
 have q0:=b _ _ q;let#[q1,q2]:=uW q;rw[vk]
 .show h.sx _ _ q0
 .intro z;rcases h.zn a z with w | w
  .show q1 (zz a w)
  .rw[w] at q0;cases q0
end
inductive Out where
 | nx (ρ:Ev) | rt (t:T) | bk (ρ:Ev) | ct (ρ:Ev)
abbrev Sm:=Ev->Option Out
def Ia (R:Rk) (S0:SS) (Z0:Addr->Prop) (o:Out) (E:qC):Prop:=match o with
 | .nx ρ=>∀ S Z δ,FR S0 Z0 S Z δ ρ->E.nx δ S
 | .bk ρ=>∀ S Z δ,FR S0 Z0 S Z δ ρ->E.bk δ S
 | .ct ρ=>∀ S Z δ,FR S0 Z0 S Z δ ρ->E.ct δ S
 | .rt y=>∀ d S,Sx S0 S->R S0 S Z0 y d->E.rt d S
def ym (R:Rk) (g:Sm) (t:yH):Prop:=∀ S0 Z0 S Z δ ρ o E,FR S0 Z0 S Z δ ρ->g ρ=↑o->Ia R S0 Z0 o E->t E δ S
class Lo (R:Rk):Prop extends Cl R where
 lo:∀ {S0 S S':SS}{Z0 Z:Addr->Prop}{y:T}{d:D},Sx S0 S->(∀ a,Z0 a->Z a)->R S S' Z y d->R S0 S' Z0 y d
instance:Lo xx:=#[λ _ z h=>Sn.sx (vm z) _ h]
instance:Lo zC:=#[λ s z h=>#[Sn.sx (vm z) _ h.1,λ ts e=>by
 let#[p,ds,h1,h2,h3,h4]:=h.2 ts e;show#[p,ds,h1,s.none h2,h3,zi.sx (vm λ a q=>q.imp (z a) id) ts h4]]]
@[simp] def zo (g h:Sm):Sm:=fun ρ=>(g ρ).bind λ o=>match o with
 | .nx ρ'=>h ρ'
 | o=>↑o
@[simp] def zZ:Sm:=fun ρ=>↑(.nx ρ)
@[simp] def zA (i:Nat) (f:Ae):Sm:=fun ρ=>(f ρ).map λ y=>.nx (ρ.set i ↑(.im y))
@[simp] def vC (i:Nat) (f:Ae):Sm:=fun ρ=>(f ρ).bind λ y=>match y with
 | .lst ts=>↑(.nx (ρ.set i ↑(.own (.lst ts))))
 | y=>↑(.nx (ρ.set i ↑(.im y)))
@[simp] def pd (f:Ae):Sm:=fun ρ=>(f ρ).map λ _=>.nx ρ
@[simp] def retS (f:Ae):Sm:=fun ρ=>(f ρ).map .rt
@[simp] def qM (i:Nat):Sm:=fun ρ=>match ρ[i]? with
 | some ↑(.own (.lst ts))=>↑(.rt (.lst ts))
 | _=>none
@[simp] def zW (c:Ev->Option Bool) (g h:Sm):Sm:=fun ρ=>(c ρ).bind λ b=>if b=true then g ρ else h ρ
@[simp] def fY (i:Nat) (ρ:Ev):Ev:=match ρ[i]? with
 | some ↑(.own (.lst ts))=>ρ.set i ↑(.im (.lst ts))
 | _=>ρ
@[simp] def fX (i:Nat) (g:Sm):Sm:=fun ρ=>g (fY i ρ)
section
variable {R:Rk}{g h:Sm}{t u:yH}{f:Ae}{te:zv}
def Pj (hg:ym R g t) (hh:ym R h u):ym R (zo g h) (m_ t u):=λ S0 Z0 S Z δ ρ o E F e P=>by
 let#[o1,e1,e2]:=An.mp e;exact hg S0 Z0 S Z δ ρ o1 { E with nx:=u E } F e1 ?_;cases o1 with
 | nx ρ1=>show λ S1 Z1 δ1 F1=>hh S0 Z0 S1 Z1 δ1 ρ1 o E F1 e2 P
 | rt y=>cases e2;show P
 | bk y=>cases e2;show P
 | ct y=>cases e2;show P
def Ph:ym R zZ Yt:=λ S0 Z0 S Z δ ρ o E F e P=>by cases e;show P S Z δ F
def PC (i:Nat) (hf:wb f te):ym R (zA i f) (wX te (hName i)):=λ S0 Z0 S Z δ ρ o E F e P=>by
 let#[y,e1,rfl]:=AE.mp e;show hf S Z δ ρ y _ F.er e1 λ d S1 s1 r1=>P S1 Z _ ((F.grow s1).oa i r1)
def PB (i:Nat) (hf:xG f te):ym R (vC i f) (wX te (hName i)):=λ S0 Z0 S Z δ ρ o E F e P=>by
 let#[y,e1,e2]:=An.mp e;exact hf S Z δ ρ y _ F.er e1 λ d S1 s1 r1=>?_;cases y with
 | lst ts=>
  cases e2;let#[p,ds,rfl,h1,h2,h3]:=r1.2 ts rfl;show P S1 _ _ (F.gy (ts:=.lst ts) (ds:=.lst ds) s1 i h1 h2 h3)
 | _=>cases e2;show P S1 Z _ ((F.grow s1).oa i r1.1)
def Py (hf:y6 f te):ym R (pd f) (lp te):=λ S0 Z0 S Z δ ρ o E F e P=>by
 let#[y,e1,rfl]:=AE.mp e;show hf S Z δ ρ y _ F.er e1 λ d S1 s1 r1=>P S1 Z _ (F.grow s1)
def Pl [Lo R] (hf:xF R f te):ym R (retS f) (lb te):=λ S0 Z0 S Z δ ρ o E F e P=>by
 let#[y,e1,rfl]:=AE.mp e;show hf S Z δ ρ y _ F.er e1 λ d S1 s1 r1=>P d S1 (F.sx.trans s1) (Lo.lo F.sx F.zz r1)
def aw (i:Nat):ym zC (qM i) (lb (yh i)):=λ S0 Z0 S Z δ ρ o E F e P=>by
 unfold qM at e;split at e
 .rename_i ts h;cases e;let#[p,ob,h1,h2,h3,h4]:=F.er.ow i _ h;obtain⟨ds,rfl⟩:∃ ds,ob=.lst ds:=by
   cases ob with
   | lst ds=>show#[ds,rfl]
   | _=>show h3.elim
  replace h3:zi (zx S Z) ts ds:=h3;have hn:=(F.fr i _ p h h1).1;have nz:¬ Z0 p:=λ z=>F.z0 p z hn;change yh i δ S E.rt;unfold yh;rw[h1];exact P _ S F.sx #[?_,λ us e=>?_]
  .simp![Sn];show#[ds,.inr #[p,rfl,by rw[vk nz];show h2],zi.sx (vm F.zz) ts h3]
  .cases e;show#[p,ds,rfl,hn,h2,zi.sx (vm λ a q=>q.elim (F.zz a) λ q=>q▸h4) ts h3]
 .cases e
def ym.fv (h:ym zC g t):ym xx g t:=λ S0 Z0 S Z δ ρ o E F e P=>by
 exact h S0 Z0 S Z δ ρ o E F e ?_;cases o with
 | rt y=>show λ d S s r=>P d S s r.1
 | _=>show P
def Pt {c:Ev->Option Bool}{tc:yF}(hc:vD c tc) (hg:ym R g t) (hh:ym R h u):ym R (zW c g h) (Yz tc t u):=λ S0 Z0 S Z δ ρ o E F e P=>by
 let#[b,e1,e2]:=An.mp e;exact hc S Z δ ρ b _ F.er e1 λ S1 s1=>?_;split at e2
 .rename_i hb;rw[if_pos hb];show hg S0 Z0 S1 Z δ ρ o E (F.grow s1) e2 P
 .rename_i hb;rw[if_neg hb];show hh S0 Z0 S1 Z δ ρ o E (F.grow s1) e2 P
def FR.fz {S0 S:SS}{Z0 Z:Addr->Prop}{δ:yg}{ρ:Ev}(F:FR S0 Z0 S Z δ ρ) (i:Nat):∃ Z',FR S0 Z0 S Z' δ (fY i ρ):=by
 unfold fY;split
 .rename_i ts h;let#[p,ds,h1,_]:=F.er.ow i _ h;show#[_,(F.freeze i h h1).1]
 .show#[Z,F]
def Pu (i:Nat) (hg:ym R g t):ym R (fX i g) t:=λ S0 Z0 S Z δ ρ o E F e P=>by
 let#[Z',F']:=F.fz i;show hg S0 Z0 S Z' δ _ o E F' e P
def lH (g:T->Ev->Option Ev) (t:xl):Prop:=∀ S0 Z0 S Z δ ρ ρ' y d Q,FR S0 Z0 S Z δ ρ->Sn (zx S Z) y d->g y ρ=↑ρ'->(∀ δ',FR S0 Z0 S Z δ' ρ'->Q δ' S)->t d δ S Q
def iq (g:List T->Ev->Option Ev) (t:wu):Prop:=∀ S0 Z0 S Z δ ρ ρ' ys ds Q,FR S0 Z0 S Z δ ρ->zi (zx S Z) ys ds->g ys ρ=↑ρ'->(∀ δ',FR S0 Z0 S Z δ' ρ'->Q δ' S)->t ds δ S Q
@[simp] def zu (i:Nat):T->Ev->Option Ev:=λ y ρ=>↑(ρ.set i ↑(.im y))
@[simp] def xr:List T->Ev->Option Ev
 | [],ρ=>↑ρ
 | _::_,_=>none
@[simp] def zU (g:T->Ev->Option Ev) (h:List T->Ev->Option Ev):List T->Ev->Option Ev
 | y::ys,ρ=>(g y ρ).bind fun ρ'=>h ys ρ'
 | [],_=>none
@[simp] def xi (n:Nat) (g:List T->Ev->Option Ev):T->Ev->Option Ev
 | .tup ys,ρ=>if ys.length=n then g ys ρ else none
 | _,_=>none
def PY (i:Nat):lH (zu i) (hName i):=λ S0 Z0 S Z δ ρ ρ' y d Q F r e hq=>by cases e;show hq _ (F.oa i r)
def PU:iq xr fL:=λ S0 Z0 S Z δ ρ ρ' ys ds Q F r e hq=>by
 cases ys with
 | nil=>simp![zi] at r;subst r;cases e;show#[rfl,hq _ F]
 | cons _ _=>cases e
def PV {g:T->Ev->Option Ev}{h:List T->Ev->Option Ev}{t:xl}{u:wu}(hg:lH g t) (hh:iq h u):iq (zU g h) (fM t u):=λ S0 Z0 S Z δ ρ ρ' ys ds Q F r e hq=>by
 cases ys with
 | nil=>cases e
 | cons y ys=>
  simp![zi] at r;let#[c,cs,rfl,r1,r2]:=r;let#[ρ1,e1,e2]:=An.mp e;show hg S0 Z0 S Z δ ρ ρ1 y c _ F r1 e1 fun δ1 F1=>hh S0 Z0 S Z δ1 ρ1 ρ' ys cs Q F1 r2 e2 hq
def PX {n:Nat}{g:List T->Ev->Option Ev}{t:wu}(hg:iq g t):lH (xi n g) (qZ n t):=λ S0 Z0 S Z δ ρ ρ' y d Q F r e hq=>by
 cases y with
 | tup ys=>
  simp![Sn] at r;let#[ds,rfl,r]:=r;simp![xi] at e;split at e
  .rename_i hl;show#[by rw[r.len];show hl,hg S0 Z0 S Z δ ρ ρ' ys ds Q F r e hq]
  .cases e
 | _=>cases e
@[simp] def qJ (f:Ae) (g:T->Ev->Option Ev):Sm:=fun ρ=>(f ρ).bind λ y=>(g y ρ).map .nx
def Pg {g:T->Ev->Option Ev}{tg:xl}(hf:wb f te) (hg:lH g tg):ym R (qJ f g) (wX te tg):=λ S0 Z0 S Z δ ρ o E F e P=>by
 let#[y,e1,e2]:=An.mp e;let#[ρ',e3,rfl]:=AE.mp e2;show hf S Z δ ρ y _ F.er e1 λ d S1 s1 r1=>hg S0 Z0 S1 Z δ ρ ρ' y d _ (F.grow s1) r1 e3 fun δ' F'=>P S1 Z δ' F'
def qx (free:Bool) (f:Ev->Option (List T)) (ti:wF):Prop:=∀ S Z δ ρ ts Q,ER S Z δ ρ->f ρ=↑ts->(∀ I S',Sx S S'->zi (zx S' Z) ts I.items->(∀ S'',Sx (if free=true then zx S' Z else S') S''->I.keep S'')->Q I S')->ti δ S Q
@[simp] def yX (f:Ae):Ev->Option (List T):=fun ρ=>(f ρ).bind xU
def PL {f:Ae}{te:zv}(hf:y6 f te):qx false (yX f) (fF te):=λ S Z δ ρ ts Q hE e hq=>by
 let#[y,e1,e2]:=An.mp e;exact hf S Z δ ρ y _ hE e1 λ d S1 s1 r1=>?_;cases y with
 | tup us=>
  cases e2;let#[ds,rfl,h2]:=Vw.tup r1;show hq _ S1 s1 h2 λ _ _=>trivial
 | lst us=>
  cases e2;obtain⟨ds,rfl | ⟨a,rfl,h1⟩,h2⟩:=Vw.lst r1
  .show hq _ S1 s1 h2 λ _ _=>trivial
  .dsimp only;rw[h1];show hq #[ds,_] S1 s1 h2 λ S'' s=>s _ _ h1
 | _=>cases e2
def PM {f:Ae}{te:zv}(hf:wb f te):qx true (yX f) (fF te):=λ S Z δ ρ ts Q hE e hq=>by
 let#[y,e1,e2]:=An.mp e;exact hf S Z δ ρ y _ hE e1 λ d S1 s1 r1=>?_;cases y with
 | tup us=>
  cases e2;let#[ds,rfl,h2]:=Vw.tup (.inl r1);show hq _ S1 s1 h2 λ _ _=>trivial
 | lst us=>
  cases e2;have r2:=r1;unfold xx at r2;simp![Sn] at r2;obtain⟨ds,⟨rfl,_⟩ | ⟨a,rfl,h1⟩,h2⟩:=r2
  .show hq _ S1 s1 h2 λ _ _=>trivial
  .dsimp only;rw[(uW h1).2];show hq #[ds,_] S1 s1 h2 λ S'' s=>s _ _ h1
 | _=>cases e2
def rangeT (lo:Int) (n:Nat):List T:=(List.range n).map λ(k:Nat)=>T.int (lo+(k:Int))
def c_ {S:SS}(lo:Int) (n:Nat):zi S (rangeT lo n) (vZ lo n):=by
 unfold rangeT vZ
 induction List.range n with
 | nil=>show .nil
 | cons k l ih=>show .cons wL ih
def inR (j:Int):Bool:=decide (-100000000<=j)&&decide (j<=100000000)
def ZA {j:Int}:inR j=true↔-100000000<=j/\j<=100000000:=by simp[inR]
def Lg {j:Int}(h:inR j=true):-(2 ^ 62)<=j/\j<2 ^ 62:=by have:=ZA.mp h;lia
def xW:List T->Option (List T)
 | [.int j]=>if inR j=true then ↑(rangeT 0 j.toNat) else none
 | _=>none
@[simp] def xc (F:List T->Option (List T)) (g:Ev->Option (List T)):Ev->Option (List T):=fun ρ=>(g ρ).bind F
def PN {b:Bool}{g:Ev->Option (List T)}{tA:yk}(h:pG g tA):qx b (xc xW g) (fG tA):=λ S Z δ ρ ts Q hE e hq=>by
 let#[ys,e1,e2]:=An.mp e;exact h S Z δ ρ ys _ hE e1 λ ds S1 s1 r1=>?_;unfold xW at e2;split at e2
 .split at e2
  .rename_i hc;cases e2;let#[d,rfl,h1]:=vT r1;cases h1.int;show#[Lg hc,hq _ S1 s1 (c_ _ _) λ _ _=>trivial]
  .cases e2
 .cases e2
def xu (is:List Nat) (g:T->Ev->Option Ev) (b:Sm):List T->Ev->Option Out
 | [],ρ=>↑(.nx (yz is ρ))
 | y::ys,ρ=>(g y (yz is ρ)).bind fun ρ1=>(b ρ1).bind λ o=>match o with
  | .nx ρ2=>xu is g b ys ρ2
  | .ct ρ2=>xu is g b ys ρ2
  | .bk ρ2=>↑(.nx (yz is ρ2))
  | .rt t=>↑(.rt t)
@[simp] def xm (is:List Nat) (f:Ev->Option (List T)) (g:T->Ev->Option Ev) (b:Sm):Sm:=fun ρ=>(f ρ).bind λ ts=>xu is g b ts ρ
def Pw {is:List Nat}{fi:Ev->Option (List T)}{ti:wF}{g:T->Ev->Option Ev}{tg:xl}{b:Sm}{tb:yH} [Lo R] (hi:qx true fi ti) (hg:lH g tg) (hb:ym R b tb):ym R (xm is fi g b) (ll ti tg tb):=λ S0 Z0 S Z δ ρ o E F e P=>by
 let#[ts,e1,e2]:=An.mp e;exact hi S Z δ ρ ts _ F.er e1 λ I S1 s1 r1 hk=>?_;rw[if_pos rfl] at hk;let#[SB,b1,FB,b2]:=(F.grow s1).rebase;have lo:∀ S' d y,R SB S' Z0 y d->R S0 S' Z0 y d:=λ S' d y r=>Lo.lo b1 (λ _ z=>z) r;have zz:=F.zz;exact#[λ i δ' S'=>∃ Z' ρ',FR SB Z0 S' Z' δ' ρ'/\xu is g b (ts.drop i) ρ'=↑o,#[Z,ρ,FB,e2],λ i δ' S' #[Z',ρ',F',_]=>hk S' (b2.trans F'.sx),λ i d δ' S' hd #[Z',ρ',F',e']=>?_,fun δ' S' #[Z',ρ',F',e']=>?_]
 .let#[y,hy,r2]:=r1.fW hd;have Au:=(AO.mp hy).1;have ES:ts.drop i=y::ts.drop (i+1):=by
   rw[List.drop_eq_getElem_cons Au,(AO.mp hy).2]
  rw[ES] at e';unfold xu at e';let#[ρ1,g1,e']:=An.mp e';let#[o1,g2,e']:=An.mp e';exact hg SB Z0 S' Z' δ' _ ρ1 y d _ (F'.yz is) (Sn.sx (F'.U8 b2 zz) y r2) g1 fun δ2 F2=>?_
  exact hb SB Z0 S' Z' δ2 ρ1 o1 _ F2 g2 ?_;cases o1 with
  | nx ρ2=>show λ S3 Z3 δ3 F3=>#[Z3,ρ2,F3,e']
  | ct ρ2=>show λ S3 Z3 δ3 F3=>#[Z3,ρ2,F3,e']
  | bk ρ2=>cases e';show λ S3 Z3 δ3 F3=>P S3 Z3 δ3 ((F3.yz is).back b1 F.z0)
  | rt y=>cases e';show λ d S3 s3 r3=>P d S3 (b1.trans s3) (lo _ _ _ r3)
 .rw[show I.items.length=ts.length from r1.len,List.drop_length] at e';unfold xu at e';cases e';show P S' Z' δ' ((F'.yz is).back b1 F.z0)
end
@[simp] def xD (i:Nat) (f:Ae):Sm:=fun ρ=>match ρ[i]? with
 | some ↑(.own (.lst ts))=>(f ρ).bind λ y=>if ts.length<sizeLine then ↑(.nx (ρ.set i ↑(.own (.lst (ts++[y]))))) else none
 | _=>none
section
variable {R:Rk}{f:Ae}{te:zv}
def PH (i:Nat) (hf:wb f te):ym R (xD i f) (lp (ql (yh i) te)):=λ S0 Z0 S Z δ ρ o E F e P=>by
 unfold xD at e;split at e
 .rename_i ts h;let#[y,e1,e2]:=An.mp e;split at e2
  .rename_i hl;cases e2;let#[p,ob,h1,h2,h3,h4]:=F.er.ow i _ h;obtain⟨ds,rfl⟩:∃ ds,ob=.lst ds:=by
    cases ob with
    | lst ds=>show#[ds,rfl]
    | _=>show h3.elim
   replace h3:zi (zx S Z) ts ds:=h3;change ql (yh i) te δ S _;unfold ql yh;rw[h1];exact#[#[ds,h2],hf S Z δ ρ y _ F.er e1 λ d S1 s1 r1=>?_];dsimp only;rw[s1 _ _ h2];have F1:=F.grow s1;exact#[by rw[h3.len];show hl,P _ Z δ (F1.mut (us:=.lst (ts++[y])) (es:=.lst (ds++[d])) i h h1 ((zi.sx (wV s1) ts h3).append (.cons r1 .nil)))]
  .cases e2
 .cases e
end
def tf (pick:List (Option Nat)) (ti:wF) (g:xl) (tc:yF) (te:zv):zv:=fun δ S Q=>ti δ S λ I S1=>I.items.length<=sizeLine/\(∀ S,Sx S1 S->I.keep S)/\∀ p,S1 p=none->∃ W:Nat->SS->List D->Prop,W 0 S1 []/\
 (∀ i S S' acc,(∀ b o,b≠p->S b=↑o->S' b=↑o)->W i S acc->W i S' acc)/\
 (∀ i d S acc,I.items[i]?=↑d->Sx S1 S->S p=↑(.lst acc)->W i S acc->g d (u5 pick δ) S fun δ2 S2=>p9 (u5 pick δ) δ2/\tc δ2 S2 λ b S3=>if b=true then te δ2 S3 λ y S4=>Sx S S4/\W (i+1) S4 (acc++[y]) else Sx S S3/\W (i+1) S3 acc)/\
 ∀ S2 acc,Sx S1 S2->S2 p=↑(.lst acc)->W I.items.length S2 acc->Q (.ref p) S2
@[simp] def nU (pick:List (Option Nat)) (ρ:Ev):Ev:=pick.map λ o=>o.bind λ i=>(ρ[i]?).join
def pk (h:T->Option (Option T)):List T->Option (List T)
 | []=>↑[]
 | y::ys=>(h y).bind λ o=>(pk h ys).map λ zs=>match o with
  | some z=>z::zs
  | none=>zs
@[simp] def qU (pick:List (Option Nat)) (g:T->Ev->Option Ev) (c:Ev->Option Bool) (f:Ae) (ρ:Ev) (y:T):Option (Option T):=
 (g y (nU pick ρ)).bind fun ρ2=>(c ρ2).bind λ b=>if b=true then (f ρ2).map some else ↑none
def xJ (pick:List (Option Nat)) (it:Ev->Option (List T)) (g:T->Ev->Option Ev) (c:Ev->Option Bool) (f:Ae):Ae:=fun ρ=>(it ρ).bind λ ts=>if ts.length<=sizeLine then (pk (qU pick g c f ρ) ts).map .lst else none
@[simp] def tq:Ev->Option Bool:=λ _=>↑true
def Ot:vD tq Yj:=λ S Z δ ρ y Q hE e hq=>by cases e;show hq S (.refl S)
def iw (pick:List (Option Nat)) (g:T->Ev->Option Ev) (t:xl):Prop:=∀ B S Z δ ρ ρ' y d Q,(∀ i:Nat,pick[i]?=↑none->B[i]?=↑none)->p9 B δ->δ.length=ρ.length->ER S Z δ ρ->Sn (zx S Z) y d->g y ρ=↑ρ'->
 (∀ δ',ER S Z δ' ρ'->p9 B δ'->δ'.length=ρ'.length->Q δ' S)->t d δ S Q
def iu (pick:List (Option Nat)) (g:List T->Ev->Option Ev) (t:wu):Prop:=∀ B S Z δ ρ ρ' y d Q,(∀ i:Nat,pick[i]?=↑none->B[i]?=↑none)->p9 B δ->δ.length=ρ.length->ER S Z δ ρ->zi (zx S Z) y d->g y ρ=↑ρ'->
 (∀ δ',ER S Z δ' ρ'->p9 B δ'->δ'.length=ρ'.length->Q δ' S)->t d δ S Q
theorem ER.oa {S:SS}{Z:Addr->Prop}{δ:yg}{ρ:Ev}{y:T}{d:D}(h:ER S Z δ ρ) (hl:δ.length=ρ.length) (i:Nat) (r:Sn (zx S Z) y d):ER S Z (δ.set i ↑d) (ρ.set i ↑(.im y)):=by
 exact#[h.zd,λ j t e=>?_,λ j ts e=>?_]
 .rcases yJ e with ⟨rfl,G3,e⟩ | ⟨n,e⟩
  .cases e;show#[d,oS (by rw[hl];show G3),r]
  .rw[vn n];show h.im j t e
 .rcases yJ e with ⟨rfl,G3,e⟩ | ⟨n,e⟩
  .cases e
  .rw[vn n];show h.ow j ts e
variable {pick:List (Option Nat)}
theorem Ob (i:Nat) (hi:pick[i]?=↑none:=by rfl):iw pick (zu i) (hName i):=λ B S Z δ ρ ρ' y d Q hB hs hl hE r e hq=>by
 cases e;exact hq _ (hE.oa hl i r) #[by rw[C8];show hs.1,λ j c q=>?_] (by simp[hl]);by_cases hj:i=j
 .subst hj;rw[hB i hi] at q;cases q
 .rw[vn hj];show hs.2 j c q
def PZ:iu pick xr fL:=λ B S Z δ ρ ρ' y d Q hB hs hl hE r e hq=>by
 cases y with
 | nil=>simp![zi] at r;subst r;cases e;show#[rfl,hq _ hE hs hl]
 | cons _ _=>cases e
def P_ {g:T->Ev->Option Ev}{h:List T->Ev->Option Ev}{t:xl}{u:wu}(hg:iw pick g t) (hh:iu pick h u):iu pick (zU g h) (fM t u):=λ B S Z δ ρ ρ' y d Q hB hs hl hE r e hq=>by
 cases y with
 | nil=>cases e
 | cons y ys=>
  simp![zi] at r;let#[c,cs,rfl,r1,r2]:=r;let#[ρ1,e1,e2]:=An.mp e;show hg B S Z δ ρ ρ1 y c _ hB hs hl hE r1 e1 fun δ1 E1 s1 l1=>hh B S Z δ1 ρ1 ρ' ys cs Q hB s1 l1 E1 r2 e2 hq
def Oa {n:Nat}{g:List T->Ev->Option Ev}{t:wu}(hg:iu pick g t):iw pick (xi n g) (qZ n t):=λ B S Z δ ρ ρ' y d Q hB hs hl hE r e hq=>by
 cases y with
 | tup ys=>
  simp![Sn] at r;let#[ds,rfl,r]:=r;simp![xi] at e;split at e
  .rename_i hn;show#[by rw[r.len];show hn,hg B S Z δ ρ ρ' ys ds Q hB hs hl hE r e hq]
  .cases e
 | _=>cases e
def bV {ρ:Ev}{i:Nat}{w:W}(h:(nU pick ρ)[i]?=↑↑w):∃ j:Nat,pick[i]?=↑↑j/\ρ[j]?=↑↑w:=by
 unfold nU at h;rw[AD] at h;cases q:pick[i]? with
 | none=>rw[q] at h;cases h
 | some o=>
  rw[q] at h;cases o with
  | none=>simp at h
  | some j=>
   simp![Option.map_some,BO,Option.some.injEq] at h;exact#[j,rfl,?_];cases q2:ρ[j]? with
   | none=>rw[q2] at h;cases h
   | some o2=>rw[q2] at h;simp![Option.join_some] at h;rw[h]
def bW {δ:yg}{i j:Nat}{d:D}(h:pick[i]?=↑↑j) (h':δ[j]?=↑↑d):(u5 pick δ)[i]?=↑↑d:=by
 unfold u5;rw[AD,h];simp[h']
def ER.TC {S:SS}{Z:Addr->Prop}{δ:yg}{ρ:Ev}(h:ER S Z δ ρ):ER S Z (u5 pick δ) (nU pick ρ):=by
 exact#[h.zd,λ i t e=>?_,λ i ts e=>?_]
 .let#[j,h1,h2]:=bV e;let#[d,h3,h4]:=h.im j t h2;show#[d,bW h1 h3,h4]
 .let#[j,h1,h2]:=bV e;let#[p,ds,h3,h4]:=h.ow j ts h2;show#[p,ds,bW h1 h3,h4]
def ER.hide {S S':SS}{Z:Addr->Prop}{δ:yg}{ρ:Ev}{p:Addr}(h:ER S Z δ ρ) (s:Sx S S') (hp:S p=none) (HV:S' p≠none):ER S' (λ a=>Z a\/a=p) δ ρ:=by
 exact#[λ a z q=>?_,λ i t e=>?_,λ i ts e=>?_]
 .rcases z with z | rfl
  .show h.zd a z (s.none q)
  .show HV q
 .let#[d,h1,h2]:=h.im i t e;show#[d,h1,Sn.sx (qY s hp) t h2]
 .let#[q,ds,h1,h2,h3,h4]:=h.ow i ts e;show#[q,ds,h1,s _ _ h2,xy.sx (qY s hp) h3,.inl h4]
def OH {it:Ev->Option (List T)}{ti:wF}{g:T->Ev->Option Ev}{tg:xl}{c:Ev->Option Bool}{tc:yF}{f:Ae}{te:zv}{b:Bool}(hi:qx b it ti) (hg:iw pick g tg) (hc:vD c tc) (hf:wb f te):
  xG (xJ pick it g c f) (tf pick ti tg tc te):=λ S Z δ ρ y Q hE e hq=>by
 let#[ts,e1,e2]:=An.mp e;split at e2
 case isFalse=>cases e2
 rename_i hlen;let#[zs,e3,rfl]:=AE.mp e2;exact hi S Z δ ρ ts _ hE e1 λ I S1 s1 r1 hk=>#[by rw[r1.len];show hlen,λ S' s'=>hk S' ?_,λ p hp=>?_]
 .cases b
  .show s'
  .show (oQ _ _).trans s'
 have E1:=hE.grow s1;have nz:¬ Z p:=λ z=>E1.zd p z hp;exact#[λ i S' acc=>∃ us ws,zi (zx S' λ a=>Z a\/a=p) us acc/\pk (qU pick g c f ρ) (ts.drop i)=↑ws/\zs=us++ws,#[[],zs,.nil,e3,rfl],λ i S' S'' acc hh #[us,ws,h1,h2]=>#[us,ws,zi.sx (λ a o q=>?_) us h1,h2],λ i d S2 acc hd s2 AZ #[us,ws,h1,h2,h3]=>?_,λ S2 acc s2 AZ #[us,ws,h1,h2,h3]=>?_]
 .let#[q1,q2]:=uW q;rw[vk q1];show hh a o (λ z=>q1 (.inr z)) q2
 .let#[x,hx,rx]:=r1.fW hd;have Au:=(AO.mp hx).1;have ES:ts.drop i=x::ts.drop (i+1):=by rw[List.drop_eq_getElem_cons Au,(AO.mp hx).2]
  rw[ES] at h2;unfold pk at h2;let#[o,o1,h2]:=An.mp h2;let#[ws',o2,rfl]:=AE.mp h2;have E2:=(E1.hide s2 hp (by rw[AZ];nofun)).TC (pick:=pick);unfold qU at o1;let#[ρ2,g1,o1]:=An.mp o1;let#[bb,g2,o1]:=An.mp o1;exact hg (u5 pick δ) S2 _ _ _ ρ2 x d _ (λ j hj=>?_) #[rfl,λ _ _ q=>q] (by unfold u5 nU;simp) E2 (Sn.sx (qY s2 hp) x rx) g1 fun δ2 E3 l3 _=>#[l3,?_]
  .unfold u5;rw[AD,hj];rfl
  exact hc S2 _ δ2 ρ2 bb _ E3 g2 λ S3 s3=>?_;split at o1
  .rename_i hb;rw[if_pos hb];let#[z,g3,rfl]:=AE.mp o1;exact hf S3 _ δ2 ρ2 z _ (E3.grow s3) g3 λ dz S4 s4 r4=>#[s3.trans s4,us++[z],ws',?_,o2,by rw[h3];simp];show (zi.sx (wV (s3.trans s4)) us h1).append (.cons r4 .nil)
  .rename_i hb;rw[if_neg hb];cases o1;show#[s3,us,ws',zi.sx (wV s3) us h1,o2,h3]
 .rw[show I.items.length=ts.length from r1.len,List.drop_length] at h2;cases h2;rw[Cs] at h3;subst h3;exact hq _ S2 (s1.trans s2) #[?_,λ vs e=>?_]
  .simp![Sn];show#[acc,.inr #[p,rfl,by rw[vk nz];show AZ],zi.sx (vm λ a z=>.inl z) zs h1]
  .cases e;show#[p,acc,rfl,s1.none hp,AZ,h1]
class Sr (R:Rk):Prop extends Lo R where
 sn:∀ {S S':SS}{Z:Addr->Prop}{y:T}{d:D},R S S' Z y d->Sn (zx S' Z) y d
instance:Sr xx:=#[λ h=>h]
instance:Sr zC:=#[λ h=>h.1]
def zJ (R:Rk) (F:Al):wZ:=λ ds S Q=>∃ Z ys y,(∀ a,Z a->S a≠none)/\zi (zx S Z) ys ds/\F ys=↑y/\∀ d S',Sx S S'->R S S' Z y d->Q d S'
def zJ.mo {R:Rk}{F:Al}:qz (zJ R F):=λ _ _ _ _ hq #[Z,ys,y,h1,h2,h3,h4]=>#[Z,ys,y,h1,h2,h3,λ d S' s r=>hq _ _ (h4 d S' s r)]
def gX {R:Rk} [Lo R] {F:Al}{g:Ev->Option (List T)}{u:yk}(h:t8 g u):xF R (zq F g) (jD (zJ R F) u):=λ S Z δ ρ y Q hE e hq=>by
 let#[xs,e1,e2]:=An.mp e;exact h S Z δ ρ xs _ hE e1 λ ds S1 s1 r1=>?_;show#[Z,xs,y,(hE.grow s1).zd,r1,e2,λ d S' s r=>hq d S' (s1.trans s) (Cl.cl s1 r)]
@[simp] def qL (N:List Str) (ys:List T):Ev:=ys.map (λ y=>↑(.im y))++List.replicate (N.length-ys.length) none
@[simp] def ai:Option Out->Option T
 | some (.rt y)=>↑y
 | some (.nx _)=>↑.zp
 | _=>none
@[simp] def zR (N:List Str) (n:Nat) (g:Sm):Al:=λ ys=>if ys.length=n then ai (g (qL N ys)) else none
theorem zJ.len {R:Rk}{N:List Str}{n:Nat}{g:Sm}{ds:List D}{S:SS}{Q:DK}(hs:zJ R (zR N n g) ds S Q):ds.length=n:=by
 let#[Z,ys,y,hz,r,e,hq]:=hs;unfold zR at e;split at e
 .rename_i h;rw[r.len];show h
 .cases e
theorem kB {N:List Str}{ds:List D}{i:Nat}{d:D}(h:ds[i]?=↑d):(vX N ds)[i]?=↑↑d:=by
 have hi:=(AO.mp h).1;unfold vX;rw[Cb (by exists hi),AD,h];rfl
theorem kA {N:List Str}{ys:List T}{i:Nat}{w:W}(h:(qL N ys)[i]?=↑↑w):∃ y,ys[i]?=↑y/\w=.im y:=by
 unfold qL at h;have hi:i<ys.length:=by
  rcases Bj i ys.length with q | q
  .show q
  .rw[Cc (by exists q),CQ] at h;split at h <;> cases h
 rw[Cb (by exists hi),AD] at h;cases q:ys[i]? with
 | none=>rw[q] at h;cases h
 | some y=>rw[q] at h;cases h;show#[y,rfl,rfl]
def JA {R:Rk} [Lo R] {N:List Str}{n:Nat}{g:Sm}{t:yH}(h:ym R g t) {ds:List D}{S:SS}{Q:DK}(hs:zJ R (zR N n g) ds S Q):t { nx:=λ _ S'=>Q .zp S',rt:=Q } (vX N ds) S:=by
 let#[Z,ys,y,hz,r,e,hq]:=hs;unfold zR at e;split at e
 case isFalse=>cases e
 obtain⟨o,e1,e2⟩:∃ o,g (qL N ys)=↑o/\ai ↑o=↑y:=by
  cases q:g (qL N ys) with
  | none=>rw[q] at e;cases e
  | some o=>show#[o,rfl,by rw[<- q];show e]
 exact h S Z S Z _ _ o _ #[#[hz,λ i t e=>?_,λ i ts e=>?_],?_,.refl S,hz,λ _ z=>z,λ _ z=>.inl z,λ i ts p e _=>?_,λ i j ts us p _ e _ _ _=>?_] e1 ?_
 .let#[y',h1,h2]:=kA e;cases h2;let#[d,h3,h4]:=r.fU h1;show#[d,kB h3,h4]
 .let#[y',h1,h2]:=kA e;cases h2
 .unfold vX qL;have:=r.len;simp[this]
 .let#[y',h1,h2]:=kA e;cases h2
 .let#[y',h1,h2]:=kA e;cases h2
 .cases o with
  | rt y'=>cases e2;show λ d S' s r=>hq d S' s r
  | nx ρ'=>
   cases e2;show λ S' Z' δ' F=>hq .zp S' F.sx (Cl.of (λ _=>nofun) gr)
  | _=>cases e2
def yV (Ab:List (Key×T)) (k:Key):Option T:=(Ab.find? λ kv=>decide (kv.1=k)).map (·.2)
def vz (Ab:List (Key×T)) (k:Key) (v:T):List (Key×T):=
 if (Ab.any λ kv=>decide (kv.1=k))=true then Ab.map (λ kv=>if kv.1=k then (kv.1,v) else kv) else Ab++[(k,v)]
section
variable {S:SS}
theorem ye.len:∀ {a:List (Key×T)}{b:List (Key×D)},ye S a b->b.length=a.length
 | [],_,h=>by cases h;rfl
 | (k,t)::r,_,h=>by
  let#[d,m,rfl,_,h2]:=h;simp[ye.len h2]
theorem ye.val:∀ {a:List (Key×T)}{b:List (Key×D)}(k:Key),ye S a b->(yV a k=none/\uv b k=none)\/∃ t d,yV a k=↑t/\uv b k=↑d/\Sn S t d
 | [],_,k,h=>by cases h;show .inl #[rfl,rfl]
 | (j,t)::r,_,k,h=>by
  let#[d,m,rfl,h1,h2]:=h;by_cases e:j=k
  .subst e;show .inr #[t,d,by simp[yV],by simp[uv],h1]
  .rcases ye.val k h2 with ⟨g1,g2⟩ | ⟨t',d',g1,g2,g3⟩
   .show .inl #[by simpa [yV,e] using g1,by simpa [uv,e] using g2]
   .show .inr #[t',d',by simpa [yV,e] using g1,by simpa [uv,e] using g2,g3]
theorem ye.any:∀ {a:List (Key×T)}{b:List (Key×D)}(k:Key),ye S a b->(b.any λ kv=>decide (kv.1=k))=a.any λ kv=>decide (kv.1=k)
 | [],_,k,h=>by cases h;rfl
 | (j,t)::r,_,k,h=>by
  let#[d,m,rfl,h1,h2]:=h;rw[Bx,Bx,ye.any k h2]
theorem ye.tM {k:Key}{t:T}{d:D}(r:Sn S t d):∀ {a:List (Key×T)}{b:List (Key×D)},ye S a b->ye S (a.map λ kv=>if kv.1=k then (kv.1,t) else kv) (b.map λ kv=>if kv.1=k then (kv.1,d) else kv)
 | [],_,h=>by cases h;rfl
 | (j,u)::a,_,h=>by
  let#[e,m,rfl,h1,h2]:=h;rw[Aw,Aw];by_cases q:j=k
  .rw[if_pos q,if_pos q];show#[d,_,rfl,r,ye.tM r h2]
  .rw[if_neg q,if_neg q];show#[e,_,rfl,h1,ye.tM r h2]
theorem ye.snoc {k:Key}{t:T}{d:D}(r:Sn S t d):∀ {a:List (Key×T)}{b:List (Key×D)},ye S a b->ye S (a++[(k,t)]) (b++[(k,d)])
 | [],_,h=>by cases h;show#[d,[],rfl,r,rfl]
 | (j,u)::a,_,h=>by
  let#[e,m,rfl,h1,h2]:=h;show#[e,_,rfl,h1,ye.snoc r h2]
def ye.put {a:List (Key×T)}{b:List (Key×D)}(h:ye S a b) (k:Key) {t:T}{d:D}(r:Sn S t d):ye S (vz a k t) (putD b k d):=by
 unfold vz putD;rw[h.any k];split
 .show ye.tM r h
 .show ye.snoc r h
end
@[simp] def Ym (i:Nat):Sm:=fun ρ=>↑(.nx (ρ.set i ↑(.own (.yj []))))
@[simp] def ph (i:Nat) (f:Ae):Ae:=fun ρ=>(f ρ).bind λ y=>match ρ[i]?,y with
 | some ↑(.own (.yj Ab)),.int k=>yV Ab (.inl k)
 | _,_=>none
@[simp] def eG (i:Nat) (f g:Ae):Ae:=fun ρ=>(f ρ).bind λ y=>(g ρ).bind λ z=>match ρ[i]?,y with
 | some ↑(.own (.yj Ab)),.int k=>↑((yV Ab (.inl k)).getD z)
 | _,_=>none
@[simp] def eF (i:Nat) (f v:Ae):Sm:=fun ρ=>(v ρ).bind λ z=>(f ρ).bind λ y=>match ρ[i]?,y with
 | some ↑(.own (.yj Ab)),.int k=>if Ab.length<sizeLine then ↑(.nx (ρ.set i ↑(.own (.yj (vz Ab (.inl k) z))))) else none
 | _,_=>none
@[simp] def mX (i:Nat):Ae:=fun ρ=>match ρ[i]? with
 | some ↑(.own (.yj Ab))=>↑(.int Ab.length)
 | _=>none
def kR {S:SS}{Z:Addr->Prop}{δ:yg}{ρ:Ev}(hE:ER S Z δ ρ) {i:Nat}{Ab:List (Key×T)}(h:ρ[i]?=↑↑(.own (.yj Ab))):∃ p b,δ[i]?=↑↑(.ref p)/\S p=↑(.yj b)/\ye (zx S Z) Ab b:=by
 let#[p,o,h1,h2,h3,_]:=hE.ow i _ h;cases o with
 | yj b=>show#[p,b,h1,h2,h3]
 | _=>show h3.elim
section
variable {R:Rk}{f g v:Ae}{ty tx tv:zv}
def P0 (i:Nat):ym R (Ym i) (wX Y1 (hName i)):=λ S0 Z0 S Z δ ρ o E F e P=>by
 cases e;intro p hp;show P _ _ _ (F.gy (ts:=.yj []) (ds:=.yj []) (.new hp _) i hp tF rfl)
def aA (i:Nat) (hf:y6 f ty):wb (ph i f) (Y4 (yh i) ty):=λ S Z δ ρ y Q hE e hq=>by
 let#[x,e1,e2]:=An.mp e;split at e2
 .rename_i Ab k h;let#[p,b,h1,h2,h3]:=kR hE h;change yh i δ S _;unfold yh;rw[h1];exact hf S Z δ ρ _ _ hE e1 λ d S1 s1 r1=>?_;cases Vw.int r1;rcases (ye.sx (wV s1) h3).val (.inl k) with ⟨g1,_⟩ | ⟨t,d,g1,g2,g3⟩
  .rw[g1] at e2;cases e2
  .rw[g1] at e2;cases e2;show#[p,b,k,d,rfl,rfl,s1 _ _ h2,g2,hq d S1 s1 g3]
 .cases e2
def aB (i:Nat) (hf:y6 f ty) (hg:wb g tx):wb (eG i f g) (Y3 (yh i) ty tx):=λ S Z δ ρ y Q hE e hq=>by
 let#[x,e1,e]:=An.mp e;let#[z,e2,e3]:=An.mp e;split at e3
 .rename_i Ab k h;cases e3;let#[p,b,h1,h2,h3]:=kR hE h;change yh i δ S _;unfold yh;rw[h1];exact#[p,rfl,#[b,h2],hf S Z δ ρ _ _ hE e1 λ d S1 s1 r1=>?_];cases Vw.int r1;exact hg S1 Z δ ρ z _ (hE.grow s1) e2 λ dz S2 s2 r2=>#[k,b,rfl,(s1.trans s2) _ _ h2,?_];rcases (ye.sx (wV (s1.trans s2)) h3).val (.inl k) with ⟨g1,g2⟩ | ⟨t,d,g1,g2,g3⟩
  .rw[g2];rw[g1] at hq;show hq _ S2 (s1.trans s2) r2
  .rw[g2];rw[g1] at hq;show hq _ S2 (s1.trans s2) g3
 .cases e3
def Pz (i:Nat) (hf:y6 f ty) (hv:wb v tv):ym R (eF i f v) (Y2 (yh i) ty tv):=λ S0 Z0 S Z δ ρ o E F e P=>by
 let#[z,e1,e]:=An.mp e;let#[x,e2,e3]:=An.mp e;split at e3
 .rename_i Ab k h;split at e3
  .rename_i hl;cases e3;exact hv S Z δ ρ z _ F.er e1 λ dz S1 s1 r1=>?_;have F1:=F.grow s1;let#[p,b,h1,h2,h3]:=kR F1.er h;change yh i δ S1 _;unfold yh;rw[h1];exact hf S1 Z δ ρ _ _ F1.er e2 λ d S2 s2 r2=>?_;cases Vw.int r2;have h4:=ye.sx (wV s2) h3;show#[p,b,k,rfl,rfl,s2 _ _ h2,by rw[h4.len];show hl,P _ Z δ ((F1.grow s2).mut (us:=.yj (vz Ab (.inl k) z)) (es:=.yj (putD b (.inl k) dz)) i h h1 (h4.put _ (Sn.sx (wV s2) z r1)))]
  .cases e3
 .cases e3
def Nu (i:Nat):xG (mX i) (xC Ya (rA (yh i) pj)):=λ S Z δ ρ y Q hE e hq=>by
 unfold mX at e;split at e
 .rename_i Ab h;cases e;let#[p,b,h1,h2,h3]:=kR hE h;change yh i δ S _;unfold yh;rw[h1];exact#[p,b,rfl,h2,?_];rw[h3.len];show hq _ S (.refl S) (Cl.of (λ _=>nofun) wL)
 .cases e
end
@[simp] def kW (f:Ae):Ae:=fun ρ=>(f ρ).bind λ x=>match x with
 | .int i=>↑(.int (-i))
 | _=>none
def Yv (ta:zv):zv:=fun δ S Q=>ta δ S λ x S1=>match x with
 | .int i=>Q (.int (-i)) S1
 | _=>False
def O8 {f:Ae}{te:zv}(h:y6 f te):xG (kW f) (Yv te):=λ S Z δ ρ y Q hE e hq=>by
 let#[x,e1,e2]:=An.mp e;exact h S Z δ ρ x _ hE e1 λ d S1 s1 r1=>?_;split at e2
 .cases Vw.int r1;cases e2;show hq _ S1 s1 (Cl.of (λ _=>nofun) wL)
 .cases e2
def L7:vQ zC sX Z_:=ZH
def L6:vQ zC vi ZZ:=ZH
def uB:List T->Option (List Int)
 | []=>↑[]
 | .int i::ts=>(uB ts).map (i::·)
 | _::_=>none
def vF:List T->Option (List (List Int))
 | []=>↑[]
 | .tup r::ts=>(uB r).bind λ x=>(vF ts).map (x::·)
 | _::_=>none
def z_ (r:List Int):T:=.tup (r.map T.int)
theorem mD:∀ {ts:List T}{is:List Int},uB ts=↑is->ts=is.map T.int
 | [],is,h=>by cases h;rfl
 | .int b::ts,is,h=>by
  unfold uB at h;let#[cs,h1,rfl]:=AE.mp h;rw[Aw,<- mD h1]
 | .zp::ts,bs,h=>by cases h
 | .bl _::ts,bs,h=>by cases h
 | .str _::ts,bs,h=>by cases h
 | .tup _::ts,bs,h=>by cases h
 | .lst _::ts,bs,h=>by cases h
theorem gB:∀ {ts:List T}{rs:List (List Int)},vF ts=↑rs->ts=rs.map z_
 | [],is,h=>by cases h;rfl
 | .tup r::ts,is,h=>by
  unfold vF at h;let#[x,h1,h]:=An.mp h;let#[cs,h2,rfl]:=AE.mp h;rw[Aw,<- gB h2,mD h1];rfl
 | .zp::ts,bs,h=>by cases h
 | .bl _::ts,bs,h=>by cases h
 | .str _::ts,bs,h=>by cases h
 | .int _::ts,bs,h=>by cases h
 | .lst _::ts,bs,h=>by cases h
def Z7 (is:List Int):uB (is.map T.int)=↑is:=by
 induction is with
 | nil=>rfl
 | cons b bs ih=>rw[Aw];unfold uB;rw[ih];rfl
def gC (rs:List (List Int)):vF (rs.map z_)=↑rs:=by
 induction rs with
 | nil=>rfl
 | cons b bs ih=>
  change vF (.tup (b.map T.int)::bs.map z_)=_;unfold vF;rw[Z7,ih];rfl
theorem sQ {S:SS}:∀ {is:List Int}{ds:List D},zi S (is.map T.int) ds↔ds=is.map D.int
 | [],ds=>by simp![Bu,zi]
 | i::is,ds=>by
  rw[Aw];simp![zi,Sn];constructor
  .rintro⟨c,cs,rfl,rfl,h⟩;rw[sQ.mp h];rfl
  .rintro rfl;show#[.int i,_,rfl,rfl,sQ.mpr rfl]
theorem pZ {S:SS}:∀ {rs:List (List Int)}{ds:List D},zi S (rs.map z_) ds↔ds=rs.map vG
 | [],ds=>by simp![Bu,zi]
 | r::rs,ds=>by
  rw[Aw];simp![zi,z_,Sn];constructor
  .rintro⟨c,cs,rfl,⟨es,rfl,h1⟩,h⟩;rw[pZ.mp h,sQ.mp h1];rfl
  .rintro rfl;show#[vG r,_,rfl,#[_,rfl,sQ.mpr rfl],pZ.mpr rfl]
@[simp] def V3:T->Option String
 | .zp=>↑"NoneType"
 | .bl _=>↑"bool"
 | .int _=>↑"int"
 | .str _=>↑"str"
 | .tup _=>↑"tuple"
 | .lst _=>↑"list"
 | .xo=>↑"dict"
 | .err _ _ _=>none
@[simp] def FW (ty:String) (f:Ae):Ae:=fun ρ=>(f ρ).bind λ x=>(V3 x).map λ t=>.bl (uV t ty)
theorem Vw.err {S:SS}{Z:Addr->Prop}{c f:Str}{t:T}{d:D}(h:Vw S Z (.err c f t) d):∃ x,d=.err c f x/\Sn (zx S Z) t x:=by
 rcases h with h | ⟨_,_,_,h,_⟩
 .simpa only [Sn] using h
 .cases h
def Ni {ty:String}{f:Ae}{te:zv}(hf:y6 f te):xG (FW ty f) (lh ty te):=λ S Z δ ρ y Q hE e hq=>by
 let#[x,e1,e2]:=An.mp e;let#[n,e3,rfl]:=AE.mp e2;exact hf S Z δ ρ x _ hE e1 λ d S1 s1 r1=>?_;have key:rM d S1=↑n:=by
  rw[<- e3];cases x with
  | zp=>cases Vw.zp r1;rfl
  | bl _=>cases Vw.bl r1;rfl
  | int _=>cases Vw.int r1;rfl
  | str _=>cases Vw.str r1;rfl
  | tup _=>let#[ds,rfl,_]:=Vw.tup r1;rfl
  | lst _=>
   obtain⟨ds,rfl | ⟨a,rfl,h1⟩,h2⟩:=Vw.lst r1
   .rfl
   .unfold rM;dsimp only;rw[h1];rfl
  | xo=>
   let#[a,Ab,#[rfl,_],h1]:=Vw.xo r1;unfold rM;dsimp only;rw[h1];rfl
  | err _ _ _=>cases e3
 rw[key];show hq _ S1 s1 (Cl.of (λ _=>nofun) vw)
@[simp] def isNone:T->Bool
 | .zp=>true
 | _=>false
def oI:D->Bool
 | .zp=>true
 | _=>false
def zj (p:Int×Int):T:=.tup [.int p.1,.int p.2]
def oh (ns:List Int):T:=.lst (ns.map .int)
@[simp] theorem zaa:sizeLine=16777216:=rfl
def Mu {n:Nat}(h:n<=10000):n<=sizeLine:=AY h ()
theorem xR {α:Type}{xs:List α}{k:Nat}{x:α}(h:xs[k]?=↑x):L2.zM xs (k:Int)=↑x:=by
 unfold L2.zM L2.wA;have hk:=(AO.mp h).1;rw[if_pos ⋯,if_pos ⋯];exists h
@[simp] theorem e_ {α:Type}{xs:List α}{x:α}:L2.zM (xs++[x]) (-1)=↑x:=by
 unfold L2.zM L2.wA;rw[if_neg ⋯,if_pos (by simp;lia)];have:(-1+((xs++[x]).length:Int)).toNat=xs.length:=by simp;lia
 rw[BO,this];simp
@[simp] theorem uk {α:Type}{x:α}{xs:List α}:L2.zM (x::xs) 0=↑x:=xR (k:=0) rfl
@[simp] theorem su {α:Type}{x y:α}{xs:List α}:L2.zM (x::y::xs) 1=↑y:=xR (k:=1) rfl
@[simp] theorem JL {α:Type}{x y z:α}{xs:List α}:L2.zM (x::y::z::xs) 2=↑z:=xR (k:=2) rfl
@[simp] theorem JK {α:Type}{x y z w:α}{xs:List α}:L2.zM (x::y::z::w::xs) 3=↑w:=xR (k:=3) rfl
theorem eK {α:Type}(enc:α->T) (g:α->Option T) (h:T->Option (Option T)):∀ (xs:List α),(∀ x∈xs,h (enc x)=↑(g x))->pk h (xs.map enc)=↑(xs.filterMap g)
 | [],_=>rfl
 | x::xs,hh=>by
  rw[Aw];unfold pk;rw[hh x Ar,eK enc g h xs λ y hy=>hh y (Ay _ hy)];cases q:g x <;> simp[q]
def KP {α:Type}(enc:α->T) (g:α->T) (h:T->Option (Option T)) (xs:List α) (hh:∀ x∈xs,h (enc x)=↑↑(g x)):pk h (xs.map enc)=↑(xs.map g):=by
 rw[eK enc (λ x=>↑(g x)) h xs hh];simp
def tS {α:Type}(enc:α->T) (h:α->T) {pick:List (Option Nat)}{it:Ev->Option (List T)}{g:T->Ev->Option Ev}{c:Ev->Option Bool}{f:Ae}{ρ:Ev}(xs:List α) (hi:it ρ=↑(xs.map enc)) (hl:xs.length<=16777216)
  (hh:∀ x∈xs,qU pick g c f ρ (enc x)=↑↑(h x)):xJ pick it g c f ρ=↑(.lst (xs.map h)):=by
 unfold xJ;rw[hi,BO,if_pos (by rw[AA];show hl),KP enc h _ xs hh];rfl
def oE {α:Type}(enc:α->T) (h:α->Option T) {pick:List (Option Nat)}{it:Ev->Option (List T)}{g:T->Ev->Option Ev}{c:Ev->Option Bool}{f:Ae}{ρ:Ev}(xs:List α) (hi:it ρ=↑(xs.map enc)) (hl:xs.length<=16777216)
  (hh:∀ x∈xs,qU pick g c f ρ (enc x)=↑(h x)):xJ pick it g c f ρ=↑(.lst (xs.filterMap h)):=by
 unfold xJ;rw[hi,BO,if_pos (by rw[AA];show hl),eK enc h _ xs hh];rfl
section
variable {α:Type}{is:List Nat}{g:T->Ev->Option Ev}{b:Sm}
def turn (g:T->Ev->Option Ev) (b:Sm) (y:T) (ρ:Ev):Option Out:=(g y ρ).bind b
theorem jb (y:T) (ys:List T) (ρ:Ev):xu is g b (y::ys) ρ=(turn g b y (yz is ρ)).bind λ o=>match o with
  | .nx ρ2=>xu is g b ys ρ2
  | .ct ρ2=>xu is g b ys ρ2
  | .bk ρ2=>↑(.nx (yz is ρ2))
  | .rt t=>↑(.rt t):=by
 unfold turn;rw[xu];cases g y (yz is ρ) <;> rfl
theorem aV (enc:α->T) (I:List α->Ev->Prop):∀ (xs:List α) (pre:List α) (ρ:Ev),I pre (yz is ρ)->
  (∀ p x q,pre++xs=p++x::q->∀ ρ,I p ρ->∃ ρ',turn g b (enc x) ρ=↑(.nx ρ')/\I (p++[x]) (yz is ρ'))->∃ ρ',xu is g b (xs.map enc) ρ=↑(.nx ρ')/\I (pre++xs) ρ'
 | [],pre,ρ,h,_=>#[yz is ρ,by rw[Bu,xu],by exists h]
 | x::xs,pre,ρ,h,hs=>by
  let#[ρ',h1,h2]:=hs pre x xs rfl _ h;rw[Aw,jb,h1];have ih:=aV enc I xs (pre++[x]) ρ' h2 λ p y q e=>hs p y q (by rw[<- e];simp);exists ih
def v5 (enc:α->T) (I:List α->Ev->Prop) (xs:List α) (ρ:Ev) (h:I [] (yz is ρ))
  (hs:∀ p x q,xs=p++x::q->∀ ρ,I p ρ->∃ ρ',turn g b (enc x) ρ=↑(.nx ρ')/\I (p++[x]) (yz is ρ')):∃ ρ',xu is g b (xs.map enc) ρ=↑(.nx ρ')/\I xs ρ':=aV enc I xs [] ρ h hs
end
theorem uR (n:Nat) (h:n<=100000):xW [.int (n:Int)]=↑((List.range n).map λ(k:Nat)=>T.int (0+(k:Int))):=by
 change (if inR (n:Int)=true then ↑(rangeT 0 (n:Int).toNat) else none)=_;rw[if_pos (ZA.mpr #[⋯,⋯])];rfl
def qG (a:Key) (b:T) (Ab:List (Key×T)) (j:Key):yV ((a,b)::Ab) j=if a=j then ↑b else yV Ab j:=by
 by_cases h:a=j <;> simp[yV,h]
theorem cC (k j:Key) (d:T):∀ Ab:List (Key×T),yV (Ab.map λ kv=>if kv.1=k then (kv.1,d) else kv) j=(yV Ab j).map λ x=>if j=k then d else x
 | []=>rfl
 | (a,b)::Ab=>by
  have ih:=cC k j d Ab;rw[Aw];by_cases hk:a=k
  .rw[if_pos hk,qG,qG,ih];by_cases hj:a=j
   .subst hj;subst hk;simp
   .rw[if_neg hj,if_neg hj]
  .rw[if_neg hk,qG,qG,ih];by_cases hj:a=j
   .subst hj;simp[hk]
   .rw[if_neg hj,if_neg hj]
theorem cB (k j:Key) (d:T):∀ Ab:List (Key×T),(∀ kv∈Ab,¬ kv.1=k)->yV (Ab++[(k,d)]) j=if j=k then ↑d else yV Ab j
 | [],_=>by
  change yV [(k,d)] j=_;rw[qG];by_cases h:j=k
  .subst h;simp
  .rw[if_neg h,if_neg (λ z=>h z.symm)]
 | (a,b)::Ab,hn=>by
  have ih:=cB k j d Ab λ kv EF=>hn kv (Ay _ EF);have ha:¬ a=k:=hn (a,b) Ar;change yV ((a,b)::(Ab++[(k,d)])) j=_;rw[qG,qG,ih];by_cases hj:a=j
  .subst hj;simp[ha]
  .rw[if_neg hj,if_neg hj]
def Xn (Ab:List (Key×T)) (k:Key):(Ab.any λ kv=>decide (kv.1=k))=(yV Ab k).isSome:=by
 unfold yV;rw[Option.isSome_map,Be,A8,List.find?_isSome]
def km (Ab:List (Key×T)) (k j:Key) (d:T):yV (vz Ab k d) j=if j=k then ↑d else yV Ab j:=by
 unfold vz;split
 .rename_i h;rw[Xn] at h;rw[cC];by_cases hj:j=k
  .subst hj;let#[x,hx]:=C_.mp h;simp[hx]
  .simp[hj]
 .rename_i h;show cB k j d Ab λ kv EF z=>h (A8.mpr #[kv,EF,za2 z])
def Zd (Ab:List (Key×T)) (k:Key) (d:T):(vz Ab k d).length=if (yV Ab k).isSome=true then Ab.length else Ab.length+1:=by
 have e:=Xn Ab k;unfold vz;rw[e];split <;> simp
def vY (p:Int×Int):List Int:=[p.1,p.2]
def sP (ps:List (Int×Int)):List (Int×Int):=(L4.xI (ps.map vY)).map λ r=>(r.getD 0 0,r.getD 1 0)
def cY (ps:List (Int×Int)):(sP ps).map vY=L4.xI (ps.map vY):=by
 unfold sP;rw[A2]
 conv=>rhs;rw[<- List.map_id (L4.xI (ps.map vY))]
 exact DC λ r hr=>?_;let#[p,_,rfl]:=Aq.mp ((L4.tL _).mem_iff.mp hr);rfl
def gp (ps:List (Int×Int)):(sP ps).Perm ps:=by
 have h:=L4.tL (ps.map vY);have:(sP ps).Perm ((ps.map vY).map λ r=>(r.getD 0 0,r.getD 1 0)):=h.map _
 rwa [A2,show ((λ r:List Int=>(r.getD 0 0,r.getD 1 0)) ∘ vY)=id from rfl,List.map_id] at this
def oA (p q:Int×Int):Prop:=p.1<q.1\/(p.1=q.1/\p.2<=q.2)
def cX (ps:List (Int×Int)):(sP ps).Pairwise oA:=by
 have h:=L4.kE (ps.map vY);rw[<- cY,C5] at h;exact h.imp λ{p q} CG=>?_;unfold vY at CG;rw[HT.r_,HT.r_] at CG;unfold oA;by_cases e:q.1=p.1
 .rw[if_pos e] at CG;by_cases e2:q.2=p.2
  .lia
  .rw[if_neg e2] at CG;have:=of_decide_eq_false CG;lia
 .rw[if_neg e] at CG;have:=of_decide_eq_false CG;lia
def UH (ps:List (Int×Int)):vF (ps.map zj)=↑(ps.map vY):=by
 have:=gC (ps.map vY)
 rwa [A2,show z_ ∘ vY=zj from rfl] at this
def wB (q p:Int×Int):Bool:=decide (p.1<=q.1)&&decide (p.2<=q.2)
def zF (ps:List (Int×Int)) (q:Int×Int):Bool:=ps.any (wB q)
def yC {ps:List (Int×Int)}{q:Int×Int}:zF ps q=true↔∃ p∈ps,p.1<=q.1/\p.2<=q.2:=by
 unfold zF wB;simp[A8]
def KH {ps qs:List (Int×Int)}(h:ps.Perm qs) (q:Int×Int):zF ps q=zF qs q:=by
 rw[Be,yC,yC];show#[λ#[p,h1,h2]=>#[p,h.mem_iff.mp h1,h2],λ#[p,h1,h2]=>#[p,h.mem_iff.mpr h1,h2]]
def KJ (ps qs:List (Int×Int)) (q:Int×Int):zF (ps++qs) q=(zF ps q||zF qs q):=by
 unfold zF;rw[List.any_append]
def vP (ps:List (Int×Int)):Prop:=ps.Pairwise λ p q=>p.1<q.1/\q.2<p.2
theorem vP.eq:∀ {ps qs:List (Int×Int)},vP ps->vP qs->(∀ q,zF ps q=zF qs q)->ps=qs
 | [],[],_,_,_=>rfl
 | [],q::qs,_,_,h=>by
  have:=h q;rw[show zF [] q=false from rfl] at this;have h2:zF (q::qs) q=true:=yC.mpr #[q,Ar,A3 _,A3 _];rw[h2] at this;cases this
 | p::ps,[],_,_,h=>by
  have:=h p;rw[show zF [] p=false from rfl] at this;have h2:zF (p::ps) p=true:=yC.mpr #[p,Ar,A3 _,A3 _];rw[h2] at this;cases this
 | p::ps,q::qs,hp,hq,h=>by
  have hp1:=Bs.mp hp;have hq1:=Bs.mp hq;have a1:∃ r∈q::qs,r.1<=p.1/\r.2<=p.2:=yC.mp (by rw[<- h];show yC.mpr #[p,Ar,A3 _,A3 _]);have a2:∃ r∈p::ps,r.1<=q.1/\r.2<=q.2:=yC.mp (by rw[h];show yC.mpr #[q,Ar,A3 _,A3 _]);let#[r,hr,r1,r2]:=a1;let#[u,hu,u1,u2]:=a2;have qr:q.1<=r.1:=by
   rcases Am.mp hr with e | e
   .subst e;show A3 _
   .show Int.le_of_lt (hq1.1 r e).1
  have pu:p.1<=u.1:=by
   rcases Am.mp hu with e | e
   .subst e;show A3 _
   .show Int.le_of_lt (hp1.1 u e).1
  have e1:p.1=q.1:=⋯;have er:r=q:=by
   rcases Am.mp hr with e | e
   .show e
   .have:=(hq1.1 r e).1;lia
  have eu:u=p:=by
   rcases Am.mp hu with e | e
   .show e
   .have:=(hp1.1 u e).1;lia
  subst er eu;have e2:u.2=r.2:=⋯;have epq:u=r:=Prod.ext e1 e2;subst epq;rw[vP.eq hp1.2 hq1.2 λ x=>?_];have hx:=h x;unfold zF at hx ⊢;rw[Bx,Bx] at hx;cases g:wB x u with
  | false=>rw[g] at hx;exists hx
  | true=>
   have gx:u.1<=x.1/\u.2<=x.2:=by simpa [wB] using g
   have key:∀ {l:List (Int×Int)},(∀ v∈l,u.1<v.1/\v.2<u.2)->l.any (wB x)=l.any (wB (x.1,u.2-1)):=by
    intro l hl;rw[Be,A8,A8];constructor
    .rintro⟨v,hv,hg⟩;have:=hl v hv;have hg':v.1<=x.1/\v.2<=x.2:=by simpa [wB] using hg
     show#[v,hv,by simp[wB];lia]
    .rintro⟨v,hv,hg⟩;have:=hl v hv;have hg':v.1<=x.1/\v.2<=u.2-1:=by simpa [wB] using hg
     show#[v,hv,by simp[wB];lia]
   rw[key hp1.1,key hq1.1];have hy:=h (x.1,u.2-1);unfold zF at hy;rw[Bx,Bx] at hy;have gn:wB (x.1,u.2-1) u=false:=by
    unfold wB;rw[show decide (u.2<=(x.1,u.2-1).2)=false from za3 (by change ¬ u.2<=u.2-1;lia),CO]
   rw[gn] at hy;exists hy
def sf (l:Option Int) (x:Int):Bool:=match l with
 | none=>true
 | some m=>decide (x<m)
def yK:List (Int×Int)->Option Int->List (Int×Int)
 | [],_=>[]
 | p::ps,l=>if sf l p.2=true then p::yK ps ↑p.2 else yK ps l
def v7 (ps:List (Int×Int)):List (Int×Int):=yK (sP ps) none
theorem mH:∀ (ps:List (Int×Int)) (l:Option Int) (q:Int×Int),q∈yK ps l->q∈ps/\∀ m,l=↑m->q.2<m
 | [],l,q,h=>by simp[yK] at h
 | p::ps,l,q,h=>by
  unfold yK at h;split at h
  .rename_i c;have hm:∀ m,l=↑m->p.2<m:=λ m e=>by subst e;simpa [sf] using c
   rcases Am.mp h with e | e
   .subst e;show#[Ar,hm]
   .let#[h1,h2]:=mH ps _ q e;show#[Ay _ h1,λ m e=>by have:=h2 _ rfl;have:=hm m e;lia]
  .let#[h1,h2]:=mH ps _ q h;show#[Ay _ h1,h2]
theorem fN:∀ (ps:List (Int×Int)) (l:Option Int),ps.Pairwise oA->vP (yK ps l)
 | [],l,_=>by simp[yK,vP]
 | p::ps,l,h=>by
  have h1:=Bs.mp h;unfold yK;split
  .exact Bs.mpr #[λ q hq=>?_,fN ps _ h1.2];let#[g1,g2]:=mH ps _ q hq;have:=h1.1 q g1;have:=g2 _ rfl;unfold oA at *;lia
  .show fN ps _ h1.2
theorem fO:∀ (ps:List (Int×Int)) (l:Option Int),ps.Pairwise oA->∀ p∈ps,(∃ q∈yK ps l,q.1<=p.1/\q.2<=p.2)\/∃ m,l=↑m/\m<=p.2
 | [],l,_,p,hp=>by cases hp
 | r::ps,l,h,p,hp=>by
  have h1:=Bs.mp h;unfold yK;split
  .rename_i c;rcases Am.mp hp with e | e
   .subst e;show .inl #[p,Ar,A3 _,A3 _]
   .rcases fO ps ↑r.2 h1.2 p e with ⟨q,q1,q2⟩ | ⟨m,e1,e2⟩
    .show .inl #[q,Ay _ q1,q2]
    .cases e1;have:=h1.1 p e;unfold oA at this;show .inl #[r,Ar,⋯,e2]
  .rename_i c;rcases Am.mp hp with e | e
   .subst e;cases l with
    | none=>simp[sf] at c
    | some m=>show .inr #[m,rfl,by simpa [sf] using c]
   .show fO ps l h1.2 p e
def fC (ps:List (Int×Int)):vP (v7 ps):=fN _ _ (cX ps)
def M0 {ps:List (Int×Int)}{q:Int×Int}(h:q∈v7 ps):q∈ps:=(gp ps).mem_iff.mp (mH _ _ q h).1
theorem o8 (ps:List (Int×Int)) (q:Int×Int):zF (v7 ps) q=zF ps q:=by
 rw[<- KH (gp ps) q,Be,yC,yC];constructor
 .rintro⟨p,h1,h2⟩;show#[p,(mH _ _ p h1).1,h2]
 .rintro⟨p,h1,h2⟩;rcases fO (sP ps) none (cX ps) p h1 with ⟨r,r1,r2⟩ | ⟨m,e,_⟩
  .show#[r,r1,⋯,⋯]
  .cases e
end L5
namespace L2
open PySem PySem.Spec PyProof.Rows
section
variable {X:Cx}
def bM (K:Ac):R2:=λ x y H Q=>∃ l b xs zs,x=.ref l/\y=.ref b/\zT K H l xs/\zT K H b zs/\xs.length+zs.length<=sizeLine/\∀ p,H p=none->Q (.ref p) (upd H p (.lst (xs++zs)))
theorem Pb:yp X (binaryOp .Add) (bM X.K):=by
 intro EY s B H x y v u Q I rx ry h;let#[l,b,xs,zs,rfl,rfl,hH,hB,hz,q]:=h;cases rx;cases ry;let#[Aa,r,p1,_]:=I.list hH;let#[FL,r2,p2,_]:=I.list hB;let#[#[cls,dd,data,sl],ho,hc,n,hd]:=p1.isList;let#[#[cls2,HI,data2,HF],Hj,GS,n2,hd2]:=p2.isList;simp only at hc hd GS hd2;subst hc hd GS hd2;have e:Aa.toArray++FL.toArray=(Aa++FL).toArray:=#[];exact concat_meets #[_,ho,rfl] #[_,Hj,rfl] noFill_list_add seq_list_add PySem.F.slot_list_add PySem.F.entry_list_add (PySem.F.args_list_add_2 _ _) (list_addW l b Aa.toArray FL.toArray n n2 dd HI sl HF (by rw[AB,AB,<- r.length,<- r2.length];show hz)) #[ho,Hj,?_];rw[e];show#[.ref _,_,I.Mr (t':=s.toks) (r.append r2) (by rw[BI];lia),rfl,q _ I.fresh]
def bK (K:Ac):R2:=λ x y H Q=>∃ a b ys,x=.ref a/\y=.ref b/\zX K H a []/\zX K H b ys/\Q (.ref b) H
theorem Q_:yp X (binaryOp .Add) (bK X.K):=by
 intro EY s B H x y v u Q I rx ry h;let#[l,b,ys,rfl,rfl,hH,hB,q]:=h;cases rx;cases ry;let#[Aa,r,p1,_]:=I.tuple hH;let#[FL,r2,p2,_]:=I.tuple hB;let#[#[cls,dd,data,sl],ho,hc,n,hd]:=id p1;let#[#[cls2,HI,data2,HF],Hj,GS,n2,hd2]:=id p2;simp only at hc hd GS hd2;subst hc hd GS hd2;show concat_meets #[_,ho,rfl] #[_,Hj,rfl] noFill_tuple_add seq_tuple_add PySem.F.slot_tuple_add PySem.F.entry_tuple_add (PySem.F.args_tuple_add_2 _ _)
   (tuple_addW0 l b Aa.toArray FL.toArray n n2 dd HI sl HF (by cases r;rfl)) #[ho,Hj,#[.ref b,H,I,rfl,q]]
end
end L2
namespace L5
open PySem PySem.Spec L2 L3
open PyProof.Rows hiding St
section
variable {X:Cx}{K:Ac}{a b c e:Expr}{es:List Expr}{ta tb tc te:zv}{tA:yk}{pos p:Pos}
def uI.mo:xT uI:=λ x y S Q Q' hq h=>by
 cases x with
 | int i=>cases y <;> first | show hq _ _ h | show h
 | str i=>cases y <;> first | show#[h.1,hq _ _ h.2] | show h
 | tup i=>cases y <;> first | show#[h.1,hq _ _ h.2] | show h
 | xV ds=>
  unfold uI at h ⊢;dsimp only at h ⊢;split at h
  .show#[h.1,h.2.1,λ r hr=>hq _ _ (h.2.2 r hr)]
  .show h.elim
 | ref q=>
  unfold uI at h ⊢;dsimp only at h ⊢;split at h
  .show#[h.1,h.2.1,λ r hr=>hq _ _ (h.2.2 r hr)]
  .show h.elim
 | _=>show h
def rQ {H:Hp}{S:SS}{d:D}{v:V}{ds:List D}(r:zf K H d v) (p:zQ K H S) (e:zS d S=↑ds) (n:∀ ts,d≠.tup ts):∃ a xs,v=.ref a/\zT K H a xs/\zm K H ds xs:=by
 unfold zS at e;split at e
 .show absurd rfl (n _)
 .cases e;simp![zf] at r;let#[a,xs,h1,h2,h3]:=r;show#[a,xs,h1,h2.sq,h3]
 .split at e
  .rename_i q;cases e;simp![zf] at r;subst r;let#[xs,h1,h2]:=p _ _ q;show#[_,xs,rfl,zT.of h1,h2]
  .cases e
 .cases e
abbrev bO (K:Ac):R2:=λ x y H Q=>vy (λ i j=>.int (i+j)) x y H Q\/((∃ i j,x=.str i/\y=.str j/\i.length+j.length<=sizeLine/\Q (.str (i++j)) H)\/(bM K x y H Q\/(bK K x y H Q\/bL K x y H Q)))
def uI.fits:x9 K uI (bO K):=λ x y d e H S Q h1 h2 h3 h=>by
 have lst:(∀ ts,d≠.tup ts)->(match zS d S,zS e S with
  | some ds,↑es=>(∀ ts,e≠.tup ts)/\ds.length+es.length<=sizeLine/\∀ r,S r=none->wj K H Q (.ref r) (ups S r (.lst (ds++es)))
  | _,_=>False)->bO K x y H Q:=λ n h=>by
  split at h
  .rename_i ds es q1 q2;let#[a,xs,rfl,g1,g2]:=rQ h1 h3 q1 n;let#[b,ys,rfl,g3,g4]:=rQ h2 h3 q2 h.1;exact .inr (.inr (.inl #[a,b,xs,ys,rfl,rfl,g1,g3,by rw[<- g2.length,<- g4.length];show h.2.1,λ p hp=>?_]));show h.2.2 p (h3.none hp) _ _ (by simp![zf]) (.new hp _) (h3.ups (.new hp _) #[_,yx,zm.ext (.new hp _) _ (g2.append g4)])
  .show h.elim
 cases d with
 | int i=>
  cases e with
  | int j=>
   simp![zf] at h1 h2;show .inl #[_,_,h1,h2,h _ H (by simp![zf]) (.refl H) h3]
  | _=>show h.elim
 | str i=>
  cases e with
  | str j=>
   simp![zf] at h1 h2;show .inr (.inl #[_,_,h1,h2,h.1,h.2 _ H (by simp![zf]) (.refl H) h3])
  | _=>show h.elim
 | tup ds=>
  cases e with
  | tup es=>
   have h1':=h1;have h2':=h2;simp![zf] at h1 h2;let#[a,xs,rfl,g1,g2]:=h1;let#[b,ys,rfl,g3,g4]:=h2;have hl:=g2.length;have G3:=g4.length;by_cases hx:xs=[]
   .subst hx;have:ds=[]:=by cases ds <;> simp_all
    subst this;show .inr (.inr (.inr (.inl #[a,b,ys,rfl,rfl,g1,g3,h.2 _ H h2' (.refl H) h3])))
   .exact .inr (.inr (.inr (.inr #[a,b,xs,ys,rfl,rfl,g1,g3,hx,by rw[<- hl,<- G3];show h.1,λ hy=>?_,λ hy p hp=>?_])))
    .subst hy;have:es=[]:=by cases es <;> simp_all
     subst this;exact h.2 _ H ?_ (.refl H) h3;rw[Cs];show h1'
    .exact h.2 _ _ ?_ (.new hp _) (h3.new hp);simp![zf];show#[p,_,rfl,zX.of yx,zm.ext (.new hp _) _ (g2.append g4)]
  | _=>show h.elim
 | xV ds=>show lst (λ _=>nofun) h
 | ref q=>show lst (λ _=>nofun) h
 | _=>show h.elim
def QG (ha:PD X a ta) (hb:PD X b tb):PD X (.BinOp a .Add b pos) (yu uI ta tb):=rV (Pd.or (Pc.or (Pb.or (Q_.or Pa)))) uI.fits uI.mo ha hb
def uh.mo {g:List Bool->Bool}:vO (uh g):=λ ds S Q Q' hq h=>by
 unfold uh at h ⊢;split at h
 .show h.elim
 .let#[bs,h1,h2]:=h;show#[bs,h1,hq _ _ h2]
 .show h.elim
def uh.fits {g:List Bool->Bool}:uP K (uh g) (λ xs H Q=>∃ p,∃ bs:List Bool,xs=[.ref p]/\zT K H p (bs.map V.bl)/\Q (.bl (g bs)) H):=λ xs ds H S Q h0 h2 h=>by
 unfold uh at h;split at h
 .show h.elim
 .rename_i d hn;let#[x,hx,h1]:=h0.one;subst hx;let#[bs,e,h]:=h;let#[a,ys,rfl,g1,g2]:=rQ h1 h2 e (λ ts z=>hn ts z);rw[g2.bools] at g1;show#[a,bs,rfl,g1,h _ H (by simp![zf]) (.refl H) h2]
 .show h.elim
def QF (hm:X.mg "all"=none) (ha:xh X (e::es) tA) (hc:X.calm=true) (hg:Gl X "all") (he:AJ X e es) (Ao:AN X pos es):PD X (.Call (.Name "all" p) (e::es) [] pos) (xC (uh λ bs=>bs.all id) tA):=
 uU (uT (Jz hc) hg hm boot_all ha.pa () () he Ao) uh.mo uh.fits ha.mo
def QD (hm:X.mg "any"=none) (ha:xh X (e::es) tA) (hc:X.calm=true) (hg:Gl X "any") (he:AJ X e es) (Ao:AN X pos es):PD X (.Call (.Name "any" p) (e::es) [] pos) (xC (uh λ bs=>bs.any id) tA):=
 uU (uT (Jy hc) hg hm boot_any ha.pa () () he Ao) uh.mo uh.fits ha.mo
def Zr {H:Hp}{d:D}{v:V}(r:zf K H d v):decide (v=.zp)=oI d:=by
 cases d with
 | tup _=>simp![zf] at r;let#[a,xs,rfl,_]:=r;rfl
 | xV _=>simp![zf] at r;let#[a,xs,rfl,_]:=r;rfl
 | err _ _ _=>simp![zf] at r;let#[a,_,_,_,rfl,_]:=r;rfl
 | _=>simp![zf] at r;subst r;rfl
theorem RW (ha:PD X a ta):PD X (.UnaryOp .USub a pos) (Yv ta):=by
 exact#[fun δ S Q Q' hq h=>ha.mo δ S _ _ (λ x S1 z=>by
  cases x <;> first
   | show hq _ _ z
   | show z) h,PE.imp (Sg V0 ha.pe) fun B H Q hu=>?_]
 let#[δ,S,r1,r2,h]:=hu;exact zN.go ha.mo r1 r2 h λ x S1 v H1 h1 q1 e1 p1=>?_;cases x with
 | int i=>simp![zf] at q1;show#[i,q1,h1 _ H1 (by simp![zf]) e1 p1]
 | _=>show h1.elim
section
variable {N':List Str}{pick:List (Option Nat)}{scope:Scope}{tg elt iter:Expr}{ifs:List Expr}{ti:wF}{g:xl}{G0:yF}
def tf.mo (hi:iy ti):yq (tf pick ti g G0 te):=fun δ S Q Q' hq z=>hi δ S _ _ (λ I S1 #[h1,h2,h3]=>#[h1,h2,λ p hp=>by
 let#[W,w0,w1,w2,w3]:=h3 p hp;show#[W,w0,w1,w2,λ S2 acc a b c=>hq _ _ (w3 S2 acc a b c)]]) z
theorem cF (hi:iy ti) (hg:lJ g) (hc:vq G0) (he:yq te) {B:St}{H:Hp}{Q:VK}(hu:zN K (tf pick ti g G0 te) B H Q):hX pick (vd K ti) (nC K g) (wK K G0) (zN K te) B H Q:=by
 let#[δ,S,r1,r2,z]:=hu;exact#[δ,S,r1,r2,hi δ S _ _ (λ I S1 hF J H1 e1 p1 rep D hD=>?_) z];let#[hlen,hk,hF]:=hF;have hS1:S1 D=none:=p1.none hD;let#[W,w0,wm,wstep,wfin]:=hF D hS1;exact#[λ i m B H2=>m=I.items.length-i/\i<=I.items.length/\Ext H1 H2/\yL K H2 (u5 pick δ) B/\∃ S2 acc,zQ K H2 S2/\Sx S1 S2/\S2 D=↑(.lst acc)/\acc.length<=i/\W i S2 acc,#[_,rfl,AW _,.new hD _,((r1.ext e1).pick pick).ext (.new hD _),ups S1 D (.lst []),[],?_,.new hS1 _,tF,Aj _,?_],?_]
 .show p1.ups (.new hD _) #[[],yx,.nil]
 .show wm 0 S1 _ [] (λ b o hb q=>by rw[sM hb];show q) w0
 rintro i m B2 H2 ⟨rfl,Hh,x2,q1,S2,acc,q2,sx,hS2,AZ,hW⟩;let#[g1,g2]:=rep i H2 S2 x2 q2 (hk S2 sx);by_cases hl:i<I.items.length
 .have hd:I.items[i]?=↑I.items[i]:=by simp[hl]
  let#[go,yl]:=g1 _ hd;exact .inr #[go,λ x H3 hy=>?_];let#[x3,p3,d3]:=yl x H3 hy;exact#[_,_,S2,d3,q1.ext x3,p3,hg _ _ S2 _ _ (fun δ4 S4 z4 B4 H4 a1 a2 a3=>?_) (wstep i _ S2 acc hd sx hS2 hW)];let#[hle,z4]:=z4;exact wK.go hc a1 a3 z4 λ b S5 H5 z5 x5 p5=>v8 (λ z5=>?_) (λ z5=>?_) z5
  .exact zN.go he (a1.ext x5) p5 z5 λ y S6 v H6 z6 q6 x6 p6=>?_;let#[s6,hW6]:=z6;let#[ys,h6,r6]:=p6 _ _ (s6 _ _ hS2);have e6:Ext H6 (upd H6 D (.lst (ys++[v]))):=.lst h6 _;have hlen2:ys.length<=i:=by rw[<- r6.length];show AZ
   exact#[ys,I.items.length-(i+1),h6,⋯,⋯,rfl,hl,((((x2.trans x3).trans a2).trans x5).trans x6).trans e6,hle.rep ((a1.ext (x5.trans x6)).ext e6),ups S6 D (.lst (acc++[y])),acc++[y],?_,λ b o hb=>?_,tF,by simp;lia,?_]
   .show p6.ups e6 #[_,yx,zm.ext e6 _ (r6.snoc q6)]
   .rw[sM (by intro q;subst q;rw[hS1] at hb;cases hb)];show s6 _ _ (sx _ _ hb)
   .show wm _ S6 _ _ (λ b o hb q=>by rw[sM hb];show q) hW6
  .let#[s5,hW5]:=z5;show#[I.items.length-(i+1),⋯,rfl,hl,((x2.trans x3).trans a2).trans x5,hle.rep (a1.ext x5),S5,acc,p5,sx.trans s5,s5 _ _ hS2,⋯,hW5]
 .have e:i=I.items.length:=⋯;subst e;show .inl #[g2 (Aj _),wfin S2 acc sx hS2 hW _ H2 (by simp![zf]) (e1.trans x2) q2]
def Qh (Sc:rL X N' pick scope) (hc:X.calm=true) (hi:tw X tg iter ti) (hg:∀ cl C s H fp,vM (y4 X N' scope cl C s H fp) tg g) (hf:∀ cl C s H fp,nh (y4 X N' scope cl C s H fp) ifs G0) (he:∀ cl C s H fp,PD (y4 X N' scope cl C s H fp) elt te)
  (hs:∀ x,foldedSetIterable iter X.env x=pure x):
  PD X (.ListComp elt [#[tg,iter,ifs,0]] scope pos) (tf pick ti g G0 te):=
 #[tf.mo hi.mo,λ EY s B H Q I hu=>Sy (g:=nC X.K g) (tc:=wK X.K G0) (te:=zN X.K te) Sc hc hi.pi (λ cl C s H fp=>(hg cl C s H fp).pg) (λ cl C s H fp=>(hf cl C s H fp).pf) (λ cl C s H fp=>(he cl C s H fp).pe) hs EY s B H Q I (cF hi.mo (hg [] 0 s H []).mo (hf [] 0 s H []).mo (he [] 0 s H []).mo hu)]
def Rr {i:Nat}{y:Str}{py Bh:Pos}(Sc:rL X N' pick scope) (hc:X.calm=true) (hi:tw X tg iter ti) (hg:∀ cl C s H fp,vM (y4 X N' scope cl C s H fp) tg g) (hf:∀ cl C s H fp,nh (y4 X N' scope cl C s H fp) ifs G0) (he:∀ cl C s H fp,PD (y4 X N' scope cl C s H fp) elt te)
  (hN:X.N.Nodup) (hy:X.N[i]?=↑y) (hx:Loc X.env.scope y)
  (Ce:swapsWith (.ListComp elt [#[tg,iter,ifs,0]] scope pos) ↑(.Name y py) Bh.line X.env=pure true)
  (Co:X.fn y=true\/X.env.scope.names.lookup y=↑.local)
  (hs:∀ x,foldedSetIterable iter X.env x=pure x):
  wy X (.Assign [.Name y py] (.ListComp elt [#[tg,iter,ifs,0]] scope pos) Bh) (wX (tf pick ti g G0 te) (hName i)):=by
 exact#[wX.mo (tf.mo hi.mo) λ _ _ _ _ _ hq z=>hq _ _ z,λ EY s B H D I hu=>Tn (g:=nC X.K g) (tc:=wK X.K G0) (te:=zN X.K te) Sc hc hi.pi (λ cl C s H fp=>(hg cl C s H fp).pg) (λ cl C s H fp=>(hf cl C s H fp).pf) (λ cl C s H fp=>(he cl C s H fp).pe) hN hy hx Ce Co hs EY s B H D I ?_];let#[δ,S,r1,r2,z]:=hu;exact cF hi.mo (hg [] 0 s H []).mo (hf [] 0 s H []).mo (he [] 0 s H []).mo #[δ,S,r1,r2,tf.mo hi.mo δ S _ _ (λ x S1 z v H1 q1 e1 p1=>?_) z];show z _ H1 ((r1.ext e1).set i q1) e1 p1
end
end
section
variable {P:Program}{w:World}{K:Ac}{mg:AF}{base:Heap}{f:Addr}{fd:FuncData}
def ZQ {R:Rk} [Lo R] {x:Str}{st:Stmt}{N ps:List Str}{k n:Nat}{g:Sm}(F:vR K x x st f fd) (Sc:vt N ps (zE st)) (hn:n=ps.length)
  (E9:∀ (Af:Value) (A:Around) (outer:List Env) (s:Shared) (H:Hp) (E:XK),yb k (A.deeper (envOfC x (zE st) s.heap.objs.size f Af))->
   ∃ t,xS (yT y7 P w K mg base N x (zE st) f Af A outer s H E).xa (yQ st) t/\ym R g t):w_ P w K mg base y7 (k+1) f fd ps (vE K (zJ R (zR N n g))):=
 jo F Sc (λ ds S Q h=>by rw[h.len,hn]) λ Af A outer s H E hr=>by
  let#[t,h1,h2]:=E9 Af A outer s H E hr;show#[t,h1,λ ds S Q h=>JA h2 h]
def Kf {R:Rk} [Lo R] {x:Str}{st:Stmt}{N ps:List Str}{k n:Nat}{g:Sm}(F:vR K x x st f fd) (hm:mg x=↑(.ref f)) (Sc:vt N ps (zE st)) (hn:n=ps.length)
  (hb:∀ (kV doc pm:Value) (an:Option Addr) (Af ct:Value) (us:Ah),us.length=ps.length->bindArgs (PySem.W.fnOf x x (vo st) (yQ st) (zE st) .none kV doc pm an Af ct) #[us,[]]=pure (ps.zip us))
  (E9:∀ (Af:Value) (A:Around) (outer:List Env) (s:Shared) (H:Hp) (E:XK),yb k (A.deeper (envOfC x (zE st) s.heap.objs.size f Af))->
   ∃ t,xS (yT y7 P w K mg base N x (zE st) f Af A outer s H E).xa (yQ st) t/\ym R g t):FD P w K mg base x (k+1) ps (zJ R (zR N n g)):=
 #[#[f,fd,ZQ F Sc hn E9,hm,F.kp,F.binds hb],zJ.mo]
def MB {R:Rk} [Sr R] {F:Al}(hF:∀ ns:List Int,ns.length<=63->F [.lst (ns.map T.int)]=↑(.bl true)) {H:Hp}{a:Addr}{ns:List Int}{E:XK}(hO:ip H) (hS:zT K H a (ns.map V.int)) (hl:ns.length<=63):vE K (zJ R F) [.ref a] H (λ v _=>v=.bl true) E:=by
 have hFz:ng K H a (ns.map V.int):=by
  rcases hS with (h | h) | h
  .rcases hO a with z | ⟨o,xs,z⟩
   .rw[h] at z;cases z
   .rw[h] at z;cases z
  .show .inl h
  .show .inr h
 exact#[[.xV (ns.map D.int)],λ _=>none,.cons ?_ .nil,(λ a o z=>nomatch z),λ _=>False,[.lst (ns.map T.int)],.bl true,nofun,.cons ?_ .nil,hF ns hl,λ d S' s r v H' rv _ _=>?_]
 .simp![zf];show#[a,_,rfl,hFz,zm.gY ns]
 .simp![Sn];show#[_,.inl #[rfl,Pe ns],sQ.mpr rfl]
 .have:=Sr.sn r;simp![Sn] at this;subst this;simpa only [zf] using rv
end
end L5
namespace ST
open PySem PySem.SetTable
def tu (xs:List Nat):Prop:=xs.Pairwise (· < ·)
def fV {xs:Array Nat}{m d:Nat}(h:m<xs.size):xs.getD m d=xs[m]:=by simp[Array.getD,h]
theorem eU (xs:Array Nat) (j:Nat) (hr:tu xs.toList):∀ (f lo hi:Nat),hi-lo<=f->lo<=hi->hi<=xs.size->(∀ i (h:i<xs.size),i<lo->xs[i]<j)->(∀ i (h:i<xs.size),hi<=i->j<=xs[i])->
  below.go xs j f lo hi<=xs.size/\(∀ i (h:i<xs.size),i<below.go xs j f lo hi->xs[i]<j)/\∀ i (h:i<xs.size),below.go xs j f lo hi<=i->j<=xs[i]
 | 0,lo,hi,h1,h2,h3,h4,h5=>by
  unfold below.go;have:lo=hi:=⋯;subst this;show#[h3,h4,h5]
 | f+1,lo,hi,h1,h2,h3,h4,h5=>by
  unfold below.go;have vf:∀ i k (hi:i<xs.size) (hk:k<xs.size),i<=k->xs[i]<=xs[k]:=λ i k hi hk DT=>by
   rcases Bj i k with q | q
   .have r:=C4.mp hr i k (by exists hi) (by exists hk) q;rw[Cy,Cy] at r;show Bv r
   .have:i=k:=⋯;subst this;show Aj _
  by_cases hl:lo<hi
  .rw[if_pos hl];dsimp only;have hm:(lo+hi)/2<xs.size:=⋯;rw[fV hm];by_cases c:xs[(lo+hi)/2]<j
   .rw[if_pos c];exact eU xs j hr f _ hi ⋯ ⋯ h3 (λ i Hh Au=>?_) h5;have:=vf i ((lo+hi)/2) Hh hm ⋯;lia
   .rw[if_neg c];exact eU xs j hr f lo _ ⋯ ⋯ ⋯ h4 (λ i Hh hge=>?_);have:=vf ((lo+hi)/2) i hm Hh hge;lia
  .rw[if_neg hl];have:lo=hi:=⋯;subst this;show#[h3,h4,h5]
def jR {xs:Array Nat}{j:Nat}(hr:tu xs.toList):below xs j<=xs.size/\(∀ i (h:i<xs.size),i<below xs j->xs[i]<j)/\∀ i (h:i<xs.size),below xs j<=i->j<=xs[i]:=
 eU xs j hr xs.size 0 xs.size ⋯ ⋯ (Aj _) (λ i h q=>⋯) (λ i h q=>⋯)
theorem below_at {xs:Array Nat}{j i:Nat}(hr:tu xs.toList) (h:xs[i]?=↑j):below xs j=i:=by
 let#[h1,h2,h3]:=jR (j:=j) hr;let#[hi,e]:=Array.getElem?_eq_some_iff.mp h;have a:¬ i<below xs j:=λ q=>by have:=h2 i hi q;lia
 have b:¬ below xs j<i:=λ q=>by
  have:=h3 (below xs j) ⋯ (Aj _);have r:=C4.mp hr (below xs j) i (by simp;lia) (by exists hi) q;simp at r;lia
 lia
def JE {xs:Array Nat}{j:Nat}(hr:tu xs.toList):(xs[below xs j]?=↑j)↔j∈xs.toList:=by
 constructor
 .intro h;let#[hi,e]:=Array.getElem?_eq_some_iff.mp h;rw[<- e];simp
 .intro h;let#[i,hi,e]:=Ca.mp h;have hx:xs[i]?=↑j:=by
   simp at hi;simp[hi] at e ⊢;show e
  rw[below_at hr hx];show hx
def uM (M:Nat) (p:Probe):Probe:=
 if p.more>0 then { p with j:=p.j+1,more:=p.more-1 } else
 let (i,perturb):=leap M p.i p.perturb
 { p with j:=i,more:=runEnd M i-i,i,perturb }
def dm (t:SetTable) (p:Probe):t.advance p=uM t.mask p:=rfl
def oj (M i perturb:Nat):Probe:={ j:=i,more:=runEnd M i-i,i:=i,perturb:=perturb,dummy:=none }
def way (M:Nat) (h:Int):Nat->Probe
 | 0=>oj M (bits h%(M+1)) (bits h)
 | k+1=>uM M (way M h k)
def JS (M:Nat) (p:Probe) (h:p.dummy=none):(uM M p).dummy=none:=by
 unfold uM;split
 .show h
 .show h
theorem iT (M:Nat) (h:Int):∀ k,(way M h k).dummy=none
 | 0=>rfl
 | k+1=>JS M _ (iT M h k)
def yd (M:Nat) (h:Int):Nat->Nat×Nat
 | 0=>(bits h%(M+1),bits h)
 | n+1=>leap M (yd M h n).1 (yd M h n).2
theorem gz (M i pt:Nat) (h:Int) (k:Nat) (hk:way M h k=oj M i pt):∀ m,m<=runEnd M i-i->way M h (k+m)={ j:=i+m,more:=runEnd M i-i-m,i:=i,perturb:=pt,dummy:=none }
 | 0,_=>by rw[Nat.add_zero,hk];rfl
 | m+1,hm=>by
  have ih:=gz M i pt h k hk m ⋯;change uM M (way M h (k+m))=_;rw[ih];unfold uM;rw[if_pos (by change runEnd M i-i-m>0;lia)];simp![Probe.mk.injEq];show#[⋯,⋯,trivial,trivial,trivial]
def UG (M i:Nat):runEnd M i-i<=9:=by unfold runEnd;split <;> lia
theorem bu (M:Nat) (h:Int) (n k:Nat) (hk:way M h k=oj M (yd M h n).1 (yd M h n).2):way M h (k+(runEnd M (yd M h n).1-(yd M h n).1)+1)=oj M (yd M h (n+1)).1 (yd M h (n+1)).2:=by
 have:=gz M _ _ h k hk _ (Aj _);change uM M (way M h (k+_))=_;rw[this];unfold uM;rw[if_neg (by change ¬ _-_-(_-_)>0;lia)];rfl
theorem bw (M:Nat) (h:Int):∀ n,∃ k,k<=10*n/\way M h k=oj M (yd M h n).1 (yd M h n).2
 | 0=>#[0,⋯,rfl]
 | n+1=>by
  let#[k,h1,h2]:=bw M h n;have:=UG M (yd M h n).1;show#[_,⋯,bu M h n k h2]
def JC (h:Int):bits h<2 ^ 64:=by
 unfold bits;have h1:=Bz h (show (2 ^ 64:Int)≠0 by decide);have h2:=BM h (show (0:Int)<2 ^ 64 by decide);lia
theorem bX (M:Nat) (h:Int):∀ n,(yd M h n).2*32 ^ n<=bits h
 | 0=>by simp[yd]
 | n+1=>by
  have ih:=bX M h n;change ((yd M h n).2/32)*32 ^ (n+1)<=_;have:(yd M h n).2/32*32<=(yd M h n).2:=Nat.div_mul_le_self _ _
  calc (yd M h n).2/32*32 ^ (n+1)=((yd M h n).2/32*32)*32 ^ n:=by rw[Nat.pow_succ,DB (32 ^ n) 32,Nat.mul_assoc]
   _<=(yd M h n).2*32 ^ n:=Nat.mul_le_mul_right _ this
   _<=_:=ih
theorem Sb (M:Nat) (h:Int) (n:Nat) (hn:13<=n):(yd M h n).2=0:=by
 rcases DA (yd M h n).2 with q | q
 .show q
 .have h1:=bX M h n;have h2:=JC h;have h3:32 ^ 13<=32 ^ n:=Nat.pow_le_pow_right () hn;have h4:1*32 ^ n<=(yd M h n).2*32 ^ n:=Nat.mul_le_mul_right _ q;have h5:(2:Nat) ^ 64<32 ^ 13:=()
  lia
def sV (M:Nat) (i:Nat):Nat->Nat
 | 0=>i
 | n+1=>(sV M i n*5+1)%(M+1)
theorem Zg (M:Nat) (h:Int):∀ n,(yd M h (13+n)).1=sV M (yd M h 13).1 n
 | 0=>rfl
 | n+1=>by
  have ih:=Zg M h n;have hz:=Sb M h (13+n) ⋯;change ((yd M h (13+n)).1*5+1+(yd M h (13+n)).2/32)%(M+1)=_;rw[hz,ih];rfl
theorem nZ (M i:Nat):∀ a b,sV M i (a+b)=sV M (sV M i a) b
 | a,0=>rfl
 | a,b+1=>by
  change (sV M i (a+b)*5+1)%(M+1)=_;rw[nZ M i a b];rfl
def nY (M:Nat):Nat->Nat->List Nat
 | 0,_=>[]
 | n+1,i=>i::nY M n ((i*5+1)%(M+1))
theorem gU (M:Nat):∀ n i x,x∈nY M n i->∃ k,k<n/\sV M i k=x
 | 0,i,x,h=>by cases h
 | n+1,i,x,h=>by
  rcases Am.mp h with e | e
  .show#[0,⋯,e.symm]
  .let#[k,h1,h2]:=gU M n _ x e;show#[k+1,⋯,by rw[Nat.add_comm,nZ];show h2]
def vN (M:Nat):Prop:=M=7\/M=31\/M=127
theorem QJ (M:Nat) (hM:vN M):(∀ e,e<=M->e∈nY M (M+1) 0)/\sV M 0 (M+1)=0:=by
 have key:∀ M,((List.range (M+1)).all λ e=>(nY M (M+1) 0).contains e)=true->∀ e,e<=M->e∈nY M (M+1) 0:=λ M h e he=>by
  have:=BA.mp h e (AG.mpr ⋯);exists this
 rcases hM with rfl | rfl | rfl
 .show#[key 7 (AL),AL]
 .show#[key 31 (AL),AL]
 .show#[key 127 (AL),AL]
theorem QI (M:Nat) (hM:vN M) (i e:Nat) (hi:i<=M) (he:e<=M):∃ n,n<=M/\sV M i n=e:=by
 let#[h1,h2]:=QJ M hM;let#[a,a1,a2]:=gU M _ _ _ (h1 i hi);let#[b,b1,b2]:=gU M _ _ _ (h1 e he);rcases Bj b a with q | q
 .exact#[M+1+b-a,⋯,?_];rw[<- a2,<- nZ,show a+(M+1+b-a)=(M+1)+b by lia,nZ,h2,b2]
 .exact#[b-a,⋯,?_];rw[<- a2,<- nZ,show a+(b-a)=b by lia,b2]
theorem M1 (M:Nat) (h:Int):∀ n,(yd M h n).1<=M
 | 0=>by have:=C3 (bits h) (show 0<M+1 by lia);change bits h%(M+1)<=M;lia
 | n+1=>by
  have:=C3 ((yd M h n).1*5+1+(yd M h n).2/32) (show 0<M+1 by lia);change (_%(M+1):Nat)<=M;lia
theorem Zh (M:Nat) (hM:vN M) (h:Int) (e:Nat) (he:e<=M):∃ n,n<M+14/\(yd M h n).1=e:=by
 let#[n,h1,h2]:=QI M hM (yd M h 13).1 e (M1 M h 13) he;show#[13+n,⋯,by rw[Zg,h2]]
theorem Vr (M:Nat) (hM:vN M) (h:Int) (e:Nat) (he:e<=M):∃ k,k<10*(M+15)/\(way M h k).j=e:=by
 let#[n,h1,h2]:=Zh M hM h e he;let#[k,k1,k2]:=bw M h n;show#[k,⋯,by rw[k2];show h2]
theorem c6 (M:Nat) (h:Int):∀ k,(way M h k).j+(way M h k).more<=M/\(way M h k).i<=M
 | 0=>by
  have h1:bits h%(M+1)<=M:=by have:=C3 (bits h) (show 0<M+1 by lia);lia
  exact#[?_,h1];change bits h%(M+1)+(runEnd M (bits h%(M+1))-bits h%(M+1))<=M;unfold runEnd;split <;> lia
 | k+1=>by
  let#[h1,h2]:=c6 M h k;change (uM M (way M h k)).j+(uM M (way M h k)).more<=M/\(uM M (way M h k)).i<=M;unfold uM;split
  .rename_i c;show#[by change (way M h k).j+1+((way M h k).more-1)<=M;lia,h2]
  .have h3:((way M h k).i*5+1+(way M h k).perturb/32)%(M+1)<=M:=by have:=C3 ((way M h k).i*5+1+(way M h k).perturb/32) (show 0<M+1 by lia);lia
   exact#[?_,h3];change _%(M+1)+(runEnd M (_%(M+1))-_%(M+1))<=M;unfold runEnd;split <;> lia
def iR (M:Nat) (h:Int) (k:Nat):(way M h k).j<=M:=by have:=(c6 M h k).1;lia
structure Tab (t:SetTable) (hs:List Int):Prop where
 mask:vN t.mask
 qg:t.dummies=[].toArray
 len:t.place.size=hs.length
 vf:tu t.place.toList
 top:∀ j∈t.place.toList,j<=t.mask
 nP:∀ (i:Nat) h j,hs[i]?=↑h->t.place[i]?=↑j->∃ k,(way t.mask h k).j=j/\∀ k'<k,(way t.mask h k').j∈t.place.toList
theorem Tab.live {t:SetTable}{hs:List Int}(T:Tab t hs) {i j:Nat}(h:t.place[i]?=↑j):t.slot j=.live i:=by
 unfold SetTable.slot;dsimp only;rw[below_at T.vf h,if_pos (by rw[h];simp)]
theorem Tab.empty {t:SetTable}{hs:List Int}(T:Tab t hs) {j:Nat}(h:j∉t.place.toList):t.slot j=.empty:=by
 unfold SetTable.slot;dsimp only;have n1:¬ (t.place[below t.place j]? == ↑j)=true:=λ q=>h ((JE T.vf).mp (by exists q));rw[if_neg n1,if_neg (by rw[T.qg];simp[has])]
theorem Tab.at {t:SetTable}{hs:List Int}(T:Tab t hs) {j:Nat}(h:j∈t.place.toList):∃ (i:Nat) (g:Int),t.place[i]?=↑j/\hs[i]?=↑g:=by
 let#[i,hi,e]:=Ca.mp h;have Hh:i<t.place.size:=by exists hi
 exact#[i,hs[i]'(by rw[<- T.len];show Hh),?_,#[]];rw[Bo Hh];rw[Cy] at e;rw[e]
theorem ZI {t:SetTable}{hs:List Int}(T:Tab t hs) {hashAt:Nat->Int}(hA:∀ (i:Nat) g,hs[i]?=↑g->hashAt i=g) (h:Int):∀ (f k:Nat),(∃ e,k<=e/\e<k+f/\(way t.mask h e).j∉t.place.toList)->
  ∃ k1,k<=k1/\(∀ m,k<=m->m<k1->∃ (i:Nat) (g:Int),t.place[i]?=↑(way t.mask h m).j/\hs[i]?=↑g/\g≠h)/\
   ((way t.mask h k1).j∉t.place.toList/\probe.go t hashAt h f (way t.mask h k)=↑(.empty (way t.mask h k1).j none)\/
    ∃ i,t.place[i]?=↑(way t.mask h k1).j/\hs[i]?=↑h/\probe.go t hashAt h f (way t.mask h k)=↑(.candidate (way t.mask h k1).j i (way t.mask h (k1+1))))
 | 0,k,#[e,h1,h2,_]=>⋯
 | f+1,k,#[e,h1,h2,h3]=>by
  by_cases hm:(way t.mask h k).j∈t.place.toList
  .let#[i,g,p1,p2]:=T.at hm;by_cases hg:g=h
   .exact#[k,Aj _,λ m a b=>⋯,.inr #[i,p1,by rw[<- hg];show p2,?_]];unfold probe.go;rw[T.live p1];dsimp only;rw[hA i g p2,if_pos (by simp[hg]),dm];rfl
   .have Av:e≠k:=λ q=>by subst q;show h3 hm
    let#[k1,q1,q2,q3]:=ZI T hA h f (k+1) #[e,⋯,⋯,h3];have eq:probe.go t hashAt h (f+1) (way t.mask h k)=probe.go t hashAt h f (way t.mask h (k+1)):=by
     conv=>lhs;unfold probe.go
     rw[T.live p1];dsimp only;rw[hA i g p2,if_neg (by simp[hg]),dm];rfl
    rw[eq];exact#[k1,⋯,λ m a b=>?_,q3];rcases Nat.eq_or_lt_of_le a with w | w
    .subst w;show#[i,g,p1,p2,hg]
    .show q2 m w b
  .exact#[k,Aj _,λ m a b=>⋯,.inl #[hm,?_]];unfold probe.go;rw[T.empty hm,iT]
def aE {xs ys:List Nat}(hx:xs.Nodup) (h:∀ x∈xs,x∈ys):xs.length<=ys.length:=by
 induction xs generalizing ys with
 | nil=>simp
 | cons x xs ih=>
  have h1:=Bk.mp hx;have hxy:=h x Ar;have:=ih h1.2 (ys:=ys.erase x) λ z hz=>by
   have Av:z≠x:=λ e=>h1.1 (e▸hz);show (List.mem_erase_of_ne Av).mpr (h z (Ay _ hz))
  rw[List.length_erase_of_mem hxy] at this;have hp:=List.length_pos_of_mem hxy;simp![A4];lia
theorem least {P:Nat->Prop}(k:Nat) (h:P k):∃ m,m<=k/\P m/\∀ m'<m,¬ P m':=by
 induction k using Nat.strongRecOn with
 | ind k ih=>
  rcases Classical.em (∃ m',m'<k/\P m') with ⟨m',h1,h2⟩ | q
  .let#[m,g1,g2]:=ih m' h1 h2;show#[m,⋯,g2]
  .show#[k,Aj _,h,λ m' hm hp=>q #[m',hm,hp]]
theorem LQ {xs:List Nat}{M:Nat}(h:xs.length<=M):∃ e,e<=M/\e∉xs:=by
 rcases Classical.em (∃ e,e<=M/\e∉xs) with q | q
 .show q
 .have:=aE (xs:=List.range (M+1)) (ys:=xs) D6 λ e he=>by
   have:=AG.mp he;rcases Classical.em (e∈xs) with w | w
   .show w
   .show absurd #[e,⋯,w] q
  simp at this;lia
def dB (t:SetTable) (h:Int) (j:Nat):Prop:=j∉t.place.toList/\∃ k,(way t.mask h k).j=j/\∀ k'<k,(way t.mask h k').j∈t.place.toList
theorem Tab.first {t:SetTable}{hs:List Int}(T:Tab t hs) (hl:hs.length<=t.mask) (h:Int):∃ K,K<10*(t.mask+15)/\(way t.mask h K).j∉t.place.toList/\∀ k'<K,(way t.mask h k').j∈t.place.toList:=by
 let#[e,e1,e2]:=LQ (xs:=t.place.toList) (M:=t.mask) (by rw[Bw,T.len];show hl);let#[k,k1,k2]:=Vr t.mask T.mask h e e1;let#[K,q1,q2,q3]:=least (P:=λ n=>(way t.mask h n).j∉t.place.toList) k (by rw[k2];show e2);show#[K,⋯,q2,λ k' hk=>Classical.not_not.mp (q3 k' hk)]
def UJ {xs:List Nat}{j p:Nat}(h:tu xs) (h1:∀ x∈xs.take p,x<j) (h2:∀ x∈xs.drop p,j<x):tu (xs.take p++j::xs.drop p):=by
 exact DI.mpr #[h.sublist (List.take_sublist _ _),Bs.mpr #[h2,h.sublist (List.drop_sublist _ _)],λ a ha b hb=>?_];rcases Am.mp hb with e | e
 .subst e;show h1 a ha
 .have:=h1 a ha;have:=h2 b e;lia
theorem oJ {α:Type}{xs:List α}{p i:Nat}{x y:α}(hp:p<=xs.length) (h:(xs.take p++x::xs.drop p)[i]?=↑y):(i=p/\y=x)\/(i<p/\xs[i]?=↑y)\/(p<i/\xs[i-1]?=↑y):=by
 have hl:(xs.take p).length=p:=by rw[C9];lia
 rcases Dz i p with q | q | q
 .rw[Cb ⋯,List.getElem?_take,if_pos q] at h;show .inr (.inl #[q,h])
 .subst q;rw[Cc ⋯,hl] at h;simp at h;show .inl #[rfl,h.symm]
 .rw[Cc ⋯,hl] at h;obtain⟨d,hd⟩:∃ d,i-p=d+1:=#[i-p-1,⋯];rw[hd] at h;simp![Dy,List.getElem?_drop] at h;exact .inr (.inr #[q,?_]);rw[show i-1=p+d by lia];show h
theorem Tab.put {t:SetTable}{hs:List Int}(T:Tab t hs) {h:Int}{j:Nat}(F:dB t h j):
  (t.put j).2<=hs.length/\(t.put j).1={ t with place:=insertAt t.place (t.put j).2 j }/\Tab (t.put j).1 (hs.take (t.put j).2++h::hs.drop (t.put j).2):=by
 let#[b1,b2,b3]:=jR (xs:=t.place) (j:=j) T.vf;let#[fn,K,k1,k2]:=F;have e2:(t.put j).2=below t.place j:=rfl;have e1:(t.put j).1={ t with place:=insertAt t.place (t.put j).2 j }:=by
  change ({ t with place:=insertAt t.place (below t.place j) j,dummies:=_ }:SetTable)=_;rw[if_neg (by rw[T.qg];simp[has]),e2]
 have pl:(insertAt t.place (below t.place j) j).toList=t.place.toList.take (below t.place j)++j::t.place.toList.drop (below t.place j):=toList_insertAt _ _ _;have old:∀ x∈t.place.toList,x∈(insertAt t.place (below t.place j) j).toList:=λ x hx=>by
  rw[pl];have:=D5 (below t.place j) t.place.toList;rw[<- this] at hx;rcases A5.mp hx with q | q
  .show Ct _ q
  .show A_ _ (Ay _ q)
 rw[e2] at e1 ⊢;exact#[by rw[<- T.len];show b1,e1,?_];rw[e1];exact#[T.mask,T.qg,?_,?_,?_,?_]
 .change (insertAt t.place (below t.place j) j).size=_;rw[<- Bw,pl];simp[T.len]
 .change tu (insertAt t.place (below t.place j) j).toList;rw[pl];exact UJ T.vf (λ x hx=>?_) (λ x hx=>?_)
  .let#[i,hi,e]:=Ca.mp hx;rw[C9] at hi;rw[List.getElem_take,Cy] at e;rw[<- e];show b2 i (by simp at hi;lia) ⋯
  .let#[i,hi,e]:=Ca.mp hx;rw[Ea] at hi;rw[List.getElem_drop,Cy] at e;have h3:=b3 (below t.place j+i) (by simp at hi;lia) ⋯;have hm:x∈t.place.toList:=List.mem_of_mem_drop hx;have Av:x≠j:=λ q=>fn (q▸hm);lia
 .intro x hx;change x<=t.mask;have hx:x∈(insertAt t.place (below t.place j) j).toList:=hx;rw[pl] at hx;rcases A5.mp hx with q | q
  .show T.top x (List.mem_of_mem_take q)
  .rcases Am.mp q with e | e
   .subst e;rw[<- k1];show iR _ _ _
   .show T.top x (List.mem_of_mem_drop e)
 .intro i g x hg hx;change ∃ k,(way t.mask g k).j=x/\∀ k'<k,(way t.mask g k').j∈(insertAt t.place (below t.place j) j).toList;have hx:(insertAt t.place (below t.place j) j)[i]?=↑x:=hx;rw[<- BJ,pl] at hx;have Ao:below t.place j<=t.place.toList.length:=by exists b1
  have Es:below t.place j<=hs.length:=by rw[<- T.len];show b1
  rcases oJ Ao hx with ⟨c1,c2⟩ | ⟨c1,c2⟩ | ⟨c1,c2⟩ <;> rcases oJ Es hg with ⟨d1,d2⟩ | ⟨d1,d2⟩ | ⟨d1,d2⟩ <;> first
   | lia
   | (subst c2 d2;show#[K,k1,λ k' hk=>old _ (k2 k' hk)])
   | (let#[k,g1,g2]:=T.nP _ g x d2 (by rw[<- BJ];show c2)
      show#[k,g1,λ k' hk=>old _ (g2 k' hk)])
def qy (owner:Array (Option Nat)) (j:Nat):Prop:=∃ k,owner[j]?=↑↑k
theorem LY {P:Nat->Bool}{n k:Nat}(h:(List.range n).find? P=↑k):k<n/\P k=true/\∀ k'<k,P k'=false:=by
 let#[h1,as,bs,h2,h3]:=List.find?_eq_some_iff_append.mp h;have hlen:as.length=k:=by
  have e:(List.range n)[as.length]?=↑k:=by rw[h2];simp
  have:=(AO.mp e)
  let#[q1,q2]:=this;rw[D7] at q2;show q2
 have hk:k<n:=by
  have:k∈List.range n:=by rw[h2];simp
  show AG.mp this
 exact#[hk,h1,λ k' Gx=>?_];have:k'∈as:=by
  have e:(List.range n)[k']?=↑k':=Dx ⋯;rw[h2,Cb ⋯] at e;show A9 e
 have:=h3 k' this;exists this
def getD_none {owner:Array (Option Nat)}{j:Nat}(h:((owner.getD j ↑0).isNone)=true):owner[j]?=↑none:=by
 unfold Array.getD at h;split at h
 .rename_i hj;have e:owner[j]=none:=by exists h
  rw[Bo hj,e]
 .simp at h
def ZL {owner:Array (Option Nat)}{j:Nat}(hj:j<owner.size) (h:((owner.getD j ↑0).isNone)=false):qy owner j:=by
 unfold Array.getD at h;rw[dif_pos hj] at h;cases q:owner[j] with
 | none=>simp[q] at h
 | some k=>show#[k,by rw[Bo hj,q]]
theorem ZN (M:Nat) (owner:Array (Option Nat)) (hsz:owner.size=M+1) (h:Int):∀ (fuel n kn:Nat),way M h kn=oj M (yd M h n).1 (yd M h n).2->(∀ q<kn,qy owner (way M h q).j)->
  (∃ n',n<=n'/\n'<n+fuel/\owner[(yd M h n').1]?=↑none)->
  ∃ j q,layClean.free M owner fuel (yd M h n).1 (yd M h n).2=↑j/\(way M h q).j=j/\owner[j]?=↑none/\∀ q'<q,qy owner (way M h q').j
 | 0,n,kn,_,_,#[n',h1,h2,_]=>⋯
 | fuel+1,n,kn,hk,ho,#[n',h1,h2,h3]=>by
  have hre:runEnd M (yd M h n).1+1-(yd M h n).1=runEnd M (yd M h n).1-(yd M h n).1+1:=by unfold runEnd;split <;> lia
  have G9:∀ m,m<=runEnd M (yd M h n).1-(yd M h n).1->(way M h (kn+m)).j=(yd M h n).1+m:=λ m hm=>by rw[gz M _ _ h kn hk m hm]
  unfold layClean.free;cases hf:(List.range (runEnd M (yd M h n).1+1-(yd M h n).1)).find? (λ k=>(owner.getD ((yd M h n).1+k) ↑0).isNone) with
  | some k=>
   let#[f1,f2,f3]:=LY hf;exact#[_,kn+k,rfl,G9 k ⋯,getD_none f2,λ q' hq=>?_];rcases Bj q' kn with w | w
   .show ho q' w
   .have e:(way M h q').j=(yd M h n).1+(q'-kn):=by
     have:=G9 (q'-kn) ⋯
     rwa [show kn+(q'-kn)=q' by lia] at this
    have hle:=iR M h q';rw[e] at hle ⊢;show ZL ⋯ (f3 (q'-kn) ⋯)
  | none=>
   have f3:=List.find?_eq_none.mp hf;have occ:∀ m,m<=runEnd M (yd M h n).1-(yd M h n).1->qy owner ((yd M h n).1+m):=λ m hm=>by
    have hle:=iR M h (kn+m);rw[G9 m hm] at hle;show ZL ⋯ (Bool.eq_false_iff.mpr (f3 m (AG.mpr ⋯)))
   have Av:n'≠n:=λ e=>by
    subst e;let#[k,Gx]:=occ 0 (AW _);rw[Nat.add_zero] at Gx;rw[Gx] at h3;cases h3
   dsimp only;let#[j,q,r1,r2]:=ZN M owner hsz h fuel (n+1) _ (bu M h n kn hk) (λ q hq=>by
    rcases Bj q kn with w | w
    .show ho q w
    .have e:=G9 (q-kn) ⋯;rw[show kn+(q-kn)=q by lia] at e;rw[e];show occ _ ⋯) #[n',⋯,⋯,h3]
   show#[j,q,r1,r2]
structure Lay (M:Nat) (hs:List Int) (owner:Array (Option Nat)) (m:Nat):Prop where
 size:owner.size=M+1
 below:∀ (j k:Nat),owner[j]?=↑↑k->k<m
 each:∀ (k:Nat),k<m->∃ (j:Nat),owner[j]?=↑↑k
 once:∀ (i j k:Nat),owner[i]?=↑↑k->owner[j]?=↑↑k->i=j
 nP:∀ (j k:Nat) h,owner[j]?=↑↑k->hs[k]?=↑h->∃ q,(way M h q).j=j/\∀ q'<q,qy owner (way M h q').j
theorem Lay.none {M:Nat}(hM:vN M) {hs:List Int}{owner:Array (Option Nat)}{m:Nat}(L:Lay M hs owner m) (hm:m<=M):∃ (e:Nat),e<=M/\owner[e]?=↑Option.none:=by
 rcases Classical.em (∃ (e:Nat),e<=M/\owner[e]?=↑Option.none) with q | q
 .show q
 .exfalso;have AM:∀ (e:Nat),e<=M->∃ (k:Nat),owner[e]?=↑↑k:=λ e he=>by
   have Au:e<owner.size:=by rw[L.size];lia
   cases w:owner[e] with
   | none=>show absurd #[e,he,by rw[Bo Au,w]] q
   | some k=>show#[k,by rw[Bo Au,w]]
  have:=aE (xs:=(List.range (M+1)).map λ e=>((owner[e]?).getD Option.none).getD 0) (ys:=List.range m) (by
   exact C5.mpr (List.Pairwise.imp_of_mem ?_ D6);intro a b ha hb Av e;exact Av ?_;let#[k,hk]:=AM a (by have:=AG.mp ha;lia);let#[k',Gx]:=AM b (by have:=AG.mp hb;lia);rw[hk,Gx] at e;simp at e;subst e;show L.once a b k hk Gx) (λ x hx=>by
   let#[e,he,rfl]:=Aq.mp hx;let#[k,hk]:=AM e (by have:=AG.mp he;lia);rw[hk];show AG.mpr (L.below e k hk))
  simp at this;lia
def kF {α:Type}{xs:Array α}{j i:Nat}{a b:α}(h:(xs.setIfInBounds j a)[i]?=↑b):(i=j/\b=a)\/(i≠j/\xs[i]?=↑b):=by
 rw[Dw] at h;by_cases e:j=i
 .subst e;rw[if_pos rfl] at h;split at h
  .cases h;show .inl #[rfl,rfl]
  .cases h
 .rw[if_neg e] at h;show .inr #[λ q=>e q.symm,h]
def Lay.step {M:Nat}(hM:vN M) {hs:List Int}{owner:Array (Option Nat)}{m:Nat}{h:Int}(L:Lay M hs owner m) (hm:m<=M) (hh:hs[m]?=↑h):
  ∃ j,layClean.free M owner (turns M) (bits h%(M+1)) (bits h)=↑j/\Lay M hs (owner.setIfInBounds j ↑m) (m+1):=by
 let#[e,e1,e2]:=L.none hM hm;let#[n',n1,n2]:=Zh M hM h e e1;let#[j,q,r1,r2,r3,r4]:=ZN M owner L.size h (turns M) 0 0 rfl (λ q hq=>⋯) #[n',⋯,by unfold turns;lia,by rw[n2];show e2];have hj:j<owner.size:=(Array.getElem?_eq_some_iff.mp r3).1;have keep:∀ x,qy owner x->qy (owner.setIfInBounds j ↑m) x:=λ x #[k,hk]=>by
  have Av:j≠x:=λ w=>by subst w;rw[r3] at hk;cases hk
  show#[k,by rw[Dw,if_neg Av];show hk]
 have self:(owner.setIfInBounds j ↑m)[j]?=↑↑m:=by rw[Dw,if_pos rfl,if_pos hj]
 exact#[j,r1,#[by simp[L.size],λ x k hx=>?_,λ k hk=>?_,λ x y k hx hy=>?_,λ x k g hx hg=>?_]]
 .rcases kF hx with ⟨_,w⟩ | ⟨_,w⟩
  .cases w;lia
  .have:=L.below x k w;lia
 .rcases Bj k m with w | w
  .let#[x,hx]:=L.each k w;have Av:j≠x:=λ w=>by subst w;rw[r3] at hx;cases hx
   show#[x,by rw[Dw,if_neg Av];show hx]
  .have:k=m:=⋯;subst this;show#[j,self]
 .rcases kF hx with ⟨w1,w⟩ | ⟨w1,w⟩ <;> rcases kF hy with ⟨v1,v⟩ | ⟨v1,v⟩
  .lia
  .cases w;have:=L.below y _ v;lia
  .cases v;have:=L.below x _ w;lia
  .show L.once x y k w v
 .rcases kF hx with ⟨w1,w⟩ | ⟨w1,w⟩
  .cases w;rw[hh] at hg;cases hg;subst w1;show#[q,r2,λ q' hq=>keep _ (r4 q' hq)]
  .let#[q,g1,g2]:=L.nP x k g w hg;show#[q,g1,λ q' hq=>keep _ (g2 q' hq)]
theorem Zj {M:Nat}(hM:vN M) {hs:List Int}(hl:hs.length<=M+1):∀ (E6:List Int) (owner:Array (Option Nat)) (m:Nat),m<=hs.length->hs.drop m=E6->Lay M hs owner m->
  ∃ Hu,E6.foldl (λ acc h=>do
   let (owner,k) <- acc
   let j <- layClean.free M owner (turns M) (bits h%(M+1)) (bits h)
   pure (owner.setIfInBounds j ↑k,k+1)) ↑(owner,m)=↑(Hu,hs.length)/\Lay M hs Hu hs.length
 | [],owner,m,hl2,hd,L=>by
  have hm:hs.length<=m:=List.drop_eq_nil_iff.mp hd;have e:m=hs.length:=⋯;subst e;show#[owner,rfl,L]
 | h::E6,owner,m,hl2,hd,L=>by
  have hm:hs[m]?=↑h:=by
   have:=congrArg (λ l=>l[0]?) hd;exists this
  have Au:m<hs.length:=(AO.mp hm).1;let#[j,j1,j2]:=L.step hM ⋯ hm;have HC:hs.drop (m+1)=E6:=by
   have:=congrArg List.tail hd;exists this
  let#[o',h1,h2]:=Zj hM hl E6 _ (m+1) ⋯ HC j2;exact#[o',?_,h2];rw[Dv,<- h1];change _=_;congr 1;change ((layClean.free M owner (turns M) (bits h%(M+1)) (bits h)).bind λ j=>↑(owner.setIfInBounds j ↑m,m+1))=_;rw[j1];rfl
theorem M6 (M:Nat) (hs:List Int):Lay M hs (Array.replicate (M+1) Option.none) 0:=by
 have no:∀ (j k:Nat),(Array.replicate (M+1) (Option.none:Option Nat))[j]?≠↑↑k:=λ j k h=>by
  rw[Array.getElem?_replicate] at h;split at h <;> cases h
 show#[#[],λ j k h=>absurd h (no j k),λ k hk=>⋯,λ i j k h=>absurd h (no i k),λ j k h e=>absurd e (no j k)]
theorem M7 {M:Nat}(hM:vN M) (hashes:Array Int) (hl:hashes.size<=M+1):∃ owner,layClean M hashes=↑owner/\Lay M hashes.toList owner hashes.size:=by
 let#[o,h1,h2]:=Zj hM (hs:=hashes.toList) (by exists hl) hashes.toList _ 0 (AW _) #[] (M6 M _);exact#[o,?_,by exists h2];unfold layClean;rw[<- Array.foldl_toList,h1];rfl
def lives (M:Nat) (owner:Array (Option Nat)):List (Nat×Nat):=(List.range (M+1)).filterMap λ j=>(owner.getD j Option.none).map (j,·)
theorem getD_some {owner:Array (Option Nat)}{j k:Nat}:owner.getD j Option.none=↑k↔owner[j]?=↑↑k:=by
 unfold Array.getD;split
 .rename_i h;rw[Bo h];simp
 .rename_i h;rw[CN ⋯];simp
theorem qR {M:Nat}{owner:Array (Option Nat)}(hs:owner.size=M+1) {j k:Nat}:(j,k)∈lives M owner↔owner[j]?=↑↑k:=by
 unfold lives;rw[Ed];constructor
 .rintro⟨x,hx,e⟩;let#[y,e1,e2]:=AE.mp e;cases e2;show getD_some.mp e1
 .intro h;have hj:=(Array.getElem?_eq_some_iff.mp h).1;show#[j,AG.mpr ⋯,by rw[getD_some.mpr h];rfl]
def a_ (M:Nat) (owner:Array (Option Nat)):(lives M owner).Pairwise λ a b=>a.1<b.1:=by
 unfold lives;rw[List.pairwise_filterMap];exact List.Pairwise.imp ?_ List.pairwise_lt_range;intro a b BF x hx y hy;let#[_,_,e1]:=AE.mp hx;let#[_,_,e2]:=AE.mp hy;subst e1 e2;show BF
def Zl {M:Nat}(hM:vN M) (finger moves:Nat) (led plain:Bool) (hashes:Array Int) (hl:hashes.size<=M+1):
  ∃ t order,laid M finger moves led plain hashes=↑(t,order)/\t.mask=M/\t.finger=finger/\t.led=led/\t.plain=plain/\order.toList.Perm (List.range hashes.size)/\Tab t (order.toList.map λ k=>hashes.toList.getD k 0):=by
 let#[owner,h1,L]:=M7 hM hashes hl;exact#[_,_,by unfold laid;rw[h1];rfl,rfl,rfl,rfl,rfl,?_,?_]
 .change ((lives M owner).map (·.2)).toArray.toList.Perm _;rw[C2];exact (D4 ?_ D6).mpr λ k=>?_
  .exact C5.mpr (List.Pairwise.imp_of_mem ?_ (a_ M owner));intro a b ha hb BF e;have h2:=(qR L.size (j:=a.1) (k:=a.2)).mp ha;have h3:=(qR L.size (j:=b.1) (k:=b.2)).mp hb;have e:a.2=b.2:=e;rw[e] at h2;have:=L.once _ _ _ h2 h3;lia
  .rw[AG];constructor
   .intro h;let#[#[j,k'],h2,rfl]:=Aq.mp h;show L.below j _ ((qR L.size).mp h2)
   .intro h;let#[j,hj]:=L.each k h;show Aq.mpr #[(j,k),(qR L.size).mpr hj,rfl]
 .have pl:∀ x,x∈(lives M owner).map (·.1)↔qy owner x:=λ x=>by
   constructor
   .intro h;let#[#[j,k],h2,rfl]:=Aq.mp h;show#[k,(qR L.size).mp h2]
   .rintro⟨k,hk⟩;show Aq.mpr #[(x,k),(qR L.size).mpr hk,rfl]
  exact#[hM,rfl,?_,?_,?_,?_]
  .change ((lives M owner).map (·.1)).toArray.size=(((lives M owner).map (·.2)).toArray.toList.map _).length;simp
  .change tu ((lives M owner).map (·.1)).toArray.toList;rw[C2];show C5.mpr (a_ M owner)
  .intro x hx;change x<=M;have hx:x∈((lives M owner).map (·.1)).toArray.toList:=hx;rw[C2] at hx;let#[k,hk]:=(pl x).mp hx;have:=(Array.getElem?_eq_some_iff.mp hk).1;rw[L.size] at this;lia
  .intro i g x hg hx;have hx:((lives M owner).map (·.1)).toArray[i]?=↑x:=hx;have hg:(((lives M owner).map (·.2)).toArray.toList.map λ k=>hashes.toList.getD k 0)[i]?=↑g:=hg;rw[List.getElem?_toArray,AD] at hx;rw[C2,AD,AD] at hg;let#[p,p1,p2]:=AE.mp hx;rw[p1] at hg;simp![Option.map_some,Option.some.injEq] at hg;let#[j,k]:=p;cases p2;have hm:=(qR L.size).mp (A9 p1);have hk:=L.below _ _ hm;let#[q,q1,q2]:=L.nP _ k g hm (by rw[<- hg];simp[hk]);exact#[q,q1,λ q' hq=>?_];change _∈((lives M owner).map (·.1)).toArray.toList;rw[C2];show (pl _).mpr (q2 q' hq)
section
variable {prog:Program}{w:World}{A:Around}{E:Ai}{s:Shared}
abbrev rk (prog:Program) (w:World):HeapKind prog w (List Int):=tupleKind (intKind prog w)
def items_int {ks:List Int}{vs:Ah}(h:ItemsAre (intKind prog w) ks vs):∀ v∈vs,∃ n t,v=.int n t:=by
 induction h with
 | nil=>intro v hv;cases hv
 | cons h1 _ ih=>
  intro v hv;rcases Am.mp hv with rfl | hv
  .let#[t,e]:=Value.isInt_shape h1;show#[_,t,e]
  .show ih v hv
def aH {ks:List Int}{a:Addr}{Q:Bool->Shared->Prop}(hk:IsTupleKey (intKind prog w) s.heap ks a) (h:Q false s):wpAny (model prog w) A (ofAClassStatement 8 (.ref a)) Q E s:=by
 have hT:=hk.typeIs;let#[o,items,n,ho,_,hd,hi]:=hk;unfold ofAClassStatement;exact gV (zaE hT ?_);change wpAny _ _ (pure true >>= _) _ _ s;exact gV (Ad ?_);simp![CS,Bm,if_false];exact gV (zaA ho hd ?_);dsimp only;exact gV ?_;change wpAny _ _ (forIn items _ _) _ _ s;rw[<- Array.forIn_toList];exact wpAny_forIn_list _ (λ E6 r s'=>r.1=none/\s'=s/\∀ v∈E6,∃ n t,v=.int n t) _ ?_ ?_ _ _ #[rfl,rfl,items_int hi]
 .rintro v E6 r s' ⟨hr,rfl,AM⟩;let#[m,t,rfl]:=AM v Ar;change wpAny _ _ (pure false >>= _) _ _ _;exact gV (Ad ?_);simp![Bm,if_false];show Ad #[rfl,rfl,λ u hu=>AM u (Ay _ hu)]
 .rintro⟨r1,r2⟩ s' ⟨hr,rfl,_⟩;simp only at hr;subst hr;show Ad h
def Ln {ks:List Int}{a:Addr}{Q:Bool->Shared->Prop}(hk:IsTupleKey (intKind prog w) s.heap ks a) (h:Q true s):wpAny (model prog w) A (hashByValue 8 (.ref a)) Q E s:=by
 have hT:=hk.typeIs;let#[o,items,n,ho,_,hd,hi]:=hk;unfold hashByValue;exact gV (wpAny_specialOf hT F.slot_tuple_hash.lookup ?_);dsimp only;exact gV (zaA ho hd ?_);exact gV ?_;change wpAny _ _ (forIn items _ _) _ _ s;rw[<- Array.forIn_toList];exact wpAny_forIn_list _ (λ E6 r s'=>r.1=none/\s'=s/\∀ v∈E6,∃ n t,v=.int n t) _ ?_ ?_ _ _ #[rfl,rfl,items_int hi]
 .rintro v E6 r s' ⟨hr,rfl,AM⟩;let#[m,t,rfl]:=AM v Ar;change wpAny _ _ (pure true >>= _) _ _ _;exact gV (Ad ?_);simp![CS,Bm,if_false];show Ad #[rfl,rfl,λ u hu=>AM u (Ay _ hu)]
 .rintro⟨r1,r2⟩ s' ⟨hr,rfl,_⟩;simp only at hr;subst hr;show Ad h
def Vz {ks:List Int}{b:Addr}{Q:Bool->Shared->Prop}(hk:IsTupleKey (intKind prog w) s.heap ks b) (l:Ah) (hl:∀ v∈l,∃ k c,v=.ref c/\IsTupleKey (intKind prog w) s.heap k c) (h:Q false s):
  wpAny (model prog w) A (searchCouldBeSeen (.ref b) l) Q E s:=by
 unfold searchCouldBeSeen;exact gV ?_;exact wpAny_forIn_list _ (λ E6 r s'=>r.1=none/\s'=s/\∀ v∈E6,∃ k c,v=.ref c/\IsTupleKey (intKind prog w) s.heap k c) _ ?_ ?_ _ _ #[rfl,rfl,hl]
 .rintro v E6 r s' ⟨hr,rfl,AM⟩;let#[k,c,rfl,hc]:=AM v Ar;have HQ:∀ u∈E6,∃ k c,u=Value.ref c/\IsTupleKey (intKind prog w) s'.heap k c:=λ u hu=>AM u (Ay _ hu);dsimp only;by_cases e:(b == c||(carriedByValue (.ref b)&&carriedByValue (.ref c)))=true
  .rw[if_pos e];show Ad #[rfl,rfl,HQ]
  .rw[if_neg e];exact gV ((rk prog w).quiet hk ?_);simp![CS,Bm,if_false];exact gV ((rk prog w).quiet hc ?_);simp![CS,Bm,if_false];exact gV (aH hk ?_);simp![Bm,if_false];exact gV (aH hc ?_);simp![Bm,if_false];show Ad #[rfl,rfl,HQ]
 .rintro⟨r1,r2⟩ s' ⟨hr,rfl,_⟩;simp only at hr;subst hr;show Ad h
structure qD (h:Heap) (es:Array (Int×Value)) (t:SetTable) (xs:List (List Int×Addr)):Prop where
 es:es.toList=xs.map λ e=>((rk prog w).hash e.1,Value.ref e.2)
 is:∀ e∈xs,IsTupleKey (intKind prog w) h e.1 e.2
 tab:Tab t (xs.map λ e=>(rk prog w).hash e.1)
 mO:xs.length<=t.mask
theorem qD.fits {h:Heap}{es:Array (Int×Value)}{t:SetTable}{xs:List (List Int×Addr)}(X:qD (prog:=prog) (w:=w) h es t xs):t.fits es.size=true:=by
 have hl:es.size=xs.length:=by have:=congrArg List.length X.es;exists this
 have h1:=X.tab.len;rw[AA] at h1;have h2:=X.mO;unfold SetTable.fits SetTable.fill;rw[X.tab.qg,hl,h1];simp;lia
def qD.at {h:Heap}{es:Array (Int×Value)}{t:SetTable}{xs:List (List Int×Addr)}(X:qD (prog:=prog) (w:=w) h es t xs) {i:Nat}{e:List Int×Addr}(he:xs[i]?=↑e):es[i]?=↑((rk prog w).hash e.1,Value.ref e.2):=by
 rw[<- BJ,X.es,AD,he];rfl
theorem bq {a:Addr}{o:Obj}{es:Array (Int×Value)}{ep:Nat}{t:SetTable}{xs:List (List Int×Addr)}{key:List Int}{b:Addr}{Q:SetFound->Shared->Prop}
  (hu:A.units<cLine) (ho:s.heap.get? a=↑o) (hd:o.data=.set es ep t) (X:qD (prog:=prog) (w:=w) s.heap es t xs) (hb:IsTupleKey (intKind prog w) s.heap key b)
  (h1:key∈xs.map (·.1)->Q (.there none) s) (h2:key∉xs.map (·.1)->∀ j,dB t ((rk prog w).hash key) j->Q (.free j false) s):
  ∀ (fuel k:Nat) (G5:Option Probe),G5.getD (t.probeStart ((rk prog w).hash key))=way t.mask ((rk prog w).hash key) k->(∀ m<k,∃ (i:Nat) (e:List Int×Addr),t.place[i]?=↑(way t.mask ((rk prog w).hash key) m).j/\xs[i]?=↑e/\e.1≠key)->(∃ K,k<=K/\K<k+fuel/\K<10*(t.mask+15)/\(way t.mask ((rk prog w).hash key) K).j∉t.place.toList/\∀ m<K,(way t.mask ((rk prog w).hash key) m).j∈t.place.toList)->
   wpAny (model prog w) A (setSearchFrom a (.ref b) ((rk prog w).hash key) true fuel G5) Q E s
 | 0,k,G5,_,_,#[K,q1,q2,_]=>⋯
 | fuel+1,k,G5,AU,hpast,#[K,q1,q2,q3,q4,q5]=>by
  have T:=X.tab;have Ey:t.gaveWay=false:=by
   unfold SetTable.gaveWay;rcases T.mask with e | e | e <;> rw[e] <;> rfl
  unfold setSearchFrom;exact gV (za9 ho hd X.fits ?_);dsimp only;rw[Ey];simp![Bm,if_false];have hA:∀ (i:Nat) g,(xs.map λ e=>(rk prog w).hash e.1)[i]?=↑g->((es[i]?).map (·.1)).getD 0=g:=λ i g hg=>by
   rw[AD] at hg;let#[e,e1,e2]:=AE.mp hg;rw[X.at e1];show e2
  let#[k1,g1,g2,g3]:=ZI T (hashAt:=λ i=>((es[i]?).map (·.1)).getD 0) hA ((rk prog w).hash key) (10*turns t.mask) k #[K,q1,by unfold turns;lia,q4];rw[AU];have look:∀ (i:Nat) g,(xs.map λ e=>(rk prog w).hash e.1)[i]?=↑g->∃ e,xs[i]?=↑e/\(rk prog w).hash e.1=g:=λ i g hg=>by
   rw[AD] at hg;let#[e,e1,e2]:=AE.mp hg;show#[e,e1,e2]
  have GR:∀ m<k1,∃ (i:Nat) (e:List Int×Addr),t.place[i]?=↑(way t.mask ((rk prog w).hash key) m).j/\xs[i]?=↑e/\e.1≠key:=λ m hm=>by
   rcases Bj m k with c | c
   .show hpast m c
   .let#[i,g,p1,p2,p3]:=g2 m c hm;let#[e,e1,e2]:=look i g p2;show#[i,e,p1,e1,λ q=>p3 (by rw[<- e2,q])]
  rcases g3 with ⟨n1,n2⟩ | ⟨i,n1,n2,n3⟩
  .have n2':t.probe _ ((rk prog w).hash key) (way t.mask ((rk prog w).hash key) k)=_:=n2;simp![SetTable.probe] at n2' ⊢
   erw [n2]
   dsimp only;exact Ad (h2 (λ hm=>?_) _ #[n1,k1,rfl,λ m hm=>?_])
   .let#[e,he,ek]:=Aq.mp hm;let#[i,hi]:=B_.mp he;have hh:(xs.map λ e=>(rk prog w).hash e.1)[i]?=↑((rk prog w).hash key):=by rw[AD,hi,<- ek];rfl
    have hil:i<t.place.size:=by rw[T.len];show (AO.mp hh).1
    let#[kk,w1,w2]:=T.nP i _ _ hh (Bo hil);rcases Dz kk k1 with c | c | c
    .let#[i',e',p1,p2,p3]:=GR kk c;rw[w1] at p1;have:i=i':=by
      rw[<- below_at T.vf (Bo hil),<- below_at T.vf p1]
     subst this;rw[hi] at p2;cases p2;show p3 ek
    .subst c;rw[w1] at n1;show n1 #[]
    .show n1 (w2 k1 c)
   .let#[i',e',p1,_]:=GR m hm;show A9 (by rw[BJ];show p1)
  .simp![SetTable.probe]
   erw [n3]
   dsimp only;let#[e,e1,e2]:=look i _ n2;have DU:=X.at e1;have hey:=X.is e (A9 e1);have main:wpAny (model prog w) A (holding [Value.ref e.2] (eqBool (.ref e.2) (.ref b)) >>= λ equal=>setState a >>= λ x=>match x with
     | (Gg,_,t')=>if (true&&equal)=true then pure (SetFound.there none) else
      match t'.sameMemory t.moves t.mask with
      | some same=>
       have jp:=λ Gs=>match Gs with
        | none=>do
         rule "set.search.anew"
         setSearchFrom a (.ref b) ((rk prog w).hash key) true fuel none
        | some i'=>if equal=true then pure (SetFound.there ↑i') else setSearchFrom a (.ref b) ((rk prog w).hash key) true fuel ↑(way t.mask ((rk prog w).hash key) (k1+1))
       match if same=true then t'.slot (way t.mask ((rk prog w).hash key) k1).j else Slot.empty with
       | .live i'=>match Gg[i']? with
        | some (_,y')=>do
         let r <- isSame y' (.ref e.2)
         let Gs <- pure (if r=true then ↑i' else none)
         jp Gs
        | none=>do
         let Gs <- pure none
         jp Gs
       | _=>do
        let Gs <- pure none
        jp Gs
      | _=>unsupported "set.changed-during-lookup:is-the-new-block-at-the-old-address") Q E s:=by
    exact gV (za6 ((rk prog w).eqBool hu hey hb ?_));exact gV (za9 ho hd X.fits ?_);dsimp only;by_cases hk:e.1=key
    .rw[za2 hk];simp![DD,if_true];show Ad (h1 (Aq.mpr #[e,A9 e1,hk]))
    .rw[za3 hk];simp![CO,Bm,if_false];have sm:t.sameMemory t.moves t.mask=↑true:=by unfold SetTable.sameMemory;simp
     rw[sm];dsimp only;rw[if_pos rfl,T.live n1];dsimp only;rw[DU];dsimp only;exact gV (wpAny_isSame_ref_self ?_);exact gV (Ad ?_);rw[if_pos rfl];dsimp only;have hKk:k1<K:=by
      rcases Dz K k1 with c | c | c
      .let#[i',e',p1,_]:=GR K c;show absurd (A9 (by rw[BJ];show p1)) q4
      .subst c;show absurd (A9 (by rw[BJ];show n1)) q4
      .show c
     exact bq hu ho hd X hb h1 h2 fuel (k1+1) _ rfl (λ m hm=>?_) #[K,⋯,⋯,q3,q4,q5];rcases Bj m k1 with c | c
     .show GR m c
     .have:m=k1:=⋯;subst this;show#[i,e,n1,e1,hk]
   rw[DU];by_cases hl:t.led=true
   .rw[hl];simp![CS,Bm,if_false];show main
   .have G3:t.led=false:=by exists hl
    rw[G3];simp![CT,if_true];exact gV (Vz hb _ (λ v hv=>?_) ?_)
    .let#[p,hp,rfl]:=Aq.mp hv;rw[Array.toList_filter,A7,X.es] at hp;let#[#[e',he',rfl],_]:=(And.intro (Aq.mp hp.1) hp.2)
     show#[e'.1,e'.2,rfl,X.is e' he']
    .simp![Bm,if_false];show main
structure qv (prog:Program) (w:World) (h:Heap) (a:Addr) (xs:List (List Int×Addr)) (led:Bool):Prop where
 ex:∃ es ep t,h.get? a=↑{ cls:=.type "set",dict:=none,data:=.set es ep t }/\qD (prog:=prog) (w:=w) h es t xs/\t.led=led/\t.plain=true/\xs.length*5<t.mask*3
 nd:(xs.map (·.1)).Nodup
def iZ {h h':Heap}{ks:List Int}{b a:Addr}{es:Array (Int×Value)}{ep:Nat}{t:SetTable}{c:Value}{d:Option Addr}{sl:Array (Option Value)}(x:IsTupleKey (intKind prog w) h ks b) (ho:h.get? a=↑{ cls:=c,dict:=d,data:=.set es ep t,slots:=sl }) (hs:Heap.SameBut a h h'):IsTupleKey (intKind prog w) h' ks b:=by
 let#[o',items,n,Gb,hc,HC,hi]:=x;have Av:b≠a:=by
  rintro rfl;obtain rfl:o'=_:=Ba (Gb.symm.trans ho);cases HC
 show#[o',items,n,(hs.2 b Av).trans Gb,hc,HC,hi]
theorem kN {h:Heap}{a:Addr}{es Gg:Array (Int×Value)}{ep:Nat}{t t':SetTable}(ho:h.get? a=↑{ cls:=.type "set",dict:=none,data:=.set es ep t }):(h.update a (Obj.putSet Gg t')).get? a=↑{ cls:=.type "set",dict:=none,data:=.set Gg (ep+1) t' }:=by
 have e:Obj.putSet Gg t' { cls:=.type "set",dict:=none,data:=.set es ep t }={ cls:=.type "set",dict:=none,data:=.set Gg (ep+1) t' }:=putSet_of Gg t' rfl;have:=zaF (Obj.putSet Gg t') ho (by rw[e];rfl);rw[e] at this;show this
theorem gP {α β:Type}(l:List α) (f:α->β) (d:β):∀ (order:List Nat),(∀ k∈order,k<l.length)->order.map (λ k=>(l.map f).getD k d)=(order.filterMap λ k=>l[k]?).map f
 | [],_=>rfl
 | k::order,h=>by
  have hk:=h k Ar;have ih:=gP l f d order λ j hj=>h j (Ay _ hj);rw[Aw,CA,AR hk];dsimp only;rw[Aw,ih];congr 1;simp[hk]
def UM {a:Addr}{es:Array (Int×Value)}{ep:Nat}{t:SetTable}{xs:List (List Int×Addr)}{led:Bool}{wanted M:Nat}{Q:Unit->Shared->Prop}
  (ho:s.heap.get? a=↑{ cls:=.type "set",dict:=none,data:=.set es ep t }) (X:qD (prog:=prog) (w:=w) s.heap es t xs) (BC:t.led=led) (Ao:t.plain=true) (hM:vN M) (hw:sizeAbove wanted=M+1) (AV:xs.length*5<M*3) (CZ:(xs.map (·.1)).Nodup)
  (h:∀ h' Fq,Heap.SameBut a s.heap h'->qv prog w h' a Fq led->Fq.Perm xs->Q Unit.unit { s with heap:=h' }):wpAny (model prog w) A (setRelay a wanted) Q E s:=by
 have hlen:es.size=xs.length:=by have:=congrArg List.length X.es;exists this
 have EL:(es.map (·.1)).toList=xs.map λ e=>(rk prog w).hash e.1:=by rw[Array.toList_map,X.es,A2];rfl
 have hsz:(es.map (·.1)).size=xs.length:=by rw[C7,hlen]
 let#[t',order,h1,h2,h3,h4,h5,h6,h7]:=Zl hM t.finger (t.movedTo M) t.led t.plain (es.map (·.1)) (by rw[hsz];lia);rw[hsz] at h6;have Au:∀ k∈order.toList,k<xs.length:=λ k hk=>by exists h6.mem_iff.mp hk
 unfold setRelay;exact gV (za9 ho rfl X.fits ?_);dsimp only;rw[if_neg (by rw[hw];rcases hM with e | e | e <;> rw[e] <;> decide)];have hr:t.relaid (es.map (·.1)) wanted=↑(t',order):=by
  unfold SetTable.relaid;rw[hw,Nat.add_sub_cancel];show h1
 rw[hr];have BQ:(order.filterMap (es[·]?)).toList=(order.toList.filterMap λ k=>xs[k]?).map λ e=>((rk prog w).hash e.1,Value.ref e.2):=by
  rw[Array.toList_filterMap,List.map_filterMap];congr 1;funext k;rw[<- BJ,X.es,AD]
 have Fe:(order.toList.filterMap λ k=>xs[k]?).Perm xs:=(h6.filterMap _).trans (by rw[List.filterMap_getElem?_range_length]);have BP:(order.filterMap (es[·]?)).size=es.size:=by
  rw[<- Bw,BQ,AA,Fe.length_eq,hlen]
 exact gV (m:=_) ?_;change wpAny _ _ (do
  let ↑(t,order):=↑(t',order) | unsupported "internal:set-table-without-room"
  let Gg:=order.filterMap (es[·]?)
  if Gg.size != es.size then unsupported "internal:set-table-lost-an-element"
  pure (Gg,t)) _ _ _
 dsimp only;rw[if_neg (by rw[BP];simp)];exact Ad ?_;have BB:(order.filterMap (es[·]?)).size<=sizeLine:=by
  rw[BP,hlen];have:sizeLine=16777216:=rfl;rcases hM with e | e | e <;> subst e <;> lia
 exact wpAny_storeSet_of ho rfl ?_ BB;have sb:=Heap.SameBut.update s.heap a (Obj.putSet (order.filterMap (es[·]?)) t');exact h _ _ sb #[#[_,ep+1,t',kN ho,#[BQ,λ e he=>iZ (X.is e (Fe.mem_iff.mp he)) ho sb,?_,?_],by rw[h4];show BC,by rw[h5];show Ao,?_],(Fe.map _).nodup_iff.mpr CZ] Fe
 .rw[<- gP xs (λ e=>(rk prog w).hash e.1) 0 order.toList Au,<- EL];show h7
 .rw[Fe.length_eq,h2];lia
 .rw[Fe.length_eq,h2];show AV
theorem bj (n:Nat) (M:Nat) (hM:vN M) (h1:n*5<M*3) (h2:M*3<=(n+1)*5) (hn:n<70):∃ M',vN M'/\sizeAbove (grown (n+1))=M' + 1/\(n+1)*5<M'*3:=by
 rcases hM with e | e | e <;> subst e
 .have:n=4:=⋯;subst this;show#[31,.inr (.inl rfl),AL,⋯]
 .have:n=18:=⋯;subst this;show#[127,.inr (.inr rfl),AL,⋯]
 .lia
def JX {a:Addr}{xs:List (List Int×Addr)}{key:List Int}{b:Addr}{led:Bool}{Q:Bool->Shared->Prop}(hu:A.units<cLine) (S:qv prog w s.heap a xs led) (hb:IsTupleKey (intKind prog w) s.heap key b) (hn:xs.length<70)
  (h:∀ h' Fq r,Heap.SameBut a s.heap h'->qv prog w h' a Fq led->(key∈xs.map (·.1)/\Fq=xs\/key∉xs.map (·.1)/\Fq.Perm (xs++[(key,b)]))->Q r { s with heap:=h' }):
  wpAny (model prog w) A (setAddHashed a (.ref b) ((rk prog w).hash key)) Q E s:=by
 let#[#[es,ep,t,ho,X,BC,Ao,AV],CZ]:=S;have hlen:es.size=xs.length:=by have:=congrArg List.length X.es;exists this
 unfold setAddHashed setAddHashedIn;exact za6 (gV (za9 ho rfl X.fits ?_));dsimp only;rw[if_neg (by simp[byScan,Value.scannable])];let#[K,k1,k2,k3]:=X.tab.first (by rw[AA];show X.mO) ((rk prog w).hash key);have hmk:t.mask<=127:=by rcases X.tab.mask with e | e | e <;> lia
 exact gV ?_;unfold setSearch;exact bq (key:=key) (b:=b) hu ho rfl X hb (λ hm=>?_) (λ hm j F=>?_) 100000 0 none rfl (λ m hm=>⋯) #[K,⋯,⋯,k1,k2,k3]
 .dsimp only;exact Ad ?_;have:=h s.heap xs false #[rfl,λ _ _=>rfl] #[#[es,ep,t,ho,X,BC,Ao,AV],CZ] (.inl #[hm,rfl]);show this
 .dsimp only;exact gV (za9 ho rfl X.fits ?_);dsimp only;let#[p1,p2,p3]:=X.tab.put F;rw[AA] at p1;have CF:(t.put j).1.plain=true:=by rw[p2];show Ao
  have Cj:(t.put j).1.mask=t.mask:=by rw[p2]
  have Au:(t.put j).1.led=led:=by rw[p2];show BC
  generalize hT:(t.put j)=P at *;let#[t1,p]:=P;dsimp only at *;rw[CF];simp![if_true];exact gV (Ln hb ?_);simp![if_true];let Gp:=xs.take p++(key,b)::xs.drop p
  have Fe:Gp.Perm (xs++[(key,b)]):=by
   have e:xs.take p++xs.drop p=xs:=D5 p xs;have:Gp.Perm ((key,b)::(xs.take p++xs.drop p)):=List.perm_middle;rw[e] at this;show this.trans (List.perm_append_singleton _ _).symm
  have GY:Gp.length=xs.length+1:=by rw[Fe.length_eq];simp
  have Hk:(insertAt es p ((rk prog w).hash key,Value.ref b)).toList=Gp.map λ e=>((rk prog w).hash e.1,Value.ref e.2):=by
   rw[toList_insertAt,X.es];simp[Gp,Du,Dt]
  have Hy:(insertAt es p ((rk prog w).hash key,Value.ref b)).size=xs.length+1:=by rw[<- Bw,Hk,AA,GY]
  have BB:(insertAt es p ((rk prog w).hash key,Value.ref b)).size<=sizeLine:=by
   rw[Hy];have:sizeLine=16777216:=rfl;lia
  exact gV (wpAny_storeSet_of ho rfl ?_ BB);have sb:=Heap.SameBut.update s.heap a (Obj.putSet (insertAt es p ((rk prog w).hash key,Value.ref b)) t1);have ho1:=kN (Gg:=insertAt es p ((rk prog w).hash key,Value.ref b)) (t':=t1) ho;have hm7:7<=t.mask:=by rcases X.tab.mask with e | e | e <;> lia
  have X1:qD (prog:=prog) (w:=w) (s.heap.update a (Obj.putSet (insertAt es p ((rk prog w).hash key,Value.ref b)) t1)) (insertAt es p ((rk prog w).hash key,Value.ref b)) t1 Gp:=by
   exact#[Hk,λ e he=>?_,?_,by rw[GY,Cj];lia]
   .rcases A5.mp (Fe.mem_iff.mp he) with q | q
    .show iZ (X.is e q) ho sb
    .cases AH.mp q;show iZ hb ho sb
   .have:Gp.map (λ e=>(rk prog w).hash e.1)=(xs.map λ e=>(rk prog w).hash e.1).take p++(rk prog w).hash key::(xs.map λ e=>(rk prog w).hash e.1).drop p:=by simp[Gp,Du,Dt]
    rw[this];show p3
  have HA:(Gp.map (·.1)).Nodup:=by
   exact (Fe.map _).nodup_iff.mpr ?_;rw[BH,List.nodup_append];exact#[CZ,#[],λ x hx y hy=>?_];simp at hy;subst hy;show λ e=>hm (e▸hx)
  by_cases hf:t1.tooFull=true
  .rw[hf];simp![CT,DD,if_true];have GL:t1.fill=xs.length+1:=by
    unfold SetTable.fill;rw[p3.qg,p3.len];simp;lia
   have Gy:t.mask*3<=(xs.length+1)*5:=by
    have:=hf;unfold SetTable.tooFull at this;rw[GL,Cj] at this;exists this
   let#[M',g1,g2,g3]:=bj xs.length t.mask X.tab.mask AV Gy hn;rw[hlen];exact gV (UM (led:=led) ho1 X1 Au CF g1 g2 (by rw[GY];show g3) HA λ h' Fq sb' S' pm=>?_);exact Ad ?_;show h h' Fq true (sb.trans sb') S' (.inr #[hm,pm.trans Fe])
  .have GZ:t1.tooFull=false:=by exists hf
   rw[GZ];simp![CT,CO,Bm,if_false];exact Ad ?_;have GL:t1.fill=xs.length+1:=by
    unfold SetTable.fill;rw[p3.qg,p3.len];simp;lia
   have Gy:(xs.length+1)*5<t.mask*3:=by
    have:=GZ;unfold SetTable.tooFull at this;rw[GL,Cj] at this;exists this
   show h _ Gp true sb #[#[_,ep+1,t1,ho1,X1,Au,CF,by rw[GY,Cj];show Gy],HA] (.inr #[hm,Fe])
end
def sZ (w:World):Bool:=!w.params.followText "set-order"
def ve (w:World):Obj:={ cls:=.type "set",dict:=none,data:=.set [].toArray 0 (.fresh 0 0 (sZ w)) }
section
variable {prog:Program}{w:World}{A:Around}{E:Ai}{s:Shared}
set_option maxHeartbeats 3200000 in
def KS (a:Value) {Q:Ai}(h:Q (.ref s.heap.objs.size) { s with heap:=s.heap.push (ve w) }):
  codeAny (model prog w) A (.call (.builtin "set.__new__") #[[.type "set",a],[]]) (wants Q E) s:=by
 exact codeAny_of_tree ?_;change wpAny _ A.in1 (checkBuiltinCall "set.__new__" #[[.type "set",a],[]] >>= λ _=>again (.builtin "set.__new__" #[[.type "set",a],[]])) _ _ s;exact gV (wpAny_of_eq (F.newCall_set_1 a) (Ad #[plainId_quiet F.plain_set_new _,codeAny_builtin F.entry_set_new ?_]));rw[Around.under_plainId F.plain_set_new _];unfold Builtin.«set.__new__» Builtin.Frozenset.newClass newSet setsByText;have sub:=sub_set_self;let#[hp,g,d,tk,os]:=s;dsimp only
 wp_walk
 exact zaI (Ad ?_);dsimp only;simp![newObj];show gV (wpAny_alloc (Ad (Ad h)))
def U6 {h:Heap}{a:Addr}(ho:h.get? a=↑(ve w)):qv prog w h a [] (sZ w):=
 #[#[[].toArray,0,_,ho,#[rfl,λ e he=>(by cases he),#[.inl rfl,rfl,rfl,.nil,λ j hj=>(by cases hj),λ i g j hg=>(by cases hg)],#[]],rfl,rfl,by change 0*5<7*3;lia],.nil]
end
end ST
namespace ST
open PySem PySem.SetTable PyProof.Rows
section
variable {κ β:Type}[DecidableEq κ]{val:κ->β->Value}{Aa:Az}{ks:List κ}{i:Nat}{xs Fq:List (κ × β)}
structure Up (val:κ->β->Value) (Aa:Az) (ks:List κ) (i:Nat) (xs:List (κ × β)):Prop where
 own:∀ e∈xs,∃ j,j<i/\Aa[j]?=↑(val e.1 e.2)/\ks[j]?=↑e.1
 all:∀ (j:Nat) r,j<i->ks[j]?=↑r->r∈xs.map (·.1)
theorem g_:∀ (l m:List κ),l.Nodup->(∀ x∈l,x∈m)->l.length<=m.length
 | [],m,_,_=>AW _
 | x::l,m,hn,hs=>by
  have h1:=Bk.mp hn;have hx:=hs x Ar;have:=g_ l (m.erase x) h1.2 λ z hz=>(List.mem_erase_of_ne (λ e:z=x=>h1.1 (by rw[<- e];show hz))).mpr (hs z (Ay _ hz));rw[List.length_erase_of_mem hx] at this;have:=List.length_pos_of_mem hx;simp![A4];lia
def Up.len (U:Up val Aa ks i xs) (nd:(xs.map (·.1)).Nodup):xs.length<=i:=by
 have:=g_ (xs.map λ e=>↑e.1) ((List.range i).map λ j=>ks[j]?) (by
  have:(xs.map λ e=>↑e.1)=(xs.map (·.1)).map some:=by rw[A2];rfl
  rw[this];show List.Pairwise.map _ (λ a b h e=>h (Ba e)) nd) λ x hx=>by
  let#[e,he,rfl]:=Aq.mp hx;let#[j,h1,_,h3]:=U.own e he;show Aq.mpr #[j,AG.mpr h1,h3]
 exists this
def Up.step {key:κ}{b:β}(U:Up val Aa ks i xs) (hi:Aa[i]?=↑(val key b)) (hr:ks[i]?=↑key)
  (h:key∈xs.map (·.1)/\Fq=xs\/key∉xs.map (·.1)/\Fq.Perm (xs++[(key,b)])):Up val Aa ks (i+1) Fq:=by
 have eqi:∀ j:Nat,j<i+1->¬ j<i->j=i:=λ j a b=>⋯;rcases h with ⟨hm,rfl⟩ | ⟨_,hp⟩
 .exact#[λ e he=>?_,λ j r hj CD=>?_]
  .let#[j,h1,h2]:=U.own e he;show#[j,Cq h1,h2]
  .by_cases q:j<i
   .show U.all j r q CD
   .rw[eqi j hj q,hr] at CD;cases CD;show hm
 .exact#[λ e he=>?_,λ j r hj CD=>?_]
  .rcases A5.mp (hp.mem_iff.mp he) with q | q
   .let#[j,h1,h2]:=U.own e q;show#[j,Cq h1,h2]
   .cases AH.mp q;show#[i,BV i,hi,hr]
  .rw[(hp.map (·.1)).mem_iff,BH];by_cases q:j<i
   .show Ct _ (U.all j r q CD)
   .rw[eqi j hj q,hr] at CD;cases CD;show A_ _ Ar
structure Kd (prog:Program) (w:World) (A:Around) (val:κ->β->Value) (Aa:Az) (ks:List κ) (Sa:Addr) (wr:List Addr) (Se:Heap->List (κ × β)->Prop) (Tp:Heap->Prop):Prop where
 nd:∀ {h xs},Se h xs->(xs.map (·.1)).Nodup
 keep:∀ {h h' xs i},(∀ b o,b∉wr->h.get? b=↑o->h'.get? b=↑o)->Up val Aa ks i xs->Se h xs->Se h' xs
 je:∀ {h h'},(∀ b o,b∉Sa::wr->h.get? b=↑o->h'.get? b=↑o)->Tp h->Tp h'
 add:∀ {s:Shared}{xs:List (κ × β)}{i:Nat}{v:Value}{Q:Bool->Shared->Prop}{E:Ai},Tp s.heap->Se s.heap xs->xs.length<70->Aa[i]?=↑v->
  (∀ h' tk Fq rr k b,v=val k b->ks[i]?=↑k->Heap.SameBut Sa s.heap h'->s.toks<=tk->Se h' Fq->(k∈xs.map (·.1)/\Fq=xs\/k∉xs.map (·.1)/\Fq.Perm (xs++[(k,b)]))->Q rr { s with heap:=h',toks:=tk })->
  wpAny (model prog w) A (setAdd Sa v) Q E s
variable {prog:Program}{w:World}{A:Around}{R:Result->Shared->Prop}{I:Addr}{fp wr:List Addr}{G:Array GenState->Array GenState->Prop}{n:Nat}{P:Nat->Value->Prop}{St:Nat->Shared->Prop}{Sa:Addr}{Se:Heap->List (κ × β)->Prop}{Tp:Heap->Prop}
def aW (W:WalksS prog w A.in1 I fp wr G n (λ i v=>P i v) St) (D:Kd prog w A.in1 val Aa ks Sa wr Se Tp) (hSf:Sa∉fp) (hP:∀ i v,P i v->Aa[i]?=↑v) (hn:n<70):
  ∀ (k i:Nat) (s:Shared) (xs:List (κ × β)),n-i=k->i<=n->St i s->Se s.heap xs->Tp s.heap->Up val Aa ks i xs->
   (∀ s' Fq,Moved (Sa::wr) G s s'->Se s'.heap Fq->Up val Aa ks n Fq->R (.ok (.ret .none)) s')->
   codeAny (model prog w) A (.builtin "set.update.loop" #[[.ref Sa,.ref I],[]]) R s:=by
 have more:∀ b∈wr,b∈Sa::wr:=λ b hb=>Ay _ hb;intro k
 induction k with
 | zero=>
  intro i s xs hk hi AU hS hT hU hR;have e:i=n:=⋯;subst e;exact codeAny_builtin F.entry_set_update_loop ?_;rw[Around.under_plainId F.plain_set_update_loop _];change wpAny _ A.in1 (pyNext (.ref I) >>= _) _ _ s;show gV (W.done s _ _ AU λ s' hm=>Ad (hR s' xs (hm.mono more) (D.keep hm.heap hU hS) hU))
 | succ k ih=>
  intro i s xs hk hi AU hS hT hU hR;have Au:i<n:=⋯;exact codeAny_builtin F.entry_set_update_loop ?_;rw[Around.under_plainId F.plain_set_update_loop _];change wpAny _ A.in1 (pyNext (.ref I) >>= _) _ _ s;exact gV (W.item i s _ _ Au AU λ v s1 hPv hst1 hm=>?_);have hv:=hP i v hPv;have T1:=D.je (λ b o hb e=>hm.heap b o (λ z=>hb (more _ z)) e) hT;have hl:xs.length<70:=by have:=hU.len (D.nd hS);lia
  change wpAny _ A.in1 (holding [v] (setAdd Sa v) >>= _) _ _ s1;exact gV (za6 (D.add T1 (D.keep hm.heap hU hS) hl hv λ h' tk Fq rr key b ev hr sb ht S' hx=>?_));subst ev;have fr:=W.frame (i+1) s1 h' tk hst1 ht λ c hc o e=>(sb.2 c (λ z:c=Sa=>hSf (z▸hc))).trans e;exact Ad #[plainId_quiet F.plain_set_update_loop _,ih (i+1) _ Fq ⋯ Au fr S' (D.je (λ c o hc e=>(sb.2 c (λ z=>hc (z▸Ar))).trans e) T1) (hU.step hv hr hx) λ s2 xs2 hm2 S2 U2=>?_];exact hR s2 xs2 (Moved.trans W.gtrans ((hm.mono more).then_heap ht λ c o hc e=>?_) hm2) S2 U2;show (sb.2 c (λ z=>hc (z▸Ar))).trans e
end
section
variable {prog:Program}{w:World}{A:Around}{Aa:Az}{rows:List (List Int)}{Sa:Addr}{wr:List Addr}
def nc (prog:Program) (w:World) (h:Heap) (Aa:Az) (rows:List (List Int)):Prop:=∀ (i:Nat) v,Aa[i]?=↑v->∃ b r,v=.ref b/\rows[i]?=↑r/\IsTupleKey (intKind prog w) h r b
def nc.at {h h':Heap}(T:nc prog w h Aa rows) (k:∀ (i:Nat) b,Aa[i]?=↑(.ref b)->∀ o,h.get? b=↑o->h'.get? b=↑o):nc prog w h' Aa rows:=λ i v hv=>by
 let#[b,r,rfl,h1,o,items,m,h2,h3]:=T i v hv;show#[b,r,rfl,h1,o,items,m,k i b hv o h2,h3]
abbrev cD:List Int->Addr->Value:=λ _ b=>.ref b
def MN {led:Bool}(hSw:Sa∉wr) (hu:A.units<cLine) (Df:∀ (i:Nat) b,Aa[i]?=↑(.ref b)->b∉Sa::wr):Kd prog w A cD Aa rows Sa wr (λ h xs=>qv prog w h Sa xs led) (λ h=>nc prog w h Aa rows) where
 nd:=λ S=>S.nd
 keep:=λ{h h' xs i} k U S=>by
  let#[#[es,ep,t,ho,X,r],nd]:=S;exact#[#[es,ep,t,k Sa _ hSw ho,#[X.es,λ e he=>?_,X.tab,X.mO],r],nd];let#[o,items,m,g1,g2]:=X.is e he;let#[j,_,h2,_]:=U.own e he;show#[o,items,m,k _ _ (λ z=>Df j e.2 h2 (Ay _ z)) g1,g2]
 je:=λ k T=>T.at λ i b hi o e=>k b o (Df i b hi) e
 add:=λ{s xs i v Q E} T S hl hv hQ=>by
  let#[b,r,rfl,hr,hb]:=T i v hv;unfold setAdd;exact za6 (gV ((rk prog w).pyHash (k:=r) (a:=b) (A:=A) hu hb ?_));show JX (s:={ s with toks:=s.toks+(rk prog w).draws r }) (A:=A) hu S hb hl λ h' Fq rr sb S' hx=>hQ h' _ Fq rr r b rfl hr sb (CM _ _) S' hx
end
section
variable {prog:Program}{w:World}{A:Around}{E:Ai}{s:Shared}
set_option maxHeartbeats 6400000 in
def YL {κ β:Type} [DecidableEq κ] {val:κ->β->Value}{ks:List κ}{Se:Heap->List (κ × β)->Prop}{Tp:Heap->Prop}{l:Addr}{Aa:Az}{Q:Ai}(hh:A.handled=none) (hl:s.heap.IsList l Aa\/s.heap.IsTuple l Aa) (hn:Aa.size<70)
  (D:Kd prog w A.in1.in1.in1 val Aa ks s.heap.objs.size [s.heap.objs.size+1] Se Tp) (hS0:∀ h,h.get? s.heap.objs.size=↑(ve w)->Se h []) (hT0:∀ h,(∀ b o,s.heap.get? b=↑o->h.get? b=↑o)->Tp h)
  (h:∀ (h':Heap) (tk:Nat) xs,Se h' xs->Up val Aa ks Aa.size xs->(∀ b o,b<s.heap.objs.size->s.heap.get? b=↑o->h'.get? b=↑o)->Q (.ref s.heap.objs.size) { s with heap:=h',toks:=tk }):
  wpAny (model prog w) A (call (.type "set") [.ref l]) Q E s:=by
 let#[c,tl,hmro]:=F.called_set.mro;have made:=F.called_set.made;have subm:=F.called_set.sub;exact wpAny_call (codeAny_of_tree ?_);change wpAny _ _ (callAny (.type "set") _) _ _ _;exact Ad #[Code.quiet_builtin _ (AL),codeAny_builtin F.entry_type_call ?_];rw[Around.under_plain (weight_type_call_type "set" [.ref l] []) rfl];have nt:=F.called_set.notType;have cc:=F.called_set.canCreate;have tc:=F.typeCall_set_1 (.ref l)
 repeat (any_goals (first | assumption | wp_step))
 exact codeAny_mono (KS (.ref l) (E:=E) (Q:=λ obj s₁=>obj=.ref s.heap.objs.size/\s₁={ s with heap:=s.heap.push (ve w) }) #[rfl,rfl]) λ r s₁ hr=>?_;cases r with
 | error e=>show hr
 | ok fl=>
  cases fl with
  | ret obj=>
   let#[rfl,rfl]:=hr;have hS:(s.heap.push (ve w)).get? s.heap.objs.size=↑(ve w):=AK _ rfl;have hTy:Shared.TypeIs { s with heap:=s.heap.push (ve w) } (.ref s.heap.objs.size) "set":=#[_,hS,rfl];have li:=F.called_set.init.lookup;have bi:=F.called_set.init.bind (.ref s.heap.objs.size)
   repeat (any_goals (first | assumption | wp_step))
   let s1:Shared:={ s with heap:=s.heap.push (ve w) }
   exact codeAny_mono (codeAny_call_builtin (R:=wants (λ r s₂=>r=.none/\∃ h' tk xs,s₂={ s with heap:=h',toks:=tk }/\Se h' xs/\Up val Aa ks Aa.size xs/\
     ∀ b o,b<s.heap.objs.size->s.heap.get? b=↑o->h'.get? b=↑o) E) F.called_set.init.plain F.entry_set_init (check_set_init_1 hTy ?_)) λ r₂ s₂ hr₂=>?_
   .have hsz:(s.heap.push (ve w)).objs.size=s.heap.objs.size+1:=Heap.size_push _ _;have szne:s.heap.objs.size≠(s.heap.push (ve w)).objs.size:=by rw[hsz];show AI (BV _)
    have low:∀ b:Addr,b<s.heap.objs.size->b≠(s.heap.push (ve w)).objs.size:=λ b hb=>by rw[hsz];show AI (Cq hb)
    rw[<- hsz] at D;rcases hl with hl | hl
    all_goals
     let#[#[ocls,odict,odata,oslots],hol,CJ,nl,Dn]:=id hl;simp only at CJ Dn;subst CJ Dn;have hol1:=za1 (ve w) hol;have sls:=F.sub_list_set;have slf:=F.sub_list_frozenset;have GG:=F.sub_tuple_set;have stf:=F.sub_tuple_frozenset;have nd:(Value.type "list" == Value.type "dict")=false:=()
     have nd':(Value.type "tuple" == Value.type "dict")=false:=()
     have hlS:l<s.heap.objs.size:=Ax hol;have hneI:l≠(s.heap.push (ve w)).objs.size:=low l hlS;have GY:=hl.push (ve w);unfold Builtin.«set.__init__» noKeywords Builtin.Frozenset.updateFrom;generalize hPI:pyIter=PI;unfold ve at *
     wp_walk
     subst hPI
     first | exact zaH GY (gV (wpAny_runValue ?_)) | exact zaM GY (gV (wpAny_runValue ?_))
     first
      | exact aW (A:=A.in1.in1) (P:=λ i v=>Aa[i]?=↑v) ((Walks.list (A:=A.in1.in1.in1) (by simp[hh]) _ l hneI Aa).toS) D ?_ (λ _ _ q=>q) hn Aa.size 0 _ [] ⋯ (AW _) #[#[_,AK _ rfl,rfl,rfl],GY.push _] ?_ ?_ #[λ e he=>(by cases he),λ j r hj=>⋯] ?_
      | exact aW (A:=A.in1.in1) (P:=λ i v=>Aa[i]?=↑v) ((Walks.tuple (A:=A.in1.in1.in1) (by simp[hh]) _ l hneI Aa).toS) D ?_ (λ _ _ q=>q) hn Aa.size 0 _ [] ⋯ (AW _) #[#[_,AK _ rfl,rfl,rfl],GY.push _] ?_ ?_ #[λ e he=>(by cases he),λ j r hj=>⋯] ?_
     .intro hm;rcases Am.mp hm with q | q
      .show szne q
      .show BG hlS (AH.mp q)
     .show hS0 _ (za1 _ hS)
     .show hT0 _ λ b o e=>za1 _ (za1 _ e)
     .intro s' Fq hm S' U';let#[h',g',d',tk',os']:=s';obtain rfl:g'=s.gens:=hm.gens;obtain rfl:d'=s.drawn:=hm.drawn;obtain rfl:os'=s.os:=hm.os;exact Ad (Ad #[rfl,h',tk',Fq,rfl,S',U',λ b o hb e=>?_]);exact hm.heap b o (λ q=>?_) (za1 _ (za1 _ e));rcases Am.mp q with q | q
      .show AI hb q
      .show low b hb (AH.mp q)
   .cases r₂ with
    | error e=>show hr₂
    | ok fl₂=>
     cases fl₂ with
     | ret r=>
      let#[rfl,h',tk,xs,rfl,g1,g2,g3]:=hr₂
      repeat (any_goals (first | assumption | wp_step))
      show h h' tk xs g1 g2 g3
     | _=>show hr₂.elim
  | _=>show hr.elim
def Jn {l:Addr}{Aa:Az}{rows:List (List Int)}{Q:Ai}(hh:A.handled=none) (hu:A.units+64<cLine) (hl:s.heap.IsList l Aa\/s.heap.IsTuple l Aa) (hT:nc prog w s.heap Aa rows) (hn:Aa.size<70)
  (h:∀ (h':Heap) (tk:Nat) xs,qv prog w h' s.heap.objs.size xs (sZ w)->Up cD Aa rows Aa.size xs->(∀ b o,b<s.heap.objs.size->s.heap.get? b=↑o->h'.get? b=↑o)->Q (.ref s.heap.objs.size) { s with heap:=h',toks:=tk }):
  wpAny (model prog w) A (call (.type "set") [.ref l]) Q E s:=by
 exact YL hh hl hn (MN #[] (show A.units+1+1+1<cLine by lia) λ i b hb hm=>?_) (λ h e=>U6 e) (λ h k=>hT.at λ i b _ o e=>k b o e) h;let#[b',r,e,_,o,_,_,ho,_]:=hT i _ hb;cases e;have:=Ax ho;rcases Am.mp hm with q | q
 .show AI this q
 .show AI (Cq this) (AH.mp q)
end
end ST
namespace ST
open PySem PySem.SetTable
section facts
def ag:Manifest.owners.lookup (String.ofList ['r','o','t','a','r','e','t','i','_','t','e','s'].reverse)=↑Manifest.sig_set_iterator:=by kernel_rfl
def p_:Slot "set_iterator" "__next__" "set_iterator.__next__":=
 .of (owner:="set_iterator") (n:="__next__") (by rw[typeLookup_type,builtinLookup_eq_fast];kernel_rfl) (AL) (AL) (AL) (by first | show .inl (AL) | show .inr (AL)) (by rw[isSubtype_type];kernel_rfl)
def Yf:entryFor table "set_iterator.__next__"=↑Builtin.«set_iterator.__next__»:=entryFor_of_tree (by kernel_rfl)
theorem Xl (a:Value):argsOk "set_iterator.__next__" #[[a],[]]:=by
 unfold argsOk;rw[signature?_of (id:="set_iterator.__next__") (n:=['_','_','t','x','e','n','_','_']) (o:=['r','o','t','a','r','e','t','i','_','t','e','s']) (by kernel_rfl) ag]
 kernel_rfl
def Kr:entryFor table "set.__iter__"=↑Builtin.«frozenset.__iter__»:=entryFor_alias (id':="frozenset.__iter__") (by kernel_rfl) rfl (AL) (by kernel_rfl)
def bh:Slot "set_iterator" "__iter__" "set_iterator.__iter__":=
 .of (owner:="set_iterator") (n:="__iter__") (by rw[typeLookup_type,builtinLookup_eq_fast];kernel_rfl) (AL) (AL) (AL) (by first | show .inl (AL) | show .inr (AL)) (by rw[isSubtype_type];kernel_rfl)
def Kq:entryFor table "set_iterator.__iter__"=↑Builtin.«dict_keyiterator.__iter__»:=entryFor_alias (id':="dict_keyiterator.__iter__") (by kernel_rfl) rfl (AL) (by kernel_rfl)
theorem JM (a:Value):argsOk "set_iterator.__iter__" #[[a],[]]:=by
 unfold argsOk;rw[signature?_of (id:="set_iterator.__iter__") (n:=['_','_','r','e','t','i','_','_']) (o:=['r','o','t','a','r','e','t','i','_','t','e','s']) (by kernel_rfl) ag]
 kernel_rfl
end facts
theorem Yb {α:Type}:∀ (l:List α) (i:Nat) (x:α),l[i]?=↑x->l.Perm (x::l.eraseIdx i)
 | [],i,x,h=>by simp at h
 | y::l,0,x,h=>by simp at h;subst h;simp
 | y::l,i+1,x,h=>by
  have ih:=Yb l i x (by exists h);rw[List.eraseIdx_cons_succ];show (ih.cons y).trans (.swap x y _)
theorem bU {α:Type}(next:Nat->Nat):∀ (f k:Nat) (left:List α) (out:Array α),left.length=f->(pickOrder.go next f k left out).toList.Perm (out.toList++left)
 | 0,k,left,out,h=>by
  cases left with
  | nil=>unfold pickOrder.go;simp
  | cons _ _=>simp at h
 | f+1,k,left,out,h=>by
  unfold pickOrder.go;have Au:next k%left.length<left.length:=C3 _ ⋯;rw[AR Au];dsimp only;exact (bU next f (k+1) _ _ (by rw[List.length_eraseIdx_of_lt Au];lia)).trans ?_;rw[Array.toList_push,D9];show (Yb left _ _ (AR Au)).symm.append_left _
theorem T9 {α:Type}(next:Nat->Nat) (xs:Array α):(pickOrder next xs).toList.Perm xs.toList:=by
 unfold pickOrder;exists bU next xs.size 0 xs.toList [].toArray #[]
def comes (w:World) (a:Addr) (es:Array (Int×Value)) (ep:Nat):Array (Int×Value):=if w.params.followText "set-order"=true then pickOrder (w.params.setOrder a ep) es else es
def lu (w:World) (a:Addr) (es:Array (Int×Value)) (ep:Nat):(comes w a es ep).toList.Perm es.toList:=by
 unfold comes;split
 .show T9 _ _
 .show .refl _
def qb (a:Addr) (slot i n ep:Nat):Obj:={ cls:=.type "set_iterator",data:=.fields [rawInt slot,rawInt i,.ref a,rawInt n,rawInt ep].toArray }
def slotAt (t:SetTable):Nat->Nat
 | 0=>0
 | i+1=>t.place.getD i 0+1
theorem JD {t:SetTable}(hr:tu t.place.toList):∀ i,i<=t.place.size->below t.place (slotAt t i)=i
 | 0,_=>by
  let#[h1,h2,h3]:=jR (xs:=t.place) (j:=0) hr;rcases DA (below t.place 0) with q | q
  .show q
  .have:=h2 0 ⋯ q;lia
 | i+1,hi=>by
  have hd:t.place.getD i 0=t.place[i]:=fV ⋯;change below t.place (t.place.getD i 0+1)=i+1;rw[hd];let#[h1,h2,h3]:=jR (xs:=t.place) (j:=t.place[i] + 1) hr;have vf:∀ a b (ha:a<t.place.size) (hb:b<t.place.size),a<b->t.place[a]<t.place[b]:=λ a b ha hb BF=>by
   have r:=C4.mp hr a b (by exists ha) (by exists hb) BF;rw[Cy,Cy] at r;show r
  rcases Dz (below t.place (t.place[i] + 1)) (i+1) with q | q | q
  .have:=h3 i ⋯ ⋯;lia
  .show q
  .have a:=h2 (i+1) ⋯ q;have b:=vf i (i+1) ⋯ ⋯ ⋯;lia
structure vp (w:World) (h:Heap) (a:Addr) (es:Array (Int×Value)) (ep:Nat) (t:SetTable):Prop where
 get:h.get? a=↑{ cls:=.type "set",dict:=none,data:=.set es ep t }
 fits:t.fits es.size=true
 vf:tu t.place.toList
 led:t.led=sZ w
 plain:t.plain=true
theorem vp.size {w:World}{h:Heap}{a:Addr}{es:Array (Int×Value)}{ep:Nat}{t:SetTable}(S:vp w h a es ep t):t.place.size=es.size:=by
 have:=S.fits;simp![SetTable.fits,Cd,beq_iff_eq] at this;show this.1
section
variable {prog:Program}{w:World}{A:Around}{E:Ai}{s:Shared}
def aI {a:Addr}{es:Array (Int×Value)}{ep:Nat}{t:SetTable}{i:Nat}{Q:Option (Value×Nat)->Shared->Prop}(S:vp w s.heap a es ep t) (hi:i<=es.size) (slot:Nat) (hs:w.params.followText "set-order"=false->slot=slotAt t i)
  (h:∀ FK,(w.params.followText "set-order"=false->FK=slotAt t (i+1))->Q ((comes w a es ep)[i]?.map λ e=>(e.2,FK)) s):wpAny (model prog w) A (setNext a slot i ep) Q E s:=by
 unfold setNext setsByText;exact gV (za9 S.get rfl S.fits ?_);dsimp only;exact gV (gV (zaI (Ad ?_)));change wpAny _ A (if w.params.followText "set-order"=true then _ else _) Q E s;cases hb:w.params.followText "set-order" with
 | true=>
  rw[if_pos rfl,if_neg #[]];unfold setWalk setsByText;exact gV (gV (za9 S.get rfl S.fits ?_));dsimp only;exact gV (gV (zaI (Ad ?_)));change wpAny _ A (if w.params.followText "set-order"=true then _ else _) _ E s;rw[if_pos hb];exact gV (zaI (Ad ?_));exact Ad ?_;have:=h slot (λ q=>by rw[hb] at q;cases q);unfold comes at this;rw[if_pos hb] at this;show this
 | false=>
  rw[if_neg #[]];split
  .rename_i hd;have HC:(!t.plain&&decide (es.size>1))=true:=hd;rw[S.plain] at HC;simp at HC
  .change wpAny _ A ((if (!t.led&&!es.isEmpty)=true then unsupported "set:maker-not-led" else pure Unit.unit) >>= _) Q E s;have hl:t.led=true:=by rw[S.led];unfold sZ;rw[hb];rfl
   rw[if_neg (by rw[hl];simp)];exact gV (Ad (Ad ?_));have BB:=hs hb;have hz:=S.size;rw[BB,JD S.vf i (by rw[hz];show hi)];have:=h (slotAt t (i+1)) (λ _=>rfl);unfold comes at this;rw[if_neg (by rw[hb];simp)] at this;rcases Bj i es.size with q | q
   .have hp:i<t.place.size:=by rw[hz];show q
    rw[Bo q] at this;rw[Bo q,Bo hp];have e:slotAt t (i+1)=t.place[i] + 1:=by change t.place.getD i 0+1=_;rw[fV hp]
    rw[e] at this;show this
   .rw[CN q] at this;rw[CN q];show this
def qW {a I:Addr}{slot i n ep:Nat}(ho:s.heap.get? I=↑(qb a slot i n ep)):s.TypeIs (.ref I) "set_iterator":=#[_,ho,rfl]
def cN (k:Nat):((k:Int)).toNat=k:=Cw k
def U1 {I a:Addr}{es:Array (Int×Value)}{ep:Nat}{t:SetTable}{i slot:Nat}{e:Int×Value}{Q:Option Value->Shared->Prop}(ho:s.heap.get? I=↑(qb a slot i es.size ep)) (S:vp w s.heap a es ep t) (hs:w.params.followText "set-order"=false->slot=slotAt t i) (he:(comes w a es ep)[i]?=↑e)
  (hi:i<es.size) (h:∀ h' FK,(w.params.followText "set-order"=false->FK=slotAt t (i+1))->h'.get? I=↑(qb a FK (i+1) es.size ep)->Heap.SameBut I s.heap h'->Q ↑e.2 { s with heap:=h' }):wpAny (model prog w) A (pyNext (.ref I)) Q E s:=by
 unfold pyNext;exact gV (wpAny_attempt (zaB (name:=Str.ofString "__next__") (qW ho) p_ (za7 p_ (qW ho) Yf ?_ (Xl _))));exact gV (Ad ?_);dsimp only;exact gV (wpAny_fieldsOf ho rfl ?_);dsimp only[rawInt];exact gV (gV (za9 S.get rfl S.fits (Ad ?_)));rw[if_neg #[]];exact gV (aI S ⋯ slot hs λ FK GQ=>?_);rw[cN] at GQ ⊢;rw[he];dsimp only[Option.map_some];exact gV (zaJ ho rfl #[] ?_);have o1:=zaF (Obj.mapFields (·.set! 0 (Value.int (FK:Int) 0))) ho rfl;exact gV (zaJ o1 rfl #[] ?_);have o2:=zaF (Obj.mapFields (·.set! 1 (Value.int ((i:Int)+1) 0))) o1 rfl;exact Ad #[_,rfl,Ad (h _ FK GQ o2 ((Heap.SameBut.update ..).trans (Heap.SameBut.update ..)))]
def U3 {I a:Addr}{es:Array (Int×Value)}{ep:Nat}{t:SetTable}{slot:Nat}{Q:Option Value->Shared->Prop}(hh:A.handled=none) (ho:s.heap.get? I=↑(qb a slot es.size es.size ep)) (S:vp w s.heap a es ep t) (hs:w.params.followText "set-order"=false->slot=slotAt t es.size)
  (h:∀ h',Heap.ExtBut I s.heap h'->Q none { s with heap:=h' }):wpAny (model prog w) A (pyNext (.ref I)) Q E s:=by
 have hn:(comes w a es ep)[es.size]?=none:=by
  have:=(lu w a es ep).length_eq;simp![Bw] at this;rw[CN ⋯]
 unfold pyNext;exact gV (wpAny_attempt (zaB (name:=Str.ofString "__next__") (qW ho) p_ (za7 p_ (qW ho) Yf ?_ (Xl _))));exact gV (Ad ?_);dsimp only;exact gV (wpAny_fieldsOf ho rfl ?_);dsimp only[rawInt];exact gV (gV (za9 S.get rfl S.fits (Ad ?_)));rw[if_neg #[]];exact gV (aI S #[] slot (by exists hs) λ FK GQ=>?_);rw[cN,hn];dsimp only[Option.map_none];exact gV (zaJ ho rfl #[] ?_);exact gV ?_;simp![newExc,newTuple];exact gV (za8 ?_ (by size_fits));exact gV (m:=firstArgMember _ _) (wpAny_of_eq (a:=Value.none) (by first | rfl | (simp![firstArgMember];rfl)) (za8 ?_ (by size_fits)));unfold raiseNew;exact gV (wpAny_handled ?_);rw[show A.in1.handled=none from hh];exact gV ((Ad (wpAny_throw ?_)));exact gV ((wpAny_isInstance (T:="StopIteration") (b:=true) #[_,AK _ rfl,rfl] isSubtype_stop ?_));show Ad (h _ (((Heap.SameBut.update ..).extBut.push _).push _))
def U0 {I a:Addr}{slot i n ep:Nat}{Q:Ai}(ho:s.heap.get? I=↑(qb a slot i n ep)) (h:Q (.ref I) s):wpAny (model prog w) A (pyIter (.ref I)) Q E s:=by
 exact wpAny_pyIter_slot (qW ho) bh (za7 bh (qW ho) Kq ?_ (JM _));show Ad #[_,rfl,"set_iterator",_,qW ho,p_.lookup,h]
def vp.keep {h h':Heap}{a:Addr}{es:Array (Int×Value)}{ep:Nat}{t:SetTable}(S:vp w h a es ep t) (k:∀ o,h.get? a=↑o->h'.get? a=↑o):vp w h' a es ep t:=#[k _ S.get,S.fits,S.vf,S.led,S.plain]
def Vs (hh:A.handled=none) (I a:Addr) (Av:a≠I) (es:Array (Int×Value)) (ep:Nat) (t:SetTable):
  Walks prog w A I [I,a] [I] es.size (λ i v=>∃ e,(comes w a es ep)[i]?=↑e/\v=e.2) (λ i h=>(∃ slot,(w.params.followText "set-order"=false->slot=slotAt t i)/\h.get? I=↑(qb a slot i es.size ep))/\vp w h a es ep t) where
 sub:=λ b hb=>by simp at hb;simp[hb]
 frame:=λ _ _ _ st k=>by
  let#[#[slot,h1,h2],S]:=st;show#[#[slot,h1,k I #[] _ h2],S.keep λ o e=>k a #[] o e]
 item:=λ i s Q E hi st hQ=>by
  let#[#[slot,h1,h2],S]:=st;have hl:i<(comes w a es ep).size:=by
   have:=(lu w a es ep).length_eq;simp![Bw] at this;lia
  exact U1 h2 S h1 (Bo hl) hi λ h' FK g1 g2 g3=>?_;show hQ _ h' s.toks #[_,Bo hl,rfl] #[#[FK,g1,g2],S.keep λ o e=>(g3.2 a Av).trans e] λ b o hb e=>(g3.2 b (λ z=>hb (by simp[z]))).trans e
 done:=λ s Q E st hQ=>by
  let#[#[slot,h1,h2],S]:=st;show U3 hh h2 S h1 λ h' g=>hQ h' s.toks λ b o hb e=>g b o (λ z=>hb (by simp[z])) e
 self:=λ _ _ _ _ st hQ=>by
  let#[#[slot,h1,h2],S]:=st;show U0 h2 hQ
def Ms:typeLookup (.type "set") "__len__"=pure ↑(.builtin "set.__len__"):=F.slot_set_len.lookup
def split_len:splitId "set.__len__"=↑("set","__len__"):=by decide +kernel
def NM {a:Addr}{es:Array (Int×Value)}{ep:Nat}{t:SetTable}{Q:Bool->Shared->Prop}(S:vp w s.heap a es ep t) (h:Q false s):wpAny (model prog w) A (setDrawn a) Q E s:=by
 unfold setDrawn setsByText;exact gV (za9 S.get rfl S.fits ?_);dsimp only;exact gV (gV (zaI (Ad (Ad ?_))));change Q (!w.params.followText "set-order"&&(!t.plain&&decide (es.size>1))) s;rw[S.plain];exists h
set_option maxHeartbeats 4000000 in
theorem NR {a:Addr}{es:Array (Int×Value)}{ep:Nat}{t:SetTable}{Q:Bool->Shared->Prop}(S:vp w s.heap a es ep t) (h:Q false s):wpAny (model prog w) A (Builtin.List.listLengthHint (.ref a)) Q E s:=by
 have Ty:s.TypeIs (.ref a) "set":=#[_,S.get,rfl];unfold Builtin.List.listLengthHint;exact gV (wpAny_specialOf Ty Ms ?_);dsimp only;rw[split_len];dsimp only;exact gV (wpAny_isInstance (b:=true) Ty sub_set_self ?_);rw[if_neg ()];rw[if_pos (AL)];exact gV (zaE Ty ?_);show Ad h
set_option maxHeartbeats 4000000 in
def KQ {a:Addr}{es:Array (Int×Value)}{ep:Nat}{t:SetTable}{Q:List Value->Shared->Prop}(hh:A.handled=none) (S:vp w s.heap a es ep t) (hn:es.size<=sizeLine)
  (h:∀ (h':Heap) (tk:Nat),(∀ b o,b<s.heap.objs.size->s.heap.get? b=↑o->h'.get? b=↑o)->s.heap.objs.size<=h'.objs.size->Q ((comes w a es ep).toList.map (·.2)) { s with heap:=h',toks:=tk }):wpAny (model prog w) A (collect (.ref a)) Q E s:=by
 have ha:a<s.heap.objs.size:=Ax S.get;unfold collect;exact gV (wpAny_runValue (codeAny_builtin F.entry_proto_collect ?_));rw[Around.under_plainId F.plain_proto_collect _];change wpAny _ A.in1 (newList [] >>= λ l=>again (.builtin "list.__iadd__" #[[l,.ref a],[]])) _ _ s;exact gV (za8 (Ad #[plainId_quiet F.plain_list_iadd _,codeAny_builtin F.entry_list_iadd ?_]));rw[Around.under_plainId F.plain_list_iadd _];let L0:Obj:={ cls:=.type "list",data:=.seq ([]:Ah).toArray }
 have S1:vp w (s.heap.push L0) a es ep t:=S.keep λ o e=>za1 _ e;have T1:Shared.TypeIs { s with heap:=s.heap.push L0 } (.ref a) "set":=#[_,S1.get,rfl];change wpAny _ A.in1 (Builtin.List.listExtendWith (.ref s.heap.objs.size) (.ref a) (.ref s.heap.objs.size)) _ _ { s with heap:=s.heap.push L0 };unfold Builtin.List.listExtendWith;exact gV (zaE T1 ?_);have Av:s.heap.objs.size≠a:=BG ha;have c1:Builtin.List.listSameRef (.ref s.heap.objs.size) (.ref a)=false:=by simp[Builtin.List.listSameRef,Av]
 rw[if_neg (by rw[c1];decide)];exact gV (wpAny_pyIter_slot T1 F.slot_set_iter (za7 F.slot_set_iter T1 Kr ?_ (F.args_set_iter_1 _)));exact gV (gV (Ad (Ad ?_)));exact gV (gV (gV (za9 S1.get rfl S1.fits (Ad (Ad ?_)))));exact gV (NM S1 ?_);rw[if_neg ()];exact gV (Ad ?_);exact gV (wpAny_setEpoch_of S1.get rfl S1.fits ?_);exact gV (za8 (Ad #[_,rfl,"set_iterator",_,#[_,AK _ rfl,rfl],p_.lookup,?_]));let I:=(s.heap.push L0).objs.size
 let h2:=(s.heap.push L0).push (qb a 0 0 es.size ep)
 have S2:vp w h2 a es ep t:=S1.keep λ o e=>za1 _ e;have hI:h2.get? I=↑(qb a 0 0 es.size ep):=AK _ rfl;have hL:h2.get? s.heap.objs.size=↑L0:=za1 _ (AK _ rfl);have hsz:(s.heap.push L0).objs.size=s.heap.objs.size+1:=Heap.size_push _ _;change wpAny _ A.in1 _ _ _ { s with heap:=h2 };exact gV (za6 (NR (s:={ s with heap:=h2 }) S2 ?_));rw[if_pos (AL)];exact gV (wpAny_rule ?_);exact gV ?_;change wpAny _ A.in1 (updateSeq s.heap.objs.size (·.push .none) >>= λ _=>updateSeq s.heap.objs.size (·.pop)) _ _ { s with heap:=h2 };exact gV (wpAny_updateSeq hL rfl ?_);have hL2:=zaF (Obj.mapSeq (·.push Value.none)) hL rfl;exact wpAny_updateSeq hL2 rfl ?_;have hL3:=zaF (Obj.mapSeq (·.pop)) hL2 rfl;let h3:=(h2.update s.heap.objs.size (Obj.mapSeq (·.push Value.none))).update s.heap.objs.size (Obj.mapSeq (·.pop))
 have oth:∀ b o,b≠s.heap.objs.size->h2.get? b=↑o->h3.get? b=↑o:=λ b o hb e=>(zaL _ _ (Ne.symm hb)).trans ((zaL _ _ (Ne.symm hb)).trans e);have haI:a≠I:=by change a≠(s.heap.push L0).objs.size;rw[hsz];show AI (Cq ha)
 have hIn:I≠s.heap.objs.size:=by change (s.heap.push L0).objs.size≠_;rw[hsz];show BG (BV _)
 exact Ad #[plainId_quiet F.plain_extend_loop _,codeAny_extend_loopS ((Vs (A:=A.in1) hh I a haI es ep t).toS) hn s.heap.objs.size ?_ _ es.size 0 { s with heap:=h3 } [].toArray _ rfl (AW _) #[#[0,λ _=>rfl,oth I _ hIn hI],S2.keep λ o e=>oth a o (Ne.symm Av) e] hL3 (ItemsOf.nil _) λ s' acc c' hm hS' AZ=>?_]
 .intro hm;rcases Am.mp hm with q | q
  .show hIn q.symm
  .show Av (AH.mp q)
 .exact gV (wpAny_load hS' (Ad ?_));let#[h',g',d',tk',os']:=s';obtain rfl:g'=s.gens:=hm.gens;obtain rfl:d'=s.drawn:=hm.drawn;obtain rfl:os'=s.os:=hm.os;have hcm:(comes w a es ep).size=es.size:=by
   have:=(lu w a es ep).length_eq;exists this
  have e:acc.toList=(comes w a es ep).toList.map (·.2):=by
   exact List.ext_getElem? λ j=>?_;rw[AD];rcases Bj j es.size with q | q
   .have Dj:j<acc.size:=by rw[AZ.1];show q
    have hj:acc[j]?=↑acc[j]:=Bo Dj;let#[e,e1,e2]:=AZ.2 j _ hj;rw[BJ,BJ,hj,e1,e2];rfl
   .rw[BJ,BJ,CN (by rw[AZ.1];show q),CN (by rw[hcm];show q)];rfl
  rw[e];exact h h' tk' (λ b o hb e=>hm.heap b o (λ q=>?_) (oth b o (AI hb) (za1 _ (za1 _ e)))) ?_
  .rcases Am.mp q with q | q
   .show AI hb q
   .have q':b=(s.heap.push L0).objs.size:=AH.mp q;rw[hsz] at q';show AI (Cq hb) q'
  .show Bv (Ax hS')
end
end ST
namespace ST
open PySem PySem.SetTable PyProof.Rows L4
section
variable {prog:Program}{w:World}{A:Around}{E:Ai}{s:Shared}
def Y9 {a:Addr}{es:Array (Int×Value)}{ep:Nat}{t:SetTable}(hh:A.handled=none) (S:vp w s.heap a es ep t) (hz:es.size<=sizeLine) (Q':List Value->Shared->Prop)
  (h:∀ h1 tk,(∀ b o,¬ False->s.heap.get? b=↑o->h1.get? b=↑o)->s.heap.objs.size<=h1.objs.size->Q' ((comes w a es ep).toList.map (·.2)) { s with heap:=h1,toks:=tk }):wpAny (model prog w) A (collect (.ref a)) Q' E s:=
 KQ hh S hz λ h1 tk k1 k2=>h h1 tk (λ b o _ q=>k1 b o (Ax q) q) k2
end
end ST
namespace ST
open PySem PySem.SetTable PySem.Spec PyProof.Rows L2
def yR (w:World) (a:Addr) (us:Ah):Heap->Prop:=λ h=>∃ es ep t,vp w h a es ep t/\es.toList.map (·.2)=us
def yR.sN {w:World}{a:Addr}{us:Ah}{h1 h2:Heap}(S:yR w a us h1) (k:∀ o,h1.get? a=↑o->h2.get? a=↑o):yR w a us h2:=by
 let#[es,ep,t,S,e]:=S;show#[es,ep,t,S.keep k,e]
def qv.at {prog:Program}{w:World}{h:Heap}{a:Addr}{xs:List (List Int×Addr)}(S:qv prog w h a xs (sZ w)):yR w a (xs.map λ e=>Value.ref e.2) h:=by
 let#[#[es,ep,t,ho,X,h1,h2,h3],_]:=S;show#[es,ep,t,#[ho,X.fits,X.tab.vf,h1,h2],by rw[X.es,A2];rfl]
section
variable {X:Cx}
theorem Zp:∀ {ns:List Int}{us:Ah},Vals (ns.map V.int) us->∀ {prog:Program}{w:World},ItemsAre (intKind prog w) ns us
 | [],_,.nil,_,_=>.nil
 | n::ns,_,.cons r t,prog,w=>by
  let#[tk,rfl]:=r;show .cons (intKind_is _ _ _ _) (Zp t)
def Jk (hc:X.calm=true) (hu:X.A.units+64<cLine):yI X (.type "set") (λ xs H Q=>∃ p ys,∃ rows:List (List Int),xs=[.ref p]/\(zT X.K H p ys\/zX X.K H p ys)/\L4.qw X.K H ys rows/\rows.length<64/\
  ∀ (l:Addr) (us:Ah) (ps:List (V×List Int)),H l=none->Vals (ps.map (·.1)) us->(∀ q∈ps,q∈ys.zip rows)->(ps.map (·.2)).Nodup->(∀ r∈rows,r∈ps.map (·.2))->Q (.ref l) (upd H l (.ext (yR X.w l us)))):=by
 intro EY s B H xs us Q I r h;let#[p,ys,rows,rfl,hq,hr,GF,q]:=h;let#[u,rfl,ru]:=vals1 r;cases ru;obtain⟨Aa,rv,pl,hz⟩:∃ Aa,Vals ys Aa/\(s.heap.IsList p Aa.toArray\/s.heap.IsTuple p Aa.toArray)/\True:=by
  rcases hq with hq | hq
  .let#[Aa,rv,pl,_]:=I.list hq;show#[Aa,rv,.inl pl.isList,trivial]
  .let#[Aa,rv,pl,_]:=I.tuple hq;show#[Aa,rv,.inr pl,trivial]
 have hl:=rv.length;have CI:ys.length=rows.length:=Paired.length hr;have tI:nc X.prog X.w s.heap Aa.toArray rows:=λ i v hv=>by
  have Hx:Aa[i]?=↑v:=by exists hv
  have hi:i<Aa.length:=(AO.mp Hx).1;let#[Av,b,hb,Ep]:=L4.Paired.at' hr (i:=i) ⋯ V.zp ([]:List Int);have hy:ys[i]?=↑(V.ref b):=by
   rw[AR ⋯];have:ys.getD i V.zp=ys[i]'⋯:=by simp[show i<ys.length by lia]
   rw[this] at hb;rw[hb]
  let#[v',e1,e2]:=rv.get hy;rw[Hx] at e1;cases e1;cases (show v=Value.ref b from e2);let#[FL,rv2,#[o,e,CJ,n,hd],_]:=I.tuple Ep;exact#[b,rows.getD i [],rfl,?_,o,FL.toArray,n,e,CJ,hd,by exists Zp rv2];simp[show i<rows.length by lia]
 have hh:X.A.handled=none:=I.ok.hd hc;exact Jn (A:=X.A) hh hu pl tI (by rw[AB];lia) λ h' tk xs S U k=>?_;have kk:∀ b o,s.heap.get? b=↑o->h'.get? b=↑o:=λ b o e=>k b o (Ax e) e;have BX:H s.heap.objs.size=none:=I.zw.fresh (Aj _);have hSO:=S.at;have vals:Vals ((xs.map λ e=>(V.ref e.2,e.1)).map (·.1)) (xs.map λ e=>Value.ref e.2):=by
  clear S U hSO
  induction xs with
  | nil=>show .nil
  | cons e xs ih=>show .cons rfl ih
 have snd:(xs.map λ e=>(V.ref e.2,e.1)).map (·.2)=xs.map (·.1):=by rw[A2];rfl
 exact#[.ref s.heap.objs.size,_,I.laid (t':=tk) (o:=.ext (yR X.w s.heap.objs.size (xs.map λ e=>Value.ref e.2))) kk (Aj _) ?_,rfl,q _ _ (xs.map λ e=>(V.ref e.2,e.1)) BX vals (λ x hx=>?_) (by rw[snd];show S.nd) λ r hr'=>?_]
 .let#[es,ep,t,St,e]:=id hSO;show#[hSO,#[_,St.get],λ h1 h2 S1 k=>S1.sN k]
 .let#[e,he,rfl]:=Aq.mp hx;let#[j,j1,j2,j3]:=U.own e he;have Hg:Aa[j]?=↑(Value.ref e.2):=by exists j2
  have Dj:j<ys.length:=by rw[hl];show (AO.mp Hg).1
  let#[v',e2,e3]:=rv.get (AR Dj);rw[Hg] at e2;cases e2;let#[Av,b,hb,_]:=L4.Paired.at' hr (i:=j) ⋯ V.zp ([]:List Int);have:ys.getD j V.zp=ys[j]:=by simp[Dj]
  rw[this] at hb;rw[hb] at e3;cases (show Value.ref e.2=Value.ref b from e3);exact A9 (i:=j) ?_;rw[List.getElem?_zip_eq_some];show#[by rw[AR Dj,hb],j3]
 .rw[snd];let#[j,hj]:=B_.mp hr';show U.all j r (by have:=(AO.mp hj).1;rw[AB];lia) hj
theorem Paired.mk {α β:Type}{F:α->β->Prop}:∀ {l:List α}{m:List β},l.length=m.length->(∀ (i:Nat) a b,l[i]?=↑a->m[i]?=↑b->F a b)->Paired F l m
 | [],[],_,_=>.nil
 | a::l,b::m,h,f=>.cons (f 0 a b rfl rfl) (Paired.mk (by exists h) λ i x y hx hy=>f (i+1) x y (by exists hx) (by exists hy))
 | [],_::_,h,_=>by simp at h
 | _::_,[],h,_=>by simp at h
theorem Jj (hc:X.calm=true):yI X (.builtin "sorted") (λ xs H Q=>∃ l us vs,∃ rs:List (List Int),xs=[.ref l]/\H l=↑(.ext (yR X.w l us))/\Vals vs us/\L4.qw X.K H vs rs/\rs.length<64/\L4.lG (vs.zip rs) H Q):=by
 intro EY s B H xs us0 Q I r h;let#[l,us,vs,rs,rfl,hl,hv,hr,GF,q]:=h;let#[u,rfl,ru]:=vals1 r;cases ru;obtain⟨⟨es,ep,t,S,eu⟩,-,-⟩:=(show yU X.prog X.w H s.heap l (.ext (yR X.w l us)) from I.zw l _ hl)
 have hp:((comes X.w l es ep).toList.map (·.2)).Perm us:=by rw[<- eu];show (lu X.w l es ep).map _
 let#[qs,q1,q2]:=L4.Paired.perm hp (L4.VR.of hv hr);have hzl:(vs.zip rs).length<64:=by rw[List.length_zip];lia
 have DU:es.size<=sizeLine:=by
  have h1:us.length=(vs.zip rs).length:=Paired.length (L4.VR.of hv hr);have h2:=congrArg List.length eu;rw[AA,Bw] at h2;have:sizeLine=16777216:=rfl;lia
 show L4.gm I (λ Q' h=>Y9 (by show I.ok.hd hc) S DU Q' h) q2 (by rw[q1.length_eq];show hzl) λ p ps hf hp hs=>q p ps hf (hp.trans q1) hs
end
end ST
namespace L5
open PySem PySem.Spec L2 L3
open PyProof.Rows hiding St
def wO:List (List Int)->List (List Int)
 | []=>[]
 | r::rs=>if r∈wO rs then wO rs else r::wO rs
theorem mh {r:List Int}:∀ {rs:List (List Int)},r∈wO rs↔r∈rs
 | []=>.rfl
 | x::rs=>by
  unfold wO;split
  .rename_i h;rw[mh,Am];show#[.inr,λ h'=>h'.elim (λ e=>e▸mh.mp h) id]
  .rw[Am,Am,mh]
theorem kU:∀ rs:List (List Int),(wO rs).Nodup
 | []=>.nil
 | x::rs=>by
  unfold wO;split
  .show kU rs
  .rename_i h;show Bk.mpr #[h,kU rs]
theorem gZ:∀ rs:List (List Int),(wO rs).length<=rs.length
 | []=>Aj _
 | x::rs=>by
  unfold wO;have:=gZ rs;split <;> simp![A4] <;> lia
def uF:xE:=λ ds S Q=>match ds with
 | [d]=>∃ rows:List (List Int),zS d S=↑(rows.map vG)/\rows.length<64/\(∀ r∈rows,r≠[])/\∀ l,S l=none->Q (.ref l) (ups S l (.lst ((L4.xI (wO rows)).map vG)))
 | _=>False
def nI:Al
 | [.lst ts]=>(vF ts).bind λ rs=>if rs.length<64/\∀ r∈rs,r≠[] then ↑(.lst ((L4.xI (wO rs)).map z_)) else none
 | [.tup ts]=>(vF ts).bind λ rs=>if rs.length<64/\∀ r∈rs,r≠[] then ↑(.lst ((L4.xI (wO rs)).map z_)) else none
 | _=>none
def ZE:vQ zC nI uF:=λ S Z ys z ds Q hz hv e hq=>by
 have key:∀ y ts,ys=[y]->xU y=↑ts->((vF ts).bind λ rs=>if rs.length<64/\∀ r∈rs,r≠[] then ↑(.lst ((L4.xI (wO rs)).map z_)) else none)=↑z->uF ds S Q:=λ y ts ey et e'=>by
  subst ey;let#[d,rfl,h1]:=vT hv;let#[rs,e1,e2]:=An.mp e';split at e2
  .rename_i hc;cases e2;cases gB e1;let#[es,h2,h3]:=h1.seq et;cases pZ.mp h3;show#[rs,h2,hc.1,hc.2,λ l hl=>hq _ _ (.new hl _) (sR hz hl (pZ.mpr rfl))]
  .cases e2
 unfold nI at e;split at e
 .show key _ _ rfl rfl e
 .show key _ _ rfl rfl e
 .cases e
section
variable {K:Ac}{e:Expr}{p:Pos}
def uF.mo:vO uF:=λ ds S Q Q' hq h=>by
 unfold uF at h ⊢;split at h
 .let#[rows,h1,h2,h3,h4]:=h;show#[rows,h1,h2,h3,λ l hl=>hq _ _ (h4 l hl)]
 .show h.elim
def uF.fits {w:World}:uP K uF (λ xs H Q=>∃ p ys,∃ rows:List (List Int),xs=[.ref p]/\(zT K H p ys\/zX K H p ys)/\L4.qw K H ys rows/\rows.length<64/\
  ∀ (l:Addr) (us:Ah) (ps:List (V×List Int)),H l=none->Vals (ps.map (·.1)) us->(∀ q∈ps,q∈ys.zip rows)->(ps.map (·.2)).Nodup->(∀ r∈rows,r∈ps.map (·.2))->
   ∃ l' HP vs',∃ rs':List (List Int),[V.ref l]=[.ref l']/\(upd H l (.ext (ST.yR w l us))) l'=↑(.ext (ST.yR w l' HP))/\Vals vs' HP/\L4.qw K (upd H l (.ext (ST.yR w l us))) vs' rs'/\rs'.length<64/\L4.lG (vs'.zip rs') (upd H l (.ext (ST.yR w l us))) Q):=λ xs ds H S Q h0 h2 h=>by
 unfold uF at h;split at h
 .rename_i d;let#[x,hx,h1]:=h0.one;subst hx;let#[rows,e,GF,Av,h]:=h;obtain⟨a,ys,rfl,g1,g2⟩:∃ a xs,x=.ref a/\(zT K H a xs\/zX K H a xs)/\zm K H (rows.map vG) xs:=by
   by_cases hn:∃ ts,d=.tup ts
   .let#[ts,rfl]:=hn;cases e;simp![zf] at h1;let#[a,xs,q1,q2,q3]:=h1;show#[a,xs,q1,.inr q2,q3]
   .let#[a,ys,q1,q2,q3]:=rQ h1 h2 e (λ ts z=>hn #[ts,z]);show#[a,ys,q1,.inl q2,q3]
  exact#[a,ys,rows,rfl,g1,kH g2 Av,GF,λ l us ps hf hv sub nd all=>?_];have mem:∀ r,r∈ps.map (·.2)↔r∈rows:=λ r=>#[λ h=>by
   let#[q,hq,rfl]:=Aq.mp h;show (DL (sub q hq)).2,all r]
  have x1:Ext H (upd H l (.ext (ST.yR w l us))):=.new hf _;have g3:zm K H ((ps.map (·.2)).map vG) (ps.map (·.1)):=zm.kO λ q hq=>zm.ki g2 q (sub q hq);have De:(ps.map (·.2)).Perm (wO rows):=(D4 nd (kU rows)).mpr λ r=>by rw[mem,mh]
  have Ef:(ps.map (·.1)).zip (ps.map (·.2))=ps:=by rw[List.zip_map',List.map_id''];intro a;rfl
  exact#[l,us,ps.map (·.1),ps.map (·.2),rfl,yx,hv,kH (zm.ext x1 _ g3) λ r hr=>Av r ((mem r).mp hr),by rw[De.length_eq];have:=gZ rows;lia,λ p qs hp hi hs=>?_];rw[Ef] at hi;have heq:=L4.cW ((hi.map (·.2)).trans De) hs;have Ao:p≠l:=λ z=>by subst z;rw[yx] at hp;cases hp
  have hpH:H p=none:=by rw[yi Ao] at hp;show hp
  have x2:Ext (upd H l (.ext (ST.yR w l us))) (upd (upd H l (.ext (ST.yR w l us))) p (.lst (qs.map (·.1)))):=.new hp _;have r1:zQ K (upd H l (.ext (ST.yR w l us))) S:=h2.new hf;exact h p (h2.none hpH) _ _ (by simp![zf]) (x1.trans x2) (r1.ups x2 #[_,yx,?_]);rw[<- heq];show zm.ext (x1.trans x2) _ (zm.kO λ q hq=>zm.ki g2 q (sub q (hi.mem_iff.mp hq)))
 .show h.elim
end
end L5
namespace ST
open PySem PySem.SetTable PyProof.Rows
theorem ZJ {t:SetTable}{hs:List Int}(T:Tab t hs) (h:Int):∀ (f k K:Nat),k<=K->K<k+f->(way t.mask h K).j∉t.place.toList->(∀ m<K,(way t.mask h m).j∈t.place.toList)->probe.go t (λ _=>h+1) h f (way t.mask h k)=↑(.empty (way t.mask h K).j none)
 | 0,k,K,h1,h2,_,_=>⋯
 | f+1,k,K,h1,h2,h3,h4=>by
  by_cases e:k=K
  .subst e;unfold probe.go;rw[T.empty h3,iT]
  .let#[i,g,p1,_]:=T.at (h4 k ⋯);have ih:=ZJ T h f (k+1) K ⋯ ⋯ h3 h4
   conv=>lhs;unfold probe.go
   rw[T.live p1];dsimp only;rw[if_neg (by intro q;have:=eq_of_beq q;lia),dm];show ih
theorem LR {t:SetTable}{hs:List Int}(T:Tab t hs) (hl:hs.length<=t.mask) (h:Int):∃ j,t.freeSlot h=↑(j,false)/\dB t h j:=by
 let#[K,k1,k2,k3]:=T.first hl h;exact#[(way t.mask h K).j,?_,#[k2,K,rfl,k3]];have g:=ZJ T h (10*turns t.mask) 0 K (AW _) (by unfold turns;lia) k2 k3;unfold SetTable.freeSlot;have e:t.probe (λ _=>h+1) h (t.probeStart h)=↑(.empty (way t.mask h K).j none):=g;rw[e];rfl
structure pC (prog:Program) (w:World) (h:Heap) (a:Addr) (xs:List (Int×Tok)) (led:Bool):Prop where
 ex:∃ es ep t,h.get? a=↑{ cls:=.type "set",dict:=none,data:=.set es ep t }/\es.toList=xs.map (λ e=>((intKind prog w).hash e.1,Value.int e.1 e.2))/\Tab t (xs.map λ e=>(intKind prog w).hash e.1)/\t.led=led/\t.plain=true/\xs.length*5<t.mask*3
 nd:(xs.map (·.1)).Nodup
section
variable {prog:Program}{w:World}{A:Around}{E:Ai}{s:Shared}
def fits_of {es:Array (Int×Value)}{t:SetTable}{hs:List Int}{n:Nat}(h1:es.size=n) (T:Tab t hs) (h2:hs.length=n) (h3:n<=t.mask):t.fits es.size=true:=by
 have l:=T.len;unfold SetTable.fits SetTable.fill;rw[T.qg,h1,l,h2];simp;lia
def mC {n m:Int}{t:Tok}:(intKind prog w).is n (.int m t)=true↔n=m:=by
 constructor
 .intro h;let#[t',e]:=Value.isInt_shape (show Value.isInt n (.int m t)=true from h);cases e;rfl
 .rintro rfl;show intKind_is _ _ _ _
def Ks {es:Array (Int×Value)}{xs:List (Int×Tok)}(h:es.toList=xs.map (λ e=>((intKind prog w).hash e.1,Value.int e.1 e.2))):ElemsOf (intKind prog w) es.toList:=λ e he=>by
 rw[h] at he;let#[x,_,rfl]:=Aq.mp he;show#[#[x.1,mC.mpr rfl,rfl],rfl]
def UN {es:Array (Int×Value)}{t:SetTable}{xs:List (Int×Tok)}{M wanted:Nat}(he:es.toList=xs.map (λ e=>((intKind prog w).hash e.1,Value.int e.1 e.2))) (hM:vN M) (hw:sizeAbove wanted=M+1) (AV:xs.length*5<M*3):
  ∃ Gg t',∃ Fq:List (Int×Tok),relayAll t es wanted=(Gg,t',false)/\Gg.toList=Fq.map (λ e=>((intKind prog w).hash e.1,Value.int e.1 e.2))/\Fq.Perm xs/\Tab t' (Fq.map λ e=>(intKind prog w).hash e.1)/\t'.mask=M/\t'.led=t.led/\t'.plain=t.plain/\Gg.size=es.size:=by
 have hlen:es.size=xs.length:=by have:=congrArg List.length he;exists this
 have EL:(es.map (·.1)).toList=xs.map λ e=>(intKind prog w).hash e.1:=by rw[Array.toList_map,he,A2];rfl
 have hsz:(es.map (·.1)).size=xs.length:=by rw[C7,hlen]
 let#[t',order,h1,h2,h3,h4,h5,h6,h7]:=Zl hM t.finger (t.movedTo M) t.led t.plain (es.map (·.1)) (by rw[hsz];lia);rw[hsz] at h6;have Au:∀ k∈order.toList,k<xs.length:=λ k hk=>by exists h6.mem_iff.mp hk
 have hr:t.relaid (es.map (·.1)) wanted=↑(t',order):=by
  unfold SetTable.relaid;rw[hw,Nat.add_sub_cancel];show h1
 have BQ:(order.filterMap (es[·]?)).toList=(order.toList.filterMap λ k=>xs[k]?).map λ e=>((intKind prog w).hash e.1,Value.int e.1 e.2):=by
  rw[Array.toList_filterMap,List.map_filterMap];congr 1;funext k;rw[<- BJ,he,AD]
 have Fe:(order.toList.filterMap λ k=>xs[k]?).Perm xs:=(h6.filterMap _).trans (by rw[List.filterMap_getElem?_range_length]);have BP:(order.filterMap (es[·]?)).size=es.size:=by
  rw[<- Bw,BQ,AA,Fe.length_eq,hlen]
 have hT:Tab t' ((order.toList.filterMap λ k=>xs[k]?).map λ e=>(intKind prog w).hash e.1):=by
  rw[<- gP xs (λ e=>(intKind prog w).hash e.1) 0 order.toList Au,<- EL];show h7
 exact#[_,t',_,?_,BQ,Fe,hT,h2,h4,h5,BP];have zF:coversAll order es.size=true:=by
  unfold coversAll;rw[List.isPerm_iff,hlen];show h6
 have fit:t'.fits (order.filterMap (es[·]?)).size=true:=fits_of (n:=xs.length) (by rw[BP,hlen]) hT (by rw[AA,Fe.length_eq]) (by rw[h2];lia);unfold relayAll;rw[hr];dsimp only;rw[zF,fit];rfl
def add_int {a:Addr}{xs:List (Int×Tok)}{n:Int}{tk:Tok}{led:Bool}{Q:Bool->Shared->Prop}(S:pC prog w s.heap a xs led) (hn:xs.length<70)
  (h:∀ h' Fq r,Heap.SameBut a s.heap h'->pC prog w h' a Fq led->(n∈xs.map (·.1)/\Fq=xs\/n∉xs.map (·.1)/\Fq.Perm (xs++[(n,tk)]))->Q r { s with heap:=h' }):
  wpAny (model prog w) A (setAddHashed a (.int n tk) ((intKind prog w).hash n)) Q E s:=by
 have S0:=S;let#[#[es,ep,t,ho,he,T,BC,Ao,AV],CZ]:=S;have hlen:es.size=xs.length:=by have:=congrArg List.length he;exists this
 have hm7:7<=t.mask/\t.mask<=127:=by rcases T.mask with e | e | e <;> lia
 have fit:t.fits es.size=true:=fits_of (n:=xs.length) hlen T #[] ⋯;have hel:=Ks (prog:=prog) (w:=w) he;unfold setAddHashed setAddHashedIn;exact za6 (gV (za9 ho rfl fit ?_));dsimp only;have bs:byScan (.int n tk) es=true:=by
  have h1:decide (es.size<scanBound)=true:=za2 (by unfold scanBound;lia);have h2:es.all (·.2.scannable)=true:=by
   rw[Array.all_eq_true_iff_forall_mem];intro e hm;show (hel e (by exists hm)).2
  unfold byScan;rw[h1,h2];rfl
 rw[if_pos bs];exact gV ?_;unfold setAddByScan;exact gV (wpAny_rule (gV (wpAny_setScan_of (k:=n) (mC.mpr rfl) ho rfl fit hel ?_)));have HY:(es.toList.findIdx? (λ e=>(intKind prog w).is n e.2)).isSome=true↔n∈xs.map (·.1):=by
  rw[he,List.findIdx?_isSome,A8];constructor
  .rintro⟨e,hm,q⟩;let#[x,hx,rfl]:=Aq.mp hm;show Aq.mpr #[x,hx,(mC.mp q).symm]
  .intro hm;let#[x,hx,rfl]:=Aq.mp hm;show#[_,Aq.mpr #[x,hx,rfl],mC.mpr rfl]
 cases hc:es.toList.findIdx? (λ e=>(intKind prog w).is n e.2) with
 | some j=>
  dsimp only;have hm:=HY.mp (by rw[hc];rfl);exact Ad ?_;dsimp only;show Ad (h s.heap xs false #[rfl,λ _ _=>rfl] S0 (.inl #[hm,rfl]))
 | none=>
  dsimp only;have hm:n∉xs.map (·.1):=λ q=>by have:=HY.mpr q;rw[hc] at this;cases this
  let#[j,fs,F]:=LR T (by rw[AA];lia) ((intKind prog w).hash n);let#[p1,p2,p3]:=T.put F;rw[AA] at p1;have CF:(t.put j).1.plain=true:=by rw[p2];show Ao
  have Cj:(t.put j).1.mask=t.mask:=by rw[p2]
  have Au:(t.put j).1.led=led:=by rw[p2];show BC
  generalize hT:(t.put j)=P at *;let#[t1,p]:=P;dsimp only at *;let Gp:=xs.take p++(n,tk)::xs.drop p
  have Fe:Gp.Perm (xs++[(n,tk)]):=by
   have e:xs.take p++xs.drop p=xs:=D5 p xs;have:Gp.Perm ((n,tk)::(xs.take p++xs.drop p)):=List.perm_middle;rw[e] at this;show this.trans (List.perm_append_singleton _ _).symm
  have GY:Gp.length=xs.length+1:=by rw[Fe.length_eq];simp
  have Hk:(insertAt es p ((intKind prog w).hash n,Value.int n tk)).toList=Gp.map λ e=>((intKind prog w).hash e.1,Value.int e.1 e.2):=by
   rw[toList_insertAt,he];simp[Gp,Du,Dt]
  have Hy:(insertAt es p ((intKind prog w).hash n,Value.int n tk)).size=xs.length+1:=by rw[<- Bw,Hk,AA,GY]
  have T1:Tab t1 (Gp.map λ e=>(intKind prog w).hash e.1):=by
   have:Gp.map (λ e=>(intKind prog w).hash e.1)=(xs.map λ e=>(intKind prog w).hash e.1).take p++(intKind prog w).hash n::(xs.map λ e=>(intKind prog w).hash e.1).drop p:=by simp[Gp,Du,Dt]
   rw[this];show p3
  have fit1:t1.fits (insertAt es p ((intKind prog w).hash n,Value.int n tk)).size=true:=fits_of (n:=xs.length+1) Hy T1 (by rw[AA,GY]) (by rw[Cj];lia);have Di:layNew t es ((intKind prog w).hash n) (.int n tk)=(insertAt es p ((intKind prog w).hash n,Value.int n tk),t1,false,false):=by
   unfold layNew;rw[fs];dsimp only;rw[hT];dsimp only;unfold SetTable.orStandIn;rw[fit1];rfl
  have BB:(insertAt es p ((intKind prog w).hash n,Value.int n tk)).size<=sizeLine:=by
   rw[Hy];have:sizeLine=16777216:=rfl;lia
  have HA:(Gp.map (·.1)).Nodup:=by
   exact (Fe.map _).nodup_iff.mpr ?_;rw[BH,List.nodup_append];exact#[CZ,#[],λ x hx y hy=>?_];simp at hy;subst hy;show λ e=>hm (e▸hx)
  have ho1:=kN (Gg:=insertAt es p ((intKind prog w).hash n,Value.int n tk)) (t':=t1) ho;have sb:=Heap.SameBut.update s.heap a (Obj.putSet (insertAt es p ((intKind prog w).hash n,Value.int n tk)) t1);have GL:t1.fill=xs.length+1:=by
   have l:=T1.len;rw[AA,GY] at l;unfold SetTable.fill;rw[T1.qg,l];simp
  rw[Di];dsimp only;exact gV (m:=pure Unit.unit) (Ad ?_);rw[CF];simp![if_true];exact gV (m:=pure true) (Ad ?_);simp![if_true];exact gV (wpAny_storeSet_of ho rfl ?_ BB);by_cases hf:t1.tooFull=true
  .rw[hf];simp![CT,DD,if_true];have Gy:t.mask*3<=(xs.length+1)*5:=by
    have:=hf;unfold SetTable.tooFull at this;rw[GL,Cj] at this;exists this
   let#[M',g1,g2,g3]:=bj xs.length t.mask T.mask AV Gy hn;let#[es2,t2,xs2,r1,r2,r3,r4,r5,r6,r7,r8]:=UN (prog:=prog) (w:=w) (t:=t1) Hk g1 (wanted:=grown (insertAt es p ((intKind prog w).hash n,Value.int n tk)).size) (by rw[Hy];show g2) (by rw[GY];show g3);rw[r1];dsimp only;exact gV (m:=pure Unit.unit) (Ad (gV (wpAny_storeSet_of ho1 rfl ?_ (by rw[r8];show BB))));exact Ad ?_;dsimp only;exact Ad (h _ xs2 true (sb.trans (Heap.SameBut.update _ a _)) #[#[es2,ep+1+1,t2,kN ho1,r2,r4,by rw[r6];show Au,by rw[r7];show CF,by rw[r3.length_eq,GY,r5];show g3],(r3.map _).nodup_iff.mpr HA] (.inr #[hm,r3.trans Fe]))
  .have GZ:t1.tooFull=false:=by exists hf
   rw[GZ];simp![CT,CO,Bm,if_false];have Gy:(xs.length+1)*5<t.mask*3:=by
    have:=GZ;unfold SetTable.tooFull at this;rw[GL,Cj] at this;exists this
   exact Ad ?_;dsimp only;show Ad (h _ Gp true sb #[#[_,ep+1,t1,ho1,Hk,T1,Au,CF,by rw[GY,Cj];show Gy],HA] (.inr #[hm,Fe]))
end
def Nums (Aa:Az) (ns:List Int):Prop:=∀ (i:Nat) v,Aa[i]?=↑v->∃ n t,v=.int n t/\ns[i]?=↑n
section
variable {prog:Program}{w:World}{A:Around}{E:Ai}{s:Shared}{Aa:Az}{ns:List Int}
def MO {led:Bool}{Sa:Addr}{wr:List Addr}(hSw:Sa∉wr) (hN:Nums Aa ns):Kd prog w A Value.int Aa ns Sa wr (λ h xs=>pC prog w h Sa xs led) (λ _=>True) where
 nd:=λ S=>S.nd
 keep:=λ k _ S=>let #[#[es,ep,t,ho,r],nd]:=S;#[#[es,ep,t,k _ _ hSw ho,r],nd]
 je:=λ _ T=>T
 add:=λ{s xs i v Q E} _ S hl hv hQ=>by
  let#[m,t,rfl,hr]:=hN i v hv;unfold setAdd;exact za6 (gV ((intKind prog w).pyHash (A:=A) (k:=m) (mC.mpr rfl) ?_));show add_int (s:={ s with toks:=s.toks+1 }) (A:=A) S hl λ h' Fq rr sb S' hx=>hQ h' _ Fq rr m t rfl hr sb (CM _ _) S' hx
def U7 {h:Heap}{a:Addr}(ho:h.get? a=↑(ve w)):pC prog w h a [] (sZ w):=
 #[#[[].toArray,0,_,ho,rfl,#[.inl rfl,rfl,rfl,.nil,λ j hj=>(by cases hj),λ i g j hg=>(by cases hg)],rfl,rfl,by change 0*5<7*3;lia],.nil]
def Jm {l:Addr}{Q:Ai}(hh:A.handled=none) (hl:s.heap.IsList l Aa) (hT:Nums Aa ns) (hn:Aa.size<70)
  (h:∀ (h':Heap) (tk:Nat) xs,pC prog w h' s.heap.objs.size xs (sZ w)->Up Value.int Aa ns Aa.size xs->(∀ b o,b<s.heap.objs.size->s.heap.get? b=↑o->h'.get? b=↑o)->Q (.ref s.heap.objs.size) { s with heap:=h',toks:=tk }):
  wpAny (model prog w) A (call (.type "set") [.ref l]) Q E s:=
 YL hh (.inl hl) hn (MO #[] hT) (λ h e=>U7 e) (λ _ _=>trivial) h
end
end ST
namespace L4
open PySem PyProof.Rows
def KO {prog:Program}{w:World}{A:Around}{E:Ai}{s:Shared}{vs:Ah}{ns:List Int}(hI:IntsAre vs ns) (h2:2<=vs.length) (GF:vs.length<64):
  Core prog w A E vs (λ out=>∃ GI,IntsAre out.toList GI/\GI.Perm ns/\GI.Pairwise (·<=·)) s:=by
 obtain⟨v1,v2,E6,rfl⟩:∃ v1 v2 E6,vs=v1::v2::E6:=by
  match vs,h2 with
  | v1::v2::E6,_=>show#[v1,v2,E6,rfl]
 unfold Core;rw[keyKind_ints hI];exact Ad #[rfl,?_];exact za5 (wpS_sortRuns (a₀:=pairsOf (v1::v2::E6)) (st:=SortSt.mk' oneType' ((v1::v2::E6).toArray.zip (v1::v2::E6).toArray) [].toArray 7 none)
   (Q:=λ _ GH=>(arrOf GH).Perm (pairsOf (v1::v2::E6))/\failedOf GH=none/\SortedTo (arrOf GH) (pairsOf (v1::v2::E6)).size)
   hI.intKeys #[Array.Perm.refl _,rfl,rfl,rfl] (by rw[pairsOf_size];simp) (by rw[pairsOf_size];show GF) λ GH a1 a2 a3=>#[a1,a2,a3]) ?_ λ _ _ e=>e
 rintro⟨⟨⟩,GH⟩ s' ⟨rfl,hp,hf,hs⟩;show#[rfl,hf,sorted_out hI hp hs,by rw[hp.size_eq,pairsOf_size]]
end L4
namespace L5
open PySem PySem.Spec L2 L3
open PyProof.Rows hiding St
structure Bq (mg:AF):Prop where
 set:mg "set"=none
 zip:mg "zip"=none
 enumerate:mg "enumerate"=none
section
variable {X:Cx}{K:Ac}{a b c e:Expr}{ta tb tc:zv}{pos:Pos}{fa fb fc:Ae}
def oX (f g:yM) (ta tb tc:zv):zv:=fun δ S Q=>ta δ S λ x S1=>tb δ S1 λ y S2=>f x y S2 λ z S3=>match z with
 | .bl k=>if k=true then tc δ S3 λ w S4=>g y w S4 Q else Q (.bl false) S3
 | _=>False
def oX.mo {f g:yM}(hf:xT f) (hg:xT g) (ha:yq ta) (hb:yq tb) (hc:yq tc):yq (oX f g ta tb tc):=fun δ S Q Q' hq h=>
 ha δ S _ _ (λ x S1 h=>hb δ S1 _ _ (λ y S2 h=>hf x y S2 _ _ (λ z S3 h=>by
  cases z <;> first
   | show v8 (hc δ S3 _ _ λ w S4 h=>hg y w S4 _ _ hq h) (hq _ _) h
   | show h) h) h) h
theorem Vx {f g:yM}{r r':R2}(hr:x9 K f r) (hr':x9 K g r') (hf:xT f) (hg:xT g) (ha:yq ta) (hb:yq tb) (hc:yq tc) {B:St}{H:Hp}{Q:VK}(h:zN K (oX f g ta tb tc) B H Q):cP r r' (zN K ta) (zN K tb) (zN K tc) B H Q:=by
 let#[δ,S,r1,r2,h]:=h;exact zN.go ha r1 r2 h λ x S1 v H1 h1 q1 e1 p1=>?_;exact zN.go hb (r1.ext e1) p1 h1 λ y S2 w H2 h2 q2 e2 p2=>?_;exact hr v w x y H2 S2 _ (zf.ext e2 x q1) q2 p2 (hf x y S2 _ _ (λ d S3 z v3 H3 q3 e3 p3=>?_) h2);cases d with
 | bl k=>
  simp![zf] at q3;exact#[k,q3,v8 (λ z=>?_) (λ z=>?_) z]
  .exact zN.go hc (r1.ext ((e1.trans e2).trans e3)) p3 z λ w4 S4 v4 H4 h4 q4 e4 p4=>?_;show hr' w v4 y w4 H4 S4 Q (zf.ext (e3.trans e4) y q2) q4 p4 (hg y w4 S4 _ _ (λ d S' z=>z.ext (((e1.trans e2).trans e3).trans e4)) h4)
  .show z _ H3 (by simp![zf]) ((e1.trans e2).trans e3) p3
 | _=>show z.elim
@[simp] def YH (f g:T->T->Option T) (fa fb fc:Ae):Ae:=fun ρ=>(fa ρ).bind λ x=>(fb ρ).bind λ y=>(f x y).bind λ b=>match b with
 | .bl k=>if k=true then (fc ρ).bind λ z=>g y z else ↑(.bl false)
 | _=>none
def N0 {f g:T->T->Option T}{F G:yM}(hf:Good2 zC f F) (hg:Good2 zC g G) (ha:y6 fa ta) (hb:y6 fb tb) (hc:y6 fc tc):xG (YH f g fa fb fc) (oX F G ta tb tc):=λ S Z δ ρ y Q hE e hq=>by
 let#[x1,e1,e]:=An.mp e;let#[x2,e2,e]:=An.mp e;let#[b,e3,e]:=An.mp e;exact ha S Z δ ρ x1 _ hE e1 λ d1 S1 s1 r1=>?_;exact hb S1 Z δ ρ x2 _ (hE.grow s1) e2 λ d2 S2 s2 r2=>?_;exact hf S2 Z x1 x2 b d1 d2 _ (hE.grow (s1.trans s2)).zd (Vw.grow r1 s2) r2 e3 λ c S3 s3 r3=>?_;split at e
 .have:=r3.1;simp![Sn] at this;subst this;split at e
  .rename_i hk;let#[x4,e4,e5]:=An.mp e;dsimp only;rw[if_pos hk];exact hc S3 Z δ ρ x4 _ (hE.grow ((s1.trans s2).trans s3)) e4 λ d4 S4 s4 r4=>?_;show hg S4 Z x2 x4 y d2 d4 Q (hE.grow (((s1.trans s2).trans s3).trans s4)).zd (Vw.grow r2 (s3.trans s4)) r4 e5 λ c' S5 s5 r5=>hq c' S5 ((((s1.trans s2).trans s3).trans s4).trans s5) (Cl.cl (((s1.trans s2).trans s3).trans s4) r5)
  .rename_i hk;dsimp only;rw[if_neg hk];cases e;show hq _ S3 ((s1.trans s2).trans s3) (Cl.of (λ _=>nofun) vw)
 .cases e
def Q7 {op op':CmpOp}{f g:yM}{r r':R2}(ho:yp X (compareOp op) r) (Gb:yp X (compareOp op') r') (hr:x9 X.K f r) (hr':x9 X.K g r') (hf:xT f) (hg:xT g) (ha:PD X a ta) (hb:PD X b tb) (hc:PD X c tc)
  (hm:lastMarks [op,op'] [b,c]=false:=by with_unfolding_all rfl):PD X (.Compare a [op,op'] [b,c] pos) (oX f g ta tb tc):=
 #[oX.mo hf hg ha.mo hb.mo hc.mo,PE.imp (SH ho Gb ha.pe hb.pe hc.pe hm) λ _ _ _ h=>Vx hr hr' hf hg ha.mo hb.mo hc.mo h]
end
end L5
namespace L2
open PySem PySem.Spec PyProof.Rows
section
variable {X:Cx}
def QW:yp X (compareOp .Is) (λ x y H Q=>∃ c d,x=.bl c/\y=.bl d/\Q (.bl (c == d)) H):=by
 intro EY s B H x y v u Q I rx ry h;let#[c,d,rfl,rfl,q]:=h;cases rx;cases ry;show is_bool #[.bl _,H,I,rfl,q]
def ak:yp X (compareOp .IsNot) (λ x y H Q=>∃ c d,x=.bl c/\y=.bl d/\Q (.bl (c != d)) H):=by
 intro EY s B H x y v u Q I rx ry h;let#[c,d,rfl,rfl,q]:=h;cases rx;cases ry;show isnot_bool #[.bl _,H,I,rfl,q]
end
end L2
namespace L5
open PySem PySem.Spec L2 L3
open PyProof.Rows hiding St
section
variable {X:Cx}{K:Ac}{a b c e o i v:Expr}{es:List Expr}{ta tb td ty tv:zv}{pos p pos':Pos}
def tW:yM:=λ x y S Q=>match x,y with
 | .int i,.int j=>Q (.bl (decide (i<j))) S
 | .tup ds,.tup es=>∃ ns ms:List Int,ds=ns.map D.int/\es=ms.map D.int/\Q (.bl (HT.lexLt ns ms)) S
 | _,_=>False
def xt:T->T->Option T
 | .int i,.int j=>↑(.bl (decide (i<j)))
 | .tup ts,.tup us=>(uB ts).bind λ ns=>(uB us).map λ ms=>.bl (HT.lexLt ns ms)
 | _,_=>none
def tW.mo:xT tW:=λ x y S Q Q' hq h=>by
 unfold tW at h ⊢;split at h
 .show hq _ _ h
 .let#[ns,ms,h1,h2,h3]:=h;show#[ns,ms,h1,h2,hq _ _ h3]
 .show h.elim
def tW.fits:x9 K tW (λ x y H Q=>vy (λ i j=>.bl (decide (i<j))) x y H Q\/gK K x y H Q):=λ x y d e H S Q h1 h2 h3 h=>by
 unfold tW at h;split at h
 .simp![zf] at h1 h2;show .inl #[_,_,h1,h2,h _ H (by simp![zf]) (.refl H) h3]
 .let#[ns,ms,rfl,rfl,h]:=h;simp![zf] at h1 h2;let#[a,xs,rfl,g1,g2]:=h1;let#[b,ys,rfl,g3,g4]:=h2;rw[g2.ints] at g1;rw[g4.ints] at g3;show .inr #[a,b,ns,ms,rfl,rfl,g1,g3,h _ H (by simp![zf]) (.refl H) h3]
 .show h.elim
def fP:Good2 zC xt tW:=λ S Z x y z d e Q hz hx hy ef hq=>by
 unfold xt at ef;split at ef
 .cases ef;cases hx.int;cases hy.int;show hq _ S (.refl S) (Cl.of (λ _=>nofun) vw)
 .let#[ns,e1,e2]:=An.mp ef;let#[ms,e3,rfl]:=AE.mp e2;cases mD e1;cases mD e3;let#[ds,rfl,h2]:=hx.tup;let#[es,rfl,h4]:=hy.tup;show#[ns,ms,sQ.mp h2,sQ.mp h4,hq _ S (.refl S) (Cl.of (λ _=>nofun) vw)]
 .cases ef
def QS {k:Nat}(hr:yb k X.A):yp X (compareOp .Lt) (λ x y H Q=>vy (λ i j=>.bl (decide (i<j))) x y H Q\/gK X.K x y H Q):=QU.or (QT (by have:=hr.units;lia))
def SX {k:Nat}(hr:yb k X.A) (ha:PD X a ta) (hb:PD X b tb):xq X (.Compare a [.Lt] [b] pos) (vK (yu tW ta tb)):=sU (QS hr) tW.fits tW.mo ha hb (u6 _)
def xX (neg:Bool):yM:=λ x y S Q=>match x,y with
 | .bl c,.bl d=>Q (.bl (cond neg (c != d) (c == d))) S
 | x,.zp=>Q (.bl (cond neg (!oI x) (oI x))) S
 | _,_=>False
def yA (neg:Bool):T->T->Option T
 | .bl c,.bl d=>↑(.bl (cond neg (c != d) (c == d)))
 | x,.zp=>↑(.bl (cond neg (!isNone x) (isNone x)))
 | _,_=>none
def xX.mo {neg:Bool}:xT (xX neg):=λ x y S Q Q' hq h=>by
 unfold xX at h ⊢;split at h
 .show hq _ _ h
 .show hq _ _ h
 .show h.elim
def xX.fits:x9 K (xX false) (λ x y H Q=>(∃ c d,x=.bl c/\y=.bl d/\Q (.bl (c == d)) H)\/(y=.zp/\Q (.bl (decide (x=.zp))) H)):=λ x y d e H S Q h1 h2 h3 h=>by
 unfold xX at h;split at h
 .simp![zf] at h1 h2;show .inl #[_,_,h1,h2,h _ H (by simp![zf,cond]) (.refl H) h3]
 .simp![zf] at h2;exact .inr #[h2,?_];rw[Zr h1];show h _ H (by simp![zf,cond]) (.refl H) h3
 .show h.elim
def xX.ZU:x9 K (xX true) (λ x y H Q=>(∃ c d,x=.bl c/\y=.bl d/\Q (.bl (c != d)) H)\/(y=.zp/\Q (.bl (!decide (x=.zp))) H)):=λ x y d e H S Q h1 h2 h3 h=>by
 unfold xX at h;split at h
 .simp![zf] at h1 h2;show .inl #[_,_,h1,h2,h _ H (by simp![zf,cond]) (.refl H) h3]
 .simp![zf] at h2;exact .inr #[h2,?_];rw[Zr h1];show h _ H (by simp![zf,cond]) (.refl H) h3
 .show h.elim
def MV {S:SS}{Z:Addr->Prop}{x:T}{d:D}(hx:Vw S Z x d):oI d=isNone x:=by
 cases x with
 | zp=>cases hx.zp;rfl
 | bl _=>cases hx.bl;rfl
 | int _=>cases hx.int;rfl
 | str _=>cases hx.str;rfl
 | tup _=>let#[ds,rfl,_]:=hx.tup;rfl
 | lst _=>obtain⟨ds,rfl | ⟨a,rfl,h1⟩,h2⟩:=hx.lst <;> rfl
 | xo=>let#[a,Ab,#[rfl,_],h1]:=hx.xo;rfl
 | err _ _ _=>let#[x,rfl,_]:=hx.err;rfl
def LB {neg:Bool}:Good2 zC (yA neg) (xX neg):=λ S Z x y z d e Q hz hx hy ef hq=>by
 unfold yA at ef;split at ef
 .cases ef;cases hx.bl;cases hy.bl;show hq _ S (.refl S) (Cl.of (λ _=>nofun) vw)
 .cases ef;cases hy.zp;have key:Q (.bl (cond neg (!oI d) (oI d))) S:=by
   rw[MV hx];show hq _ S (.refl S) (Cl.of (λ _=>nofun) vw)
  unfold xX;cases d <;> show key
 .cases ef
def Qo (ha:PD X a ta) (hb:PD X b tb):PD X (.Compare a [.IsNot] [b] pos) (yu (xX true) ta tb):=nX (ak.or aj) xX.ZU xX.mo ha hb (u6 _)
def Ra (ha:PD X a ta) (hb:PD X b tb):xq X (.Compare a [.Is] [b] pos) (vK (yu (xX false) ta tb)):=sU (QW.or QV) xX.fits xX.mo ha hb (u6 _)
def S_ (ha:PD X a ta) (hb:PD X b tb):xq X (.Compare a [.IsNot] [b] pos) (vK (yu (xX true) ta tb)):=sU (ak.or aj) xX.ZU xX.mo ha hb (u6 _)
def Yy (td ty tv:zv):yH:=λ E δ S=>tv δ S λ v S1=>td δ S1 λ x S2=>ty δ S2 λ y S3=>∃ p ds k j,x=.ref p/\y=.int k/\S3 p=↑(.lst ds)/\wA ds.length k=↑j/\E.nx δ (ups S3 p (.lst (ds.set j v)))
theorem zm.set {H:Hp}{d:D}{x:V}(h:zf K H d x):∀ {ds:List D}{xs:List V}(j:Nat),zm K H ds xs->zm K H (ds.set j d) (xs.set j x)
 | [],xs,j,r=>by simp![zm] at r;subst r;show .nil
 | c::ds,xs,0,r=>by
  simp![zm] at r;let#[y,ys,rfl,_,r2]:=r;show .cons h r2
 | c::ds,xs,j+1,r=>by
  simp![zm] at r;let#[y,ys,rfl,r1,r2]:=r;show .cons r1 (zm.set h j r2)
def Rt (ho:PD X o td) (hi:PD X i ty) (hv:PD X v tv) (hs:swapsWithSole [.Subscript o i pos'] v pos.line X.env=pure false) (hw:swappedStores [.Subscript o i pos'] v X.env=pure none)
  (h1:(assignEach [.Subscript o i pos'] X.env).map (·.2)=[assign (.Subscript o i pos') X.env])
  (ha:∀ v,assign (.Subscript o i pos') X.env v=(do
   let ov <- holding [v] (eval o X.env)
   let iv <- holding [v,ov] (eval i X.env)
   standAt pos'
   holding [v,ov,iv] (setItem ov iv v)
   release [v,ov,iv] [])):wy X (.Assign [.Subscript o i pos'] v pos) (Yy td ty tv):=by
 exact#[λ E E' δ S hE z=>hv.mo δ S _ _ (λ w S1 z=>ho.mo δ S1 _ _ (λ x S2 z=>hi.mo δ S2 _ _ (λ y S3 #[p,ds,k,j,a,b,c,d,h]=>#[p,ds,k,j,a,b,c,d,hE.nx _ _ h]) z) z) z,PS.imp (bQ hv.pe (TR ho.pe hi.pe set_list ha) hs hw h1) λ D B H hu=>?_];let#[δ,S,r1,r2,z]:=hu;exact zN.go hv.mo r1 r2 z λ w S1 w1 H1 h1 q1 e1 p1=>?_;exact zN.go ho.mo (r1.ext e1) p1 h1 λ x S2 w2 H2 h2 q2 e2 p2=>?_;exact zN.go hi.mo ((r1.ext e1).ext e2) p2 h2 λ y S3 w3 H3 h3 q3 e3 p3=>?_;let#[p,ds,k,j,rfl,rfl,c1,c2,h]:=h3;simp![zf] at q2 q3;subst q2 q3;let#[xs,g1,g2]:=p3 _ _ c1;have e4:Ext H3 (upd H3 p (.lst (xs.set j w1))):=.lst g1 _;exact#[p,xs,k,j,rfl,rfl,g1,by rw[<- g2.length];show c2,?_];show h B _ ((((r1.ext e1).ext e2).ext e3).ext e4) (((e1.trans e2).trans e3).trans e4) (p3.ups e4 #[_,yx,zm.ext e4 _ (zm.set (zf.ext (e2.trans e3) w q1) j g2)])
@[simp] def mr (n:Nat) (f v:Ae):Sm:=fun ρ=>(v ρ).bind λ z=>(f ρ).bind λ y=>match ρ[n]?,y with
 | some ↑(.own (.lst ts)),.int k=>(wA ts.length k).map λ j=>.nx (ρ.set n ↑(.own (.lst (ts.set j z))))
 | _,_=>none
def Pr {R:Rk}(n:Nat) {f v:Ae}(hf:y6 f ty) (hv:wb v tv):ym R (mr n f v) (Yy (yh n) ty tv):=λ S0 Z0 S Z δ ρ o E F e P=>by
 let#[z,e1,e]:=An.mp e;let#[x,e2,e3]:=An.mp e;split at e3
 .rename_i ts k h;let#[j,hj,rfl]:=AE.mp e3;exact hv S Z δ ρ z _ F.er e1 λ dz S1 s1 r1=>?_;have F1:=F.grow s1;let#[p,ob,h1,h2,h3,h4]:=F1.er.ow n _ h;cases ob with
  | lst ds=>
   change yh n δ S1 _;unfold yh;rw[h1];exact hf S1 Z δ ρ _ _ F1.er e2 λ d S2 s2 r2=>?_;cases Vw.int r2;have h5:zi (zx S2 Z) ts ds:=zi.sx (wV s2) ts h3;show#[p,ds,k,j,rfl,rfl,s2 _ _ h2,by rw[h5.len];show hj,P _ Z δ ((F1.grow s2).mut (us:=.lst (ts.set j z)) (es:=.lst (ds.set j dz)) n h h1 (h5.bp j (Sn.sx (wV s2) z r1)))]
  | _=>show h3.elim
 .cases e3
def Qv {x y:Str}{u:Value}(hm:X.mg x=↑u) (r:RelV (.str y) u) (hg:Gl X x) (hd:(x == ("__debug__":Str))=false):PD X (.Name x pos) (dC (.str y)):=nW (S9 hg hm r hd) λ _=>by simp![zf]
end
end L5
namespace ZP
open PySem PyProof.Rows
def fJ (k:Bool):String:=cond k "tuple_iterator" "list_iterator"
def SI (h:Heap) (k:Bool) (it l:Addr) (i:Nat):Prop:=∃ o,h.get? it=↑o/\o.cls=.type (fJ k)/\o.data=.fields [.ref l,.int i 0].toArray
def SQ (h:Heap) (k:Bool) (l:Addr) (xs:Az):Prop:=match k with
 | true=>h.IsTuple l xs
 | false=>h.IsList l xs
def SI.on {h h':Heap}{k:Bool}{it l:Addr}{i:Nat}(x:SI h k it l i) (f:∀ o,h.get? it=↑o->h'.get? it=↑o):SI h' k it l i:=
 let #[o,ho,r]:=x;#[o,f o ho,r]
def SQ.on {h h':Heap}{k:Bool}{l:Addr}{xs:Az}(x:SQ h k l xs) (f:∀ o,h.get? l=↑o->h'.get? l=↑o):SQ h' k l xs:=by
 cases k with
 | true=>let#[o,ho,r]:=(show h.IsTuple l xs from x);show#[o,f o ho,r]
 | false=>let#[o,ho,r]:=(show h.IsList l xs from x);show#[o,f o ho,r]
def SQ.lt {h:Heap}{k:Bool}{l:Addr}{xs:Az}(x:SQ h k l xs):l<h.objs.size:=by
 cases k with
 | true=>let#[o,ho,_]:=(show h.IsTuple l xs from x);show Ax ho
 | false=>let#[o,ho,_]:=(show h.IsList l xs from x);show Ax ho
theorem SQ.cls {h:Heap}{k:Bool}{l:Addr}{xs:Az}(x:SQ h k l xs):∃ o,h.get? l=↑o/\o.cls=.type (cond k "tuple" "list"):=by
 cases k with
 | true=>let#[o,ho,c,_]:=(show h.IsTuple l xs from x);show#[o,ho,c]
 | false=>let#[o,ho,c,_]:=(show h.IsList l xs from x);show#[o,ho,c]
section
variable {prog:Program}{w:World}{A:Around}{E:Ai}{s:Shared}
def made {k:Bool}{l:Addr}{xs:Az}{Q:Ai}(hl:SQ s.heap k l xs)
  (hQ:Q (.ref s.heap.objs.size) { s with heap:=s.heap.push { cls:=.type (fJ k),data:=.fields [.ref l,.int 0 0].toArray } }):wpAny (model prog w) A (pyIter (.ref l)) Q E s:=by
 cases k with
 | true=>show zaM hl hQ
 | false=>show zaH hl hQ
def Ky {it l:Addr}{i:Nat}{xs:Az}{x:Value}{Q:Ai}(hit:s.heap.IsTupleIter it l i) (hl:s.heap.IsTuple l xs) (hx:xs[i]?=↑x)
  (hQ:∀ h',h'.IsTupleIter it l (i+1)->Heap.SameBut it s.heap h'->Q x { s with heap:=h' }):wpAny (model prog w) A (Builtin.SmallTypes.nextOf (.ref it)) Q E s:=by
 have ht:=hit.typeIs;let#[oi,e1,e2,e3]:=id hit;let#[ol,g1,_,n,g2]:=hl;exact gV (zaB (name:=Str.ofString "__next__") ht F.slot_tuple_iterator_next (za7 F.slot_tuple_iterator_next ht F.entry_tuple_iterator_next ?_ (F.args_tuple_iterator_next_1 _)));exact gV (m:=field (.ref it) 0) (za4 e1 e3 (x:=.ref l) rfl ?_);dsimp only;rw[if_neg (show ¬ ((Value.ref l == Value.none)=true) from BL)];exact gV (m:=field (.ref it) 1) (za4 e1 e3 (x:=.int i 0) rfl ?_);dsimp only;exact gV (m:=seqItems? (.ref l)) (zaA g1 g2 ?_);simp![Cw,hx];have there:=zaF (Obj.mapFields λ y=>y.setIfInBounds 1 (rawInt ((i:Int)+1))) e1 (Obj.isFreed_of_fields (Obj.data_mapFields e3 _));exact gV (zaJ e1 e3 #[] (Ad #[x,rfl,Ad (hQ _ #[_,there,(Obj.cls_mapFields ..).trans e2,?_] (Heap.SameBut.update ..))]));rw[Obj.data_mapFields e3];simp[rawInt]
def Kp {it l:Addr}{i:Nat}{xs:Az}{Q:Ai}(hh:A.handled=none) (hit:s.heap.IsTupleIter it l i) (hl:s.heap.IsTuple l xs) (hx:xs[i]?=none)
  (hE:∀ h' e,Heap.ExtBut it s.heap h'->(∃ o,h'.get? e=↑o/\o.cls=.type "StopIteration")->E (.ref e) { s with heap:=h' }):wpAny (model prog w) A (Builtin.SmallTypes.nextOf (.ref it)) Q E s:=by
 have ht:=hit.typeIs;let#[oi,e1,e2,e3]:=id hit;let#[ol,g1,_,n,g2]:=hl;exact gV (zaB (name:=Str.ofString "__next__") ht F.slot_tuple_iterator_next (za7 F.slot_tuple_iterator_next ht F.entry_tuple_iterator_next ?_ (F.args_tuple_iterator_next_1 _)));exact gV (m:=field (.ref it) 0) (za4 e1 e3 (x:=.ref l) rfl ?_);dsimp only;rw[if_neg (show ¬ ((Value.ref l == Value.none)=true) from BL)];exact gV (m:=field (.ref it) 1) (za4 e1 e3 (x:=.int i 0) rfl ?_);dsimp only;exact gV (m:=seqItems? (.ref l)) (zaA g1 g2 ?_);simp![Cw,hx];exact gV (wpAny_rule (gV (zaJ e1 e3 #[] ?_)));exact gV (m:=newExc (.type "StopIteration") []) ?_;simp![newExc,newTuple];exact gV (za8 (gV (m:=firstArgMember _ _) (wpAny_of_eq (a:=Value.none) (by first | rfl | (simp![firstArgMember];rfl)) (za8 ?_ (by size_fits)))) (by size_fits));simp![raiseNew];exact gV (wpAny_handled ?_);rw[show A.in1.handled=none from hh];show gV (Ad (wpAny_throw (hE _ _ (((Heap.SameBut.update ..).extBut.push _).push _) #[_,AK _ rfl,rfl])))
def draw {k:Bool}{it l:Addr}{i:Nat}{xs:Az}{x:Value}{Q:Ai}(hit:SI s.heap k it l i) (hl:SQ s.heap k l xs) (hx:xs[i]?=↑x)
  (hQ:∀ h',SI h' k it l (i+1)->Heap.SameBut it s.heap h'->Q x { s with heap:=h' }):wpAny (model prog w) A (Builtin.SmallTypes.nextOf (.ref it)) Q E s:=by
 cases k with
 | true=>show Ky hit hl hx hQ
 | false=>show wpAny_nextOf_list_item hit hl hx hQ
def jA {k:Bool}{it l:Addr}{i:Nat}{xs:Az}{Q:Ai}(hh:A.handled=none) (hit:SI s.heap k it l i) (hl:SQ s.heap k l xs) (hx:xs[i]?=none)
  (hE:∀ h' e,Heap.ExtBut it s.heap h'->(∃ o,h'.get? e=↑o/\o.cls=.type "StopIteration")->E (.ref e) { s with heap:=h' }):wpAny (model prog w) A (Builtin.SmallTypes.nextOf (.ref it)) Q E s:=by
 cases k with
 | true=>show Kp hh hit hl hx hE
 | false=>show wpAny_nextOf_list_end hh hit hl hx hE
structure i3 (z TI TO i1 i2 l1 l2:Addr):Prop where
 nd:[z,TI,TO,i1,i2].Nodup
 f1:l1∉[z,TI,TO,i1,i2]
 f2:l2∉[z,TI,TO,i1,i2]
structure At (h:Heap) (k1 k2:Bool) (z TI TO i1 i2 l1 l2:Addr) (f0:Value) (n:Nat):Prop where
 z:IsZip h z TI TO f0
 ti:IsPair h TI (.ref i1) (.ref i2)
 to:∃ a b,IsPair h TO a b
 s1:SI h k1 i1 l1 n
 s2:SI h k2 i2 l2 n
def At.keep {h h':Heap}{k1 k2:Bool}{z TI TO i1 i2 l1 l2:Addr}{f0:Value}{n:Nat}(S:At h k1 k2 z TI TO i1 i2 l1 l2 f0 n) (f:∀ b∈[z,TI,TO,i1,i2],∀ o,h.get? b=↑o->h'.get? b=↑o):At h' k1 k2 z TI TO i1 i2 l1 l2 f0 n:=
 #[f z #[] _ S.z,f TI #[] _ S.ti,let #[a,b,e]:=S.to;#[a,b,f TO #[] _ e],S.s1.on (f i1 #[]),S.s2.on (f i2 #[])]
def item {k1 k2:Bool}{z TI TO i1 i2 l1 l2:Addr}{n:Nat}{xs ys:Az}{x y:Value}{Q:Option Value->Shared->Prop}(D:i3 z TI TO i1 i2 l1 l2) (S:At s.heap k1 k2 z TI TO i1 i2 l1 l2 .none n)
  (h1:SQ s.heap k1 l1 xs) (h2:SQ s.heap k2 l2 ys) (hx:xs[n]?=↑x) (hy:ys[n]?=↑y)
  (hQ:∀ h',At h' k1 k2 z TI TO i1 i2 l1 l2 (rawInt s.heap.objs.size) (n+1)->IsPair h' s.heap.objs.size x y->(∀ c o,c∉[z,TI,TO,i1,i2]->s.heap.get? c=↑o->h'.get? c=↑o)->Q ↑(.ref s.heap.objs.size) { s with heap:=h' }):
  wpAny (model prog w) A (pyNext (.ref z)) Q E s:=by
 let#[nd,f1,f2]:=D;simp![Bk,Am,Bb,or_false,not_or,List.nodup_nil,and_true,not_false_eq_true] at nd f1 f2;let#[#[n1,n2,n3,n4],#[n5,n6,n7],#[n8,n9],n10]:=nd;let#[a1,a2,a3,a4,a5]:=f1;let#[b1,b2,b3,b4,b5]:=f2;let#[hz,CW,#[a,b,En],s1,s2]:=S;have hT:s.TypeIs (.ref z) "zip":=#[_,hz,rfl];unfold pyNext;exact gV (wpAny_attempt (zaB (name:=Str.ofString "__next__") hT F.slot_zip_next (za7 F.slot_zip_next hT F.entry_zip_next ?_ (F.args_zip_next_1 _))));exact gV (m:=field (.ref z) 2) (za4 hz rfl (x:=.bool false) rfl ?_);exact gV (m:=field (.ref z) 3) (za4 hz rfl (x:=.ref TI) rfl ?_);exact gV (m:=seqItems? (.ref TI)) (zaA CW rfl ?_);exact gV (m:=Builtin.SmallTypes.ownedTupleIsFree (.ref z)) (gV (m:=field (.ref z) 0) (za4 hz rfl (x:=.none) rfl (Ad ?_)));simp![if_true];exact gV (wpAny_rule (gV (za4 hz rfl (x:=.ref TO) rfl (gV (zaG hz #[] λ g1 HS e1=>?_)))));replace HS:IsZip g1 z TI TO .ellipsis:=HS;exact gV ?_;simp![Ds,List.zipIdx_nil,DJ,List.forIn_nil];exact gV (gV (wpAny_onRaise (gV (m:=Builtin.SmallTypes.nextOf (.ref i1)) (draw (s1.on λ o q=>e1.extBut _ _ (Ne.symm n3) q) (h1.on λ o q=>e1.extBut _ _ a1 q) hx λ g2 s12 e2=>Ad ?_))));have to2:IsPair g2 TO a b:=e2.extBut _ _ n8 (e1.extBut _ _ (Ne.symm n2) En);exact gV (zaA to2 rfl (gV (wpAny_updateSeq_pair to2 λ g3 to3 e3=>gV (wpAny_letGo (Ad ?_)))));replace to3:IsPair g3 TO x b:=to3;have up:∀ c o,c≠z->c≠i1->c≠TO->s.heap.get? c=↑o->g3.get? c=↑o:=λ c o c1 c2 c3 q=>e3.extBut _ _ c3 (e2.extBut _ _ c2 (e1.extBut _ _ c1 q));exact gV (gV (wpAny_onRaise (gV (m:=Builtin.SmallTypes.nextOf (.ref i2)) (draw (s2.on λ o q=>up _ o (Ne.symm n4) (Ne.symm n10) (Ne.symm n9) q) (h2.on λ o q=>up _ o b1 b4 b3 q) hy λ g4 s24 e4=>Ad ?_))));have to4:IsPair g4 TO x b:=e4.extBut _ _ n9 to3;exact gV (zaA to4 rfl (gV (wpAny_updateSeq_pair to4 λ g5 to5 e5=>gV (wpAny_letGo (Ad (Ad ?_))))));replace to5:IsPair g5 TO x y:=to5;exact gV (zaA to5 rfl (gV (wpAny_newTuple ?_)));have sz:g5.objs.size=s.heap.objs.size:=by rw[e5.1,e4.1,e3.1,e2.1,e1.1]
 have hz5:IsZip g5 z TI TO .ellipsis:=e5.extBut _ _ n2 (e4.extBut _ _ n4 (e3.extBut _ _ n2 (e2.extBut _ _ n3 HS)));have up5:∀ c o,c∉[z,TI,TO,i1,i2]->s.heap.get? c=↑o->g5.get? c=↑o:=λ c o hc q=>by
  simp![Am,Bb,or_false,not_or] at hc;show e5.extBut _ _ hc.2.2.1 (e4.extBut _ _ hc.2.2.2.2 (up c o hc.1 hc.2.2.2.1 hc.2.2.1 q))
 have ti5:IsPair g5 TI (.ref i1) (.ref i2):=e5.extBut _ _ n5 (e4.extBut _ _ n7 (up _ _ (Ne.symm n1) n6 n5 CW));have s15:SI g5 k1 i1 l1 (n+1):=s12.on λ o q=>e5.extBut _ _ (Ne.symm n8) (e4.extBut _ _ n10 (e3.extBut _ _ (Ne.symm n8) q));have s25:SI g5 k2 i2 l2 (n+1):=s24.on λ o q=>e5.extBut _ _ (Ne.symm n9) q;have lz:z<g5.objs.size:=Ax hz5;exact gV (m:=Builtin.SmallTypes.ownedTupleHandOut (.ref z) (.ref g5.objs.size)) ?_;have hz6:IsZip (g5.push { cls:=.type "tuple",data:=.seq [x,y].toArray }) z TI TO .ellipsis:=za1 _ hz5;exact gV (zaG hz6 #[] λ g7 hz7 e7=>?_);replace hz7:IsZip g7 z TI TO (rawInt g5.objs.size):=hz7;exact zaG hz7 #[] λ g8 hz8 e8=>?_;replace hz8:IsZip g8 z TI TO (rawInt g5.objs.size):=hz8;have up8:∀ c o,c≠z->(g5.push { cls:=.type "tuple",data:=.seq [x,y].toArray }).get? c=↑o->g8.get? c=↑o:=λ c o c1 q=>e8.extBut _ _ c1 (e7.extBut _ _ c1 q);have T8:IsPair g8 g5.objs.size x y:=up8 _ _ (BG lz) (AK _ rfl);have up9:∀ c o,c≠z->g5.get? c=↑o->g8.get? c=↑o:=λ c o c1 q=>up8 c o c1 (za1 _ q);rw[sz] at hz8 T8;exact Ad #[.ref g5.objs.size,rfl,Ad ?_];change Q ↑(.ref g5.objs.size) _;rw[sz];exact hQ g8 #[hz8,up9 _ _ (Ne.symm n1) ti5,#[x,y,up9 _ _ (Ne.symm n2) to5],s15.on λ o q=>up9 _ o (Ne.symm n3) q,s25.on λ o q=>up9 _ o (Ne.symm n4) q] T8 λ c o hc q=>up9 c o (λ e=>hc (by simp[e])) (up5 c o hc q)
def stop {k1 k2:Bool}{z TI TO i1 i2 l1 l2:Addr}{n:Nat}{xs ys:Az}{Q:Option Value->Shared->Prop}(hh:A.handled=none) (D:i3 z TI TO i1 i2 l1 l2) (S:At s.heap k1 k2 z TI TO i1 i2 l1 l2 .none n)
  (h1:SQ s.heap k1 l1 xs) (h2:SQ s.heap k2 l2 ys) (Br:xs[n]?=none\/ys[n]?=none)
  (hQ:∀ h',(∀ c o,c∉[z,TI,TO,i1,i2]->s.heap.get? c=↑o->h'.get? c=↑o)->Q none { s with heap:=h' }):
  wpAny (model prog w) A (pyNext (.ref z)) Q E s:=by
 let#[nd,f1,f2]:=D;simp![Bk,Am,Bb,or_false,not_or,List.nodup_nil,and_true,not_false_eq_true] at nd f1 f2;let#[#[n1,n2,n3,n4],#[n5,n6,n7],#[n8,n9],n10]:=nd;let#[a1,a2,a3,a4,a5]:=f1;let#[b1,b2,b3,b4,b5]:=f2;let#[hz,CW,#[a,b,En],s1,s2]:=S;have hT:s.TypeIs (.ref z) "zip":=#[_,hz,rfl];have fin:∀ (h':Heap) (e:Addr),(∀ c o,c∉[z,TI,TO,i1,i2]->s.heap.get? c=↑o->h'.get? c=↑o)->(∃ o,h'.get? e=↑o/\o.cls=.type "StopIteration")->
   wpAny (model prog w) A (do if <- isInstance (.ref e) (.type "StopIteration") then pure none else throw (.ref e)) Q E { s with heap:=h' }:=λ h' e k1 k2=>by
  let#[o,ho,hc]:=k2;show gV (wpAny_isInstance (T:="StopIteration") (b:=true) #[o,ho,hc] isSubtype_stop (Ad (hQ _ k1)))
 unfold pyNext;exact gV (wpAny_attempt (zaB (name:=Str.ofString "__next__") hT F.slot_zip_next (za7 F.slot_zip_next hT F.entry_zip_next ?_ (F.args_zip_next_1 _))));exact gV (m:=field (.ref z) 2) (za4 hz rfl (x:=.bool false) rfl ?_);exact gV (m:=field (.ref z) 3) (za4 hz rfl (x:=.ref TI) rfl ?_);exact gV (m:=seqItems? (.ref TI)) (zaA CW rfl ?_);exact gV (m:=Builtin.SmallTypes.ownedTupleIsFree (.ref z)) (gV (m:=field (.ref z) 0) (za4 hz rfl (x:=.none) rfl (Ad ?_)));simp![if_true];exact gV (wpAny_rule (gV (za4 hz rfl (x:=.ref TO) rfl (gV (zaG hz #[] λ g1 HS e1=>?_)))));replace HS:IsZip g1 z TI TO .ellipsis:=HS;exact gV ?_;simp![Ds,List.zipIdx_nil,DJ,List.forIn_nil];cases hx:xs[n]? with
 | none=>
  exact gV (gV (wpAny_onRaise (gV (m:=Builtin.SmallTypes.nextOf (.ref i1)) (jA hh (s1.on λ o q=>e1.extBut _ _ (Ne.symm n3) q) (h1.on λ o q=>e1.extBut _ _ a1 q) hx λ g2 ex e2 he=>?_))));have hz2:IsZip g2 z TI TO .ellipsis:=e2 _ _ n3 HS;let#[oe,q1,q2]:=he;have ne:ex≠z:=λ q=>by subst q;rw[hz2] at q1;cases q1;simp at q2
  exact zaG hz2 #[] λ g3 _ e3=>fin g3 ex (λ c o hc q=>?_) #[oe,e3.extBut _ _ ne q1,q2];simp![Am,Bb,or_false,not_or] at hc;show e3.extBut _ _ hc.1 (e2 _ _ hc.2.2.2.1 (e1.extBut _ _ hc.1 q))
 | some x=>
  have hy:ys[n]?=none:=Br.resolve_left (by rw[hx];simp);exact gV (gV (wpAny_onRaise (gV (m:=Builtin.SmallTypes.nextOf (.ref i1)) (draw (s1.on λ o q=>e1.extBut _ _ (Ne.symm n3) q) (h1.on λ o q=>e1.extBut _ _ a1 q) hx λ g2 s12 e2=>Ad ?_))));have to2:IsPair g2 TO a b:=e2.extBut _ _ n8 (e1.extBut _ _ (Ne.symm n2) En);exact gV (zaA to2 rfl (gV (wpAny_updateSeq_pair to2 λ g3 to3 e3=>gV (wpAny_letGo (Ad ?_)))));have up:∀ c o,c≠z->c≠i1->c≠TO->s.heap.get? c=↑o->g3.get? c=↑o:=λ c o c1 c2 c3 q=>e3.extBut _ _ c3 (e2.extBut _ _ c2 (e1.extBut _ _ c1 q));exact gV (gV (wpAny_onRaise (gV (m:=Builtin.SmallTypes.nextOf (.ref i2)) (jA hh (s2.on λ o q=>up _ o (Ne.symm n4) (Ne.symm n10) (Ne.symm n9) q) (h2.on λ o q=>up _ o b1 b4 b3 q) hy λ g4 ex e4 he=>?_))));have hz4:IsZip g4 z TI TO .ellipsis:=e4 _ _ n4 (e3.extBut _ _ n2 (e2.extBut _ _ n3 HS));let#[oe,q1,q2]:=he;have ne:ex≠z:=λ q=>by subst q;rw[hz4] at q1;cases q1;simp at q2
  exact zaG hz4 #[] λ g5 _ e5=>fin g5 ex (λ c o hc q=>?_) #[oe,e5.extBut _ _ ne q1,q2];simp![Am,Bb,or_false,not_or] at hc;show e5.extBut _ _ hc.1 (e4 _ _ hc.2.2.2.2 (up c o hc.1 hc.2.2.2.1 hc.2.2.1 q))
end
abbrev ud (k:Bool) (l:Addr):Obj:={ cls:=.type (fJ k),data:=.fields [.ref l,.int 0 0].toArray }
abbrev oP (k1 k2:Bool) (h:Heap) (l1 l2:Addr):Heap:=(h.push (ud k1 l1)).push (ud k2 l2)
abbrev jj (k1 k2:Bool) (h:Heap) (l1 l2:Addr):Heap:=(oP k1 k2 h l1 l2).push { cls:=.type "tuple",data:=.seq [.ref h.objs.size,.ref (h.push (ud k1 l1)).objs.size].toArray }
abbrev ji (k1 k2:Bool) (h:Heap) (l1 l2:Addr):Heap:=(jj k1 k2 h l1 l2).push { cls:=.type "tuple",data:=.seq [.none,.none].toArray }
abbrev oO (k1 k2:Bool) (h:Heap) (l1 l2:Addr):Heap:=(ji k1 k2 h l1 l2).push { cls:=.type "zip",data:=.fields [.none,.bool false,.bool false,.ref (oP k1 k2 h l1 l2).objs.size,.ref (jj k1 k2 h l1 l2).objs.size].toArray }
def Mg (k1 k2:Bool) (l1 l2:Addr) (xs ys:Az):Meets (Builtin.«zip.__new__» #[[.type "zip",.ref l1,.ref l2],[]]) (λ _ R s=>SQ s.heap k1 l1 xs/\SQ s.heap k2 l2 ys/\
   R (.ok (.ret (.ref (ji k1 k2 s.heap l1 l2).objs.size))) { s with heap:=oO k1 k2 s.heap l1 l2 }):=
 .of_wp λ prog w A R s h=>by
  let#[hp,g,d,tk,os]:=s;let#[q1,q2,h]:=h;have Eo:=sub_zip;have m1:SQ (Shared.heap #[hp,g,d,tk,os]) k1 l1 xs:=q1;have m2:SQ (Shared.heap #[hp.push (ud k1 l1),g,d,tk,os]) k2 l2 ys:=q2.on λ o e=>za1 _ e
  wp_walk using made m1,made m2
  show#[_,rfl,h]
section
variable {prog:Program}{w:World}{A:Around}{E:Ai}{s:Shared}
def new {k1 k2:Bool}{l1 l2:Addr}{xs ys:Az}{Q:Ai}(h1:SQ s.heap k1 l1 xs) (h2:SQ s.heap k2 l2 ys)
  (h:∀ h' z TI TO i1 i2,(∀ b∈[z,TI,TO,i1,i2],s.heap.objs.size<=b)->i3 z TI TO i1 i2 l1 l2->At h' k1 k2 z TI TO i1 i2 l1 l2 .none 0->(∀ c o,s.heap.get? c=↑o->h'.get? c=↑o)->Q (.ref z) { s with heap:=h' }):
  wpAny (model prog w) A (call (.type "zip") [.ref l1,.ref l2]) Q E s:=by
 exact callType_new F.called_zip () (F.typeCall_zip_2 _ _) (F.newCall_zip_2 _ _) (λ obj=>F.args_object_init_3 obj _ _) F.entry_zip_new (Mg k1 k2 l1 l2 xs ys) #[h1,h2,?_];have z1:(s.heap.push (ud k1 l1)).objs.size=s.heap.objs.size+1:=Heap.size_push ..;have z2:(oP k1 k2 s.heap l1 l2).objs.size=s.heap.objs.size+2:=by rw[Heap.size_push,z1]
 have z3:(jj k1 k2 s.heap l1 l2).objs.size=s.heap.objs.size+3:=by rw[Heap.size_push,z2]
 have z4:(ji k1 k2 s.heap l1 l2).objs.size=s.heap.objs.size+4:=by rw[Heap.size_push,z3]
 have p1:∀ (h:Heap) (o:Obj),o.isFreed=false->(h.push o).get? h.objs.size=↑o:=λ h o e=>AK _ e;have u:∀ {h:Heap}{b:Addr}{o:Obj}(o':Obj),h.get? b=↑o->(h.push o').get? b=↑o:=λ o' e=>za1 _ e;have g5:(oO k1 k2 s.heap l1 l2).get? (ji k1 k2 s.heap l1 l2).objs.size=↑_:=p1 _ _ rfl;have g4:(oO k1 k2 s.heap l1 l2).get? (jj k1 k2 s.heap l1 l2).objs.size=↑_:=u _ (p1 _ _ rfl);have g3:(oO k1 k2 s.heap l1 l2).get? (oP k1 k2 s.heap l1 l2).objs.size=↑_:=u _ (u _ (p1 _ _ rfl));have g2:(oO k1 k2 s.heap l1 l2).get? (s.heap.push (ud k1 l1)).objs.size=↑(ud k2 l2):=u _ (u _ (u _ (p1 _ _ rfl)));have g1:(oO k1 k2 s.heap l1 l2).get? s.heap.objs.size=↑(ud k1 l1):=u _ (u _ (u _ (u _ (p1 _ _ rfl))));have a1:=h1.lt;have a2:=h2.lt;rw[z2,z3,z4] at g5;rw[z1,z2] at g3;rw[z3] at g4;rw[z1] at g2;generalize hN:s.heap.objs.size=N at *;have lt:∀ {m:Nat},m<N->∀ j:Nat,¬ m=N+j:=λ hm j=>⋯;have ne:∀ {i j:Nat},i≠j->¬ (N+i=N+j):=λ Bi e=>Bi ⋯;change _/\_;rw[z4];exact#[#[_,g5,rfl],h _ (N+4) (N+2) (N+3) N (N+1) (λ b hb=>?_) #[?_,?_,?_] #[g5,g3,#[_,_,g4],#[_,g1,rfl,rfl],#[_,g2,rfl,rfl]] λ c o e=>u _ (u _ (u _ (u _ (u _ e))))]
 .simp![Am,Bb,or_false] at hb;have h0:N<=N:=Aj N;rcases hb with e | e | e | e | e <;> subst e
  .show CM N 4
  .show CM N 2
  .show CM N 3
  .show h0
  .show CM N 1
 .have e0:∀ {i:Nat},i≠0->¬ (N+i=N):=λ hi e=>hi ⋯;have e0':∀ {i:Nat},i≠0->¬ (N=N+i):=λ hi e=>hi ⋯;simp![Bk,Am,Bb,or_false,not_or,List.nodup_nil,and_true,not_false_eq_true];show#[#[ne (),ne (),e0 (),ne ()],#[ne (),e0 (),ne ()],#[e0 (),ne ()],e0' ()]
 .simp![Am,Bb,or_false,not_or];show#[lt a1 4,lt a1 2,lt a1 3,AI a1,lt a1 1]
 .simp![Am,Bb,or_false,not_or];show#[lt a2 4,lt a2 2,lt a2 3,AI a2,lt a2 1]
end
end ZP
namespace L2
open PySem PySem.Spec PyProof.Rows ZP
section
variable {X:Cx}{EY:Ak}{B:St}{H:Hp}{s:Shared}
def Inv.kx {h':Heap}{t':Nat}{fp:List Addr}(I:Inv X EY B H s) (k:∀ b o,b∉fp->s.heap.get? b=↑o->h'.get? b=↑o) (hf:∀ b∈fp,uo X EY H b):Inv X EY B H { s with heap:=h',toks:=t' }:=by
 have nit:∀ b u,H b=↑u->b∉fp:=λ b u e z=>by rw[(hf b z).1] at e;cases e
 exact I.step (g':=s.gens) (d':=s.drawn) (ch:=fp) (λ b hb=>?_) (λ b o _ _ hc e _=>k b o hc e) (λ b o _ _ hc e _=>#[o.slots,k b o hc e]) (λ _ _ _ _ n=>n)
  (λ b o hc e=>#[o,k b o hc e]) (λ _ _ e=>e) (λ _ _ _ e=>e) (λ b ps e=>#[[].toArray,by rw[e];simp]) (λ m hm=>?_) (λ b u e=>?_) I.bare
 .let#[_,q1,_,q2,q3,q4]:=hf b hb;show#[q2,q1,q3,q4]
 .let#[o,es,ep,ho,r]:=hm;show#[o,es,ep,k _ o (λ z=>(hf _ z).2.1 rfl) ho,r]
 .exact (I.zw b u e).sN (λ c v hc q=>k c v ?_ q) (λ _ q=>q) λ _ _ q=>q;rcases hc with z | z
  .rw[z];show nit b u e
  .show nit c _ z
def wG (K:Ac) (H:Hp) (k:Bool) (a:Addr) (xs:List V):Prop:=match k with
 | true=>zX K H a xs
 | false=>zT K H a xs
def wG.of (I:Inv X EY B H s) {k:Bool}{a:Addr}{xs:List V}(h:wG X.K H k a xs):∃ Aa:List Value,Vals xs Aa/\SQ s.heap k a Aa.toArray:=by
 cases k with
 | true=>let#[Aa,rv,p,_]:=I.tuple h;show#[Aa,rv,p]
 | false=>let#[Aa,rv,p,_]:=I.list h;show#[Aa,rv,p.isList]
def wG.inj (I:Inv X EY B H s) {k:Bool}{a:Addr}{xs ys:List V}(h:wG X.K H k a xs) (h':wG X.K H k a ys):xs=ys:=by
 cases k with
 | true=>show I.iY h h'
 | false=>show I.f9 h h'
def X3 (K:Ac) (k1 k2:Bool) (a1 a2:Addr):It:=
 #[λ i H=>∃ xs ys x y,wG K H k1 a1 xs/\wG K H k2 a2 ys/\xs[i]?=↑x/\ys[i]?=↑y,
   λ i H v H'=>∃ p x y,v=.ref p/\H p=none/\H'=upd H p (.tup [x,y])/\(∀ xs,wG K H k1 a1 xs->xs[i]?=↑x)/\∀ ys,wG K H k2 a2 ys->ys[i]?=↑y,
   λ i H=>∃ xs ys,wG K H k1 a1 xs/\wG K H k2 a2 ys/\(xs.length<=i\/ys.length<=i)]
def V5 {P:Program}{w:World}{K:Ac}{es:List Expr}{kk} {pos:Pos}{k1 k2:Bool}{z TI TO i1 i2 a1 a2:Addr}(D:i3 z TI TO i1 i2 a1 a2):
  Turn P w K (.Tuple es kk pos) (X3 K k1 k2 a1 a2) [z,TI,TO,i1,i2] z (λ i h=>At h k1 k2 z TI TO i1 i2 a1 a2 .none i) where
 mem:=#[]
 obj:=λ i h st b hb=>by
  let#[q1,q2,#[_,_,q3],#[o1,q4,_,d1],#[o2,q5,_,d2]]:=st;simp![Am,Bb,or_false] at hb;rcases hb with e | e | e | e | e <;> subst e
  .show#[_,q1,λ v z=>by cases z]
  .show#[_,q2,λ v z=>by cases z]
  .show#[_,q3,λ v z=>by cases z]
  .show#[_,q4,λ v z=>by rw[d1] at z;cases z]
  .show#[_,q5,λ v z=>by rw[d2] at z;cases z]
 keep:=λ i h h' st k=>st.keep k
 item:=by
  intro X hP hw hK hc i EY s B H E I hf st hg;subst hP hw hK;let#[xs,ys,x,y,g1,g2,hx,hy]:=hg;let#[it1,rv1,q1]:=g1.of I;let#[it2,rv2,q2]:=g2.of I;let#[u1,e1,r1]:=rv1.get hx;let#[u2,e2,r2]:=rv2.get hy;exact ZP.item D st q1 q2 (x:=u1) (y:=u2) (by exists e1) (by exists e2) λ h' S' T' up=>#[_,rfl,?_];exact wpAny_letOwnedTupleGo_zip S'.z λ h2 z2 sb=>?_;have nT:s.heap.objs.size∉[z,TI,TO,i1,i2]:=λ hb=>by
   let#[o,ho,_]:=(show ∃ o,s.heap.get? s.heap.objs.size=↑o/\True from by
    let#[w1,w2,#[_,_,w3],#[o1,w4,_],#[o2,w5,_]]:=st;simp![Am,Bb,or_false] at hb;rcases hb with e | e | e | e | e <;> rw[e]
    .show#[_,w1,trivial]
    .show#[_,w2,trivial]
    .show#[_,w3,trivial]
    .show#[_,w4,trivial]
    .show#[_,w5,trivial])
   show absurd (Ax ho) (BN _)
  have nz:s.heap.objs.size≠z:=λ e=>nT (by simp[e]);have fr:H s.heap.objs.size=none:=I.zw.fresh (Aj _);have I1:Inv X EY B (upd H s.heap.objs.size (.tup [x,y])) { s with heap:=s.heap.push { cls:=.type "tuple",data:=.seq [u1,u2].toArray },toks:=s.toks }:=
   I.laid (o:=.tup [x,y]) (λ b u q=>za1 _ q) (Aj _) #[#[by change 2<=sizeLine;decide,.new _],[u1,u2],.cons r1 (.cons r2 .nil),IsTup.new _ _]
  have GZ:∀ b∈[z,TI,TO,i1,i2],upd H s.heap.objs.size (.tup [x,y]) b=none:=λ b hb=>by
   rw[yi (λ e=>nT (by rw[<- e];show hb))];show (hf b hb).1
  have kk:∀ b o,b∉[z,TI,TO,i1,i2]->(s.heap.push { cls:=.type "tuple",data:=.seq [u1,u2].toArray }).get? b=↑o->h2.get? b=↑o:=λ b o hb q=>by
   have EU:b≠z:=λ e=>hb (by simp[e]);by_cases Dq:b=s.heap.objs.size
   .subst Dq;rw[AK _ rfl] at q;cases q;show sb.extBut _ _ nz T'
   .have q':s.heap.get? b=↑o:=by rw[Heap.get?_push_ne _ _ _ Dq] at q;show q
    show sb.extBut _ _ EU (up b o hb q')
  have I2:=Inv.kx (h':=h2) (t':=s.toks) (fp:=[z,TI,TO,i1,i2]) I1 kk λ b hb=>#[GZ b hb,(hf b hb).2];exact#[.ref s.heap.objs.size,_,I2,rfl,#[_,x,y,rfl,fr,rfl,λ zs hz=>by rw[hz.inj I g1];show hx,λ zs hz=>by rw[hz.inj I g2];show hy],#[z2,?_,?_,?_,?_],GZ]
  .have nd:=D.nd;simp![Bk,Am,Bb,or_false,not_or] at nd;show sb.extBut _ _ (Ne.symm nd.1.1) S'.ti
  .let#[a,b,e]:=S'.to;have nd:=D.nd;simp![Bk,Am,Bb,or_false,not_or] at nd;show#[a,b,sb.extBut _ _ (Ne.symm nd.1.2.1) e]
  .have nd:=D.nd;simp![Bk,Am,Bb,or_false,not_or] at nd;show S'.s1.on λ o q=>sb.extBut _ _ (Ne.symm nd.1.2.2.1) q
  .have nd:=D.nd;simp![Bk,Am,Bb,or_false,not_or] at nd;show S'.s2.on λ o q=>sb.extBut _ _ (Ne.symm nd.1.2.2.2) q
 done:=by
  intro X hP hw hK hc i EY s B H E I hf st hg;subst hP hw hK;let#[xs,ys,g1,g2,hx]:=hg;let#[it1,rv1,q1]:=g1.of I;let#[it2,rv2,q2]:=g2.of I;have l1:=rv1.length;have l2:=rv2.length;exact ZP.stop (I.ok.hd hc) D st q1 q2 ?_ λ h' up=>#[rfl,I.kx (t':=s.toks) up hf];rcases hx with hx | hx
  .show .inl (by simp;lia)
  .show .inr (by simp;lia)
 self:=λ _ _ _ _ _ st h=>wpAny_pyIter_zip st.z h
def Lh (K:Ac) (ta:TA):TI:=fun B H R=>ta B H λ vs H1=>∃ a1 a2 k1 k2,vs=[.ref a1,.ref a2]/\(∃ xs,wG K H1 k1 a1 xs)/\(∃ ys,wG K H1 k2 a2 ys)/\R (X3 K k1 k2 a1 a2) H1
theorem TF {a b:Expr}{ta:TA}{p pos pos':Pos}{es:List Expr}{kk} (hg:Gl X "zip") (hm:X.mg "zip"=none) (ha:PA X [a,b] ta) (hs:starEach [a,b] X.env=[(false,eval a X.env),(false,eval b X.env)]:=by rfl) (HG:starEach [b] X.env=[(false,eval b X.env)]:=by rfl):
  PI X (.Tuple es kk pos') (.Call (.Name "zip" p) [a,b] [] pos) (Lh X.K ta):=by
 intro EY s B H R I h;exact Call_ (oB I hg hm boot_zip (PyProof.Rows.callWith_type1 (zB (ha pos EY s B H _ I h) λ us s1 #[vs,H1,I1,r1,q1]=>?_) (by rw[hs,HG]) (by rw[HG];rfl)));let#[a1,a2,k1,k2,rfl,#[xs,g1],#[ys,g2],q]:=q1;cases r1 with
 | cons r rr=>
  cases rr with
  | cons r' rr=>
   cases rr;cases r;cases r';let#[it1,_,q1]:=g1.of I1;let#[it2,_,q2]:=g2.of I1;exact ZP.new q1 q2 λ h' z TI TO i1 i2 nw D S up=>wpAny_pyIter_zip S.z ?_;show#[z,[z,TI,TO,i1,i2],_,_,H1,rfl,I1.kept (t':=s1.toks) up,V5 D,S,λ b hb=>I1.jr (nw b hb) (I1.zw.fresh (nw b hb)),q]
end
end L2
namespace L5
open PySem PySem.Spec L2 L3
open PyProof.Rows hiding St
section
variable {K:Ac}{a:Expr}{p:Pos}
def Zn (t:yk):wF:=fun δ S R=>t δ S λ ds S1=>∃ d e xs ys,ds=[d,e]/\zS d S1=↑xs/\zS e S1=↑ys/\R #[List.zipWith (λ x y=>D.tup [x,y]) xs ys,λ S=>zS d S=↑xs/\zS e S=↑ys] S1
def mB:D->Bool
 | .tup _=>true
 | _=>false
def zS.k {H:Hp}{S:SS}{d:D}{v:V}{ds:List D}(r:zf K H d v) (p:zQ K H S) (e:zS d S=↑ds):∃ a xs,v=.ref a/\wG K H (mB d) a xs/\zm K H ds xs:=by
 by_cases q:∃ ts,d=.tup ts
 .let#[ts,rfl]:=q;cases e;simp![zf] at r;let#[a,xs,h1,h2,h3]:=r;show#[a,xs,h1,h2,h3]
 .let#[a,xs,h1,h2,h3]:=rQ r p e λ ts z=>q #[ts,z];exact#[a,xs,h1,?_,h3];have:mB d=false:=by cases d <;> first | rfl | show absurd #[_,rfl] q
  rw[this];show h2
end
section
variable {X:Cx}{a b:Expr}{tA:yk}{pos p pos':Pos}{es:List Expr}{kk:Nat}
def R3 (hm:X.mg "zip"=none) (ha:xh X [a,b] tA) (hg:Gl X "zip") (hs:starEach [a,b] X.env=[(false,eval a X.env),(false,eval b X.env)]) (HG:starEach [b] X.env=[(false,eval b X.env)]):
  tw X (.Tuple es kk pos') (.Call (.Name "zip" p) [a,b] [] pos) (Zn tA):=by
 exact#[fun δ S Q Q' hq z=>ha.mo δ S _ _ (λ ds S1 #[d,e,xs,ys,h1,h2,h3,h4]=>#[d,e,xs,ys,h1,h2,h3,hq _ _ h4]) z,PI.imp (TF hg hm ha.pa hs HG) fun B H R hu=>?_];let#[δ,S,r1,r2,z]:=hu;exact w6.go ha.mo r1 r2 z λ ds S1 vs H1 h1 q1 e1 p1=>?_;let#[d,e,xs,ys,rfl,s1,s2,h]:=h1;let#[v,u,rfl,d1,d2]:=q1.two;let#[a1,us,rfl,g1,g2]:=zS.k d1 p1 s1;let#[a2,ws,rfl,g3,g4]:=zS.k d2 p1 s2;exact#[a1,a2,mB d,mB e,rfl,#[us,g1],#[ws,g3],h _ H1 e1 p1 λ i H2 S2 x1 x2 hk=>?_];let#[b1,us2,q1,m1,m2]:=zS.k (zf.ext x1 d d1) x2 hk.1;cases q1;let#[b2,ws2,q2,m3,m4]:=zS.k (zf.ext x1 e d2) x2 hk.2;cases q2;have l1:=m2.length;have l2:=m4.length;exact#[λ dd hd=>?_,λ hl=>#[us2,ws2,m1,m3,?_]]
 .rw[List.getElem?_zipWith] at hd;split at hd
  .rename_i dx dy hx hy;cases hd;let#[x,HL,rx]:=m2.get hx;let#[y,hy',ry]:=m4.get hy;exact#[#[us2,ws2,x,y,m1,m3,HL,hy'],λ v H' q=>?_];let#[pp,x',y',rfl,hp,rfl,f1,f2]:=q;have ex:x'=x:=by have:=f1 _ m1;rw[HL] at this;show (Ba this).symm
   have ey:y'=y:=by have:=f2 _ m3;rw[hy'] at this;show (Ba this).symm
   subst ex ey;exact#[.new hp _,x2.new hp,?_];simp![zf];show#[pp,_,rfl,zX.of yx,zm.ext (.new hp _) _ (.cons rx (.cons ry .nil))]
  .cases hd
 .have G3:(List.zipWith (λ x y=>D.tup [x,y]) xs ys).length<=i:=hl;rw[List.length_zipWith] at G3;lia
@[simp] def iO:List T->Option (List T)
 | [x,y]=>(xU x).bind λ xs=>(xU y).map λ ys=>List.zipWith (λ a b=>T.tup [a,b]) xs ys
 | _=>none
theorem cZ {S:SS}:∀ {ts us:List T}{ds es:List D},zi S ts ds->zi S us es->zi S (List.zipWith (λ a b=>T.tup [a,b]) ts us) (List.zipWith (λ x y=>D.tup [x,y]) ds es)
 | [],us,ds,es,h,h'=>by simp![zi] at h;subst h;exists zi.nil
 | t::ts,[],ds,es,h,h'=>by simp![zi] at h';subst h';exists zi.nil
 | t::ts,u::us,ds,es,h,h'=>by
  simp![zi] at h h';let#[c,cs,rfl,h1,h2]:=h;let#[c',cs',rfl,h3,h4]:=h';show zi.cons (rP (zi.cons h1 (zi.cons h3 zi.nil))) (cZ h2 h4)
def zS.sx {S S':SS}{d:D}{ds:List D}(h:zS d S=↑ds) (s:Sx S S'):zS d S'=↑ds:=by
 unfold zS at h ⊢;split at h
 .show h
 .show h
 .split at h
  .rename_i q;cases h;rw[s _ _ q]
  .cases h
 .cases h
def PK {g:Ev->Option (List T)}(h:pG g tA):qx false (xc iO g) (Zn tA):=λ S Z δ ρ ts Q hE e hq=>by
 let#[ys,e1,e2]:=An.mp e;exact h S Z δ ρ ys _ hE e1 λ ds S1 s1 r1=>?_;unfold iO at e2;split at e2
 .let#[xs,e3,e4]:=An.mp e2;let#[zs,e5,rfl]:=AE.mp e4;let#[d,d',rfl,h1,h2]:=c7 r1;let#[es,g1,g2]:=h1.seq e3;let#[Gg,g3,g4]:=h2.seq e5;show#[d,d',es,Gg,rfl,g1,g3,hq _ S1 s1 (cZ g2 g4) λ S'' s=>#[zS.sx g1 s,zS.sx g3 s]]
 .cases e2
theorem zS.zx {S:SS}{Z:Addr->Prop}{y:T}{d:D}{ts:List T}(h:Sn (zx S Z) y d) (e:xU y=↑ts):∃ ds,zS d (zx S Z)=↑ds/\zi (zx S Z) ts ds:=by
 cases y with
 | tup us=>cases e;simp![Sn] at h;let#[ds,rfl,h2]:=h;show#[ds,rfl,h2]
 | lst us=>
  cases e;simp![Sn] at h;obtain⟨ds,⟨rfl,_⟩ | ⟨a,rfl,h1⟩,h2⟩:=h
  .show#[ds,rfl,h2]
  .show#[ds,by unfold zS;dsimp only;rw[h1],h2]
 | _=>cases e
end
end L5
namespace HT
open PySem PyProof.Rows
section
variable {prog:Program}{w:World}{A:Around}{E:Ai}{s:Shared}
def KD {t sl:Addr}{items:Az}{vl vu:Value}{lo hi:Option Int}{Q:Ai}(ht:IsTup s.heap t items) (hs:s.heap.IsSliceOf sl vl vu .none) (pl:IsPart vl lo) (pu:IsPart vu hi)
  (hw:zH items.size 0 lo=0/\zH items.size items.size hi=items.size) (h:Q (.ref t) s):wpAny (model prog w) A (getItem (.ref t) (.ref sl)) Q E s:=by
 have hT:=ht.typeIs;let#[os,e1,e2,e3]:=id hs;have hS:s.TypeIs (.ref sl) "slice":=#[os,e1,e2];unfold getItem
 try with_reducible exact za6 ?_
 first | exact gV (Ad ?_) | skip
 exact gV (wpAny_sequenceKey hT () (gV (zaB (name:=Str.ofString "__getitem__") hT PyProof.Rows.slot_tuple_getitem (za7 PyProof.Rows.slot_tuple_getitem hT entry_tuple_getitem ?_ (args_tuple_getitem _ _)))));exact gV (m:=Builtin.Tuple.tupleItemsOf (.ref t)) (tupleItemsOf_ ht (gV (zaE hS ?_)));rw[if_pos ()];exact gV (bf hs pl pu ?_);have yes:(((zH items.size 0 lo:Nat):Int) == 0&&(1:Int) == 1&&(zH items.size items.size hi-zH items.size 0 lo) == items.size)=true:=by rw[hw.1,hw.2];simp
 change wpAny _ _ (if (((zH items.size 0 lo:Nat):Int) == 0&&(1:Int) == 1&&(zH items.size items.size hi-zH items.size 0 lo) == items.size)=true then _ else _) _ _ s;rw[if_pos yes];exact gV (m:=Builtin.Tuple.tupleIsExact (.ref t)) (gV (zaE hT (Ad ?_)));rw[if_pos ()]
 first
  | show gV (wpAny_rule (Ad #[_,rfl,Ad h]))
  | show gV (wpAny_rule (gV (Ad (Ad #[_,rfl,Ad h]))))
end
end HT
namespace L2
open PySem PySem.Spec PyProof.Rows
section
variable {X:Cx}
def bB (K:Ac):V->Option Int->Option Int->Hp->VK->Prop:=λ x lo hi H Q=>∃ a xs,x=.ref a/\zX K H a xs/\(HT.zH xs.length 0 lo=0/\HT.zH xs.length xs.length hi=xs.length)/\Q (.ref a) H
theorem Ux:qu X (bB X.K):=by
 intro EY s B H x v vl vu lo hi sl Q I rx hs pl pu h;let#[a,xs,rfl,hx,hw,q]:=h;cases rx;let#[Aa,r,ht,hz]:=I.tuple hx;have hlen:Aa.toArray.size=xs.length:=by rw[AB];show r.length.symm
 show#["tuple",_,PyProof.Rows.slot_tuple_getitem.lookup,ht.typeIs,HT.KD ht hs pl pu (by rw[hlen];show hw) #[.ref a,H,I,rfl,q]]
end
end L2
namespace L5
open PySem PySem.Spec L2 L3
open PyProof.Rows hiding St
def tm {α:Type}(xs:List α) (lo hi:Option Int):List α:=(xs.drop (HT.zH xs.length 0 lo)).take (HT.zH xs.length xs.length hi-HT.zH xs.length 0 lo)
section
variable {X:Cx}{K:Ac}{e:Expr}{lo hi:Option Expr}{te:zv}{tl th:Option zv}{pos p2:Pos}
def tj (t:Option zv):yg->SS->(Option Int->SS->Prop)->Prop:=fun δ S Q=>match t with
 | none=>Q none S
 | some t=>t δ S λ d S1=>match d with
  | .int i=>Q ↑i S1
  | _=>False
def X0 (t:Option zv):Prop:=∀ u,t=↑u->yq u
def tj.mo (h:X0 tl):∀ δ S (Q Q':Option Int->SS->Prop),(∀ d S',Q d S'->Q' d S')->tj tl δ S Q->tj tl δ S Q':=fun δ S Q Q' hq z=>by
 cases tl with
 | none=>show hq _ _ z
 | some t=>show h t rfl δ S _ _ (λ d S1 z=>by cases d <;> first | show hq _ _ z | show z) z
def Vv (K:Ac) (t:Option zv):TO:=fun B H Q=>∃ δ S,yL K H δ B/\zQ K H S/\tj t δ S λ o S1=>∀ H1,Ext H H1->zQ K H1 S1->Q o H1
structure il (X:Cx) (e:Option Expr) (t:Option zv):Prop where
 mo:X0 t
 po:PO X e (Vv X.K t)
def R0:il X none none:=#[nofun,λ EY s B H Q I h=>by
 let#[δ,S,r1,r2,z]:=h;show T4 EY s B H Q I (z H (.refl H) r2)]
def Rz (h:PD X e te):il X ↑e ↑te:=#[λ u q=>by cases q;show h.mo,λ EY s B H Q I hu=>by
 exact T3 h.pe EY s B H Q I ?_;let#[δ,S,r1,r2,z]:=hu;exact zN.go h.mo r1 r2 z λ d S1 v H1 h1 q1 e1 p1=>?_;cases d with
 | int i=>simp![zf] at q1;show#[i,q1,h1 H1 e1 p1]
 | zp=>show h1.elim
 | bl _=>show h1.elim
 | str _=>show h1.elim
 | err _ _ _=>show h1.elim
 | tup _=>show h1.elim
 | xV _=>show h1.elim
 | ref _=>show h1.elim]
def uY (d:D) (lo hi:Option Int) (S:SS) (Q:DK):Prop:=match d with
 | .tup ds=>Q (.tup (tm ds lo hi)) S
 | d=>∃ ds,zS d S=↑ds/\∀ p,S p=none->Q (.ref p) (ups S p (.lst (tm ds lo hi)))
def uY.mo {d:D}{lo hi:Option Int}{S:SS}{Q Q':DK}(hq:∀ d S',Q d S'->Q' d S') (h:uY d lo hi S Q):uY d lo hi S Q':=by
 unfold uY at h ⊢;split at h
 .show hq _ _ h
 .let#[ds,h1,h2]:=h;show#[ds,h1,λ p hp=>hq _ _ (h2 p hp)]
def zm.cut {H:Hp}{ds:List D}{xs:List V}(h:zm K H ds xs) (lo hi:Option Int):zm K H (tm ds lo hi) (sd xs lo hi):=by
 have hd:∀ {ds:List D}{xs:List V}(n:Nat),zm K H ds xs->zm K H (ds.drop n) (xs.drop n):=by
  intro ds
  induction ds with
  | nil=>intro xs n h;simp![zm] at h;subst h;exists zm.nil
  | cons d ds ih=>
   intro xs n h;simp![zm] at h;let#[y,ys,rfl,h1,h2]:=h;cases n with
   | zero=>show .cons h1 h2
   | succ n=>show ih n h2
 have ht:∀ {ds:List D}{xs:List V}(n:Nat),zm K H ds xs->zm K H (ds.take n) (xs.take n):=by
  intro ds
  induction ds with
  | nil=>intro xs n h;simp![zm] at h;subst h;exists zm.nil
  | cons d ds ih=>
   intro xs n h;simp![zm] at h;let#[y,ys,rfl,h1,h2]:=h;cases n with
   | zero=>show .nil
   | succ n=>show .cons h1 (ih n h2)
 unfold tm sd;rw[h.length];show ht _ (hd _ h)
def KG {xs:List V}{lo hi:Option Int}(h:HT.zH xs.length 0 lo=0/\HT.zH xs.length xs.length hi=xs.length):sd xs lo hi=xs:=by
 unfold sd;rw[h.1,h.2];simp
abbrev UU (K:Ac):V->Option Int->Option Int->Hp->VK->Prop:=λ x lo hi H Q=>bD K x lo hi H Q\/(bC K x lo hi H Q\/bB K x lo hi H Q)
theorem uY.fits {d:D}{v:V}{lo hi:Option Int}{H:Hp}{S:SS}{Q:VK}(h1:zf K H d v) (h2:zQ K H S) (h:uY d lo hi S (wj K H Q)):UU K v lo hi H Q:=by
 unfold uY at h;split at h
 .simp![zf] at h1;let#[a,xs,rfl,g1,g2]:=h1;by_cases hw:HT.zH xs.length 0 lo=0/\HT.zH xs.length xs.length hi=xs.length
  .exact .inr (.inr #[a,xs,rfl,g1,hw,h _ H ?_ (.refl H) h2]);simp![zf];exact#[a,xs,rfl,g1,?_];have:=zm.cut g2 lo hi;rw[KG hw] at this;show this
  .exact .inr (.inl #[a,xs,rfl,g1,hw,λ p hp=>h _ _ ?_ (.new hp _) (h2.new hp)]);simp![zf];show#[p,_,rfl,zX.of yx,zm.ext (.new hp _) _ (zm.cut g2 lo hi)]
 .rename_i hn;let#[ds,e,h]:=h;let#[a,xs,rfl,g1,g2]:=rQ h1 h2 e (λ ts z=>hn ts z);show .inl #[a,xs,rfl,g1,λ p hp=>h p (h2.none hp) _ _ (by simp![zf]) (.new hp _) (h2.ups (.new hp _) #[_,yx,zm.ext (.new hp _) _ (zm.cut g2 lo hi)])]
def Yr (te:zv) (tl th:Option zv):zv:=fun δ S Q=>te δ S λ x S1=>tj tl δ S1 λ l S2=>tj th δ S2 λ u S3=>uY x l u S3 Q
def RQ (he:PD X e te) (hl:il X lo tl) (hh:il X hi th):PD X (.Subscript e (.Slice lo hi none p2) pos) (Yr te tl th):=by
 exact#[fun δ S Q Q' hq z=>he.mo δ S _ _ (λ x S1 z=>tj.mo hl.mo δ S1 _ _ (λ l S2 z=>tj.mo hh.mo δ S2 _ _ (λ u S3 z=>uY.mo hq z) z) z) z,
  PE.imp (Sj (Uz.or (Uy.or Ux)) he.pe hl.po hh.po) fun B H Q hu=>?_]
 let#[δ,S,r1,r2,z]:=hu;exact zN.go he.mo r1 r2 z λ x S1 v H1 h1 q1 e1 p1=>?_;exact#[δ,S1,r1.ext e1,p1,tj.mo hl.mo δ S1 _ _ (λ l S2 h2 H2 e2 p2=>?_) h1];exact#[δ,S2,(r1.ext e1).ext e2,p2,tj.mo hh.mo δ S2 _ _ (λ u S3 h3 H3 e3 p3=>?_) h2];show uY.fits (zf.ext (e2.trans e3) x q1) p3 (uY.mo (λ d S' z=>z.ext ((e1.trans e2).trans e3)) h3)
@[simp] def eS:Option (Ev->Option T)->Ev->Option (Option Int)
 | none,_=>↑none
 | some f,ρ=>(f ρ).bind λ x=>match x with
  | .int i=>↑↑i
  | _=>none
def ix (f:Option (Ev->Option T)) (t:Option zv):Prop:=∀ S Z δ ρ y Q,ER S Z δ ρ->eS f ρ=↑y->(∀ S',Sx S S'->Q y S')->tj t δ S Q
def Od:ix none none:=λ S Z δ ρ y Q hE e hq=>by cases e;show hq S (.refl S)
def Oc {f:Ae}(h:y6 f te):ix ↑f ↑te:=λ S Z δ ρ y Q hE e hq=>by
 let#[x,e1,e2]:=An.mp e;exact h S Z δ ρ x _ hE e1 λ d S1 s1 r1=>?_;split at e2
 .cases e2;cases Vw.int r1;show hq S1 s1
 .cases e2
@[simp] def Y6 (lo hi:Option Int):T->Option T
 | .tup ts=>↑(.tup (tm ts lo hi))
 | .lst ts=>↑(.lst (tm ts lo hi))
 | _=>none
@[simp] def bg (f:Ae) (lo hi:Option (Ev->Option T)):Ae:=fun ρ=>(f ρ).bind λ x=>(eS lo ρ).bind λ l=>(eS hi ρ).bind λ u=>Y6 l u x
def zi.cut {S:SS}{ts:List T}{ds:List D}(h:zi S ts ds) (lo hi:Option Int):zi S (tm ts lo hi) (tm ds lo hi):=by
 unfold tm;rw[h.len];show zi.take' _ (zi.drop' _ h)
def Oz {f:Ae}{l u:Option (Ev->Option T)}(h:y6 f te) (hl:ix l tl) (hu:ix u th):xG (bg f l u) (Yr te tl th):=λ S Z δ ρ y Q hE e hq=>by
 let#[x,e1,e]:=An.mp e;let#[l',e2,e]:=An.mp e;let#[u',e3,e]:=An.mp e;exact h S Z δ ρ x _ hE e1 λ d S1 s1 r1=>?_;exact hl S1 Z δ ρ l' _ (hE.grow s1) e2 λ S2 s2=>?_;exact hu S2 Z δ ρ u' _ (hE.grow (s1.trans s2)) e3 λ S3 s3=>?_;have r3:Vw S3 Z x d:=Vw.grow r1 (s2.trans s3);have hz:=(hE.grow ((s1.trans s2).trans s3)).zd;unfold Y6 at e;split at e
 .cases e;let#[ds,rfl,h2]:=r3.tup;show hq _ S3 ((s1.trans s2).trans s3) (Cl.of (λ _=>nofun) (rP (zi.cut h2 _ _)))
 .cases e;let#[ds,h1,h2]:=r3.seq rfl;have key:∃ ds,zS d S3=↑ds/\∀ p,S3 p=none->Q (.ref p) (ups S3 p (.lst (tm ds l' u'))):=#[ds,h1,λ p hp=>hq _ _ (((s1.trans s2).trans s3).trans (.new hp _)) (Cl.cl ((s1.trans s2).trans s3) (sR hz hp (zi.cut h2 _ _)))];obtain⟨_,q | ⟨a,q,_⟩,_⟩:=r3.lst
  .subst q;show key
  .subst q;show key
 .cases e
end
end L5
namespace TM
open PySem PyProof.Rows
def noFill:fillsNumberSlot (.type "tuple") "mul"=pure false:=
 PySem.fillsNumberSlot_seq (id:="tuple.__mul__") (r:=↑(.builtin "tuple.__rmul__")) F.slot_tuple_mul.lookup (AL) F.slot_tuple_rmul.lookup (AL)
def rep:seqRepeat? (.type "tuple")=pure ↑(.builtin "tuple.__mul__"):=by
 have a:=PySem.seqSlot_of (T:="tuple") (name:="__mul__") (id:="tuple.__mul__") F.slot_tuple_mul.lookup (AL);have b:=PySem.seqSlot_of (T:="tuple") (name:="__rmul__") (id:="tuple.__rmul__") F.slot_tuple_rmul.lookup (AL);unfold seqRepeat?;rw[a,b];rfl
def declines (i:Int) (t:Tok) (l:Addr) (items:Az) (n:Nat) (dd:Option Addr) (sl:Array (Option Value)):
  Meets (Builtin.«int.__rmul__» #[[.int i t,.ref l],[]]) (λ _ R s=>s.heap.get? l=↑{ cls:=.type "tuple",dict:=dd,data:=.seq items n,slots:=sl }/\R (.ok (.ret Value.notImplemented)) s):=
 .of_wp λ prog w A R s h=>by
  let#[hp,g,d,tk,os]:=s;let#[hl,h]:=h
  wp_walk
  show#[_,rfl,h]
theorem fZ {α:Type}(xs:List α):∀ (m:Nat) (acc:Array α),(List.replicate m xs.toArray).foldl (·++·) acc=acc++(List.replicate m xs).flatten.toArray
 | 0,acc=>#[]
 | m+1,acc=>by
  rw[BU,Dv,fZ xs m,BU,Cr,Array.append_assoc];simp
def NY (k:Int) (t:Tok) (l:Addr) (items:Az) (n:Nat) (dd:Option Addr) (sl:Array (Option Value)) (h1:¬ (decide (k < -(2 ^ 63))||decide (k≥2 ^ 63))=true) (h2:¬ (items.isEmpty||k == 1)=true) (h3:¬ (decide (k<=0)||items.isEmpty)=true)
  (h4:¬ (items.size*k>(2 ^ 63-1)/8)) (h5:¬ Builtin.Tuple.tupleTooMany (items.size*k)=true) (h6:((List.replicate k.toNat items).foldl (·++·) [].toArray).size<=sizeLine):
  Meets (Builtin.«tuple.__mul__» #[[.ref l,.int k t],[]]) (λ _ R s=>s.heap.get? l=↑{ cls:=.type "tuple",dict:=dd,data:=.seq items n,slots:=sl }/\
   R (.ok (.ret (.ref s.heap.objs.size))) { s with heap:=s.heap.push { cls:=.type "tuple",data:=.seq ((List.replicate k.toNat items).foldl (·++·) [].toArray) } }):=
 .of_wp λ prog w A R s h=>by
  let#[hp,g,d,tk,os]:=s;let#[hl,h]:=h;have e0:IsTup (Shared.heap #[hp,g,d,tk,os]) l items:=#[_,hl,rfl,n,rfl]
  wp_walk
  rw[if_neg h1];exact gV (m:=Builtin.Tuple.tupleItemsOf (.ref l)) (tupleItemsOf_ e0 ?_);dsimp only;rw[if_neg h2,if_neg h3,if_neg h4,if_neg h5];show gV (m:=Builtin.Tuple.tupleExact _) (za8 (Ad #[_,rfl,h]) h6)
def N_ (t:Tok) (l:Addr) (items:Az) (n:Nat) (dd:Option Addr) (sl:Array (Option Value)):
  Meets (Builtin.«tuple.__mul__» #[[.ref l,.int 1 t],[]]) (λ _ R s=>s.heap.get? l=↑{ cls:=.type "tuple",dict:=dd,data:=.seq items n,slots:=sl }/\R (.ok (.ret (.ref l))) s):=
 .of_wp λ prog w A R s h=>by
  let#[hp,g,d,tk,os]:=s;let#[hl,h]:=h;have c:(items.isEmpty||(1:Int) == 1)=true:=#[]
  wp_walk
  show#[_,rfl,h]
section
variable {prog:Program}{w:World}{A:Around}{E:Ai}{s:Shared}
def times {l:Addr}{Aa:Ah}{k:Int}{t:Tok}{Q:Ai}(ht:IsTup s.heap l Aa.toArray) (Av:Aa≠[]) (h0:1<=k) (hz:Aa.length*k.toNat<=sizeLine)
  (one:k=1->Q (.ref l) s) (more:k≠1->Q (.ref s.heap.objs.size) { s with heap:=s.heap.push { cls:=.type "tuple",data:=.seq (List.replicate k.toNat Aa).flatten.toArray } }):
  wpAny (model prog w) A (binaryOp .Mult (.ref l) (.int k t)) Q E s:=by
 have hT:=ht.typeIs;let#[#[cls,dd,data,sl],ho,hc,n,hd]:=id ht;simp only at hc hd;subst hc hd;exact wpAny_binaryOp_repeat_ref (T:="tuple") (U:="int") () hT (λ s'=>typeIs_int s' k t) noFill F.fills_int_mul F.slot_int_rmul rep F.slot_int_index.lookup
  (call_meets F.slot_int_rmul (typeIs_int s k t) F.entry_int_rmul (F.args_int_rmul_2 _ _) (declines k t l Aa.toArray n dd sl) #[ho,rfl,hT,?_])
 have hlen:0<Aa.length:=D3.mpr Av;have DV:Aa.toArray.isEmpty=false:=by cases Aa with
  | nil=>show absurd rfl Av
  | cons a r=>rfl
 by_cases h1:k=1
 .subst h1;show call_meets F.slot_tuple_mul hT F.entry_tuple_mul (F.args_tuple_mul_2 _ _) (N_ t l Aa.toArray n dd sl) #[ho,one rfl]
 .have hks:k.toNat<=sizeLine:=AY (Nat.le_mul_of_pos_left _ hlen) hz;have hl:sizeLine=16777216:=rfl;have hk2:k<=16777216:=⋯;have H_:((Aa.toArray.size:Nat):Int)*k=((Aa.length*k.toNat:Nat):Int):=by
   rw[AB,Int.natCast_mul,DM ⋯]
  have hf:(List.replicate k.toNat Aa.toArray).foldl (·++·) [].toArray=(List.replicate k.toNat Aa).flatten.toArray:=by rw[fZ];simp
  have EM:(List.replicate k.toNat Aa).flatten.length=k.toNat*Aa.length:=#[];exact call_meets F.slot_tuple_mul hT F.entry_tuple_mul (F.args_tuple_mul_2 _ _) (NY k t l Aa.toArray n dd sl ?_ ?_ ?_ ?_ ?_ ?_) #[ho,?_]
  .simp![D2,decide_eq_true_eq,not_or];show#[⋯,⋯]
  .rw[DV];exists h1
  .rw[DV];simp;lia
  .rw[H_];lia
  .rw[H_];intro q;unfold Builtin.Tuple.tupleTooMany at q;have:=of_decide_eq_true q;lia
  .rw[hf,AB,EM,DB];show hz
  .rw[hf];show more h1
end
end TM
namespace L2
open PySem PySem.Spec PyProof.Rows
def gI (K:Ac):R2:=λ x y H Q=>∃ a k xs,x=.ref a/\y=.int k/\zX K H a xs/\xs≠[]/\1<=k/\xs.length*k.toNat<=sizeLine/\(k=1->Q (.ref a) H)/\(k≠1->∀ p,H p=none->Q (.ref p) (upd H p (.tup (List.replicate k.toNat xs).flatten)))
theorem QN {X:Cx}:yp X (binaryOp .Mult) (gI X.K):=by
 intro EY s B H x y v u Q I rx ry h;let#[a,k,xs,rfl,rfl,hx,Av,h1,hz,q1,q2]:=h;cases rx;let#[t,rfl]:=ry;let#[Aa,r,ht,_]:=I.tuple hx;have hl:=r.length;exact TM.times ht (λ z=>Av (r.ma.mp z)) h1 (by rw[<- hl];show hz) (λ e=>#[.ref a,H,I,rfl,q1 e]) λ e=>?_;have hlen:(List.replicate k.toNat xs).flatten.length<=sizeLine:=by
  have:(List.replicate k.toNat xs).flatten.length=k.toNat*xs.length:=#[];rw[this,DB];show hz
 show#[.ref _,_,I.laid (t':=s.toks) (o:=.tup (List.replicate k.toNat xs).flatten) (λ b ob q=>za1 _ q) (Aj _) #[#[hlen,.new _],_,r.rep k.toNat,IsTup.new _ _],rfl,q2 e _ (I.zw.fresh (Aj _))]
end L2
namespace L5
open PySem PySem.Spec L2 L3
open PyProof.Rows hiding St
section
variable {K:Ac}{a:Expr}
def tV:yM:=λ x y S Q=>match x,y with
 | .int i,.int j=>vS i j/\Q (.int (i*j)) S
 | .tup ds,.int k=>(ds≠[]/\1<=k/\ds.length*k.toNat<=sizeLine)/\Q (.tup (List.replicate k.toNat ds).flatten) S
 | _,_=>False
def fj:T->T->Option T
 | .int i,.int j=>if vS i j then ↑(.int (i*j)) else none
 | .tup ts,.int k=>if ts≠[]/\1<=k/\ts.length*k.toNat<=sizeLine then ↑(.tup (List.replicate k.toNat ts).flatten) else none
 | _,_=>none
def tV.mo:xT tV:=λ x y S Q Q' hq h=>by
 unfold tV at h ⊢;split at h
 .show#[h.1,hq _ _ h.2]
 .show#[h.1,hq _ _ h.2]
 .show h.elim
theorem zm.rep {H:Hp}{ds:List D}{xs:List V}(h:zm K H ds xs):∀ n:Nat,zm K H (List.replicate n ds).flatten (List.replicate n xs).flatten
 | 0=>.nil
 | n+1=>by
  rw[BU,BU,Cr,Cr];show h.append (zm.rep h n)
def tV.fits:x9 K tV (λ x y H Q=>rI vS (λ i j=>.int (i*j)) x y H Q\/gI K x y H Q):=λ x y d e H S Q h1 h2 h3 h=>by
 unfold tV at h;split at h
 .simp![zf] at h1 h2;show .inl #[_,_,h1,h2,h.1,h.2 _ H (by simp![zf]) (.refl H) h3]
 .rename_i ds k;let#[#[c1,c2,c3],h]:=h;have h1':=h1;simp![zf] at h1 h2;let#[a,xs,rfl,g1,g2]:=h1;have hl:=g2.length;exact .inr #[a,k,xs,rfl,h2,g1,λ z=>c1 (by subst z;cases ds with | nil=>rfl | cons _ _=>simp at hl),c2,by rw[<- hl];show c3,λ e=>?_,λ e p hp=>?_]
  .subst e;exact h _ H ?_ (.refl H) h3;have:(List.replicate (1:Int).toNat ds).flatten=ds:=#[];rw[this];show h1'
  .exact h _ _ ?_ (.new hp _) (h3.new hp);simp![zf];show#[p,_,rfl,zX.of yx,zm.ext (.new hp _) _ (zm.rep g2 _)]
 .show h.elim
theorem zi.rep {S:SS}{ts:List T}{ds:List D}(h:zi S ts ds):∀ n:Nat,zi S (List.replicate n ts).flatten (List.replicate n ds).flatten
 | 0=>.nil
 | n+1=>by
  rw[BU,BU,Cr,Cr];show h.append (zi.rep h n)
def ZF:Good2 zC fj tV:=λ S Z x y z d e Q hz hx hy ef hq=>by
 unfold fj at ef;split at ef
 .split at ef
  .rename_i hc;cases ef;cases hx.int;cases hy.int;show#[hc,hq _ S (.refl S) (Cl.of (λ _=>nofun) wL)]
  .cases ef
 .split at ef
  .rename_i hc;cases ef;let#[ds,rfl,h2]:=hx.tup;cases hy.int;have hl:=h2.len;show#[#[λ q=>hc.1 (by subst q;exists hl.symm),hc.2.1,by rw[hl];show hc.2.2],hq _ S (.refl S) (Cl.of (λ _=>nofun) (rP (zi.rep h2 _)))]
  .cases ef
 .cases ef
end
end L5
namespace L4
open PySem PyProof.Rows
section
variable {prog:Program}{w:World}{A:Around}{E:Ai}{s:Shared}
def KR {l:Addr}{vs:Ah}{Q:List Value->Shared->Prop}(hl:IsTup s.heap l vs.toArray) (hz:vs.length<=sizeLine)
  (h:Q vs { s with heap:=(s.heap.push (seqObj "list" [].toArray 0)).update s.heap.objs.size (Obj.mapSeq (·++vs.toArray)) }):wpAny (model prog w) A (collect (.ref l)) Q E s:=by
 let#[o,ho,hc,n,hd]:=id hl;have new:(s.heap.push (seqObj "list" [].toArray 0)).get? s.heap.objs.size=↑(seqObj "list" [].toArray 0):=AK _ rfl;have Gb:(s.heap.push (seqObj "list" [].toArray 0)).get? l=↑o:=za1 _ ho;unfold collect;exact gV (wpAny_runValue (codeAny_builtin entry_proto_collect' (gV (m:=newList []) (wpAny_newList (Ad #[Code.quiet_builtin _ (AL),codeAny_builtin entry_list_iadd' ?_])))));change wpAny _ _ (Builtin.List.listExtendWith (.ref s.heap.objs.size) (.ref l) (.ref s.heap.objs.size)) _ _ { s with heap:=s.heap.push (seqObj "list" [].toArray 0) };unfold Builtin.List.listExtendWith;exact gV (zaE (T:="tuple") #[o,Gb,hc] ?_);rw[if_pos (by rw[show (Value.type "tuple" == Value.type "tuple")=true from rfl];simp)];exact gV (listItems_at Gb hd (gV (listItems_at (xs:=[].toArray) (n:=0) new rfl ?_)));rw[if_neg #[]];exact gV (listUpdate_at (xs:=[].toArray) (n:=0) new rfl (Ad ?_) (AW _) (by change ([].toArray++vs.toArray).size<=sizeLine+1;simp![Array.size_append,AB,CP];lia));exact gV (m:=load s.heap.objs.size) (wpAny_load (get?_update_seq new _) ?_);change wpAny _ _ (pure (([].toArray:Az)++vs.toArray).toList) Q E _;have e:(([].toArray:Az)++vs.toArray).toList=vs:=#[];rw[e];show Ad h
end
section
open L2 PySem.Spec
variable {X:Cx}
def bP {s:Shared}{vs:Ah}:∀ b o,¬ False->s.heap.get? b=↑o->((s.heap.push (seqObj "list" [].toArray 0)).update s.heap.objs.size (Obj.mapSeq (·++vs.toArray))).get? b=↑o:=λ b o _ q=>by
 rw[zaN _ _ _ _ (AI (Ax q))];show za1 _ q
theorem Jh:yI X (.builtin "sorted") (λ xs H Q=>∃ p ys,∃ rows:List (List Int),xs=[.ref p]/\(zT X.K H p ys\/zX X.K H p ys)/\qw X.K H ys rows/\rows.length<64/\lG (ys.zip rows) H Q):=by
 intro EY s B H xs us Q I r h;let#[p,ys,rows,rfl,hq,hr,GF,q]:=h;let#[u,rfl,ru]:=vals1 r;cases ru;have hl:(ys.zip rows).length<64:=by rw[List.length_zip];lia
 have sz:∀ vs:List Value,s.heap.objs.size<=((s.heap.push (seqObj "list" [].toArray 0)).update s.heap.objs.size (Obj.mapSeq (·++vs.toArray))).objs.size:=λ vs=>by rw[Heap.size_update,size_push'];show Nat.le_succ _
 rcases hq with hq | hq
 .let#[Aa,rv,pl,hz]:=I.list hq;show gm I (λ Q' h=>collect_list pl.isList (h _ s.toks bP (sz Aa)) (by rw[<- rv.length];show hz)) (VR.of rv hr) hl q
 .let#[Aa,rv,pl,hz]:=I.tuple hq;show gm I (λ Q' h=>KR pl (by rw[<- rv.length];show hz) (h _ s.toks bP (sz Aa))) (VR.of rv hr) hl q
end
end L4
namespace L5
open PySem PySem.Spec L2 L3
open PyProof.Rows hiding St
section
variable {X:Cx}{K:Ac}{e:Expr}{es:List Expr}{tA:yk}{pos p:Pos}
def qd:xE:=λ ds S Q=>∃ d,∃ rows:List (List Int),ds=[d]/\zS d S=↑(rows.map vG)/\rows.length<64/\(∀ r∈rows,r≠[])/\∀ l,S l=none->Q (.ref l) (ups S l (.lst ((L4.xI rows).map vG)))
def pY:Al
 | [y]=>(xU y).bind λ ts=>(vF ts).bind λ rs=>if rs.length<64/\∀ r∈rs,r≠[] then ↑(.lst ((L4.xI rs).map z_)) else none
 | _=>none
def Lx:vQ zC pY qd:=λ S Z ys z ds Q hz hv e hq=>by
 unfold pY at e;split at e
 .let#[d,rfl,h1]:=vT hv;let#[ts,e0,e]:=An.mp e;let#[rs,e1,e2]:=An.mp e;split at e2
  .rename_i hc;cases e2;cases gB e1;let#[es,h2,h3]:=h1.seq e0;cases pZ.mp h3;show#[d,rs,rfl,h2,hc.1,hc.2,λ l hl=>hq _ _ (.new hl _) (sR hz hl (pZ.mpr rfl))]
  .cases e2
 .cases e
def qd.mo:vO qd:=λ ds S Q Q' hq #[d,rows,h0,h1,h2,h3,h4]=>#[d,rows,h0,h1,h2,h3,λ l hl=>hq _ _ (h4 l hl)]
def yI.or {f:Value}{r r':List V->Hp->VK->Prop}(h:yI X f r) (h':yI X f r'):yI X f (λ xs H Q=>r xs H Q\/r' xs H Q):=λ EY s B H xs us Q I rv q=>
 q.elim (λ q=>h EY s B H xs us Q I rv q) λ q=>h' EY s B H xs us Q I rv q
def qd.fits:uP K qd (λ xs H Q=>∃ p ys,∃ rows:List (List Int),xs=[.ref p]/\(zT K H p ys\/zX K H p ys)/\L4.qw K H ys rows/\rows.length<64/\L4.lG (ys.zip rows) H Q):=λ xs ds H S Q h0 h2 h=>by
 let#[d,rows,rfl,e,GF,Av,h]:=h;let#[x,hx,h1]:=h0.one;subst hx;let#[a,ys,rfl,g1,g2]:=zS.sq h1 h2 e;have hl:=g2.length;rw[AA] at hl;exact#[_,ys,rows,rfl,g1,kH g2 Av,GF,λ l ps hf hp hs=>?_];have heq:=L4.cW (rows:=rows) (by have:=hp.map (·.2);rwa [List.map_snd_zip ⋯] at this) hs;have hx:Ext H (upd H l (.lst (ps.map (·.1)))):=.new hf _;exact h l (h2.none hf) _ _ (by simp![zf]) hx (h2.ups hx #[_,yx,?_]);rw[<- heq];show zm.ext hx _ (zm.kO λ q hq=>zm.ki g2 q (hp.mem_iff.mp hq))
def RP (hm:X.mg "sorted"=none) (ha:xh X (e::es) tA) (hg:Gl X "sorted") (he:AJ X e es) (Ao:AN X pos es):PD X (.Call (.Name "sorted" p) (e::es) [] pos) (xC qd tA):=
 uU (uT L4.Jh hg hm boot_sorted ha.pa () () he Ao) qd.mo qd.fits ha.mo
end
end L5
namespace L2
open PySem PySem.Spec PyProof.Rows
section
variable {X:Cx}
def uO (r:Addr) (j:Int):Heap->Prop:=λ h=>∃ t u v,IsRange h r 0 j 1 t u v
def Jo:yI X (.type "range") (λ xs H Q=>∃ j,xs=[.int j]/\∀ r,H r=none->Q (.ref r) (upd H r (.ext (uO r j)))):=by
 intro EY s B H xs us Q I r h;let#[j,rfl,q]:=h;let#[u,rfl,ru]:=vals1 r;let#[t,rfl]:=ru;exact call_range_1 #[.ref s.heap.objs.size,_,I.laid (o:=.ext (uO s.heap.objs.size j)) (λ b o e=>za1 _ e) (Aj _) ?_,rfl,q _ (I.zw.fresh (Aj _))];have here:uO s.heap.objs.size j (s.heap.push { cls:=.type "range",data:=.fields [.int 0 s.toks,.int j t,.int 1 (s.toks+1)].toArray }):=#[_,_,_,IsRange.new ..];exact#[here,#[_,AK _ rfl],λ h1 h2 S k=>?_];let#[a,b,c,e]:=S;show#[a,b,c,k _ e]
theorem Jt (hc:X.calm=true):yI X (.type "list") (λ xs H Q=>∃ r j,xs=[.ref r]/\H r=↑(.ext (uO r j))/\0<=j/\j<=16777216/\∀ l,H l=none->Q (.ref l) (upd H l (.lst ((List.range j.toNat).map λ(k:Nat)=>V.int (k:Int))))):=by
 intro EY s B H xs us Q I r h;let#[a,j,rfl,hr,h0,h1,q]:=h;let#[u,rfl,ru]:=vals1 r;cases ru;obtain⟨⟨t,u,v,hR⟩,-,-⟩:=(show yU X.prog X.w H s.heap a (.ext (uO a j)) from I.zw a _ hr)
 have hsz:Builtin.Range.rangeSize 0 j 1=((j.toNat:Nat):Int):=by rw[rangeSize_one];split <;> lia
 exact call_list_range (n:=j.toNat) (I.ok.hd hc) hR (small_one () () ⋯ ⋯) hsz ⋯ λ h' tk acc c k e hi=>?_;exact#[.ref s.heap.objs.size,_,I.laid (o:=.lst ((List.range j.toNat).map λ(k:Nat)=>V.int (k:Int))) k (Aj _) #[?_,acc.toList,c,?_,by exists e],rfl,q _ (I.zw.fresh (Aj _))]
 .have:sizeLine=16777216:=rfl;simp;lia
 .let#[hn,hi]:=hi;exact ST.Paired.mk (by simp[hn]) λ i a b ha hb=>?_;rw[AD] at ha;let#[k',hk,rfl]:=AE.mp ha;let#[hk1,hk2]:=AO.mp hk;simp at hk2;subst hk2;let#[w,hw]:=hi i b (by exists hb);subst hw;show#[w,#[]]
end
end L2
namespace L5
open PySem PySem.Spec L2 L3
open PyProof.Rows hiding St
section
variable {X:Cx}{K:Ac}{e:Expr}{tA:yk}{pos p Gv p2:Pos}
def rp:xE:=λ ds S Q=>∃ j:Int,ds=[.int j]/\0<=j/\j<=16777216/\∀ l,S l=none->Q (.ref l) (ups S l (.lst (vZ 0 j.toNat)))
def mq:Al
 | [.int j]=>if 0<=j/\j<=16777216 then ↑(.lst (rangeT 0 j.toNat)) else none
 | _=>none
def L8:vQ zC mq rp:=λ S Z ys z ds Q hz hv e hq=>by
 unfold mq at e;split at e
 .let#[d,rfl,h1]:=vT hv;split at e
  .rename_i hc;cases e;cases h1.int;show#[_,rfl,hc.1,hc.2,λ l hl=>hq _ _ (.new hl _) (sR hz hl (c_ _ _))]
  .cases e
 .cases e
def rp.mo:vO rp:=λ ds S Q Q' hq #[j,h0,h1,h2,h3]=>#[j,h0,h1,h2,λ l hl=>hq _ _ (h3 l hl)]
theorem UL {H:Hp}(n:Nat):zm K H (vZ 0 n) ((List.range n).map λ(k:Nat)=>V.int (k:Int)):=by
 unfold vZ
 induction List.range n with
 | nil=>show .nil
 | cons k l ih=>show .cons (by simp![zf];rw[BK]) ih
def rp.fits:uP K rp (λ xs H Q=>∃ j,xs=[.int j]/\∀ r,H r=none->∃ r' j',[V.ref r]=[.ref r']/\(upd H r (.ext (uO r j))) r'=↑(.ext (uO r' j'))/\0<=j'/\j'<=16777216/\
  ∀ l,(upd H r (.ext (uO r j))) l=none->Q (.ref l) (upd (upd H r (.ext (uO r j))) l (.lst ((List.range j'.toNat).map λ(k:Nat)=>V.int (k:Int))))):=λ xs ds H S Q h0 h2 h=>by
 let#[j,rfl,c1,c2,h]:=h;let#[x,hx,h1]:=h0.one;subst hx;simp![zf] at h1;subst h1;exact#[j,rfl,λ r hr=>#[r,j,rfl,yx,c1,c2,λ l hl=>?_]];have x1:Ext H (upd H r (.ext (uO r j))):=.new hr _;have CI:l≠r:=λ z=>by subst z;rw[yx] at hl;cases hl
 have hlH:H l=none:=by rw[yi CI] at hl;show hl
 have x2:Ext (upd H r (.ext (uO r j))) (upd (upd H r (.ext (uO r j))) l (.lst ((List.range j.toNat).map λ(k:Nat)=>V.int (k:Int)))):=.new hl _;show h l (h2.none hlH) _ _ (by simp![zf]) (x1.trans x2) ((h2.new hr).ups x2 #[_,yx,UL _])
def Qj (hm:X.mg "list"=none) (hm2:X.mg "range"=none) (ha:xh X [e] tA) (hc:X.calm=true) (hg:Gl X "list") (HB:Gl X "range")
  (he2:AJ X e [])
  (he:starEach [.Call (.Name "range" p2) [e] [] Gv] X.env=(false,eval (.Call (.Name "range" p2) [e] [] Gv) X.env)::starEach [] X.env) (Ao:AN X pos []) (hpl2:AN X Gv []):
  PD X (.Call (.Name "list" p) [.Call (.Name "range" p2) [e] [] Gv] [] pos) (xC rp tA):=by
 have h:=nV (p:=p) (Jt hc) hg hm PyProof.Rows.boot_list (qN (nV Jo HB hm2 boot_range ha.pa () () he2 hpl2) ox he) () () he Ao;show#[xC.mo rp.mo ha.mo,PE.imp h λ _ _ _ hu=>cJ rp.mo rp.fits ha.mo hu]
end
end L5
namespace ST
open PySem PySem.SetTable PySem.Spec PyProof.Rows L2
def Ld {us HP:Ah}(p:HP.Perm us):∀ {ms:List Int},IntsAre us ms->∃ GJ,IntsAre HP GJ/\GJ.Perm ms:=by
 induction p with
 | nil=>intro ms h;show#[ms,h,.refl _]
 | cons x _ ih=>
  intro ms h;cases h with
  | cons n t h=>
   let#[GJ,h1,h2]:=ih h;show#[n::GJ,.cons n t h1,h2.cons n]
 | swap x y l=>
  intro ms h;cases h with
  | cons n t h=>
   cases h with
   | cons m u h=>show#[m::n::_,.cons m u (.cons n t h),.swap _ _ _]
 | trans _ _ ih1 ih2=>
  intro ms h;let#[m1,h1,h2]:=ih2 h;let#[m2,h3,h4]:=ih1 h1;show#[m2,h3,h4.trans h2]
theorem pC.at {prog:Program}{w:World}{h:Heap}{a:Addr}{xs:List (Int×Tok)}(S:pC prog w h a xs (sZ w)):yR w a (xs.map λ e=>Value.int e.1 e.2) h:=by
 let#[#[es,ep,t,ho,he,T,h1,h2,h3],_]:=S;have hm:7<=t.mask/\t.mask<=127:=by rcases T.mask with e | e | e <;> lia
 have hlen:es.size=xs.length:=by have:=congrArg List.length he;exists this
 show#[es,ep,t,#[ho,fits_of (n:=xs.length) hlen T #[] ⋯,T.vf,h1,h2],by rw[he,A2];rfl]
theorem Z6:∀ xs:List (Int×Tok),IntsAre (xs.map λ e=>Value.int e.1 e.2) (xs.map (·.1))
 | []=>.nil
 | e::xs=>.cons e.1 e.2 (Z6 xs)
theorem c8:∀ {us:Ah}{ns:List Int},IntsAre us ns->Vals (ns.map V.int) us
 | _,_,.nil=>.nil
 | _,_,.cons n t h=>.cons #[t,rfl] (c8 h)
section
variable {X:Cx}
def Jl (hc:X.calm=true):yI X (.type "set") (λ xs H Q=>∃ p,∃ ns:List Int,xs=[.ref p]/\zT X.K H p (ns.map V.int)/\ns.length<64/\
  ∀ (l:Addr) (us:Ah) (ms:List Int),H l=none->IntsAre us ms->ms.Nodup->(∀ n,n∈ms↔n∈ns)->Q (.ref l) (upd H l (.ext (yR X.w l us)))):=by
 intro EY s B H xs us Q I r h;let#[p,ns,rfl,hq,GF,q]:=h;let#[u,rfl,ru]:=vals1 r;cases ru;let#[Aa,rv,pl,hz]:=I.list hq;have hl:=rv.length;rw[AA] at hl;have iA:IntsAre Aa ns:=intsAre_of rv;have nums:Nums Aa.toArray ns:=λ i v hv=>by
  have Hx:Aa[i]?=↑v:=by exists hv
  have hi:i<ns.length:=by rw[hl];show (AO.mp Hx).1
  let#[u,e1,t,e2]:=rv.get (i:=i) (x:=V.int ns[i]) (by simp[hi]);rw[Hx] at e1;cases e1;show#[ns[i],t,e2,by simp[hi]]
 have hh:X.A.handled=none:=I.ok.hd hc;exact Jm (A:=X.A) hh pl.isList nums (by rw[AB];lia) λ h' tk xs S U k=>?_;have kk:∀ b o,s.heap.get? b=↑o->h'.get? b=↑o:=λ b o e=>k b o (Ax e) e;have hSO:=S.at;exact#[.ref s.heap.objs.size,_,I.laid (t':=tk) (o:=.ext (yR X.w s.heap.objs.size (xs.map λ e=>Value.int e.1 e.2))) kk (Aj _) ?_,rfl,q _ _ (xs.map (·.1)) (I.zw.fresh (Aj _)) (Z6 xs) S.nd λ n=>#[λ hn=>?_,λ hn=>?_]]
 .let#[es,ep,t,St,e]:=id hSO;show#[hSO,#[_,St.get],λ h1 h2 S1 k=>S1.sN k]
 .let#[e,he,rfl]:=Aq.mp hn;let#[j,_,_,hj]:=U.own e he;show A9 hj
 .let#[j,hj]:=B_.mp hn;show U.all j n (by have:=(AO.mp hj).1;rw[AB];lia) hj
def Ji (hc:X.calm=true):yI X (.builtin "sorted") (λ xs H Q=>∃ l us,∃ ms:List Int,xs=[.ref l]/\H l=↑(.ext (yR X.w l us))/\IntsAre us ms/\ms.length<64/\
  ∀ (p:Addr) (ns:List Int),H p=none->ns.Perm ms->ns.Pairwise (·<=·)->Q (.ref p) (upd H p (.lst (ns.map V.int)))):=by
 intro EY s B H xs us0 Q I r h;let#[l,us,ms,rfl,hl,hm,GF,q]:=h;let#[u,rfl,ru]:=vals1 r;cases ru;obtain⟨⟨es,ep,t,S,eu⟩,-,-⟩:=(show yU X.prog X.w H s.heap l (.ext (yR X.w l us)) from I.zw l _ hl)
 have hlen:es.size=us.length:=by rw[<- eu];simp
 have EC:=hm.length;have hh:X.A.handled=none:=I.ok.hd hc;have hp:((comes X.w l es ep).toList.map (·.2)).Perm us:=by rw[<- eu];show (lu X.w l es ep).map _
 let#[GJ,i1,i2]:=Ld hp hm;have CJ:=hp.length_eq;have hl24:sizeLine=16777216:=rfl;exact L4.cV (N:=λ _=>False) (Out:=λ out=>∃ GI,IntsAre out.toList GI/\GI.Perm GJ/\GI.Pairwise (·<=·)) (λ Q' h=>Y9 (by show hh) S (by rw[hlen,EC];lia) Q' h) (by rw[CJ,EC];lia) (λ h2 s6 k=>L4.KO i1 h2 (by rw[CJ,EC];show GF)) (λ h1=>#[GJ,by simpa using i1,.refl _,?_]) λ out h' tk p ho hs HV k EX=>?_
 .have:GJ.length<2:=by rw[<- i1.length];show h1
  match GJ,this with
  | [],_=>show .nil
  | [_],_=>show D8 _ _
 .let#[ns,g1,g2,g3]:=ho;let#[e,he]:=EX;exact#[.ref p,_,I.laid (t':=tk) (o:=.lst (ns.map V.int)) (λ b o e=>k b o id e) HV ?_,rfl,q p ns (I.zw.fresh HV) (g2.trans i2) g3];show#[by rw[AA,g2.length_eq,i2.length_eq];lia,out.toList,e,c8 g1,by exists he]
end
end ST
namespace L5
open PySem PySem.Spec L2 L3
open PyProof.Rows hiding St
def insI (n:Int):List Int->List Int
 | []=>[n]
 | m::l=>if n<m then n::m::l else if n=m then m::l else m::insI n l
def vd:List Int->List Int
 | []=>[]
 | n::ns=>insI n (vd ns)
theorem fu {n k:Int}:∀ {l:List Int},k∈insI n l↔k=n\/k∈l
 | []=>by simp[insI]
 | m::l=>by
  unfold insI;split
  .simp
  .split
   .rename_i h;subst h;simp
   .rw[Am,fu,Am];constructor
    .rintro (h | h | h)
     .show .inr (.inl h)
     .show .inl h
     .show .inr (.inr h)
    .rintro (h | h | h)
     .show .inr (.inl h)
     .show .inl h
     .show .inr (.inr h)
theorem kY {k:Int}:∀ {l:List Int},k∈vd l↔k∈l
 | []=>.rfl
 | n::l=>by unfold vd;rw[fu,kY,Am]
theorem Z8 {n:Int}:∀ {l:List Int},l.Pairwise (· < ·)->(insI n l).Pairwise (· < ·)
 | [],_=>D8 _ _
 | m::l,h=>by
  have h':=Bs.mp h;unfold insI;split
  .rename_i c;exact Bs.mpr #[λ x hx=>?_,h];rcases Am.mp hx with e | e
   .rw[e];show c
   .show Int.lt_trans c (h'.1 x e)
  .split
   .show h
   .rename_i c1 c2;exact Bs.mpr #[λ x hx=>?_,Z8 h'.2];rcases fu.mp hx with e | e
    .rw[e];lia
    .show h'.1 x e
theorem cG:∀ l:List Int,(vd l).Pairwise (· < ·)
 | []=>.nil
 | n::l=>Z8 (cG l)
theorem Vu {l m:List Int}(h1:l.Nodup) (h2:l.Pairwise (·<=·)) (h3:m.Pairwise (· < ·)) (h:∀ k,k∈l↔k∈m):l=m:=by
 have nm:m.Nodup:=h3.imp λ h e=>⋯;exact L4.gQ (r:=λ a b:Int=>a<=b) (λ a b p q=>⋯) ((D4 h1 nm).mpr h) h2 (h3.imp λ h=>⋯)
section
variable {X:Cx}{K:Ac}{e:Expr}{tA:yk}{pos Gv p p2:Pos}
def mP:xE:=λ ds S Q=>uF ds S Q\/∃ d,∃ ns:List Int,ds=[d]/\(∀ ts,d≠.tup ts)/\zS d S=↑(ns.map D.int)/\ns.length<64/\∀ l,S l=none->Q (.ref l) (ups S l (.lst ((vd ns).map D.int)))
def tK:Al
 | [.lst ts]=>match uB ts with
  | some ns=>if ns.length<64 then ↑(.lst ((vd ns).map T.int)) else none
  | none=>nI [.lst ts]
 | [.tup ts]=>nI [.tup ts]
 | _=>none
def Lv:vQ zC tK mP:=λ S Z ys z ds Q hz hv e hq=>by
 unfold tK at e;split at e
 .split at e
  .rename_i ns CY;split at e
   .rename_i hc;cases e;cases mD CY;let#[d,rfl,h1]:=vT hv;let#[es,h2,h3]:=h1.seq rfl;cases sQ.mp h3;exact .inr #[d,ns,rfl,?_,h2,hc,λ l hl=>hq _ _ (.new hl _) (sR hz hl (sQ.mpr rfl))];obtain⟨_,q | ⟨a,q,_⟩,_⟩:=h1.lst <;> subst q <;> show λ _=>nofun
   .cases e
  .show .inl (ZE S Z _ z ds Q hz hv e hq)
 .show .inl (ZE S Z _ z ds Q hz hv e hq)
 .cases e
theorem mP.mo:vO mP:=λ ds S Q Q' hq h=>by
 rcases h with h | ⟨d,ns,h1,h2,h3,h4,h5⟩
 .show .inl (uF.mo ds S Q Q' hq h)
 .show .inr #[d,ns,h1,h2,h3,h4,λ l hl=>hq _ _ (h5 l hl)]
def LW {w:World}{xs:List V}{H:Hp}{S:SS}{Q:VK}{d:D}{ns:List Int}(h0:zm K H [d] xs) (h2:zQ K H S) (hn:∀ ts,d≠.tup ts) (e:zS d S=↑(ns.map D.int)) (GF:ns.length<64) (h:∀ l,S l=none->wj K H Q (.ref l) (ups S l (.lst ((vd ns).map D.int)))):
  ∃ p,∃ GI:List Int,xs=[.ref p]/\zT K H p (GI.map V.int)/\GI.length<64/\
   ∀ (l:Addr) (us:Ah) (ms:List Int),H l=none->IntsAre us ms->ms.Nodup->(∀ n,n∈ms↔n∈GI)->
    ∃ l' HP,∃ GJ:List Int,[V.ref l]=[.ref l']/\(upd H l (.ext (ST.yR w l us))) l'=↑(.ext (ST.yR w l' HP))/\IntsAre HP GJ/\GJ.length<64/\
     ∀ (p:Addr) (ns:List Int),(upd H l (.ext (ST.yR w l us))) p=none->ns.Perm GJ->ns.Pairwise (·<=·)->Q (.ref p) (upd (upd H l (.ext (ST.yR w l us))) p (.lst (ns.map V.int))):=by
 let#[x,hx,h1]:=h0.one;subst hx;let#[a,ys,rfl,g1,g2]:=rQ h1 h2 e hn;rw[g2.ints] at g1;exact#[a,ns,rfl,g1,GF,λ l us ms hf hi nd A6=>#[l,us,ms,rfl,yx,hi,?_,λ p ns2 hp pm srt=>?_]]
 .have:=ST.g_ ms ns nd λ x hx=>(A6 x).mp hx;lia
 .have x1:Ext H (upd H l (.ext (ST.yR w l us))):=.new hf _;have Ao:p≠l:=λ z=>by subst z;rw[yx] at hp;cases hp
  have hpH:H p=none:=by rw[yi Ao] at hp;show hp
  have x2:Ext (upd H l (.ext (ST.yR w l us))) (upd (upd H l (.ext (ST.yR w l us))) p (.lst (ns2.map V.int))):=.new hp _;have heq:ns2=vd ns:=Vu (pm.nodup_iff.mpr nd) srt (cG ns) λ k=>by rw[pm.mem_iff,A6,kY]
  exact h p (h2.none hpH) _ _ (by simp![zf]) (x1.trans x2) ((h2.new hf).ups x2 #[_,yx,?_]);rw[<- heq];show zm.gY ns2
def RO {k:Nat}(hr:yb k X.A) (hm:X.mg "sorted"=none) (hm2:X.mg "set"=none) (ha:xh X [e] tA) (hc:X.calm=true) (hg:Gl X "sorted") (HB:Gl X "set")
  (he2:AJ X e [])
  (he:starEach [.Call (.Name "set" p2) [e] [] Gv] X.env=(false,eval (.Call (.Name "set" p2) [e] [] Gv) X.env)::starEach [] X.env) (Ao:AN X pos []) (hpl2:AN X Gv []):
  PD X (.Call (.Name "sorted" p) [.Call (.Name "set" p2) [e] [] Gv] [] pos) (xC mP tA):=by
 have h:=uT (p:=p) (yI.or (ST.Jj hc) (ST.Ji hc)) hg hm boot_sorted (qN (nV (yI.or (ST.Jk hc hr.units) (ST.Jl hc)) HB hm2 PyProof.Rows.boot_set ha.pa () () he2 hpl2) ox he) () () he Ao;exact#[xC.mo mP.mo ha.mo,PE.imp h fun B H Q hu=>?_];let#[δ,S,r1,r2,z]:=hu;exact w6.go ha.mo r1 r2 z λ ds S1 xs H1 h1 q1 e1 p1=>?_;rcases h1 with h1 | ⟨d,ns,rfl,c1,c2,c3,h1⟩
 .let#[p,ys,rows,a1,a2,a3,a4,a5]:=uF.fits (w:=X.w) xs ds H1 S1 Q q1 p1 (uF.mo ds S1 _ _ (λ d S' z=>z.ext e1) h1);show .inl #[p,ys,rows,a1,a2,a3,a4,λ l us ps b1 b2 b3 b4 b5=>.inl (a5 l us ps b1 b2 b3 b4 b5)]
 .let#[p,GI,a1,a2,a3,a4]:=LW (w:=X.w) q1 p1 c1 c2 c3 (λ l hl=>(h1 l hl).ext e1);show .inr #[p,GI,a1,a2,a3,λ l us ms b1 b2 b3 b4=>.inr (a4 l us ms b1 b2 b3 b4)]
end
end L5
namespace L5
open PySem PySem.Spec L2 L3
open PyProof.Rows hiding St
section
variable {X:Cx}{e st:Expr}
def qP:Sm:=λ _=>none
def Yu:yH:=λ _ _ _=>False
def Rq {st:Stmt}:wy X st Yu:=#[λ _ _ _ _ _ h=>h.elim,λ _ _ _ _ _ _ #[_,_,_,_,h]=>h.elim]
def Pn {R:Rk}:ym R qP Yu:=λ S0 Z0 S Z δ ρ o E F e P=>by cases e
end
end L5
namespace L5
open PySem L2 L3
def fQ:Good2 zC qT jx:=jk (λ _ _ _=>vw) λ _ _ _=>nofun
def fR:Good2 zC rg ej:=jk (λ _ _ _=>vw) λ _ _ _=>nofun
def fS:Good2 zC tT jy:=jk (λ _ _ _=>vw) λ _ _ _=>nofun
end L5
namespace L3
open PySem PyProof.Rows L2
section
variable {X:Cx}{pos:Pos}
def wE (E:qC) (W:Nat->yg->SS->Prop) (m:Nat):qC:={ E with nx:=fun δ' S'=>∃ m',m'<m/\W m' δ' S',ct:=fun δ' S'=>∃ m',m'<m/\W m' δ' S',bk:=E.nx }
def mZ (c:yF) (tb:yH):yH:=λ E δ S=>∃ W:Nat->yg->SS->Prop,(∃ m,W m δ S)/\∀ m δ S,W m δ S->
 c δ S λ b S1=>if b=true then tb (wE E W m) δ S1 else E.nx δ S1
def mZ.mo {c:yF}{tb:yH}(hc:vq c) (hb:sD tb):sD (mZ c tb):=λ E E' δ S hE #[W,w0,ws]=>
 #[W,w0,λ m δ S hw=>hc δ S _ _ (λ b S1 z=>v8 (λ z=>hb (wE E W m) (wE E' W m) δ S1 #[λ _ _ q=>q,hE.rt,hE.nx,λ _ _ q=>q] z) (λ z=>hE.nx _ _ z) z) (ws m δ S hw)]
def Rl {c:Expr}{body:List Stmt}{tc:yF}{tb:yH}(hp:PassesOwn (model X.prog X.w) X.A X.env X.xe) (hc:xq X c tc) (hb:xS X body tb):wy X (.While c body [] pos) (mZ tc tb):=by
 exact#[mZ.mo hc.mo hb.mo,PS.imp (Tj hp hc.pt hb.ps) λ D B H hu=>?_];let#[δ,S,r1,r2,W,#[m0,w0],ws]:=hu;exact#[λ m B' H'=>Ext H H'/\∃ δ S,yL X.K H' δ B'/\zQ X.K H' S/\W m δ S,#[m0,.refl _,δ,S,r1,r2,w0],?_];rintro m B2 H2 ⟨x2,δ2,S2,q1,q2,w2⟩;exact wK.go hc.mo q1 q2 (ws m δ2 S2 w2) λ k S3 H3 h3 e3 p3=>v8 (λ z=>?_) (λ z=>?_) h3
 .exact#[fun B' H'=>Ext H H'/\∃ δ S m',m'<m/\yL X.K H' δ B'/\zQ X.K H' S/\W m' δ S,fun B' H' #[a,δ',S',m',b,c,d,e]=>#[m',b,a,δ',S',c,d,e],δ2,S3,q1.ext e3,p3,?_];show hb.mo (wE (tZ X.K H D) W m) _ δ2 S3 #[fun δ5 S5 #[m',b,w5] B5 H5 b1 b2 b3=>#[(x2.trans e3).trans b2,δ5,S5,m',b,b1,b3,w5],λ _ _ q=>wj.ext (x2.trans e3) q,λ _ _ q=>vA.ext (x2.trans e3) q,fun δ5 S5 #[m',b,w5] B5 H5 b1 b2 b3=>#[(x2.trans e3).trans b2,δ5,S5,m',b,b1,b3,w5]] z
 .show z B2 H3 (q1.ext e3) (x2.trans e3) p3
end
end L3
namespace L5
open PySem PyProof.Rows L2 L3
def wR (is:List Nat) (c:Ev->Option Bool) (b:Sm):Nat->Ev->Option Out
 | 0,_=>none
 | n+1,ρ=>(c (yz is ρ)).bind λ k=>if k=true then (b (yz is ρ)).bind λ o=>match o with
   | .nx ρ2=>wR is c b n ρ2
   | .ct ρ2=>wR is c b n ρ2
   | .bk ρ2=>↑(.nx (yz is ρ2))
   | .rt t=>↑(.rt t)
  else ↑(.nx (yz is ρ))
def nB (n:Nat) (is:List Nat) (c:Ev->Option Bool) (b:Sm):Sm:=wR is c b n
def Pf {R:Rk} [Lo R] {n:Nat}{is:List Nat}{c:Ev->Option Bool}{tc:yF}{b:Sm}{tb:yH}(hc:vD c tc) (hb:ym R b tb):ym R (nB n is c b) (mZ tc tb):=λ S0 Z0 S Z δ ρ o E F e P=>by
 let#[SB,b1,FB,b2]:=F.rebase;have lo:∀ S' d y,R SB S' Z0 y d->R S0 S' Z0 y d:=λ S' d y r=>Lo.lo b1 (λ _ z=>z) r;exact#[λ m δ' S'=>∃ Z' ρ',FR SB Z0 S' Z' δ' ρ'/\wR is c b m ρ'=↑o,#[n,Z,ρ,FB,e],λ m δ' S' #[Z',ρ',F',e']=>?_];cases m with
 | zero=>cases e'
 | succ m=>
  unfold wR at e';let#[k,c1,e']:=An.mp e';have G:=F'.yz is;exact hc S' Z' δ' _ k _ G.er c1 λ S3 s3=>?_;cases k with
  | true=>
   rw[if_pos rfl] at e' ⊢;let#[o1,g2,e']:=An.mp e';exact hb SB Z0 S3 Z' δ' _ o1 _ (G.grow s3) g2 ?_;cases o1 with
   | nx ρ2=>show λ S3 Z3 δ3 F3=>#[m,BV m,Z3,ρ2,F3,e']
   | ct ρ2=>show λ S3 Z3 δ3 F3=>#[m,BV m,Z3,ρ2,F3,e']
   | bk ρ2=>cases e';show λ S3 Z3 δ3 F3=>P S3 Z3 δ3 ((F3.yz is).back b1 F.z0)
   | rt y=>cases e';show λ d S3 s3 r3=>P d S3 (b1.trans s3) (lo _ _ _ r3)
  | false=>
   rw[if_neg ()] at e' ⊢;cases e';show P S3 Z' δ' ((G.grow s3).back b1 F.z0)
end L5
namespace ZP
open PySem PyProof.Rows
def Mh (k:Bool) (l:Addr) (xs:Az):Meets (Builtin.«enumerate.__new__» #[[.type "enumerate",.ref l],[]]) (λ _ R s=>SQ s.heap k l xs/\
   R (.ok (.ret (.ref (s.heap.push (ud k l)).objs.size))) { s with heap:=(s.heap.push (ud k l)).push { cls:=.type "enumerate",data:=.fields [.none,.bool false,.ref s.heap.objs.size,rawInt 0,.none,.none].toArray } }):=
 .of_wp λ prog w A R s h=>by
  let#[hp,g,d,tk,os]:=s;let#[q,h]:=h;have Eo:=sub_enumerate;have hL:SQ (Shared.heap #[hp,g,d,tk,os]) k l xs:=q;let#[#[c,yj,dt,sl],hl,hc]:=q.cls;replace hc:c=.type (cond k "tuple" "list"):=hc;subst hc
  wp_walk using AutoSeq1.wpAny_loadPart' hl
  exact wpAny_stack_any λ st=>Ad ?_;split
  .rename_i c _ _ _ _ _;cases (c == Value.type "enumerate")
   .wp_walk using AutoSeq1.wpAny_loadPart' hl,made hL
    show#[_,rfl,h]
   .wp_walk using AutoSeq1.wpAny_loadPart' hl,made hL
    show#[_,rfl,h]
  .wp_walk using AutoSeq1.wpAny_loadPart' hl,made hL
   show#[_,rfl,h]
section
variable {prog:Program}{w:World}{A:Around}{E:Ai}{s:Shared}
def Ko {k:Bool}{l:Addr}{xs:Az}{Q:Ai}(hL:SQ s.heap k l xs)
  (h:∀ h',IsEnum h' (s.heap.objs.size+1) s.heap.objs.size 0 .none->SI h' k s.heap.objs.size l 0->(∀ b o,s.heap.get? b=↑o->h'.get? b=↑o)->Q (.ref (s.heap.objs.size+1)) { s with heap:=h' }):
  wpAny (model prog w) A (call (.type "enumerate") [.ref l]) Q E s:=by
 exact callType_new F.called_enumerate () (F.typeCall_enumerate_1 _) (F.newCall_enumerate_1 _) (λ obj=>F.args_object_init_2 obj _) F.entry_enumerate_new (Mh k l xs) #[hL,?_];have hz:(s.heap.push (ud k l)).objs.size=s.heap.objs.size+1:=Heap.size_push ..;change _/\_;rw[hz];have he:IsEnum ((s.heap.push (ud k l)).push { cls:=.type "enumerate",data:=.fields [.none,.bool false,.ref s.heap.objs.size,rawInt 0,.none,.none].toArray }) (s.heap.objs.size+1) s.heap.objs.size 0 .none:=by
  have:=AK (s.heap.push (ud k l)) (o:={ cls:=.type "enumerate",data:=.fields [.none,.bool false,.ref s.heap.objs.size,rawInt 0,.none,.none].toArray }) rfl;rw[hz] at this;show this
 show#[#[_,he,rfl],h _ he #[_,za1 _ (AK _ rfl),rfl,rfl] λ b o x=>za1 _ (za1 _ x)]
def Kx (hh:A.handled=none) (k:Bool) (it l:Addr) (Av:l≠it) (xs:Az):Draws prog w A it [it,l] xs.size (λ i v=>xs[i]?=↑v) (λ i h=>SI h k it l i/\SQ h k l xs) where
 live:=λ _ _ st=>let #[o,ho,_]:=st.1;#[o,ho]
 frame:=λ _ _ _ st hk=>#[st.1.on λ o e=>hk it #[] o e,st.2.on λ o e=>hk l #[] o e]
 item:=λ i s Q E hi st hQ=>draw st.1 st.2 (x:=xs[i]) (by simp[hi]) λ h' EK GQ=>hQ _ h' s.toks (by simp[hi]) #[EK,st.2.on λ o e=>(GQ.2 l Av).trans e] GQ
 done:=λ s Q E st hE=>jA hh st.1 st.2 #[] hE
end
end ZP
namespace L2
open PySem PySem.Spec PyProof.Rows ZP
section
variable {X:Cx}{EY:Ak}{B:St}{H:Hp}{s:Shared}
def X6 (K:Ac) (k:Bool) (a:Addr):It:=
 #[λ i H=>∃ xs x,wG K H k a xs/\xs[i]?=↑x,
   λ i H v H'=>∃ p x,v=.ref p/\H p=none/\H'=upd H p (.tup [.int i,x])/\∀ xs,wG K H k a xs->xs[i]?=↑x,
   λ i H=>∃ xs,wG K H k a xs/\xs.length<=i]
def V9 {P:Program}{w:World}{K:Ac}{es:List Expr}{kk} {pos:Pos}{k:Bool}{e it a:Addr}(EO:e≠it) (hea:e≠a) (hai:a≠it):
  Turn P w K (.Tuple es kk pos) (X6 K k a) [e,it] e (λ i h=>(∃ old,IsEnum h e it i old)/\SI h k it a i) where
 mem:=#[]
 obj:=λ i h st b hb=>by
  let#[#[old,q1],o1,q2,_,d1]:=st;simp![Am,Bb,or_false] at hb;rcases hb with e | e <;> subst e
  .show#[_,q1,λ v z=>by cases z]
  .show#[_,q2,λ v z=>by rw[d1] at z;cases z]
 keep:=λ i h h' st k=>#[let #[old,q]:=st.1;#[old,k e #[] _ q],st.2.on λ o q=>k it #[] o q]
 item:=by
  intro X hP hw hK hc i EY s B H E I hf st hg;subst hP hw hK;let#[xs,x,g1,hx]:=hg;let#[Aa,rv,q1]:=g1.of I;let#[u1,e1,r1]:=rv.get hx;let#[#[old,he],si]:=st;have Au:i<Aa.toArray.size:=by have:=(AO.mp e1).1;exists this
  have D:=Kx (prog:=X.prog) (w:=X.w) (A:=X.A.in1) (show X.A.in1.handled=none from I.ok.hd hc) k it a hai Aa.toArray;exact wpAny_pyNext_enum_itemD D he #[si,q1] Au EO (by simp[EO,hea]) λ u h' tk hP ho GQ hT hsz hk=>#[_,rfl,?_];have hu:u=u1:=by simp![List.getElem?_toArray,e1] at hP;show (Ba hP).symm
  subst hu;have nT:s.heap.objs.size∉[e,it]:=λ hb=>by
   simp![Am,Bb,or_false] at hb;let#[oi,qi,_]:=si;rcases hb with z | z
   .show absurd (Ax he) (by rw[<- z];show BN _)
   .show absurd (Ax qi) (by rw[<- z];show BN _)
  have ne:s.heap.objs.size≠e:=λ z=>nT (by simp[z]);exact wpAny_letOwnedTupleGo_enum ho λ h2 he2 sb=>?_;have fr:H s.heap.objs.size=none:=I.zw.fresh (Aj _);have I1:Inv X EY B (upd H s.heap.objs.size (.tup [.int i,x])) { s with heap:=s.heap.push { cls:=.type "tuple",data:=.seq [.int i tk,u].toArray },toks:=s.toks }:=
   I.laid (o:=.tup [.int i,x]) (λ b u q=>za1 _ q) (Aj _) #[#[by change 2<=sizeLine;decide,.new _],[.int i tk,u],.cons #[tk,rfl] (.cons r1 .nil),IsTup.new _ _]
  have GZ:∀ b∈[e,it],upd H s.heap.objs.size (.tup [.int i,x]) b=none:=λ b hb=>by
   rw[yi (λ z=>nT (by rw[<- z];show hb))];show (hf b hb).1
  have kk:∀ b o,b∉[e,it]->(s.heap.push { cls:=.type "tuple",data:=.seq [.int i tk,u].toArray }).get? b=↑o->h2.get? b=↑o:=λ b o hb q=>by
   have BR:b≠e:=λ z=>hb (by simp[z]);have hbi:b≠it:=λ z=>hb (by simp[z]);by_cases Dq:b=s.heap.objs.size
   .subst Dq;rw[AK _ rfl] at q;cases q;show sb.extBut _ _ BR hT
   .have q':s.heap.get? b=↑o:=by rw[Heap.get?_push_ne _ _ _ Dq] at q;show q
    show sb.extBut _ _ BR (hk b o BR hbi q')
  have I2:=Inv.kx (h':=h2) (t':=tk+1) (fp:=[e,it]) I1 kk λ b hb=>#[GZ b hb,(hf b hb).2];exact#[.ref s.heap.objs.size,_,I2,rfl,#[_,x,rfl,fr,rfl,λ zs hz=>by rw[hz.inj I g1];show hx],#[#[_,by exists he2],GQ.1.on λ o q=>(sb.2 it (Ne.symm EO)).trans q],GZ]
 done:=by
  intro X hP hw hK hc i EY s B H E I hf st hg;subst hP hw hK;let#[xs,g1,hx]:=hg;let#[Aa,rv,q1]:=g1.of I;have l1:=rv.length;let#[#[old,he],si]:=st;have hT:s.TypeIs (.ref e) "enumerate":=#[_,he,rfl];unfold pyNext;exact gV (wpAny_attempt (zaB (name:=Str.ofString "__next__") hT F.slot_enumerate_next
   (za7 F.slot_enumerate_next hT F.entry_enumerate_next ?_ (F.args_enumerate_next_1 _))))
  change wpAny _ _ (field (.ref e) 2 >>= _) _ _ _;exact gV (za4 he rfl (x:=.ref it) rfl ?_);exact gV (jA (show X.A.in1.handled=none from I.ok.hd hc) si q1 (by simp;lia) λ h' x he' HL=>?_);let#[o,ho,hc]:=HL;exact gV (wpAny_isInstance (T:="StopIteration") (b:=true) #[o,ho,hc] isSubtype_stop ?_);show Ad #[rfl,I.kx (t':=s.toks) (fp:=[e,it]) (λ b o hb q=>he' b o (λ z=>hb (by simp[z])) q) hf]
 self:=λ _ _ _ _ _ st h=>let #[_,q]:=st.1;wpAny_pyIter_enum q h
def Lj (K:Ac) (ta:TA):TI:=fun B H R=>ta B H λ vs H1=>∃ a k,vs=[.ref a]/\(∃ xs,wG K H1 k a xs)/\R (X6 K k a) H1
theorem TK {a:Expr}{ta:TA}{p pos pos':Pos}{es:List Expr}{kk} (hg:Gl X "enumerate") (hm:X.mg "enumerate"=none) (ha:PA X [a] ta) (hs:starEach [a] X.env=[(false,eval a X.env)]:=by rfl):
  PI X (.Tuple es kk pos') (.Call (.Name "enumerate" p) [a] [] pos) (Lj X.K ta):=by
 intro EY s B H R I h;exact Call_ (oB I hg hm boot_enumerate (PyProof.Rows.callWith_type1 (zB (ha pos EY s B H _ I h) λ us s1 #[vs,H1,I1,r1,q1]=>?_) (by rw[hs];rfl) rfl));let#[a1,k,rfl,#[xs,g1],q]:=q1;cases r1 with
 | cons r rr=>
  cases rr;cases r;let#[it1,_,q1]:=g1.of I1;have la:=q1.lt;exact ZP.Ko q1 λ h' E S up=>wpAny_pyIter_enum E ?_;have nw:∀ b∈[s1.heap.objs.size+1,s1.heap.objs.size],s1.heap.objs.size<=b:=λ b hb=>by
   simp![Am,Bb,or_false] at hb;rcases hb with z | z <;> rw[z]
   .show Nat.le_succ _
   .show Aj _
  show#[_,[s1.heap.objs.size+1,s1.heap.objs.size],_,_,H1,rfl,I1.kept (t':=s1.toks) up,V9 (Nat.succ_ne_self _) (BG (Cq la)) (AI la),#[#[_,E],S],λ b hb=>I1.jr (nw b hb) (I1.zw.fresh (nw b hb)),q]
end
end L2
namespace L5
open PySem PySem.Spec L2 L3
open PyProof.Rows hiding St
def tY (k:Nat):List D->List D
 | []=>[]
 | d::ds=>.tup [.int k,d]::tY (k+1) ds
def r9 (k:Nat):List T->List T
 | []=>[]
 | d::ds=>.tup [.int k,d]::r9 (k+1) ds
theorem Yi:∀ (ds:List D) (k i:Nat),(tY k ds)[i]?=(ds[i]?).map λ d=>D.tup [.int ((k+i:Nat):Int),d]
 | [],k,i=>by simp[tY]
 | d::ds,k,0=>by simp[tY]
 | d::ds,k,i+1=>by
  unfold tY;rw[Dy,Dy,Yi ds (k+1) i,show k+1+i=k+(i+1) from by lia]
theorem Yh:∀ (ds:List D) (k:Nat),(tY k ds).length=ds.length
 | [],k=>rfl
 | d::ds,k=>by unfold tY;rw[A4,Yh ds];rfl
theorem gq {S:SS}:∀ {ts:List T}{ds:List D}(k:Nat),zi S ts ds->zi S (r9 k ts) (tY k ds)
 | [],ds,k,h=>by simp![zi] at h;subst h;show zi.nil
 | t::ts,ds,k,h=>by
  simp![zi] at h;let#[c,cs,rfl,h1,h2]:=h;show zi.cons (rP (zi.cons (by simp![Sn]) (zi.cons h1 zi.nil))) (gq (k+1) h2)
section
variable {X:Cx}{a:Expr}{tA:yk}{pos p pos':Pos}{es:List Expr}{kk:Nat}
def fH (t:yk):wF:=fun δ S R=>t δ S λ ds S1=>∃ d xs,ds=[d]/\zS d S1=↑xs/\R #[tY 0 xs,λ S=>zS d S=↑xs] S1
def R7 (hm:X.mg "enumerate"=none) (ha:xh X [a] tA) (hg:Gl X "enumerate") (hs:starEach [a] X.env=[(false,eval a X.env)]):
  tw X (.Tuple es kk pos') (.Call (.Name "enumerate" p) [a] [] pos) (fH tA):=by
 exact#[fun δ S Q Q' hq z=>ha.mo δ S _ _ (λ ds S1 #[d,xs,h1,h2,h4]=>#[d,xs,h1,h2,hq _ _ h4]) z,PI.imp (TK hg hm ha.pa hs) fun B H R hu=>?_];let#[δ,S,r1,r2,z]:=hu;exact w6.go ha.mo r1 r2 z λ ds S1 vs H1 h1 q1 e1 p1=>?_;let#[d,xs,rfl,s1,h]:=h1;let#[v,rfl,d1]:=q1.one;let#[a1,us,rfl,g1,g2]:=zS.k d1 p1 s1;exact#[a1,mB d,rfl,#[us,g1],h _ H1 e1 p1 λ i H2 S2 x1 x2 hk=>?_];let#[b1,us2,q1,m1,m2]:=zS.k (zf.ext x1 d d1) x2 hk;cases q1;have l1:=m2.length;exact#[λ dd hd=>?_,λ hl=>#[us2,m1,?_]]
 .rw[Yi,C1] at hd;let#[dx,hx,rfl]:=AE.mp hd;let#[x,HL,rx]:=m2.get hx;exact#[#[us2,x,m1,HL],λ v H' q=>?_];let#[pp,x',rfl,hp,rfl,f1]:=q;have ex:x'=x:=by have:=f1 _ m1;rw[HL] at this;show (Ba this).symm
  subst ex;exact#[.new hp _,x2.new hp,?_];simp![zf];show#[pp,_,rfl,zX.of yx,zm.ext (.new hp _) _ (.cons (by simp![zf]) (.cons rx .nil))]
 .have G3:(tY 0 xs).length<=i:=hl;rw[Yh] at G3;lia
@[simp] def ui:List T->Option (List T)
 | [x]=>(xU x).map λ xs=>r9 0 xs
 | _=>none
def PQ {g:Ev->Option (List T)}(h:pG g tA):qx false (xc ui g) (fH tA):=λ S Z δ ρ ts Q hE e hq=>by
 let#[ys,e1,e2]:=An.mp e;exact h S Z δ ρ ys _ hE e1 λ ds S1 s1 r1=>?_;unfold ui at e2;split at e2
 .let#[xs,e3,rfl]:=AE.mp e2;let#[d,rfl,h1]:=vT r1;let#[es,g1,g2]:=h1.seq e3;show#[d,es,rfl,g1,hq _ S1 s1 (gq 0 g2) λ S'' s=>zS.sx g1 s]
 .cases e2
def PR {g:Ev->Option (List T)}(h:t8 g tA):qx true (xc ui g) (fH tA):=λ S Z δ ρ ts Q hE e hq=>by
 let#[ys,e1,e2]:=An.mp e;exact h S Z δ ρ ys _ hE e1 λ ds S1 s1 r1=>?_;unfold ui at e2;split at e2
 .let#[xs,e3,rfl]:=AE.mp e2;simp![zi] at r1;let#[d,_,rfl,h1,rfl]:=r1;let#[es,g1,g2]:=zS.zx h1 e3;show#[d,es,rfl,zS.sx g1 (oQ S1 Z),hq _ S1 s1 (gq 0 g2) λ S'' s=>zS.sx g1 s]
 .cases e2
end
end L5
namespace TM
open PySem PyProof.Rows
def K7 (i:Int) (t:Tok) (l:Addr) (items:Az) (n:Nat) (dd:Option Addr) (sl:Array (Option Value)):
  Meets (Builtin.«int.__rmul__» #[[.int i t,.ref l],[]]) (λ _ R s=>s.heap.get? l=↑{ cls:=.type "list",dict:=dd,data:=.seq items n,slots:=sl }/\R (.ok (.ret Value.notImplemented)) s):=
 .of_wp λ prog w A R s h=>by
  let#[hp,g,d,tk,os]:=s;let#[hl,h]:=h
  wp_walk
  show#[_,rfl,h]
def mulL (l:Addr) (items:Az) (n:Nat) (x:Int) (u:Tok) (dd:Option Addr) (sl:Array (Option Value)) (hc0:¬(!Builtin.List.listFitsIndex x)=true) (hc1:¬items.size*x.toNat>(2 ^ 63-1)/8) (GS:¬Builtin.List.listTooLong (items.size*x.toNat)=true):
  Meets (Builtin.«list.__mul__» #[[.ref l,.int x u],[]]) (λ _ R s=>s.heap.get? l=↑{ cls:=.type "list",dict:=dd,data:=.seq items n,slots:=sl }/\R (.ok (.ret (Value.ref s.heap.objs.size))) { s with heap:=s.heap.push { cls:=.type "list",data:=.seq (List.foldl (λ x1 x2=>x1++x2) [].toArray (List.replicate (if items.isEmpty=true then 0 else x.toNat) items)) } }):=
 .of_wp λ prog w A R s h=>by
  let#[hp,g,d,tk,os]:=s;let#[hl,h]:=h
  have hsz:=AutoListH.joined_fits GS
  wp_walk;exact wpAny_ite_false (za3 (Nat.not_lt.mpr hsz)) ?_;wp_walk;show#[_,rfl,h]
section
variable {prog:Program}{w:World}{A:Around}{E:Ai}{s:Shared}
def VF {l:Addr}{Aa:Ah}{k:Int}{t:Tok}{Q:Ai}(ht:PlainL s.heap l Aa.toArray) (Av:Aa≠[]) (h0:0<=k) (hz:Aa.length*k.toNat<=sizeLine)  (hk:k<=1000000)
  (more:Q (.ref s.heap.objs.size) { s with heap:=s.heap.push { cls:=.type "list",data:=.seq (List.replicate k.toNat Aa).flatten.toArray } }):
  wpAny (model prog w) A (binaryOp .Mult (.ref l) (.int k t)) Q E s:=by
 let#[#[cls,dd,data,sl],n,ho,hc,he,hd]:=id ht;simp only at hc hd he;subst hc hd he;have hl:sizeLine=16777216:=rfl;have DV:Aa.toArray.isEmpty=false:=by cases Aa with
  | nil=>show absurd rfl Av
  | cons a r=>rfl
 have hf:List.foldl (λ x1 x2=>x1++x2) [].toArray (List.replicate (if Aa.toArray.isEmpty=true then 0 else k.toNat) Aa.toArray)=(List.replicate k.toNat Aa).flatten.toArray:=by
  rw[DV,if_neg ()];have:=fZ Aa k.toNat [].toArray;exists this
 exact wpAny_binaryOp_repeat_ref (T:="list") (U:="int") () #[_,ho,rfl] (λ s'=>typeIs_int s' k t) noFill_list_mul F.fills_int_mul F.slot_int_rmul repeat_list F.slot_int_index.lookup
  (call_meets F.slot_int_rmul (typeIs_int s k t) F.entry_int_rmul (F.args_int_rmul_2 _ _) (K7 k t l Aa.toArray n none sl)
   #[ho,rfl,#[_,ho,rfl],call_meets F.slot_list_mul #[_,ho,rfl] F.entry_list_mul (F.args_list_mul_2 _ _)
    (mulL l Aa.toArray n k t none sl (by simp[Builtin.List.listFitsIndex];lia) (by simp;lia) (by simp[Builtin.List.listTooLong];lia)) #[ho,?_]])
 rw[hf];show more
end
end TM
namespace L2
open PySem PySem.Spec PyProof.Rows
def gJ (K:Ac):R2:=λ x y H Q=>∃ a k xs,x=.ref a/\y=.int k/\zT K H a xs/\xs≠[]/\0<=k/\k<=1000000/\xs.length*k.toNat<=sizeLine/\∀ p,H p=none->Q (.ref p) (upd H p (.lst (List.replicate k.toNat xs).flatten))
theorem QO {X:Cx}:yp X (binaryOp .Mult) (gJ X.K):=by
 intro EY s B H x y v u Q I rx ry h;let#[a,k,xs,rfl,rfl,hx,Av,h1,h2,hz,q]:=h;cases rx;let#[t,rfl]:=ry;let#[Aa,r,ht,_]:=I.list hx;have hl:=r.length;exact TM.VF ht (λ z=>Av (r.ma.mp z)) h1 (by rw[<- hl];show hz) h2 ?_;have hlen:(List.replicate k.toNat xs).flatten.length<=sizeLine:=by
  have:(List.replicate k.toNat xs).flatten.length=k.toNat*xs.length:=#[];rw[this,DB];show hz
 show#[.ref _,_,I.laid (t':=s.toks) (o:=.lst (List.replicate k.toNat xs).flatten) (λ b ob q=>za1 _ q) (Aj _) #[hlen,_,0,r.rep k.toNat,AK _ rfl],rfl,q _ (I.zw.fresh (Aj _))]
end L2
namespace L5
open PySem PySem.Spec L2 L3
open PyProof.Rows hiding St
section
variable {X:Cx}{K:Ac}{a b:Expr}{ta tb:zv}{pos:Pos}
def MT:D->Bool
 | .tup _=>true
 | _=>false
def jw:yM:=λ x y S Q=>∃ k ds,y=.int k/\MT x=false/\zS x S=↑ds/\(ds≠[]/\0<=k/\k<=1000000/\ds.length*k.toNat<=sizeLine)/\∀ p,S p=none->Q (.ref p) (ups S p (.lst (List.replicate k.toNat ds).flatten))
def qe:yM:=λ x y S Q=>tV x y S Q\/jw x y S Q
def xb:T->T->Option T
 | .lst ts,.int k=>if ts≠[]/\0<=k/\k<=1000000/\ts.length*k.toNat<=sizeLine then ↑(.lst (List.replicate k.toNat ts).flatten) else none
 | x,y=>fj x y
theorem qe.mo:xT qe:=λ x y S Q Q' hq h=>by
 rcases h with h | ⟨k,ds,h1,h2,h3,h4,h5⟩
 .show .inl (tV.mo x y S Q Q' hq h)
 .show .inr #[k,ds,h1,h2,h3,h4,λ p hp=>hq _ _ (h5 p hp)]
def jw.fits:x9 K jw (gJ K):=λ x y d e H S Q h1 h2 h3 h=>by
 let#[k,ds,rfl,ht,hs,#[c1,c2,c3,c4],h]:=h;simp![zf] at h2;let#[a,xs,rfl,g1,g2]:=rQ h1 h3 hs λ ts z=>by subst z;cases ht
 have hl:=g2.length;exact#[a,k,xs,rfl,h2,g1,λ z=>c1 (by subst z;cases ds with | nil=>rfl | cons _ _=>simp at hl),c2,c3,by rw[<- hl];show c4,λ p hp=>?_];show h p (h3.none hp) _ _ (by simp![zf]) (.new hp _) (h3.ups (.new hp _) #[_,yx,zm.ext (.new hp _) _ (zm.rep g2 _)])
theorem qe.fits:x9 K qe (λ x y H Q=>(rI vS (λ i j=>.int (i*j)) x y H Q\/gI K x y H Q)\/gJ K x y H Q):=λ x y d e H S Q h1 h2 h3 h=>by
 rcases h with h | h
 .show .inl (tV.fits x y d e H S Q h1 h2 h3 h)
 .show .inr (jw.fits x y d e H S Q h1 h2 h3 h)
def Ly:Good2 zC xb qe:=λ S Z x y z d e Q hz hx hy ef hq=>by
 unfold xb at ef;split at ef
 .rename_i ts k;split at ef
  .rename_i hc;cases ef;let#[ds,g1,g2]:=hx.seq (ts:=ts) rfl;cases hy.int;have hl:=g2.len;exact .inr #[_,ds,rfl,?_,g1,#[λ q=>hc.1 (by subst q;exists hl.symm),hc.2.1,hc.2.2.1,by rw[hl];show hc.2.2.2],λ p hp=>hq _ _ (.new hp _) (sR hz hp (zi.rep g2 _))];cases d with
   | tup es=>show absurd hx (by
     intro q;rcases q with q | ⟨us,p,Gg,_,q,_⟩
     .simp![Sn] at q;obtain⟨_,⟨q,_⟩ | ⟨_,q,_⟩,_⟩:=q <;> cases q
     .cases q)
   | _=>rfl
  .cases ef
 .show .inl (ZF S Z x y z d e Q hz hx hy ef hq)
def RX (ha:PD X a ta) (hb:PD X b tb):PD X (.BinOp a .Mult b pos) (yu qe ta tb):=rV ((QQ.or QN).or QO) qe.fits qe.mo ha hb
end
end L5
namespace L3
open PySem PySem.Spec PyProof.Rows L2
section
variable {X:Cx}{K:Ac}{e o:Expr}{te to:zv}{apos Ap:Pos}
def qk (to te:zv):zv:=fun δ S Q=>to δ S λ x S1=>match x with
 | .ref p=>(∃ ds,S1 p=↑(.lst ds))/\te δ S1 λ y S2=>∃ q ds es,y=.ref q/\S2 p=↑(.lst ds)/\S2 q=↑(.lst es)/\ds.length+es.length<=sizeLine/\Q .zp (ups S2 p (.lst (ds++es)))
 | _=>False
def qk.mo (h:yq to) (h':yq te):yq (qk to te):=fun δ S Q Q' hq z=>h δ S _ _ (λ x S1 z=>by
 cases x with
 | ref p=>show#[z.1,h' δ S1 _ _ (λ y S2 #[q,ds,es,a,b,c,d,w]=>#[q,ds,es,a,b,c,d,hq _ _ w]) z.2]
 | _=>show z) z
theorem Q1 {e0:Expr}(Et:PE X e0 (h_ X.K "list" bJ (zN X.K to) (hZ (zN X.K te) hV))) (h:yq to) (h':yq te):PD X e0 (qk to te):=by
 exact#[qk.mo h h',PE.imp Et fun B H Q hu=>?_];let#[δ,S,r1,r2,z]:=hu;exact zN.go h r1 r2 z λ x S1 v H1 h1 q1 e1 p1=>?_;cases x with
 | ref p=>
  let#[#[ds,hd],h1]:=h1;simp![zf] at q1;subst q1;let#[xs,g1,g2]:=p1 _ _ hd;exact#[.inl #[rfl,xs,zT.of g1],?_];exact zN.go h' (r1.ext e1) p1 h1 λ y S2 w H2 h2 q2 e2 p2=>?_;let#[q,HH,es,rfl,b1,b2,b3,b4]:=h2;simp![zf] at q2;subst q2;let#[Fq,g3,g4]:=p2 _ _ b1;let#[ys',g5,g6]:=p2 _ _ b2;exact#[p,q,Fq,ys',rfl,rfl,g3,g5,by rw[<- g4.length,<- g6.length];show b3,?_];have e4:Ext H2 (upd H2 p (.lst (Fq++ys'))):=.lst g3 _;show b4 _ _ (by simp![zf]) ((e1.trans e2).trans e4) (p2.ups e4 #[_,yx,zm.ext e4 _ (g4.append g6)])
 | _=>show h1.elim
def Qf (ho:PD X o to) (he:PD X e te)
  (GV:attributeBase o "extend" X.env (eval o X.env)=eval o X.env)
  (AV:((backTo Ap (starEach [e] X.env)).all (λ x=>!x.1)&&(backToKw Ap (keywordEach [] X.env)).all (λ x=>x.1.isSome)
   && decide ([e].length+([]:List Keyword).length+(if ([]:List Keyword).isEmpty then 0 else 1)<30))=true)
  (GU:(apos.endLine == Ap.line)=true) (hs:AJ X e []) (Gw:AN X Ap []):
  PD X (.Call (.Attribute o "extend" apos) [e] [] Ap) (qk to te):=
 Q1 (bZ PySem.F.plainAttrs_list PySem.F.slot_list_extend PySem.F.type_list_extend Mc ho.pe (qN he.pe ox hs) GV AV GU hs Gw) ho.mo he.mo
end
end L3
namespace L5
open PySem L2 L3
@[simp] def jz (i:Nat) (f:Ae):Sm:=fun ρ=>match ρ[i]? with
 | some ↑(.own (.lst ts))=>(f ρ).bind λ y=>match y with
  | .lst us=>if ts.length+us.length<=sizeLine then ↑(.nx (ρ.set i ↑(.own (.lst (ts++us))))) else none
  | _=>none
 | _=>none
section
variable {R:Rk}{f:Ae}{te:zv}
def Px (i:Nat) (hf:xG f te):ym R (jz i f) (lp (qk (yh i) te)):=λ S0 Z0 S Z δ ρ o E F e P=>by
 unfold jz at e;split at e
 .rename_i ts h;let#[y,e1,e2]:=An.mp e;split at e2
  .rename_i us;split at e2
   .rename_i hl;cases e2;let#[p,ob,h1,h2,h3,h4]:=F.er.ow i _ h;obtain⟨ds,rfl⟩:∃ ds,ob=.lst ds:=by
     cases ob with
     | lst ds=>show#[ds,rfl]
     | _=>show h3.elim
    replace h3:zi (zx S Z) ts ds:=h3;change qk (yh i) te δ S _;unfold qk yh;rw[h1];exact#[#[ds,h2],hf S Z δ ρ _ _ F.er e1 λ d S1 s1 r1=>?_];let#[q,es,rfl,g1,g2,g3]:=r1.2 us rfl;have F1:=F.grow s1;have g4:zi (zx S1 Z) us es:=zi.sx (vm λ a z=>.inl z) us g3;exact#[q,ds,es,rfl,s1 _ _ h2,g2,by rw[h3.len,g4.len];show hl,P _ Z δ (F1.mut (us:=.lst (ts++us)) (es:=.lst (ds++es)) i h h1 ((zi.sx (wV s1) ts h3).append g4))]
   .cases e2
  .cases e2
 .cases e
end
section
variable {α:Type}{P:List α->Prop}
def ie (h:∀ a,P [a]) (us:List α) (hl:us.length=1):P us:=match us,hl with | [a],_=>h a
def ic (h:∀ a b,P [a,b]) (us:List α) (hl:us.length=2):P us:=match us,hl with | [a,b],_=>h a b
def ib (h:∀ a b c,P [a,b,c]) (us:List α) (hl:us.length=3):P us:=match us,hl with | [a,b,c],_=>h a b c
def ia (h:∀ a b c d,P [a,b,c,d]) (us:List α) (hl:us.length=4):P us:=match us,hl with | [a,b,c,d],_=>h a b c d
def j_ (h:∀ a b c d e,P [a,b,c,d,e]) (us:List α) (hl:us.length=5):P us:=match us,hl with | [a,b,c,d,e],_=>h a b c d e
end
end L5
namespace L5
open PySem PySem.Spec L2 L3
open PyProof.Rows hiding St
section
variable {P:Program}{w:World}{K:Ac}{mg:AF}{base h:Heap}{x:Str}{st:Stmt}
def Fx (K:Ac) (x:Str) (st:Stmt):Prop:=∃ (f:Addr) (oc:Value) (od:Option Addr) (kV dc pm:Value) (an:Option Addr) (cd ct:Value) (sl:Array (Option Value)),
 PySem.W.nsIn K mainGlobals x=↑↑(.ref f)/\K.lookup f=↑#[oc,od,.func (PySem.W.fnOf x x (vo st) (yQ st) (zE st) .none kV dc pm an cd ct),sl]/\PySem.W.codeIn K cd x=true/\PySem.W.keepIn K (.ref f)=true
def Fx.i {f:Addr}{oc:Value}{od:Option Addr}{kV dc pm:Value}{an:Option Addr}{cd ct:Value}{sl:Array (Option Value)}(a:PySem.W.nsIn K mainGlobals x=↑↑(.ref f)) (l:K.lookup f=↑#[oc,od,.func (PySem.W.fnOf x x (vo st) (yQ st) (zE st) .none kV dc pm an cd ct),sl]) (c:PySem.W.codeIn K cd x=true) (k:PySem.W.keepIn K (.ref f)=true):Fx K x st:=#[f,oc,od,kV,dc,pm,an,cd,ct,sl,a,l,c,k]
def Fy (K:Ac) (mg:AF) (x:Str) (st:Stmt):Prop:=∃ (f:Addr) (fd:FuncData),vR K x x st f fd/\mg x=↑(.ref f)
def Fx.mk (H:Fx K x st) (X:K.In h) (G:h.Ns mainGlobals mg):Fy K mg x st:=by
 let#[f,oc,od,kV,dc,pm,an,cd,ct,sl,a,l,c,k]:=H;show#[f,_,jq l c k,PySem.W.mg_of X G a]
theorem Fx.law {fa:Addr}{p:Str}(H:Fx K "law" st) (X:K.In h) (G:h.Ns mainGlobals mg) (EN:mg "law"=↑(.ref fa)) (hb:∀ (kV dc pm:Value) (an:Option Addr) (cd ct:Value) (s:Shared) (v:Value),BindsTo s (PySem.W.fnOf "law" "law" (vo st) (yQ st) (zE st) .none kV dc pm an cd ct) #[[v],[]] [(p,v)]):∃ fd:FuncData,vR K "law" "law" st fa fd/\∀ (s:Shared) (v:Value),BindsTo s fd #[[v],[]] [(p,v)]:=by
 let#[f,oc,od,kV,dc,pm,an,cd,ct,sl,a,l,c,k]:=H;have e:=EN.symm.trans (PySem.W.mg_of X G a);cases e;show#[_,jq l c k,hb kV dc pm an cd ct]
def Cn (K:Ac) (x:Str) (t:V):Prop:=∃ u,PySem.W.nsIn K mainGlobals x=↑↑u/\L2.RelV t u
def Cn.i {t:V}{u:Value}(a:PySem.W.nsIn K mainGlobals x=↑↑u) (r:L2.RelV t u):Cn K x t:=#[u,a,r]
def Cn.mk {t:V}(H:Cn K x t) (X:K.In h) (G:h.Ns mainGlobals mg):∃ u,mg x=↑u/\L2.RelV t u:=by
 let#[u,a,r]:=H;show#[u,PySem.W.mg_of X G a,r]
def Ke {R:Rk} [Lo R] {N ps:List Str}{k n:Nat}{g:Sm}(F:Fy K mg x st) (Sc:vt N ps (zE st)) (hn:n=ps.length)
  (hb:∀ (kV doc pm:Value) (an:Option Addr) (Af ct:Value) (us:Ah),us.length=ps.length->bindArgs (PySem.W.fnOf x x (vo st) (yQ st) (zE st) .none kV doc pm an Af ct) #[us,[]]=pure (ps.zip us))
  (E9:∀ (f:Addr) (Af:Value) (A:Around) (outer:List Env) (s:Shared) (H:Hp) (E:XK),yb k (A.deeper (envOfC x (zE st) s.heap.objs.size f Af))->
   ∃ t,xS (yT y7 P w K mg base N x (zE st) f Af A outer s H E).xa (yQ st) t/\ym R g t):FD P w K mg base x (k+1) ps (zJ R (zR N n g)):=by
 let#[f,fd,F,hm]:=F;show Kf F hm Sc hn hb (E9 f)
end
end L5
namespace L2
open PySem PySem.Spec PyProof.Rows
def NW (i j c:Int):Nat:=if i<j then ((j-i-1)/c+1).toNat else 0
end L2
namespace L3
open PySem PySem.Spec L2
open PyProof.Rows hiding St
section
variable {X:Cx}{K:Ac}{e a b c:Expr}{es:List Expr}{tA:yk}{pos p:Pos}
def UT (lo c:Int) (n:Nat):List D:=(List.range n).map λ(k:Nat)=>D.int (lo+(k:Int)*c)
def zaf (t:yk):wF:=fun δ S R=>t δ S λ ds S1=>match ds with
 | [.int i,.int j,.int c]=>(-(2 ^ 31)<=i/\i<2 ^ 31/\-(2 ^ 31)<=j/\j<2 ^ 31/\0<c/\c<1000000)/\R #[UT i c (NW i j c),λ _=>True] S1
 | _=>False
def tX:xE:=λ ds S Q=>match ds with
 | [.int i]=>Q (.int (if i<0 then -i else i)) S
 | _=>False
def tX.mo:vO tX:=λ ds S Q Q' hq h=>by
 unfold tX at h ⊢;split at h
 .show hq _ _ h
 .show h.elim
def tX.fits:uP K tX (λ xs H Q=>∃ i,xs=[.int i]/\Q (.int (if i<0 then -i else i)) H):=λ xs ds H S Q h0 h2 h=>by
 unfold tX at h;split at h
 .let#[x,rfl,h1]:=h0.one;simp![zf] at h1;subst h1;show#[_,rfl,h _ H (by simp![zf]) (.refl H) h2]
 .show h.elim
def QH (hm:X.mg "abs"=none) (ha:xh X (e::es) tA) (hg:Gl X "abs") (he:AJ X e es) (Ao:AN X pos es):PD X (.Call (.Name "abs" p) (e::es) [] pos) (xC tX tA):=
 uU (uT J0 hg hm boot_abs ha.pa () () he Ao) tX.mo tX.fits ha.mo
def ur (_ j:Int):Prop:=0<j/\j<2 ^ 200
def tB (i j:Int):Prop:=i.natAbs<2 ^ 200/\j.natAbs<2 ^ 200
instance (i j:Int):Decidable (ur i j):=by unfold ur;infer_instance
instance (i j:Int):Decidable (tB i j):=by unfold tB;infer_instance
def aZ {n:Nat}(h:n<2 ^ 200):n.log2<200:=by
 rcases DA n with h0 | hp
 .rw[h0];decide
 .show (Nat.log2_lt (BG hp)).mpr h
def YZ {i:Int}(h:i.natAbs<2 ^ 200):Builtin.Int.intBits i<=2 ^ 20:=by
 have:=aZ h;unfold Builtin.Int.intBits;split <;> lia
def QY:yp X (binaryOp .FloorDiv) (rI ur λ i j=>.int (i/j)):=oy λ i j _ _ _ _ _ hc q=>by
 have h1:(0:Int)<j:=hc.1;have h2:j.natAbs<2 ^ 200:=by have:=hc.2;lia
 have h3:=aZ h2;show floordiv_int ⋯ (by rw[Int.fdiv_eq_ediv_of_nonneg i ⋯];show q) (.inl (PyProof.noPylong_of_log2 ⋯))
def QP:yp X (binaryOp .Mult) (rI tB λ i j=>.int (i*j)):=oy λ _ _ _ _ _ _ _ hc q=>mul_int q (PySem.IntMulOk.of_bits (YZ hc.1) (YZ hc.2))
variable {ta tb:zv}
def Qz (ha:PD X a ta) (hb:PD X b tb):PD X (.BinOp a .FloorDiv b pos) (yu (fI ur λ i j=>.int (i/j)) ta tb):=rV QY (fI.fits λ _ _ _=>by simp![zf]) fI.mo ha hb
def RY (ha:PD X a ta) (hb:PD X b tb):PD X (.BinOp a .Mult b pos) (yu (fI tB λ i j=>.int (i*j)) ta tb):=rV QP (fI.fits λ _ _ _=>by simp![zf]) fI.mo ha hb
end
end L3
namespace L5
open PySem PySem.Spec L2 L3
open PyProof.Rows hiding St
structure W5 (mg:AF):Prop extends Bq mg where
 abs:mg "abs"=none
@[simp] def dn:Al
 | [.int i]=>↑(.int (if i<0 then -i else i))
 | _=>none
def LG:vQ zC dn tX:=λ S Z ys z ds Q hz hv e hq=>by
 unfold dn at e;split at e
 .cases e;let#[d,rfl,h1]:=vT hv;cases h1.int;show hq _ S (.refl S) (Cl.of (λ _=>nofun) wL)
 .cases e
@[simp] def xO:T->T->Option T:=qX ur λ i j=>.int (i/j)
@[simp] def wQ:T->T->Option T:=qX tB λ i j=>.int (i*j)
def Nm {fa fb:Ae}{ta tb:zv}(ha:y6 fa ta) (hb:y6 fb tb):xG (za xO fa fb) (yu (fI ur λ i j=>.int (i/j)) ta tb):=sW (mI (λ _ _ _=>wL) λ _ _ _=>nofun) ha hb
def O9 {fa fb:Ae}{ta tb:zv}(ha:y6 fa ta) (hb:y6 fb tb):xG (za wQ fa fb) (yu (fI tB λ i j=>.int (i*j)) ta tb):=sW (mI (λ _ _ _=>wL) λ _ _ _=>nofun) ha hb
end L5
namespace L2
open PySem PySem.Spec PyProof.Rows
def Jp {X:Cx}(hc:X.calm=true):yI X (.builtin "min") (λ xs H Q=>∃ (p:Addr) (a b:Int),xs=[.ref p]/\zX X.K H p [.int a,.int b]/\Q (.int (if b<a then b else a)) H):=by
 intro EY s B H xs us Q I r h;let#[p,a,b,rfl,hq,q]:=h;let#[u,rfl,rx]:=vals1 r;cases rx;let#[Aa,r',ht,hz]:=I.tuple hq;let#[v1,v2,rfl,#[t1,rfl],#[t2,rfl]]:=vals2 r';have ht:s.heap.IsTuple p [Value.int a t1,Value.int b t2].toArray:=ht;have Au:p<s.heap.objs.size:=by let#[_,e,_]:=ht;show Ax e
 exact call_min_walk (zaM ht ?_);exact#[_,_,_,_,_,_,_,rfl,Walks.tuple (A:=X.A.in1) (I.ok.hd hc) s.heap.objs.size p (AI Au) [Value.int a t1,Value.int b t2].toArray,#[#[_,AK _ rfl,rfl,rfl],ht.at λ o e=>za1 _ e],λ c hc=>?_,Nat.succ_pos _,CmpOf.ints_lt (λ i=>if i=0 then a else b) (λ i v hv=>?_),λ v h' tk hP hk=>?_]
 .rw[Heap.size_push];simp![Am,Bb,or_false] at hc;rcases hc with rfl | rfl
  .show BV _
  .show Cq Au
 .match i,hv with
  | 0,hv=>cases hv;show#[t1,rfl]
  | 1,hv=>cases hv;show#[t2,rfl]
  | i+2,hv=>simp at hv
 .have keep:∀ c o,s.heap.get? c=↑o->h'.get? c=↑o:=λ c o e=>hk c o (λ m=>by
   rw[AH.mp m] at e;show BN _ (Ax e)) (za1 _ e)
  simp![argBest,AB,A4,CP] at hP;by_cases BF:b<a
  .have:v=.int b t2:=by simpa [BF,argBest] using hP.symm
   subst this;exact#[.int (if b<a then b else a),H,I.kept keep,#[t2,by rw[if_pos BF]],q]
  .have:v=.int a t1:=by simpa [BF,argBest] using hP.symm
   subst this;exact#[.int (if b<a then b else a),H,I.kept keep,#[t1,by rw[if_neg BF]],q]
end L2
namespace L3
open PySem PySem.Spec L2
open PyProof.Rows hiding St
section
variable {X:Cx}{K:Ac}{e:Expr}{tA:yk}{p pos:Pos}
def qf:xE:=λ ds S Q=>∃ a b,ds=[.tup [.int a,.int b]]/\Q (.int (if b<a then b else a)) S
def qf.mo:vO qf:=λ ds S Q Q' hq #[a,b,h1,h2]=>#[a,b,h1,hq _ _ h2]
def qf.fits:uP K qf (λ xs H Q=>∃ (p:Addr) (a b:Int),xs=[.ref p]/\zX K H p [.int a,.int b]/\Q (.int (if b<a then b else a)) H):=λ xs ds H S Q h0 h2 h=>by
 let#[a,b,rfl,h]:=h;let#[x,rfl,r]:=h0.one;simp![zf] at r;let#[c,ys,rfl,r1,r2]:=r;rw[zm.ints (ns:=[a,b]) r2] at r1;show#[c,a,b,rfl,r1,h _ H (by simp![zf]) (.refl H) h2]
def Qa (hm:X.mg "min"=none) (ha:xh X [e] tA) (hc:X.calm=true) (hg:Gl X "min") (he:AJ X e []) (Ao:AN X pos []):PD X (.Call (.Name "min" p) [e] [] pos) (xC qf tA):=
 uU (uT (Jp hc) hg hm boot_min ha.pa () () he Ao) qf.mo qf.fits ha.mo
end
end L3
namespace L5
open PySem PySem.Spec L2 L3
open PyProof.Rows hiding St
@[simp] def fq:Al
 | [.tup [.int a,.int b]]=>↑(.int (if b<a then b else a))
 | _=>none
def Lz:vQ zC fq qf:=λ S Z ys z ds Q hz r e hq=>by
 unfold fq at e;split at e
 .cases e;let#[d,rfl,h1]:=vT r;let#[es,rfl,h2]:=h1.tup;simp![zi,Sn] at h2;let#[_,_,rfl,rfl,_,_,rfl,rfl,rfl]:=h2;show#[_,_,rfl,hq _ S (.refl S) (Cl.of (λ _=>nofun) wL)]
 .cases e
end L5
namespace L3
open PySem PySem.Spec L2
open PyProof.Rows hiding St
section
variable {X:Cx}{e:Expr}{es:List Expr}{tA:yk}{pos p:Pos}
def v_ (i:Nat) {x:Str}(hN:X.N[i]?=↑x:=by rfl) (hv:ij X.env.scope x:=by first | show Or.inl rfl | show Or.inr (Or.inl rfl) | show Or.inr (Or.inr rfl)) (hd:(x == ("__debug__":Str))=false:=by decide) (BE:(x == ("__classdict__":Str))=false:=by decide):PD X (.Name x pos) (yh i):=RI i (pv i hN hv hd BE)
def Q8 {x:Str}{k k':Nat}{ps:List Str}{sp:wZ}(F:FD X.prog X.w X.K X.mg X.base x k ps sp) (hr:yb k' X.A) (ha:xh X (e::es) tA) (hk:k<=k') (hg:Gl X x) (BD:(x == ("__debug__":Str))=false)
  (he:AJ X e es) (Ao:AN X pos es):PD X (.Call (.Name x p) (e::es) [] pos) (jD sp tA):=Q9 F (hr.mono hk) ha hg BD he Ao
end
def mL {N P:List Str}{sc:Scope}(h1:sc.kind=.function:=by rfl) (h2:sc.isCoroutine=false:=by rfl) (h3:sc.isGenerator=false:=by rfl) (h4:N.Nodup:=by decide +kernel) (h5:N.take P.length=P:=by rfl) (h6:∀ x∈P,sc.names.lookup x=↑.local\/sc.names.lookup x=↑.cell:=by decide +kernel) (h7:∀ y∈sc.names,y.2≠.free:=by decide +kernel):vt N P sc:=#[h1,h2,h3,h4,h5,h6,h7]
def uS {α:Type}(f:Str) (y:α):List (Str × α)->List (Str × α)
 | []=>[(f,y)]
 | (g,x)::r=>if g=f then (g,y)::r else (g,x)::uS f y r
def Kl (K:Ac) (c:Str) (fl:List Str):Prop:=∃ C,rK K c C/\uQ K C/\∀ f∈fl,pJ K C f
def rK.eq {K:Ac}{c:Str}{C D:Addr}(h1:rK K c C) (h2:rK K c D):C=D:=by
 have:=h1.symm.trans h2;cases this;rfl
section
variable {K:Ac}{H:Hp}
def um.get {fs:List (Str×D)}{vs:List (Str×V)}(h:um K H fs vs):∀ {f:Str}{d:D},fs.lookup f=↑d->∃ v,vs.lookup f=↑v/\zf K H d v:=by
 induction h with
 | nil=>intro f d e;cases e
 | cons r _ ih=>
  rename_i p q ps qs _;let#[g,d']:=p;let#[g',v']:=q;let#[rfl,r2]:=r;intro f d e;rw[Bf] at e ⊢;dsimp only at e ⊢;cases q:f == g with
  | true=>rw[q] at e;cases e;show#[v',rfl,r2]
  | false=>rw[q] at e;show ih e
def um.put {fs:List (Str×D)}{vs:List (Str×V)}(h:um K H fs vs) {f:Str}{d:D}{v:V}(r:zf K H d v):um K H (uS f d fs) (wc f v vs):=by
 induction h with
 | nil=>show .cons #[rfl,r] .nil
 | cons z hh ih=>
  rename_i p q ps qs;let#[g,d']:=p;let#[g',v']:=q;let#[e,r2]:=z;dsimp only at e;subst e;unfold uS wc;by_cases c:g=f
  .rw[if_pos c,if_pos c];show .cons #[rfl,r] hh
  .rw[if_neg c,if_neg c];show .cons #[rfl,r2] ih
theorem um.length {fs:List (Str×D)}{vs:List (Str×V)}(h:um K H fs vs):fs.length=vs.length:=Paired.length h
end
section
variable {X:Cx}{e o value:Expr}{te to tv:zv}{pos pos':Pos}
def Y0 (cs:List Str) (f:Str) (te:zv):zv:=fun δ S Q=>te δ S λ x S1=>∃ p c fs d,x=.ref p/\S1 p=↑(.obj c fs)/\c∈cs/\fs.lookup f=↑d/\Q d S1
def Qx {cs fl:List Str}{f:Str}(hk:∀ c∈cs,Kl X.K c fl) (he:PD X e te) (hf:fl.elem f=true) (hb:attributeBase e f X.env (eval e X.env)=eval e X.env):PD X (.Attribute e f pos) (Y0 cs f te):=by
 exact#[fun δ S Q Q' hq z=>he.mo δ S _ _ (λ x S1 #[p,c,fs,d,h1,h2,h3,h4,h5]=>#[p,c,fs,d,h1,h2,h3,h4,hq _ _ h5]) z,PE.imp (SA he.pe hb) fun B H Q hu=>?_];let#[δ,S,r1,r2,z]:=hu;exact zN.go he.mo r1 r2 z λ x S1 v H1 h1 q1 e1 p1=>?_;let#[p,c,fs,d,rfl,h2,h3,h4,h5]:=h1;simp![zf] at q1;subst q1;let#[C,dx,vs,g1,g2,g3]:=p1 _ _ h2;let#[C',k1,k2,k3]:=hk c h3;cases g1.eq k1;let#[w,w1,w2]:=g3.get h4;show#[p,C,dx,vs,w,rfl,g2,k2,k3 f (List.mem_of_elem_eq_true hf),w1,h5 w H1 w2 e1 p1]
theorem Ext.ins {H:Hp}{p C dx:Addr}{fs:List (Str×V)}(h:H p=↑(.ins C dx fs)) (o:HO):Ext H (upd H p o):=
 #[λ b ys q=>by rw[yi (ua q h (by intro z;cases z))];show q,λ b ob u q=>by rw[yi (ua q h (by intro z;cases z))];show q,λ b u q=>by rw[yi (ua q h (by intro z;cases z))];show q,λ b u q=>by rw[yi (ua q h (by intro z;cases z))];show q]
def Ys (cs:List Str) (f:Str) (to tv:zv):yH:=λ E δ S=>tv δ S λ d S1=>to δ S1 λ x S2=>∃ p c fs,x=.ref p/\S2 p=↑(.obj c fs)/\c∈cs/\fs.length<1000/\E.nx δ (ups S2 p (.obj c (uS f d fs)))
def Rp {cs fl:List Str}{f:Str}(hk:∀ c∈cs,Kl X.K c fl) (ho:PD X o to) (hv:PD X value tv) (hf:fl.elem f=true) (hs:swapsWith value ↑(.Attribute o f pos') pos.line X.env=pure false):wy X (.Assign [.Attribute o f pos'] value pos) (Ys cs f to tv):=by
 exact#[λ E E' δ S hE z=>hv.mo δ S _ _ (λ d S1 z=>ho.mo δ S1 _ _ (λ x S2 #[p,c,fs,h1,h2,h3,h4,h5]=>#[p,c,fs,h1,h2,h3,h4,hE.nx _ _ h5]) z) z,λ EY s B H D I hu=>Tu ho.pe hv.pe hs EY s B H D I ?_];let#[δ,S,r1,r2,z]:=hu;exact zN.go hv.mo r1 r2 z λ d S1 v H1 h1 q1 e1 p1=>?_;exact zN.go ho.mo (r1.ext e1) p1 h1 λ x S2 w H2 h2 q2 e2 p2=>?_;let#[p,c,fs,rfl,g1,g2,g3,g4]:=h2;simp![zf] at q2;subst q2;let#[C,dx,vs,k1,k2,k3]:=p2 _ _ g1;let#[C',j1,j2,j3]:=hk c g2;cases k1.eq j1;have e4:Ext H2 (upd H2 p (.ins C dx (wc f v vs))):=.ins k2 _;exact#[p,C,dx,vs,rfl,k2,j2,j3 f (List.mem_of_elem_eq_true hf),by rw[<- k3.length];show g3,?_];show g4 _ _ (r1.ext ((e1.trans e2).trans e4)) ((e1.trans e2).trans e4) (p2.ups e4 #[C,dx,_,k1,yx,(k3.put (zf.ext e2 d q1)).ext e4])
structure uq (P:Program) (w:World) (K:Ac) (mg:AF) (base:Heap) (cs:List Str) (m:Str) (k:Nat) (ps:List Str) (sp:wZ):Prop where
 ex:∃ (f:Addr) (fd:FuncData),w_ P w K mg base y7 k f fd ps (vE K sp)/\Binds K fd ps []/\∀ c∈cs,∃ C,rK K c C/\uQ K C/\Meth K C m f
 mo:qz sp
def t_ (cs:List Str) (m:Str) (sp:wZ) (to:zv) (tA:yk):zv:=fun δ S Q=>to δ S λ x S1=>∃ p c fs,x=.ref p/\S1 p=↑(.obj c fs)/\c∈cs/\fs.lookup m=none/\tA δ S1 λ ds S2=>sp (x::ds) S2 Q
def t_.mo {cs:List Str}{m:Str}{sp:wZ}{tA:yk}(h1:yq to) (h2:qz sp) (h3:sE tA):yq (t_ cs m sp to tA):=fun δ S Q Q' hq z=>
 h1 δ S _ _ (λ x S1 #[p,c,fs,a1,a2,a3,a4,a5]=>#[p,c,fs,a1,a2,a3,a4,h3 δ S1 _ _ (λ ds S2 z=>h2 _ S2 _ _ hq z) a5]) z
theorem um.none {K:Ac}{H:Hp}{fs:List (Str×D)}{vs:List (Str×V)}(h:um K H fs vs):∀ {f:Str},fs.lookup f=Option.none->vs.lookup f=Option.none:=by
 induction h with
 | nil=>intro f e;rfl
 | cons r _ ih=>
  rename_i p q ps qs _;let#[g,d']:=p;let#[g',v']:=q;let#[rfl,r2]:=r;intro f e;rw[Bf] at e ⊢;dsimp only at e ⊢;cases q:f == g with
  | true=>rw[q] at e;cases e
  | false=>rw[q] at e;show ih e
section
variable {cs:List Str}{m:Str}{sp:wZ}{tA:yk}{es:List Expr}{k:Nat}{ps:List Str}{apos:Pos}{pl:Sem Bool}
def Qc {k':Nat}(F:uq X.prog X.w X.K X.mg X.base cs m k ps sp) (hr:yb k' X.A) (ho:PD X o to) (ha:xh X (e::es) tA) (hk:k<=k')
  (AU:AJ X e es) (Ao:AN X pos es)
  (ht:eval (.Call (.Attribute o m apos) (e::es) [] pos) X.env=(do
   let ov <- eval o X.env
   standAt apos.atName
   let (f,first) <- holding [ov] (getMethod ov m pl)
   callWith pos f first (backTo pos (starEach (e::es) X.env)) (backToKw pos (keywordEach [] X.env)))):
  PD X (.Call (.Attribute o m apos) (e::es) [] pos) (t_ cs m sp to tA):=by
 let#[#[f,fd,h1,h2,h3],hm]:=F;exact#[t_.mo ho.mo hm ha.mo,λ EY s B H Q I hu=>?_];let#[δ,S,r1,r2,z]:=hu;exact PySem.W.methodCall_KW (pl:=pl) (zB (ho.pe EY s B H (λ x H1=>∃ a C dx fs,x=.ref a/\H1 a=↑(.ins C dx fs)/\uQ X.K C/\Meth X.K C m f/\fs.lookup m=none/\w6 X.K tA B H1 λ vs H2=>vE X.K sp (.ref a::vs) H2 Q E0) I (zN.go ho.mo r1 r2 z λ x S1 v H1 g1 q1 e1 p1=>?_)) λ u s1 #[x,H1,I1,rx,a,C,dx,fs,ex,ea,c,me,l,q]=>?_) ht
 .let#[p,c,fs,rfl,g2,g3,g4,g5]:=g1;have q1':=q1;simp![zf] at q1;subst q1;let#[C,dx,vs,j1,j2,j3]:=p1 _ _ g2;let#[C',j4,j5,j6]:=h3 c g3;cases j1.eq j4;exact#[p,C,dx,vs,rfl,j2,j5,j6,j3.none g4,δ,S1,r1.ext e1,p1,ha.mo δ S1 _ _ (λ ds S2 z xs H2 a1 a2 a3=>#[.ref p::ds,S2,.cons (by simp![zf]) a1,a3,hm _ S2 _ _ (λ d S' q=>wj.ext (e1.trans a2) q) z]) g5]
 .subst ex;obtain rfl:u=Value.ref a:=rx;exact ZK I1 ea c me l ?_;exact PySem.W.callWith_K (first:=[.ref a]) (h₀:=X.base) I.ok.mod.m9 me.kp (zB (ha.pa pos EY s1 B H1 _ I1 q) λ us s2 #[vs,H2,I2,r,q2]=>#[I2.xK,?_]) AU Ao;show gA (us:=.ref a::us) (vs:=.ref a::vs) (dvs:=[]) (E:=E0) h1 (hr.mono hk) h2 .nil kP I2 (.cons rfl r) (by rw[Cs];show q2)
def Qb {k':Nat}(F:uq X.prog X.w X.K X.mg X.base cs m k ps sp) (hr:yb k' X.A) (ho:PD X o to) (hk:k<=k')
  (ht:eval (.Call (.Attribute o m apos) [] [] pos) X.env=(do
   let ov <- eval o X.env
   standAt apos.atName
   let (f,first) <- holding [ov] (getMethod ov m pl)
   callWith pos f first (backTo pos (starEach [] X.env)) (backToKw pos (keywordEach [] X.env)))):
  PD X (.Call (.Attribute o m apos) [] [] pos) (t_ cs m sp to pj):=by
 let#[#[f,fd,h1,h2,h3],hm]:=F;exact#[t_.mo ho.mo hm (λ _ _ _ _ hq z=>hq _ _ z),λ EY s B H Q I hu=>?_];let#[δ,S,r1,r2,z]:=hu;exact PySem.W.methodCall_KW (pl:=pl) (zB (ho.pe EY s B H (λ x H1=>∃ a C dx fs,x=.ref a/\H1 a=↑(.ins C dx fs)/\uQ X.K C/\Meth X.K C m f/\fs.lookup m=none/\vE X.K sp [.ref a] H1 Q E0) I (zN.go ho.mo r1 r2 z λ x S1 v H1 g1 q1 e1 p1=>?_)) λ u s1 #[x,H1,I1,rx,a,C,dx,fs,ex,ea,c,me,l,q]=>?_) ht
 .let#[p,c,fs,rfl,g2,g3,g4,g5]:=g1;have q1':=q1;simp![zf] at q1;subst q1;let#[C,dx,vs,j1,j2,j3]:=p1 _ _ g2;let#[C',j4,j5,j6]:=h3 c g3;cases j1.eq j4;show#[p,C,dx,vs,rfl,j2,j5,j6,j3.none g4,[.ref p],S1,.cons (by simp![zf]) .nil,p1,hm _ S1 _ _ (λ d S' q=>wj.ext e1 q) g5]
 .subst ex;obtain rfl:u=Value.ref a:=rx;exact ZK I1 ea c me l ?_;show PySem.W.callWith_K0 (first:=[.ref a]) I1.xK me.kp (gA (us:=[.ref a]) (vs:=[.ref a]) (dvs:=[]) (E:=E0) h1 (hr.mono hk) h2 .nil kP I1 (.cons rfl .nil) (by rw[Cs];show q))
structure iH (P:Program) (w:World) (K:Ac) (mg:AF) (base:Heap) (c:Str) (k:Nat) (ps:List Str) (sp:wZ):Prop where
 ex:∃ (C f:Addr) (fd:FuncData),w_ P w K mg base y7 k f fd ps (vE K sp)/\Binds K fd ps []/\rK K c C/\Mk K C f/\mg c=↑(.ref C)
 mo:qz sp
def Yw (c:Str) (sp:wZ) (tA:yk):zv:=fun δ S Q=>tA δ S λ ds S1=>∀ p,S1 p=none->sp (.ref p::ds) (ups S1 p (.obj c [])) λ d S2=>d=.zp/\Q (.ref p) S2
def Qe {c:Str}{k':Nat}{p:Pos}(F:iH X.prog X.w X.K X.mg X.base c k ps sp) (hr:yb k' X.A) (ha:xh X (e::es) tA) (hk:k+1<=k') (hg:Gl X c) (BD:(c == ("__debug__":Str))=false)
  (he:AJ X e es) (Ao:AN X pos es):PD X (.Call (.Name c p) (e::es) [] pos) (Yw c sp tA):=by
 let#[#[C,f,fd,h1,h2,h3,h4,h5],hm]:=F;exact#[fun δ S Q Q' hq z=>ha.mo δ S _ _ (λ ds S1 z p hp=>hm _ _ _ _ (λ d S2 q=>#[q.1,hq _ _ q.2]) (z p hp)) z,PE.imp (Su (E:=E0) h4 h1 (hr.mono hk) hg h5 h2 .nil kP ha.pa BD he Ao) fun B H Q hu=>?_];let#[δ,S,r1,r2,z]:=hu;exact w6.go ha.mo r1 r2 z λ ds S1 xs H1 z1 q1 e1 p1 x dx hx hdx Av=>?_;have e0:Ext (upd H1 dx (.own x)) (upd (upd H1 dx (.own x)) x (.ins C dx [])):=.new (by rw[yi (Ne.symm Av)];show hx) _;have e2:=(Ext.new hdx (.own x)).trans e0;rw[Cs];exact#[.ref x::ds,ups S1 x (.obj c []),.cons (by simp![zf]) (zm.ext e2 ds q1),(p1.new hdx).ups e0 #[C,dx,[],h3,yx,.nil],?_]
 .exact hm _ _ _ _ (λ d S2 q v H2 a1 a2 a3=>?_) (z1 x (p1.none hx));let#[rfl,q]:=q;simp![zf] at a1;show#[a1,q (.ref x) H2 (by simp![zf]) ((e1.trans e2).trans a2) a3]
end
end
end L3
namespace L5
open PySem PySem.Spec L2 L3
open PyProof.Rows hiding St
@[simp] def xN (cs:List Str) (i:Nat) (f:Str):Ae:=fun ρ=>match ρ[i]? with
 | some ↑(.own (.obj _ c fs))=>if c∈cs then fs.lookup f else none
 | _=>none
@[simp] def rS (cs:List Str) (i:Nat) (f:Str) (g:Ae):Sm:=fun ρ=>(g ρ).bind λ y=>match ρ[i]? with
 | some ↑(.own (.obj a c fs))=>if c∈cs/\fs.length<1000 then ↑(.nx (ρ.set i ↑(.own (.obj a c (uS f y fs))))) else none
 | _=>none
def Xr {a:Option Addr}{c c':Str}{fs Ge:List (Str×T)}{p:Addr}(h:adr (.obj a c fs) p):adr (.obj a c' Ge) p:=by cases a <;> show h
theorem ye.ZY {S:SS}:∀ {fs:List (Str×T)}{ds:List (Str×D)},ye S fs ds->∀ {f:Str}{t:T},fs.lookup f=↑t->∃ d,ds.lookup f=↑d/\Sn S t d
 | [],_,_,_,_,e=>by cases e
 | (g,x)::fs,ds,h,f,t,e=>by
  let#[d,m,rfl,h1,h2]:=h;rw[Bf] at e ⊢;cases q:f == g with
  | true=>rw[q] at e;cases e;show#[d,rfl,h1]
  | false=>rw[q] at e;show ye.ZY h2 e
theorem ye.f_ {S:SS}:∀ {fs:List (Str×T)}{ds:List (Str×D)},ye S fs ds->∀ {f:Str},fs.lookup f=none->ds.lookup f=none
 | [],_,h,_,_=>by cases h;rfl
 | (g,x)::fs,ds,h,f,e=>by
  let#[d,m,rfl,h1,h2]:=h;rw[Bf] at e ⊢;cases q:f == g with
  | true=>rw[q] at e;cases e
  | false=>rw[q] at e;show ye.f_ h2 e
theorem ye.ZR {S:SS}:∀ {fs:List (Str×T)}{ds:List (Str×D)},ye S fs ds->ds.length=fs.length
 | [],_,h=>by cases h;rfl
 | (g,x)::fs,ds,h=>by
  let#[d,m,rfl,h1,h2]:=h;rw[A4,A4,ye.ZR h2]
theorem ye.ZO {S:SS}{f:Str}{t:T}{d:D}(r:Sn S t d):∀ {fs:List (Str×T)}{ds:List (Str×D)},ye S fs ds->ye S (uS f t fs) (uS f d ds)
 | [],_,h=>by cases h;show#[d,[],rfl,r,rfl]
 | (g,x)::fs,ds,h=>by
  let#[d',m,rfl,h1,h2]:=h;unfold uS;by_cases c:g=f
  .rw[if_pos c,if_pos c];show#[d,m,rfl,r,h2]
  .rw[if_neg c,if_neg c];show#[d',_,rfl,h1,ye.ZO r h2]
def kQ {S:SS}{Z:Addr->Prop}{δ:yg}{ρ:Ev}(hE:ER S Z δ ρ) {i:Nat}{a:Option Addr}{c:Str}{fs:List (Str×T)}(h:ρ[i]?=↑↑(.own (.obj a c fs))):∃ p b,δ[i]?=↑↑(.ref p)/\S p=↑(.obj c b)/\ye (zx S Z) fs b:=by
 let#[p,o,h1,h2,h3,_]:=hE.ow i _ h;cases o with
 | obj c' b=>let#[rfl,h3]:=h3;show#[p,b,h1,h2,h3]
 | _=>show h3.elim
section
variable {R:Rk}{g:Ae}{tg:zv}
def az {cs:List Str}(i:Nat) (f:Str):wb (xN cs i f) (Y0 cs f (yh i)):=λ S Z δ ρ y Q hE e hq=>by
 unfold xN at e;split at e
 .rename_i a c fs h;split at e
  .rename_i hc;let#[p,b,h1,h2,h3]:=kQ hE h;let#[d,d1,d2]:=h3.ZY e;change yh i δ S _;unfold yh;rw[h1];show#[p,c,b,d,rfl,h2,hc,d1,hq d S (.refl S) d2]
  .cases e
 .cases e
def Pm {cs:List Str}(i:Nat) (f:Str) (hg:wb g tg):ym R (rS cs i f g) (Ys cs f (yh i) tg):=λ S0 Z0 S Z δ ρ o E F e P=>by
 let#[z,e1,e3]:=An.mp e;split at e3
 .rename_i a c fs h;split at e3
  .rename_i hl;cases e3;exact hg S Z δ ρ z _ F.er e1 λ dz S1 s1 r1=>?_;have F1:=F.grow s1;let#[p,b,h1,h2,h3]:=kQ F1.er h;change yh i δ S1 _;unfold yh;rw[h1];show#[p,c,b,rfl,h2,hl.1,by rw[h3.ZR];show hl.2,P _ Z δ (F1.mut (us:=.obj a c (uS f z fs)) (es:=.obj c (uS f dz b)) i h h1 #[rfl,h3.ZO r1] Xr)]
  .cases e3
 .cases e3
end
@[simp] def vW (N:List Str) (ws:List W):Ev:=ws.map some++List.replicate (N.length-ws.length) none
theorem gj {N:List Str}{ws:List W}{i:Nat}{w:W}(h:(vW N ws)[i]?=↑↑w):ws[i]?=↑w:=by
 unfold vW at h;have hi:i<ws.length:=by
  rcases Bj i ws.length with q | q
  .show q
  .rw[Cc (by exists q),CQ] at h;split at h <;> cases h
 rw[Cb (by exists hi),AD] at h;cases q:ws[i]? with
 | none=>rw[q] at h;cases h
 | some y=>rw[q] at h;cases h;rfl
def map_some {α:Type}{l:List α}{i:Nat}{x:α}(h:l[i]?=↑x):(l.map some)[i]?=↑↑x:=by rw[AD,h];rfl
def rX {α:Type}{l:List α}{i:Nat}{x:α}(h:(l.map some)[i]?=↑↑x):l[i]?=↑x:=by
 rw[AD] at h;cases q:l[i]? with
 | none=>rw[q] at h;cases h
 | some y=>rw[q] at h;cases h;rfl
def ER.start {S:SS}{Z:Addr->Prop}{N:List Str}{ws:List W}{ds:List D}(h:ER S Z (ds.map some) (ws.map some)):ER S Z (vX N ds) (vW N ws):=by
 exact#[h.zd,λ i t e=>?_,λ i c e=>?_]
 .let#[d,h1,h2]:=h.im i t (map_some (gj e));show#[d,kB (rX h1),h2]
 .let#[p,o,h1,h2]:=h.ow i c (map_some (gj e));show#[p,o,kB (rX h1),h2]
def sO (N:List Str) (n:Nat) (f:Ae):wZ:=λ ds S Q=>∃ Z ws y,ER S Z (ds.map some) (ws.map some)/\ds.length=n/\f (vW N ws)=↑y/\∀ d S',Sx S S'->Sn (zx S' Z) y d->Q d S'
def sO.mo {N:List Str}{n:Nat}{f:Ae}:qz (sO N n f):=λ _ _ _ _ hq #[Z,ws,y,h1,h2,h3,h4]=>#[Z,ws,y,h1,h2,h3,λ d S' s r=>hq _ _ (h4 d S' s r)]
@[simp] def tN (cs:List Str) (m:Str) (N:List Str) (f:Ae) (j:Nat):Ae:=fun ρ=>match ρ[j]? with
 | some ↑(.own (.obj a c fs))=>if c∈cs/\fs.lookup m=none then f (vW N [.own (.obj a c fs)]) else none
 | _=>none
def ay {cs N:List Str}{m:Str}{f:Ae}(j:Nat):wb (tN cs m N f j) (t_ cs m (sO N 1 f) (yh j) pj):=λ S Z δ ρ y Q hE e hq=>by
 unfold tN at e;split at e
 .rename_i a c fs h;split at e
  .rename_i hc;let#[p,o,h1,h2,h3,h4]:=hE.ow j _ h;let#[p',b,h1',h2',h5]:=kQ hE h;rw[h1] at h1';cases h1';change yh j δ S _;unfold yh;rw[h1];exact#[p,c,b,rfl,h2',hc.1,h5.f_ hc.2,Z,[.own (.obj a c fs)],y,#[hE.zd,λ i t q=>?_,λ i c' q=>?_],rfl,e,λ d S' s r=>hq d S' s r]
   .have:=rX q;cases i with
    | zero=>cases this
    | succ i=>cases this
   .have:=rX q;cases i with
    | zero=>cases this;show#[p,o,rfl,h2,h3,h4]
    | succ i=>cases this
  .cases e
 .cases e
def w9:C->Option Addr
 | .obj a _ _=>a
 | _=>none
@[simp] def vx (a:Option Addr):C->C
 | .obj _ c fs=>.obj a c fs
 | c=>c
def wg:C->Bool
 | .obj _ _ _=>true
 | _=>false
def vB:C->T
 | .obj _ c fs=>.tup [.str c,.tup (fs.map λ q=>.tup [.str q.1,q.2])]
 | _=>.zp
def vg (v:T) (L:List (Addr×C)):T:=.lst [v,.tup (L.map λ q=>.tup [.int q.1,vB q.2])]
theorem ZS:∀ {a b:List (Str×T)},(a.map λ q=>T.tup [.str q.1,q.2])=b.map (λ q=>T.tup [.str q.1,q.2])->a=b
 | [],[],_=>rfl
 | [],_::_,h=>nomatch h
 | _::_,[],h=>nomatch h
 | (x,y)::a,(x',y')::b,h=>by
  simp![Aw,List.cons.injEq,T.tup.injEq,T.str.injEq,and_true] at h;rw[ZS h.2,h.1.1,h.1.2]
def YA {c c':C}(h:vB c=vB c') (l:wg c=true) (l':wg c'=true):vx none c=vx none c':=by
 cases c with
 | obj a k fs=>
  cases c' with
  | obj a' k' Ge=>
   simp![vB,T.tup.injEq,List.cons.injEq,T.str.injEq,and_true] at h;rw[vx,vx,h.1,ZS h.2]
  | _=>cases l'
 | _=>cases l
def kJ {S:SS}{a:Option Addr}{c:C}{o:O}:xy S (vx a c) o↔xy S c o:=by
 cases c <;> cases o <;> show Iff.rfl
def KU {S:SS}{c c':C}{o:O}(h:vB c=vB c') (l:wg c=true) (l':wg c'=true) (r:xy S c o):xy S c' o:=by
 rw[<- kJ (a:=none),<- YA h l l',kJ];show r
def gE {c:C}(h:w9 c=none):vx none c=c:=by
 cases c with
 | obj a k fs=>simp![w9] at h;subst h;rfl
 | _=>rfl
def i_ {a:Option Addr}{c:C}(l:wg c=true):w9 (vx a c)=a:=by
 cases c with
 | obj _ k fs=>rfl
 | _=>cases l
def My {c:C}{p:Addr}(h:w9 c=↑p):wg c=true:=by
 cases c with
 | obj a k fs=>rfl
 | _=>cases h
def JT {c:C}{p:Addr}(h:w9 c=↑p):adr c p:=by
 cases c with
 | obj a k fs=>simp![w9] at h;subst h;rfl
 | _=>cases h
def JU {c c':C}{p:Addr}(h:adr c p):adr (vx (w9 c) c') p:=by
 cases c' with
 | obj a' k' Ge=>
  cases c with
  | obj a k fs=>show Xr h
  | _=>show trivial
 | _=>show trivial
def JV {c:C}{p q:Addr}(h:w9 c=↑q) (h':adr c p):q=p:=by
 cases c with
 | obj a k fs=>simp![w9] at h;subst h;show h'
 | _=>cases h
def LZ (Z:Addr->Prop) (L:List (Addr×C)):Addr->Prop:=λ a=>Z a\/∃ c,(a,c)∈L
def sA:Rk:=λ S S' Z y d=>(∃ ts,y=.lst ts)->∃ v L,y=vg v L/\Sn (zx S' (LZ Z L)) v d/\∀ q∈L,wg q.2=true/\S q.1=none/\∃ o,S' q.1=↑o/\xy (zx S' (LZ Z L)) q.2 o
instance:Cl sA:=#[λ s h e=>by
 let#[v,L,h1,h2,h3]:=h e;show#[v,L,h1,h2,λ q hq=>#[(h3 q hq).1,s.none (h3 q hq).2.1,(h3 q hq).2.2]],λ n _ #[ts,e]=>absurd e (n ts)]
instance:Lo sA:=#[λ{S0 S S' Z0 Z y d} s z h e=>by
 let#[v,L,h1,h2,h3]:=h e;have le:∀ a,LZ Z0 L a->LZ Z L a:=λ a q=>q.imp (z a) id;exact#[v,L,h1,Sn.sx (vm le) v h2,λ q hq=>?_];let#[g1,g2,o,g3,g4]:=h3 q hq;show#[g1,s.none g2,o,g3,xy.sx (vm le) g4]]
def mz (ρ:Ev) (i:Nat):Option (Addr×C):=match ρ[i]? with
 | some ↑(.own c)=>(w9 c).map λ p=>(p,c)
 | _=>none
@[simp] def u9:List Nat->Ev->Option (List (Addr×C))
 | [],_=>↑[]
 | i::is,ρ=>(mz ρ i).bind λ q=>(u9 is ρ).map (q::·)
@[simp] def gF (is:List Nat) (f:Ae):Sm:=fun ρ=>(f ρ).bind λ y=>(u9 is ρ).map λ L=>.rt (vg y L)
@[simp] def ah (is:List Nat):Option Out->Option T
 | some (.rt y)=>↑y
 | some (.nx ρ)=>(u9 is ρ).map (vg .zp)
 | _=>none
@[simp] def wM (N:List Str) (n:Nat) (is:List Nat) (g:Sm):List W->Option T:=λ ws=>if ws.length=n then ah is (g (vW N ws)) else none
section
variable {S0 S:SS}{Z0 Z:Addr->Prop}{δ:yg}{ρ:Ev}
theorem FR.mz {i:Nat}{q:Addr×C}(F:FR S0 Z0 S Z δ ρ) (h:L5.mz ρ i=↑q):wg q.2=true/\S0 q.1=none/\Z q.1/\∃ o,S q.1=↑o/\xy (zx S Z) q.2 o:=by
 unfold L5.mz at h;split at h
 .rename_i c hc;let#[p,hp,rfl]:=AE.mp h;let#[p',o,h1,h2,h3,h4]:=F.er.ow i c hc;let#[f1,f2]:=F.fr i c p' hc h1;cases JV hp f2;show#[My hp,f1,h4,o,h2,h3]
 .cases h
theorem FR.u9 (F:FR S0 Z0 S Z δ ρ):∀ {is:List Nat}{L:List (Addr×C)},L5.u9 is ρ=↑L->∀ q∈L,wg q.2=true/\S0 q.1=none/\Z q.1/\∃ o,S q.1=↑o/\xy (zx S Z) q.2 o
 | [],L,h,q,hq=>by cases h;cases hq
 | i::is,L,h,q,hq=>by
  let#[r,h1,h2]:=An.mp h;let#[L',h3,rfl]:=AE.mp h2;rcases Am.mp hq with rfl | hq
  .show F.mz h1
  .show FR.u9 F h3 q hq
def FR.b8 {is:List Nat}{L:List (Addr×C)}{v:T}{d:D}(F:FR S0 Z0 S Z δ ρ) (h:L5.u9 is ρ=↑L) (hv:Sn (zx S Z) v d):sA S0 S Z0 (vg v L) d:=λ _=>by
 have f:=F.u9 h;have le:∀ a,LZ Z0 L a->Z a:=λ a q=>q.elim (F.zz a) λ#[c,hc]=>(f _ hc).2.2.1;exact#[v,L,rfl,Sn.sx (vm le) v hv,λ q hq=>?_];let#[g1,g2,_,o,g3,g4]:=f q hq;show#[g1,g2,o,g3,xy.sx (vm le) g4]
def Pk {f:Ae}{te:zv}{is:List Nat}(hf:wb f te):ym sA (gF is f) (lb te):=λ S0 Z0 S Z δ ρ o E F e P=>by
 let#[y,e1,e2]:=An.mp e;let#[L,e3,rfl]:=AE.mp e2;show hf S Z δ ρ y _ F.er e1 λ d S1 s1 r1=>P d S1 (F.sx.trans s1) ((F.grow s1).b8 e3 r1)
end
structure Ie (S:SS) (Z:Addr->Prop) (ws:List W) (ds:List D):Prop where
 er:ER S Z (ds.map some) (ws.map some)
 len:ds.length=ws.length
 tg:∀ (i:Nat) c p,ws[i]?=↑(.own c)->ds[i]?=↑(.ref p)->w9 c=↑p
 dj:∀ (i j:Nat) c c' p,i≠j->ws[i]?=↑(.own c)->ws[j]?=↑(.own c')->ds[i]?=↑(.ref p)->ds[j]?=↑(.ref p)->False
def uA (ws:List W) (a:Addr):Prop:=∃ c,W.own c∈ws/\w9 c=↑a
def xH (F:List W->Option T):wZ:=λ ds S Q=>∃ Z ws y,Ie S Z ws ds/\F ws=↑y/\∀ d S',Sx (zx S (uA ws)) S'->sA (zx S (uA ws)) S' (λ a=>Z a/\¬ uA ws a) y d->Q d S'
def xH.mo {F:List W->Option T}:qz (xH F):=λ _ _ _ _ hq #[Z,ws,y,h1,h2,h3]=>#[Z,ws,y,h1,h2,λ d S' s r=>hq _ _ (h3 d S' s r)]
theorem xH.len {N:List Str}{n:Nat}{is:List Nat}{g:Sm}{ds:List D}{S:SS}{Q:DK}(hs:xH (wM N n is g) ds S Q):ds.length=n:=by
 let#[Z,ws,y,r,e,hq]:=hs;unfold wM at e;split at e
 .rename_i h;rw[r.len];show h
 .cases e
def YU {N:List Str}{n:Nat}{is:List Nat}{g:Sm}{t:yH}(h:ym sA g t) {ds:List D}{S:SS}{Q:DK}(hs:xH (wM N n is g) ds S Q):t { nx:=λ _ S'=>Q .zp S',rt:=Q } (vX N ds) S:=by
 let#[Z,ws,y,r,e,hq]:=hs;unfold wM at e;split at e
 case isFalse=>cases e
 obtain⟨o,e1,e2⟩:∃ o,g (vW N ws)=↑o/\ah is ↑o=↑y:=by
  cases q:g (vW N ws) with
  | none=>rw[q] at e;cases e
  | some o=>show#[o,rfl,by rw[<- q];show e]
 have hA:∀ (i:Nat) (c:C) (p:Addr),(vW N ws)[i]?=↑↑(.own c)->(vX N ds)[i]?=↑↑(.ref p)->ws[i]?=↑(.own c)/\ds[i]?=↑(.ref p):=λ i c p a b=>by
  have a':=gj a;let#[p',o',k1,_]:=r.er.ow i c (map_some a');have k2:=kB (N:=N) (rX k1);rw[b] at k2;cases k2;show#[a',rX k1]
 exact h (zx S (uA ws)) (λ a=>Z a/\¬ uA ws a) S Z _ _ o _ #[r.er.start,?_,oQ _ _,λ a z=>?_,λ a z=>z.1,λ a z=>?_,λ i c p a b=>?_,λ i j c c' p n a a' b b'=>?_] e1 ?_
 .unfold vX vW;have:=r.len;simp[this]
 .rw[vk z.2];show r.er.zd a z.1
 .by_cases q:uA ws a
  .show .inr (mF q)
  .show .inl #[z,q]
 .let#[a',b']:=hA i c p a b;have tg:=r.tg i c p a' b';show#[mF #[c,A9 a',tg],JT tg]
 .let#[a1,b1]:=hA i c p a b;let#[a2,b2]:=hA j c' p a' b';show r.dj i j c c' p n a1 a2 b1 b2
 .cases o with
  | rt y'=>cases e2;show λ d S' s r=>hq d S' s r
  | nx ρ'=>
   let#[L,e3,rfl]:=AE.mp e2;show λ S' Z' δ' F=>hq .zp S' F.sx (F.b8 e3 gr)
  | _=>cases e2
abbrev Ag:=Nat ⊕ T
@[simp] def slots:List Ag->List Nat
 | []=>[]
 | .inl j::r=>j::slots r
 | .inr _::r=>slots r
@[simp] def uu (ad:Nat->Addr) (ρ:Ev):List Ag->Option (List W)
 | []=>↑[]
 | .inl j::r=>match ρ[j]? with
  | some ↑(.own c)=>if wg c=true then (uu ad ρ r).map (.own (vx ↑(ad j) c)::·) else none
  | _=>none
 | .inr t::r=>(uu ad ρ r).map (.im t::·)
@[simp] def pU (ad:Nat->Addr):List Nat->List C->List (Addr×C)
 | j::js,c::cs=>(ad j,c)::pU ad js cs
 | _,_=>[]
def Bc (F:List W->Option T) (ρ:Ev) (ys:List Ag) (r:T×List C):Prop:=(r.2.length=(slots ys).length/\∀ c∈r.2,wg c=true/\w9 c=none)/\∀ ad,∃ ws,uu ad ρ ys=↑ws/\F ws=↑(vg r.1 (pU ad (slots ys) r.2))
def sg (F:List W->Option T) (ρ:Ev) (ys:List Ag):Option (T×List C):=open Classical in if h:∃ r,Bc F ρ ys r then ↑h.choose else none
def af {v v':T}{L L':List (Addr×C)}(h:vg v L=vg v' L'):v=v'/\(L.map λ q=>T.tup [.int q.1,vB q.2])=L'.map λ q=>T.tup [.int q.1,vB q.2]:=by
 simp![vg,T.lst.injEq,List.cons.injEq,T.tup.injEq,and_true] at h;show h
def ae {L L':List (Addr×C)}(h:(L.map λ q=>T.tup [.int q.1,vB q.2])=L'.map λ q=>T.tup [.int q.1,vB q.2]) {q:Addr×C}(hq:q∈L'):∃ q'∈L,q'.1=q.1/\vB q'.2=vB q.2:=by
 have:=D1 (f:=λ q:Addr×C=>T.tup [.int q.1,vB q.2]) hq;rw[<- h] at this;let#[q',h1,h2]:=Aq.mp this;simp![T.tup.injEq,List.cons.injEq,T.int.injEq,and_true] at h2;show#[q',h1,Int.ofNat.inj h2.1,h2.2]
theorem zip_inj {ad:Nat->Addr}:∀ {js:List Nat}{cs cs':List C},cs.length=js.length->cs'.length=js.length->(∀ c∈cs,wg c=true/\w9 c=none)->(∀ c∈cs',wg c=true/\w9 c=none)->
  ((pU ad js cs).map λ q=>T.tup [.int q.1,vB q.2])=(pU ad js cs').map (λ q=>T.tup [.int q.1,vB q.2])->cs=cs'
 | [],[],[],_,_,_,_,_=>rfl
 | [],_::_,_,h,_,_,_,_=>nomatch h
 | [],[],_::_,_,h,_,_,_=>nomatch h
 | _::_,[],_,h,_,_,_,_=>nomatch h
 | _::_,_::_,[],_,h,_,_,_=>nomatch h
 | j::js,c::cs,c'::cs',h,h',l,l',e=>by
  simp![pU,Aw,List.cons.injEq,T.tup.injEq,T.int.injEq,and_true,true_and] at e;have a:=YA e.1 (l c Ar).1 (l' c' Ar).1;rw[gE (l c Ar).2,gE (l' c' Ar).2] at a;rw[a,zip_inj (Nat.succ.inj h) (Nat.succ.inj h') (λ x hx=>l x (Ay _ hx)) (λ x hx=>l' x (Ay _ hx)) e.2]
def JH {F:List W->Option T}{ρ:Ev}{ys:List Ag}{r:T×List C}(h:Bc F ρ ys r):sg F ρ ys=↑r:=by
 have hx:∃ r,Bc F ρ ys r:=#[r,h];unfold sg;rw[dif_pos hx];let#[#[h1,h2],h3]:=hx.choose_spec;let#[#[g1,g2],g3]:=h;let#[ws,w1,w2]:=h3 λ _=>0;let#[ws',w3,w4]:=g3 λ _=>0;rw[w1] at w3;cases w3;rw[w2] at w4;let#[e1,e2]:=af (Ba w4);have e3:=zip_inj h1 g1 h2 g2 e2;show congrArg some (Prod.ext e1 e3)
def Xf {F:List W->Option T}{ρ:Ev}{ys:List Ag}{r:T×List C}(h:sg F ρ ys=↑r):Bc F ρ ys r:=by
 unfold sg at h;split at h
 .rename_i hx;cases h;show hx.choose_spec
 .cases h
def qK (ρ:Ev) (j:Nat):Option Addr:=match ρ[j]? with
 | some ↑(.own c)=>w9 c
 | _=>none
@[simp] def tG:List Nat->List C->Ev->Ev
 | j::js,c::cs,ρ=>tG js cs (ρ.set j ↑(.own (vx (qK ρ j) c)))
 | _,_,ρ=>ρ
theorem cE:∀ {js:List Nat}{cs:List C}{ρ:Ev},(tG js cs ρ).length=ρ.length
 | [],_,_=>#[]
 | _::_,[],_=>#[]
 | j::js,c::cs,ρ=>by rw[tG,cE,C8]
theorem ko:∀ {js:List Nat}{cs:List C}{ρ:Ev}{k:Nat}{w:W},js.Nodup->(tG js cs ρ)[k]?=↑↑w->(∃ (c:C) (i:Nat),js[i]?=↑k/\cs[i]?=↑c/\w=.own (vx (qK ρ k) c))\/ρ[k]?=↑↑w/\∀ i:Nat,js[i]?=↑k->cs.length<=i
 | [],_,ρ,k,w,_,h=>.inr #[by simpa using h,λ i e=>by simp at e]
 | _::_,[],ρ,k,w,_,h=>.inr #[by simpa using h,λ i e=>#[]]
 | j::js,c::cs,ρ,k,w,nd,h=>by
  rw[tG] at h;let#[nj,nd]:=Bk.mp nd;rcases ko nd h with ⟨c',i,h1,h2,h3⟩ | ⟨h1,h2⟩
  .have kj:j≠k:=λ e=>nj (by rw[e];show A9 h1);exact .inl #[c',i+1,h1,h2,?_];rw[h3];unfold qK;rw[vn kj]
  .rcases yJ h1 with ⟨rfl,hl,e⟩ | ⟨n,e⟩
   .cases e;show .inl #[c,0,rfl,rfl,rfl]
   .exact .inr #[e,λ i q=>?_];cases i with
    | zero=>cases q;show absurd rfl n
    | succ i=>show Nat.succ_le_succ (h2 i q)
def kh (S:SS) (Z:Addr->Prop) (δ:yg):List Ag->List D->Prop
 | [],ds=>ds=[]
 | .inl j::r,ds=>∃ d m,ds=d::m/\δ[j]?=↑↑d/\kh S Z δ r m
 | .inr t::r,ds=>∃ d m,ds=d::m/\Sn (zx S Z) t d/\kh S Z δ r m
section
variable {S0 S S':SS}{Z0 Z:Addr->Prop}{δ:yg}{ρ:Ev}{ad:Nat->Addr}
theorem eZ:∀ {ys:List Ag}{ws:List W}{ds:List D},uu ad ρ ys=↑ws->kh S Z δ ys ds->ds.length=ws.length/\∀ (i:Nat) w,ws[i]?=↑w->∃ d,ds[i]?=↑d/\
  ((∃ t,w=.im t/\Sn (zx S Z) t d)\/∃ j c,ys[i]?=↑(.inl j)/\ρ[j]?=↑↑(.own c)/\wg c=true/\w=.own (vx ↑(ad j) c)/\δ[j]?=↑↑d)
 | [],ws,ds,h,r=>by
  cases h;have r:ds=[]:=r;subst r;show#[rfl,λ i w e=>nomatch e]
 | .inl j::ys,ws,ds,h,r=>by
  let#[d,m,rfl,r1,r2]:=r;unfold uu at h;split at h
  .rename_i c hc;split at h
   .rename_i hl;let#[ws',h1,rfl]:=AE.mp h;let#[g1,g2]:=eZ h1 r2;exact#[by simp[g1],λ i w e=>?_];cases i with
    | zero=>cases e;show#[d,rfl,.inr #[j,c,rfl,hc,hl,rfl,r1]]
    | succ i=>show g2 i w e
   .cases h
  .cases h
 | .inr t::ys,ws,ds,h,r=>by
  let#[d,m,rfl,r1,r2]:=r;unfold uu at h;let#[ws',h1,rfl]:=AE.mp h;let#[g1,g2]:=eZ h1 r2;exact#[by simp[g1],λ i w e=>?_];cases i with
  | zero=>cases e;show#[d,rfl,.inl #[t,rfl,r1]]
  | succ i=>show g2 i w e
theorem slot_mem:∀ {ys:List Ag}{i j:Nat},ys[i]?=↑(.inl j)->j∈slots ys
 | .inl k::ys,i,j,h=>by
  cases i with
  | zero=>cases h;show Ar
  | succ i=>show Ay _ (slot_mem (ys:=ys) h)
 | .inr t::ys,i,j,h=>by
  cases i with
  | zero=>cases h
  | succ i=>show slot_mem (ys:=ys) h
theorem gu:∀ {ys:List Ag}{i i' j:Nat},(slots ys).Nodup->ys[i]?=↑(.inl j)->ys[i']?=↑(.inl j)->i=i'
 | .inl k::ys,i,i',j,nd,h,h'=>by
  let#[nk,nd]:=Bk.mp nd;cases i with
  | zero=>
   cases h;cases i' with
   | zero=>rfl
   | succ i'=>show absurd (slot_mem (ys:=ys) h') nk
  | succ i=>
   cases i' with
   | zero=>cases h';show absurd (slot_mem (ys:=ys) h) nk
   | succ i'=>rw[gu nd h h']
 | .inr t::ys,i,i',j,nd,h,h'=>by
  cases i with
  | zero=>cases h
  | succ i=>
   cases i' with
   | zero=>cases h'
   | succ i'=>rw[gu (ys:=ys) nd h h']
theorem gs:∀ {ys:List Ag}{ws:List W}{j:Nat},uu ad ρ ys=↑ws->j∈slots ys->∃ c,ρ[j]?=↑↑(.own c)/\wg c=true/\W.own (vx ↑(ad j) c)∈ws
 | .inl k::ys,ws,j,h,hj=>by
  unfold uu at h;split at h
  .rename_i c hc;split at h
   .rename_i hl;let#[ws',h1,rfl]:=AE.mp h;rcases Am.mp hj with rfl | hj
    .show#[c,hc,hl,Ar]
    .let#[c',a,b,d]:=gs h1 hj;show#[c',a,b,Ay _ d]
   .cases h
  .cases h
 | .inr t::ys,ws,j,h,hj=>by
  unfold uu at h;let#[ws',h1,rfl]:=AE.mp h;let#[c',a,b,d]:=gs h1 hj;show#[c',a,b,Ay _ d]
theorem iM:∀ {js:List Nat}{cs:List C}{i j:Nat}{c:C},js[i]?=↑j->cs[i]?=↑c->(ad j,c)∈pU ad js cs
 | k::js,c'::cs,i,j,c,h,h'=>by
  cases i with
  | zero=>cases h;cases h';show Ar
  | succ i=>show Ay _ (iM (js:=js) (cs:=cs) h h')
def YK {F:List W->Option T}{ys:List Ag}{ds:List D}{r:T×List C}{Q:DK}(Fr:FR S0 Z0 S Z δ ρ) (ar:kh S Z δ ys ds) (nd:(slots ys).Nodup) (h:sg F ρ ys=↑r)
  (hQ:∀ d S',Sx (zx S Z) (zx S' Z)->FR S0 Z0 S' Z δ (tG (slots ys) r.2 ρ)->Sn (zx S' Z) r.1 d->Q d S'):xH F ds S Q:=by
 let#[#[hl,ht],hb]:=Xf h;let#[ws,hw,hF]:=hb λ(j:Nat)=>match δ[j]? with
  | some ↑(.ref p)=>p
  | _=>0
 generalize hA:(λ(j:Nat)=>match δ[j]? with
  | some ↑(D.ref p)=>p
  | _=>0)=ad at hw hF
 have ha:∀ (j:Nat) p,δ[j]?=↑↑(.ref p)->ad j=p:=λ j p e=>by rw[<- hA];dsimp only;rw[e]
 let#[g1,g2]:=eZ hw ar;have st:∀ j∈slots ys,∃ c o,ρ[j]?=↑↑(.own c)/\wg c=true/\δ[j]?=↑↑(.ref (ad j))/\S (ad j)=↑o/\Z (ad j)/\S0 (ad j)=none/\uA ws (ad j):=λ j hj=>by
  let#[c,a,b,m]:=gs hw hj;let#[p,o,h1,h2,h3,h4]:=Fr.er.ow j c a;cases ha j p h1;show#[c,o,a,b,h1,h2,h4,(Fr.fr j c _ a h1).1,_,m,i_ b]
 have wo:∀ (i:Nat) c,ws[i]?=↑(.own c)->∃ j c0,ys[i]?=↑(.inl j)/\ρ[j]?=↑↑(.own c0)/\c=vx ↑(ad j) c0/\ds[i]?=↑(.ref (ad j))/\wg c0=true:=λ i c e=>by
  obtain⟨d,h1,⟨t,h2,_⟩ | ⟨j,c0,h2,h3,h4,h5,h6⟩⟩:=g2 i _ e
  .cases h2
  .let#[_,_,_,_,k,_]:=st j (slot_mem h2);rw[h6] at k;cases k;cases h5;show#[j,c0,h2,h3,rfl,h1,h4]
 have lA:∀ a,uA ws a->∃ j∈slots ys,ad j=a:=λ a #[c,m,t]=>by
  let#[i,hi]:=B_.mp m;let#[j,c0,k1,k2,k3,_,k5]:=wo i c hi;rw[k3,i_ k5] at t;cases t;show#[j,slot_mem k1,rfl]
 exact#[Z,ws,_,#[#[Fr.er.zd,λ i t e=>?_,λ i c e=>?_],g1,λ i c p e e'=>?_,λ i i' c c' p n e1 e2 e3 e4=>?_],hF,λ d S' s rk=>?_]
 .obtain⟨d,h1,⟨t',h2,h3⟩ | ⟨j,c,_,_,_,h5,_⟩⟩:=g2 i _ (rX e)
  .cases h2;show#[d,map_some h1,h3]
  .cases h5
 .let#[j,c0,k1,k2,k3,k4,k5]:=wo i c (rX e);let#[p,o,h1,h2,h3,h4]:=Fr.er.ow j c0 k2;cases ha j p h1;subst k3;show#[_,o,map_some k4,h2,kJ.mpr h3,h4]
 .let#[j,c0,k1,k2,k3,k4,k5]:=wo i c e;rw[e'] at k4;cases k4;subst k3;show i_ k5
 .let#[j,c0,k1,k2,k3,k4,k5]:=wo i c e1;let#[j',c0',k1',k2',k3',k4',k5']:=wo i' c' e2;rw[e3] at k4;rw[e4] at k4';have kk:ad j=ad j':=by
   simp![Option.some.injEq,D.ref.injEq] at k4 k4';rw[<- k4,<- k4']
  have nj:j≠j':=λ e=>n (gu nd k1 (e▸k1'));let#[_,_,_,_,d1,_]:=st j (slot_mem k1);let#[_,_,_,_,d2,_]:=st j' (slot_mem k1');rw[<- kk] at d2;show Fr.dj j j' c0 c0' _ nj k2 k2' d1 d2
 .let#[v,L,p1,p2,p3]:=rk #[_,rfl];let#[q1,q2]:=af p1.symm;subst q1;have zl:∀ a,Z a->LZ (λ a=>Z a/\¬ uA ws a) L a:=λ a z=>by
   by_cases q:uA ws a
   .let#[j,hj,rfl]:=lA a q;let#[i,hi]:=B_.mp hj;have Au:=(AO.mp hi).1;let#[q',m1,m2,_]:=ae q2 (iM (ad:=ad) hi (c:=r.2[i]'(by rw[hl];show Au)) (by simp[hl,Au]));dsimp only at m2;show .inr #[q'.2,by rw[<- m2];show m1]
   .show .inl #[z,q]
  have sx:Sx (zx S Z) (zx S' Z):=λ a o q=>by
   let#[n,e]:=uW q;rw[vk n];exact s a o ?_;rw[vk]
   .show e
   .intro q;let#[j,hj,rfl]:=lA a q;let#[_,_,_,_,_,_,z,_]:=st j hj;show n z
  have keep:∀ a o,¬ uA ws a->S a=↑o->S' a=↑o:=λ a o n e=>s a o (by rw[vk n];show e);have nw:∀ (i j:Nat) c,(slots ys)[i]?=↑j->r.2[i]?=↑c->∃ o,S' (ad j)=↑o/\xy (zx S' Z) c o:=λ i j c hi hc=>by
   let#[q',m1,m2,m3]:=ae q2 (iM (ad:=ad) hi hc);let#[k1,k2,o,k3,k4]:=p3 q' m1;dsimp only at m2 m3;show#[o,by rw[<- m2];show k3,KU m3 k1 (ht c (A9 hc)).1 (xy.sx (vm zl) k4)]
  have old:∀ (k:Nat) c,ρ[k]?=↑↑(.own c)->∃ p o,δ[k]?=↑↑(.ref p)/\S p=↑o/\xy (zx S Z) c o/\Z p:=λ k c e=>Fr.er.ow k c e;have was:∀ (k:Nat) c,(tG (slots ys) r.2 ρ)[k]?=↑↑(.own c)->∃ c0,ρ[k]?=↑↑(.own c0)/\∀ p,δ[k]?=↑↑(.ref p)->adr c0 p->adr c p:=λ k c e=>by
   rcases ko nd e with ⟨c1,i,h1,h2,h3⟩ | ⟨h1,_⟩
   .let#[c0,o,a1,a2,a3,_]:=st k (A9 h1);cases h3;exact#[c0,a1,λ p _ q=>?_];have:qK ρ k=w9 c0:=by unfold qK;rw[a1]
    rw[this];show JU q
   .show#[c,h1,λ _ _ q=>q]
  exact hQ d S' sx #[#[λ a z=>?_,λ k t e=>?_,λ k c e=>?_],by rw[cE];show Fr.len,λ b o e=>?_,Fr.z0,Fr.zz,Fr.zn,λ k c p e e'=>?_,λ k k' c c' p n e1 e2 e3 e4=>?_] (Sn.sx (vm zl) _ p2)
  .by_cases q:uA ws a
   .let#[j,hj,rfl]:=lA a q;let#[i,hi]:=B_.mp hj;have Au:=(AO.mp hi).1;let#[o,k1,_]:=nw i j (r.2[i]'(by rw[hl];show Au)) hi (by simp[hl,Au]);rw[k1];nofun
   .cases w:S a with
    | none=>show absurd w (Fr.er.zd a z)
    | some o=>rw[keep a o q w];nofun
  .rcases ko nd e with ⟨c1,i,_,_,h3⟩ | ⟨h1,_⟩
   .cases h3
   .let#[d,a,b]:=Fr.er.im k t h1;show#[d,a,Sn.sx sx t b]
  .rcases ko nd e with ⟨c1,i,h1,h2,h3⟩ | ⟨h1,h2⟩
   .let#[c0,o,a1,a2,a3,a4,a5,_]:=st k (A9 h1);let#[o',b1,b2]:=nw i k c1 h1 h2;cases h3;show#[_,o',a3,b1,kJ.mpr b2,a5]
   .let#[p,o,a1,a2,a3,a4]:=Fr.er.ow k c h1;exact#[p,o,a1,keep p o (λ q=>?_) a2,xy.sx sx a3,a4];let#[j,hj,rfl]:=lA p q;let#[c0,o',b1,b2,b3,_]:=st j hj;let#[i,hi]:=B_.mp hj;have Au:=(AO.mp hi).1;by_cases kj:k=j
    .subst kj;show absurd (h2 i hi) (by rw[hl];show Nat.not_le.mpr Au)
    .show Fr.dj k j c c0 _ kj h1 b1 a1 b3
  .exact keep b o (λ q=>?_) (Fr.sx b o e);let#[j,hj,rfl]:=lA b q;let#[_,_,_,_,_,_,_,z,_]:=st j hj;rw[z] at e;cases e
  .let#[c0,k1,k2]:=was k c e;let#[f1,f2]:=Fr.fr k c0 p k1 e';show#[f1,k2 p e' f2]
  .let#[c0,k1,_]:=was k c e1;let#[c0',k1',_]:=was k' c' e2;show Fr.dj k k' c0 c0' p n k1 k1' e3 e4
end
theorem nJ:∀ (xs:List T),slots (xs.map .inr)=[]
 | []=>rfl
 | _::xs=>nJ xs
theorem eY {S:SS}{Z:Addr->Prop}{δ:yg}:∀ {xs:List T}{ds:List D},zi (zx S Z) xs ds->kh S Z δ (xs.map .inr) ds
 | [],ds,h=>by simp![zi] at h;show h
 | x::xs,ds,h=>by
  simp![zi] at h;let#[c,m,rfl,h1,h2]:=h;show#[c,m,rfl,h1,eY h2]
@[simp] def o7 (cs:List Str) (m:Str) (j:Nat) (F:List W->Option T) (g:Ev->Option (List T)) (k:T->Ev->Ev):Sm:=fun ρ=>match ρ[j]? with
 | some ↑(.own (.obj _ c fs))=>if c∈cs/\fs.lookup m=none then (g ρ).bind λ xs=>(sg F ρ (.inl j::xs.map .inr)).map λ r=>.nx (k r.1 (tG [j] r.2 ρ)) else none
 | _=>none
@[simp] def rZ (cs:List Str) (m:Str) (j:Nat) (F:List W->Option T) (g:Ev->Option (List T)):Sm:=o7 cs m j F g λ _ ρ=>ρ
section
variable {R:Rk}{cs:List Str}{m:Str}{F:List W->Option T}{g:Ev->Option (List T)}{u:yk}
def aO {j:Nat}{kk:T->Ev->Ev}(h:t8 g u) {S0 S:SS}{Z0 Z:Addr->Prop}{δ:yg}{ρ:Ev}{o:Out}{Q:DK}(Fr:FR S0 Z0 S Z δ ρ) (e:o7 cs m j F g kk ρ=↑o)
  (hQ:∀ y ρ',o=.nx (kk y ρ')->∀ d S',Sx (zx S Z) (zx S' Z)->FR S0 Z0 S' Z δ ρ'->Sn (zx S' Z) y d->Q d S'):t_ cs m (xH F) (yh j) u δ S Q:=by
 unfold o7 at e;split at e
 .rename_i a c fs hj;split at e
  .rename_i hc;let#[xs,e1,e2]:=An.mp e;let#[r,e3,rfl]:=AE.mp e2;let#[p,b,h1,h2,h3]:=kQ Fr.er hj;change yh j δ S _;unfold yh;rw[h1];exact#[p,c,b,rfl,h2,hc.1,h3.f_ hc.2,h S Z δ ρ xs _ Fr.er e1 λ ds S1 s1 r1=>?_];have sl:slots (.inl j::xs.map .inr)=[j]:=by rw[slots,nJ]
   exact YK (ys:=.inl j::xs.map .inr) (Fr.grow s1) #[.ref p,ds,rfl,h1,eY r1] (by rw[sl];simp) e3 λ d S' sx F' rr=>?_;rw[sl] at F';show hQ _ _ rfl d S' ((wV s1).trans sx) F' rr
  .cases e
 .cases e
def Pq {j:Nat}(h:t8 g u):ym R (rZ cs m j F g) (lp (t_ cs m (xH F) (yh j) u)):=λ S0 Z0 S Z δ ρ o E Fr e P=>aO h Fr e λ y ρ' q d S' _ F' _=>by
 subst q;show P S' Z δ F'
@[simp] def k_ (cs:List Str) (m:Str) (i j:Nat) (f:Ae) (F:List W->Option T) (g:Ev->Option (List T)):Sm:=fun ρ=>(f ρ).bind λ a=>o7 cs m j F g (λ y ρ=>ρ.set i ↑(.im (.tup [a,y]))) ρ
def Pp {i j:Nat}{f:Ae}{te:zv}(hf:wb f te) (h:t8 g u):ym R (k_ cs m i j f F g) (wX (eJ (rA te (rA (t_ cs m (xH F) (yh j) u) pj))) (hName i)):=λ S0 Z0 S Z δ ρ o E Fr e P=>by
 let#[a,e1,e2]:=An.mp e;exact hf S Z δ ρ a _ Fr.er e1 λ da S1 s1 r1=>aO h (Fr.grow s1) e2 λ y ρ' q d S' sx F' r=>?_;subst q;show#[show 2<=sizeLine by decide,P S' Z _ (F'.oa i (rP (.cons (Sn.sx sx a r1) (.cons r .nil))))]
@[simp] def fm (c:Str) (i:Nat) (F:List W->Option T) (g:Ev->Option (List T)):Sm:=fun ρ=>(g ρ).bind λ xs=>(sg F [↑(.own (.obj none c []))] (.inl 0::xs.map .inr)).bind λ r=>match r with
 | (.zp,[c'])=>↑(.nx (ρ.set i ↑(.own c')))
 | _=>none
def Po {c:Str}{i:Nat}(h:t8 g u):ym R (fm c i F g) (wX (Yw c (xH F) u) (hName i)):=λ S0 Z0 S Z δ ρ o E Fr e P=>by
 let#[xs,e1,e2]:=An.mp e;let#[r,e3,e4]:=An.mp e2;split at e4
 .rename_i c';cases e4;exact h S Z δ ρ xs _ Fr.er e1 λ ds S1 s1 r1 p hp=>?_;have F1:=Fr.grow s1;have nz:¬ Z p:=λ z=>F1.er.zd p z hp;have sn:Sx S1 (ups S1 p (.obj c [])):=.new hp _;have FF:FR S1 Z (ups S1 p (.obj c [])) (λ a=>Z a\/a=p) [↑(.ref p)] [↑(.own (.obj none c []))]:=by
   exact#[#[λ a z=>?_,λ k t q=>?_,λ k c' q=>?_],rfl,sn,F1.er.zd,λ a z=>.inl z,λ a z=>z.imp id λ e=>by rw[e];show hp,λ k c' q a b=>?_,λ k k' c' c'' q n a b d f=>?_]
   .rcases z with z | rfl
    .show λ q=>F1.er.zd a z (sn.none q)
    .rw[tF];nofun
   .cases k with
    | zero=>cases q
    | succ k=>cases q
   .cases k with
    | zero=>cases q;show#[p,.obj c [],rfl,tF,#[rfl,rfl],.inr rfl]
    | succ k=>cases q
   .cases k with
    | zero=>cases a;cases b;show#[hp,trivial]
    | succ k=>cases a
   .cases k with
    | zero=>
     cases k' with
     | zero=>show n rfl
     | succ k'=>cases b
    | succ k=>cases a
  have sl:slots (.inl 0::xs.map .inr)=[0]:=by rw[slots,nJ]
  have ht:=(Xf e3).1.2 c' #[];exact YK (ys:=.inl 0::xs.map .inr) FF #[.ref p,ds,rfl,rfl,eY (zi.sx (qY sn hp) xs r1)] (by rw[sl];simp) e3 λ d S' _ F' rr=>?_;rw[sl] at F';let#[q,ob,k1,k2,k3,_]:=F'.er.ow 0 (vx none c') rfl;cases k1;rw[gE ht.2] at k3;have rr:Sn (zx S' λ a=>Z a\/a=p) .zp d:=rr;simp![Sn] at rr;exact#[rr,P S' _ _ (F1.gy F'.sx i hp k2 k3 ?_)];cases c' with
  | obj a k fs=>
   have:=ht.2;simp![w9] at this;subst this;show trivial
  | _=>show trivial
 .cases e4
end
def dw (f:Ae) (t:yH):Prop:=∀ S Z δ ρ y Q,ER S Z δ ρ->f ρ=↑y->(∀ d S',Sx S S'->Sn (zx S' Z) y d->Q d S')->t { nx:=λ _ S'=>Q .zp S',rt:=Q } δ S
def PJ {f:Ae}{te:zv}(h:wb f te):dw f (lb te):=λ S Z δ ρ y Q hE e hq=>h S Z δ ρ y _ hE e hq
section
variable {P:Program}{w:World}{K:Ac}{mg:AF}{base h:Heap}{c m qual:Str}{cs:List Str}{st:Stmt}
def Ck (K:Ac) (m:Str) (f:Addr) (c:Str):Prop:=∃ C,rK K c C/\uQ K C/\Meth K C m f
def Ck.i {C f:Addr}(a:PySem.W.nsIn K mainGlobals c=↑↑(.ref C)) (b:PySem.W.findIn K (.ref C) m=↑↑(.ref f)) (c1:PySem.W.plainGet K C Str.empty=true) (c2:PySem.W.hasDictIn K C=true) (c3:PySem.W.plainOver K C=true)
  (c4:PySem.W.findIn K (.ref C) "__setattr__"=↑↑(.builtin "object.__setattr__")) (m2:PySem.W.isFn K (.ref f)=true) (m3:PySem.W.keepIn K (.ref f)=true):Ck K m f c:=#[C,a,#[c1,c2,c3,c4],b,m2,m3]
def Fm (K:Ac) (cs:List Str) (m qual:Str) (st:Stmt):Prop:=∃ (f:Addr) (fd:FuncData),vR K m qual st f fd/\∀ c∈cs,Ck K m f c
def Fm.i1 {f:Addr}{oc:Value}{od an:Option Addr}{Hl:Array (Option Value)}{kV doc pm Af ct:Value}(k:Ck K m f c) (l:K.lookup f=↑#[oc,od,.func (PySem.W.fnOf m qual (vo st) (yQ st) (zE st) .none kV doc pm an Af ct),Hl])
  (cd:PySem.W.codeIn K Af qual=true) (k2:PySem.W.keepIn K (.ref f)=true):Fm K [c] m qual st:=#[f,_,jq l cd k2,λ x hx=>by cases AH.mp hx;show k]
def Fc (K:Ac) (c qual:Str) (st:Stmt):Prop:=∃ (C f:Addr) (fd:FuncData),vR K "__init__" qual st f fd/\rK K c C/\Mk K C f
def Fc.i {C f:Addr}{oc:Value}{od an:Option Addr}{Hl:Array (Option Value)}{kV doc pm Af ct:Value}(a:PySem.W.nsIn K mainGlobals c=↑↑(.ref C)) (b:PySem.W.findIn K (.ref C) "__init__"=↑↑(.ref f)) (l:K.lookup f=↑#[oc,od,.func (PySem.W.fnOf "__init__" qual (vo st) (yQ st) (zE st) .none kV doc pm an Af ct),Hl])
  (cd:PySem.W.codeIn K Af qual=true) (k2:PySem.W.keepIn K (.ref f)=true) (m1:PySem.W.makesIn K C=true) (m2:PySem.W.isFn K (.ref f)=true) (m3:PySem.W.keepIn K (.ref C)=true):Fc K c qual st:=#[C,f,_,jq l cd k2,a,m1,b,m2,m3]
def Kl.i {fl:List Str}{C:Addr}(a:PySem.W.nsIn K mainGlobals c=↑↑(.ref C)) (c1:PySem.W.plainGet K C Str.empty=true) (c2:PySem.W.hasDictIn K C=true) (c3:PySem.W.plainOver K C=true)
  (c4:PySem.W.findIn K (.ref C) "__setattr__"=↑↑(.builtin "object.__setattr__")) (n:fl.all (λ f=>PySem.W.findIn K (.ref C) f == ↑none)=true):Kl K c fl:=#[C,a,#[c1,c2,c3,c4],λ f hf=>beq_iff_eq.mp (BA.mp n f hf)]
abbrev cj (st:Stmt) (m qual:Str) (ps:List Str):Prop:=∀ (kV doc pm:Value) (an:Option Addr) (Af ct:Value) (us:Ah),us.length=ps.length->bindArgs (PySem.W.fnOf m qual (vo st) (yQ st) (zE st) .none kV doc pm an Af ct) #[us,[]]=pure (ps.zip us)
variable {N ps:List Str}{k n:Nat}{g:Sm}{is:List Nat}
def Ka (F:Fm K cs m qual st) (Sc:vt N ps (zE st)) (hn:n=ps.length) (hb:cj st m qual ps)
  (E9:∀ (f:Addr) (Af:Value) (A:Around) (outer:List Env) (s:Shared) (H:Hp) (E:XK),yb k (A.deeper (envOfC qual (zE st) s.heap.objs.size f Af))->
   ∃ t,xS (yT y7 P w K mg base N qual (zE st) f Af A outer s H E).xa (yQ st) t/\ym sA g t):uq P w K mg base cs m (k+1) ps (xH (wM N n is g)):=by
 let#[f,fd,F,hc]:=F;exact#[#[f,fd,jo F Sc (λ ds S Q h=>by rw[h.len,hn]) λ Af A outer s H E hr=>?_,F.binds hb,hc],xH.mo];let#[t,h1,h2]:=E9 f Af A outer s H E hr;show#[t,h1,λ ds S Q h=>YU h2 h]
def L_ {f':Ae}(F:Fm K cs m qual st) (Sc:vt N ps (zE st)) (hn:n=ps.length) (hb:cj st m qual ps)
  (E9:∀ (f:Addr) (Af:Value) (A:Around) (outer:List Env) (s:Shared) (H:Hp) (E:XK),yb k (A.deeper (envOfC qual (zE st) s.heap.objs.size f Af))->
   ∃ t,xS (yT y7 P w K mg base N qual (zE st) f Af A outer s H E).xa (yQ st) t/\dw f' t):uq P w K mg base cs m (k+1) ps (sO N n f'):=by
 let#[f,fd,F,hc]:=F;exact#[#[f,fd,jo F Sc (λ ds S Q h=>?_) λ Af A outer s H E hr=>?_,F.binds hb,hc],sO.mo]
 .let#[Z,ws,y,h1,h2,_]:=h;rw[h2,hn]
 .let#[t,h1,h2]:=E9 f Af A outer s H E hr;exact#[t,h1,λ ds S Q h=>?_];let#[Z,ws,y,r1,r2,r3,r4]:=h;show h2 S Z _ _ y Q r1.start r3 r4
def Kc (F:Fc K c qual st) (X:K.In h) (G:h.Ns mainGlobals mg) (Sc:vt N ps (zE st)) (hn:n=ps.length) (hb:cj st "__init__" qual ps)
  (E9:∀ (f:Addr) (Af:Value) (A:Around) (outer:List Env) (s:Shared) (H:Hp) (E:XK),yb k (A.deeper (envOfC qual (zE st) s.heap.objs.size f Af))->
   ∃ t,xS (yT y7 P w K mg base N qual (zE st) f Af A outer s H E).xa (yQ st) t/\ym sA g t):iH P w K mg base c (k+1) ps (xH (wM N n is g)):=by
 let#[C,f,fd,F,hc,hk]:=F;exact#[#[C,f,fd,jo F Sc (λ ds S Q h=>by rw[h.len,hn]) λ Af A outer s H E hr=>?_,F.binds hb,hc,hk,PySem.W.mg_of X G hc],xH.mo];let#[t,h1,h2]:=E9 f Af A outer s H E hr;show#[t,h1,λ ds S Q h=>YU h2 h]
end
def KW:Stmt->List Stmt
 | .ClassDef _ _ _ b _ _ _ _ _ _ _=>b
 | _=>[]
end L5
namespace L5
open PySem L2 L3
theorem cy (ad:Nat->Addr) (ρ:Ev):∀ xs:List T,uu ad ρ (xs.map .inr)=↑(xs.map .im)
 | []=>rfl
 | x::xs=>by rw[Aw,uu,cy ad ρ xs];rfl
def Xg {F:List W->Option T}{ρ:Ev}{j:Nat}{t:Option Addr}{c c':Str}{fs Ge:List (Str×T)}{xs:List T}{v:T}(h0:ρ[j]?=↑↑(.own (.obj t c fs))) (h:∀ a,F (.own (.obj ↑a c fs)::xs.map .im)=↑(vg v [(a,.obj none c' Ge)])):
  sg F ρ (.inl j::xs.map .inr)=↑(v,[.obj none c' Ge]):=by
 exact JH #[#[by rw[slots,nJ];rfl,λ x hx=>by cases AH.mp hx;show#[rfl,rfl]],λ ad=>#[.own (.obj ↑(ad j) c fs)::xs.map .im,?_,?_]]
 .rw[uu,h0];change (if wg (.obj t c fs)=true then _ else none)=_;rw[if_pos (show wg (.obj t c fs)=true from rfl),cy];rfl
 .rw[h (ad j),slots,nJ];rfl
def aP {cs:List Str}{m:Str}{j:Nat}{F:List W->Option T}{g:Ev->Option (List T)}{k:T->Ev->Ev}{ρ:Ev}{t:Option Addr}{c c':Str}{fs Ge:List (Str×T)}{xs:List T}{v:T}(h0:ρ[j]?=↑↑(.own (.obj t c fs))) (hc:c∈cs) (hl:fs.lookup m=none) (hg:g ρ=↑xs)
  (h:∀ a,F (.own (.obj ↑a c fs)::xs.map .im)=↑(vg v [(a,.obj none c' Ge)])):o7 cs m j F g k ρ=↑(.nx (k v (ρ.set j ↑(.own (.obj t c' Ge))))):=by
 unfold o7;rw[h0];dsimp only;rw[if_pos #[hc,hl],hg];change ((sg F ρ (.inl j::xs.map .inr)).map _)=_;rw[Xg h0 h];change ↑(Out.nx (k v (tG [j] [.obj none c' Ge] ρ)))=_;have:qK ρ j=t:=by unfold qK;rw[h0];rfl
 rw[tG,this];rfl
def mj {cs:List Str}{m:Str}{j:Nat}{F:List W->Option T}{g:Ev->Option (List T)}{ρ:Ev}{t:Option Addr}{c c':Str}{fs Ge:List (Str×T)}{xs:List T}{v:T}(h0:ρ[j]?=↑↑(.own (.obj t c fs))) (hc:c∈cs) (hl:fs.lookup m=none) (hg:g ρ=↑xs)
  (h:∀ a,F (.own (.obj ↑a c fs)::xs.map .im)=↑(vg v [(a,.obj none c' Ge)])):rZ cs m j F g ρ=↑(.nx (ρ.set j ↑(.own (.obj t c' Ge)))):=aP h0 hc hl hg h
def Mi {cs:List Str}{m:Str}{i j:Nat}{F:List W->Option T}{g:Ev->Option (List T)}{f:Ae}{ρ:Ev}{t:Option Addr}{c c':Str}{fs Ge:List (Str×T)}{xs:List T}{v a:T}(hf:f ρ=↑a) (h0:ρ[j]?=↑↑(.own (.obj t c fs))) (hc:c∈cs) (hl:fs.lookup m=none) (hg:g ρ=↑xs)
  (h:∀ a,F (.own (.obj ↑a c fs)::xs.map .im)=↑(vg v [(a,.obj none c' Ge)])):k_ cs m i j f F g ρ=↑(.nx ((ρ.set j ↑(.own (.obj t c' Ge))).set i ↑(.im (.tup [a,v])))):=by
 change (f ρ).bind _=_;rw[hf];show aP (k:=λ y ρ=>ρ.set i ↑(.im (.tup [a,y]))) h0 hc hl hg h
def Md {c c':Str}{i:Nat}{F:List W->Option T}{g:Ev->Option (List T)}{ρ:Ev}{xs:List T}{Ge:List (Str×T)}(hg:g ρ=↑xs) (h:∀ a,F (.own (.obj ↑a c [])::xs.map .im)=↑(vg .zp [(a,.obj none c' Ge)])):fm c i F g ρ=↑(.nx (ρ.set i ↑(.own (.obj none c' Ge)))):=by
 change (g ρ).bind _=_;rw[hg];change (sg F [↑(.own (.obj none c []))] (.inl 0::xs.map .inr)).bind _=_;rw[Xg rfl h];rfl
section
variable {cs:List Str}{i:Nat}{f:Str}{g h:Ae}{ρ:Ev}{a:Option Addr}{c:Str}{fs Ge:List (Str×T)}{x y:T}
def oq (h0:ρ[i]?=↑↑(.own (.obj a c fs))) (hc:c∈cs) (hl:fs.length<1000) (hg:g ρ=↑y) (hp:uS f y fs=Ge):rS cs i f g ρ=↑(.nx (ρ.set i ↑(.own (.obj a c Ge)))):=by
 change (g ρ).bind _=_;rw[hg];dsimp only[Option.bind];rw[h0];dsimp only;rw[if_pos #[hc,hl],hp]
def oT (h0:ρ[i]?=↑↑(.own (.obj a c fs))) (hc:c∈cs) (hl:fs.lookup f=↑y):xN cs i f ρ=↑y:=by
 unfold xN;rw[h0];dsimp only;rw[if_pos hc,hl]
def Yl (h:g ρ=↑y):pd g ρ=↑(.nx ρ):=by change (g ρ).map _=_;rw[h];rfl
def yo {F:Al}{u:Ev->Option (List T)}{xs:List T}(h:u ρ=↑xs) (hF:F xs=↑y):zq F u ρ=↑y:=by change (u ρ).bind _=_;rw[h];show hF
def zK {u:Ev->Option (List T)}{xs:List T}(h:g ρ=↑x) (hu:u ρ=↑xs):zb g u ρ=↑(x::xs):=by change (g ρ).bind _=_;rw[h];change (u ρ).bind _=_;rw[hu];rfl
theorem vU {u:Ev->Option (List T)}{xs:List T}(hu:u ρ=↑xs) (hl:xs.length<=100):tupS u ρ=↑(.tup xs):=by change (u ρ).bind _=_;rw[hu];show if_pos (AY hl ())
def yr {b:Bool}(h:g ρ=↑(.bl b)):zD g ρ=↑b:=by change (g ρ).bind _=_;rw[h];rfl
theorem JN {ts:List T}(h0:ρ[i]?=↑↑(.own (.lst ts))) (h:g ρ=↑y) (hl:ts.length<=10000):xD i g ρ=↑(.nx (ρ.set i ↑(.own (.lst (ts++[y]))))):=by
 unfold xD;rw[h0];dsimp only;rw[h];show if_pos (D_ hl ())
def kG {N:List Str}{n:Nat}{is:List Nat}{g:Sm}{ws:List W}{ρ':Ev}{L:List (Addr×C)}(h:g (vW N ws)=↑(.nx ρ')) (hL:u9 is ρ'=↑L) (hn:ws.length=n):wM N n is g ws=↑(vg .zp L):=by unfold wM;rw[if_pos hn,h];change (u9 is ρ').map _=_;rw[hL];rfl
def UD {N:List Str}{n:Nat}{is:List Nat}{g:Sm}{ws:List W}{y:T}(h:g (vW N ws)=↑(.rt y)) (hn:ws.length=n):wM N n is g ws=↑y:=by unfold wM;rw[if_pos hn,h];rfl
def UK {is:List Nat}{f:Ae}{ρ:Ev}{y:T}{L:List (Addr×C)}(h:f ρ=↑y) (hL:u9 is ρ=↑L):gF is f ρ=↑(.rt (vg y L)):=by change (f ρ).bind _=_;rw[h];change (u9 is ρ).map _=_;rw[hL];rfl
def zI {a b:Sm}{ρ ρ':Ev}{o:Option Out}(h:a ρ=↑(.nx ρ')) (h':b ρ'=o):zo a b ρ=o:=by change (a ρ).bind _=o;rw[h];show h'
def og {a b:Sm}{ρ:Ev}{y:T}(h:a ρ=↑(.rt y)):zo a b ρ=↑(.rt y):=by change (a ρ).bind _=_;rw[h];rfl
def xk {c:Ev->Option Bool}{g h:Sm}{ρ:Ev}{o:Option Out}(e:c ρ=↑false) (e':h ρ=o):zW c g h ρ=o:=by change (c ρ).bind _=o;rw[e];show e'
def uC {c:Ev->Option Bool}{g h:Sm}{ρ:Ev}{o:Option Out}(e:c ρ=↑true) (e':g ρ=o):zW c g h ρ=o:=by change (c ρ).bind _=o;rw[e];show e'
def rn {is:List Nat}{f:Ev->Option (List T)}{g:T->Ev->Option Ev}{b:Sm}{ρ:Ev}{ts:List T}{o:Option Out}(h:f ρ=↑ts) (h':xu is g b ts ρ=o):xm is f g b ρ=o:=by change (f ρ).bind _=o;rw[h];show h'
def xp {i:Nat}{f:Ae}{ρ:Ev}{y:T}(h:f ρ=↑y):zA i f ρ=↑(.nx (ρ.set i ↑(.im y))):=by change (f ρ).map _=_;rw[h];rfl
def nF {f:Ae}{g:T->Ev->Option Ev}{ρ ρ':Ev}{y:T}(h:f ρ=↑y) (h':g y ρ=↑ρ'):qJ f g ρ=↑(.nx ρ'):=by change (f ρ).bind _=_;rw[h];change (g y ρ).map _=_;rw[h'];rfl
def wN {N:List Str}{n:Nat}{g:Sm}{ys:List T}{y:T}(h:g (qL N ys)=↑(.rt y)) (hn:ys.length=n):zR N n g ys=↑y:=by unfold zR;rw[if_pos hn,h];rfl
abbrev im (t:T):Option W:=↑(.im t)
abbrev nT (n:Nat):T:=.int (n:Int)
def sS (h:g ρ=↑y):retS g ρ=↑(.rt y):=by change (g ρ).map _=_;rw[h];rfl
def pX {b:Bool}(h:g ρ=↑(.bl b)):y8 g ρ=↑b:=by change (g ρ).bind _=_;rw[h];rfl
def oz {f:Ev->Option Bool}{b:Bool}(h:f ρ=↑b):xQ f ρ=↑(!b):=by change (f ρ).map _=_;rw[h];rfl
def rW {f g:Ev->Option Bool}{b:Bool}(h:f ρ=↑false) (h':g ρ=↑b):v9 f g ρ=↑b:=by change (f ρ).bind _=_;rw[h];show h'
def qq {f g:Ev->Option Bool}{b:Bool}(h:f ρ=↑true) (h':g ρ=↑b):u_ f g ρ=↑b:=by change (f ρ).bind _=_;rw[h];show h'
def lE {f g:Ev->Option Bool}(h:f ρ=↑false):u_ f g ρ=↑false:=by change (f ρ).bind _=_;rw[h];rfl
def nN {m:Str}{N:List Str}{k:Ae}(h0:ρ[i]?=↑↑(.own (.obj a c fs))) (hc:c∈cs) (hl:fs.lookup m=none) (h:k (vW N [.own (.obj a c fs)])=↑y):tN cs m N k i ρ=↑y:=by
 unfold tN;rw[h0];dsimp only;rw[if_pos #[hc,hl],h]
end
end L5
namespace L5
open L2 L3
theorem qO {p:Prop}(h:p:=by
 repeat' first
  | (with_reducible first | show Om _ | apply NA | apply O4 | apply Nj)
  | (with_reducible first | show ax _ | exact sW (R:=xx) ZG ?_ ?_ | exact gX (R:=xx) ?_ | apply aA | apply aB | show az _ _ | show ay _)
  | ((try first | exact xF.fr ?_ | exact xF.fe ?_);with_reducible first | show Nh _ | exact sW (R:=zC) (by with_reducible first | show good_add | show fP | show LD | show LC | show LB | show fQ | show fR | show fS | show Ly | show ZF) ?_ ?_ | exact gX (R:=zC) ?_ | exact N1 (R:=zC) (by with_reducible first | show LA | show Lu | show L9 | show L7 | show L6 | show LF | show Lx | show Lv | show L8 | show LG | show Lz) ?_ | apply Oo | apply Ov | apply OA | apply Nn | apply OD | show N7 _ | show Ow _ | show O5 | apply OH | apply Ni | apply O8 | exact N0 (by with_reducible first | show fP | show fQ | show fR | show fS) (by with_reducible first | show fP | show fQ | show fR | show fS) ?_ ?_ ?_ | apply O1 | apply Oz | show Nu _ | apply Nm | apply O9)
  | (exact xF.er ?_;with_reducible first | show ax _ | exact sW (R:=xx) ZG ?_ ?_ | exact gX (R:=xx) ?_ | apply aA | apply aB | show az _ _ | show ay _)
  | (with_reducible first | apply Pj | apply Pq | apply Pp | apply Pm | apply Pk | apply Po | apply PJ | apply PC | apply Pt | show Ph | apply Pl | apply PH | apply PB | apply Pw | apply Pf | show aw _ | apply Py | show Pn | apply Pu | apply Pg | apply Px | show P0 _ | apply Pz | apply Pr)
  | (with_reducible first | show Oh | apply Oi | show Oe | apply Og | apply Oq | apply Ou | apply Nq | apply Np | apply Nt | show Ot | show PY _ | show PU | apply PV | show PZ | apply P_ | apply PN | apply PL | apply PM | apply PQ | apply PR | apply PK | show Od | apply Oc)
  | (first | show Ob _ | apply PX | apply Oa)
  | show ym.fv (aw _)
  | show Bool.false):p:=h
end L5
namespace L5
open PySem PySem.Spec L2 L3
open PyProof.Rows hiding St
def Cm (mg:AF) (x:Str) (t:V):Prop:=∃ u,mg x=↑u/\L2.RelV t u
def Hs (_:List (List Str×List (Option Nat))):Prop:=True
def Hq (s:Scope) (n:List Str):Bool:=s.names.all (λ y=>!(decide (y.2=.local)||decide (y.2=.free)||decide (y.2=.cell))||y.1 == ".0"||n.elem y.1)&&(s.names.filter λ y=>decide (y.2=.local)||decide (y.2=.free)||decide (y.2=.cell)).length == n.length+1
def Ht (_:List Str) (_:List (Option Nat)):Prop:=True
section
variable {n:List Str}{p:List (Option Nat)}{x:List Str×List (Option Nat)}{r:List (List Str×List (Option Nat))}
def Hs.a (_:Hs ((n,p)::r)):Ht n p:=trivial
def Hs.b (_:Hs (x::(n,p)::r)):Ht n p:=trivial
end
section
variable {X:Cx}{N' N:List Str}{pick:List (Option Nat)}{scope esc:Scope}{tg iter elt:Expr}{ifs:List Expr}{ti:wF}{g:xl}{G0:yF}{te:zv}{pos:Pos}
def pl (_:Ht N' pick) (_:X.env.scope=esc) (_:X.N=N) (Sc:rL X N' pick scope) (_:Hq scope N'=true) (hi:tw X tg iter ti) (hg:∀ cl C s H fp,N'.Nodup->vM (y4 X N' scope cl C s H fp) tg g) (hf:∀ cl C s H fp,N'.Nodup->nh (y4 X N' scope cl C s H fp) ifs G0) (he:∀ cl C s H fp,N'.Nodup->PD (y4 X N' scope cl C s H fp) elt te)
  (nd:N'.Nodup) (hc:X.calm=true) (hs:∀ x,foldedSetIterable iter X.env x=pure x):
  PD X (.ListComp elt [#[tg,iter,ifs,0]] scope pos) (tf pick ti g G0 te):=Qh Sc hc hi (λ cl C s H fp=>hg cl C s H fp nd) (λ cl C s H fp=>hf cl C s H fp nd) (λ cl C s H fp=>he cl C s H fp nd) hs
def TY {a b:Expr}{k:Nat}{t:wu}(h:pF X [a,b] t) (hc:X.calm=true) (hn:(assignEach [a,b] X.env).length=2) (AU:(assignEach [a,b] X.env).findIdx? (·.1)=none):vM X (.Tuple [a,b] k pos) (qZ 2 t):=gR h hc hn AU
def TX {a b c:Expr}{k:Nat}{t:wu}(h:pF X [a,b,c] t) (hc:X.calm=true) (hn:(assignEach [a,b,c] X.env).length=3) (AU:(assignEach [a,b,c] X.env).findIdx? (·.1)=none):vM X (.Tuple [a,b,c] k pos) (qZ 3 t):=gR h hc hn AU
def TV {a b c d:Expr}{k:Nat}{t:wu}(h:pF X [a,b,c,d] t) (hc:X.calm=true) (hn:(assignEach [a,b,c,d] X.env).length=4) (AU:(assignEach [a,b,c,d] X.env).findIdx? (·.1)=none):vM X (.Tuple [a,b,c,d] k pos) (qZ 4 t):=gR h hc hn AU
def Qw {x y:Str}(h:Cm X.mg x (.str y)) (hg:Gl X x:=by rfl) (hd:(x == ("__debug__":Str))=false:=by decide):PD X (.Name x pos) (dC (.str y)):=let #[_,a,b]:=h;Qv a b hg hd
def bR {i:Nat}{y:Str}{py Bh:Pos}(_:Ht N' pick) (_:X.env.scope=esc) (_:X.N=N) (hn:X.N.Nodup) (Sc:rL X N' pick scope)
  (Ce:swapsWith (.ListComp elt [#[tg,iter,ifs,0]] scope pos) ↑(.Name y py) Bh.line X.env=pure true) (_:Hq scope N'=true)
  (hi:tw X tg iter ti) (hg:∀ cl C s H fp,N'.Nodup->vM (y4 X N' scope cl C s H fp) tg g) (hf:∀ cl C s H fp,N'.Nodup->nh (y4 X N' scope cl C s H fp) ifs G0) (he:∀ cl C s H fp,N'.Nodup->PD (y4 X N' scope cl C s H fp) elt te)
  (nd:N'.Nodup) (hc:X.calm=true) (hy:X.N[i]?=↑y) (hx:Loc X.env.scope y)
  (Co:X.fn y=true\/X.env.scope.names.lookup y=↑.local) (hs:∀ x,foldedSetIterable iter X.env x=pure x):
  wy X (.Assign [.Name y py] (.ListComp elt [#[tg,iter,ifs,0]] scope pos) Bh) (wX (tf pick ti g G0 te) (hName i)):=Rr Sc hc hi (λ cl C s H fp=>hg cl C s H fp nd) (λ cl C s H fp=>hf cl C s H fp nd) (λ cl C s H fp=>he cl C s H fp nd) hn hy hx Ce Co hs
end
theorem pA {p:Prop}(h:p:=by
 repeat' first
  | show rfl
  | (change PD _ _ _;first | (change PD _ (.Name _ _) _;first | show v_ 0 | show v_ 1 | show v_ 2 | show v_ 3 | show v_ 4 | show v_ 5 | show v_ 6 | show v_ 7 | show v_ 8 | show v_ 9 | show v_ 10 | show v_ 11 | show v_ 12 | show Qw (by assumption)) | show Qs | show QB | show RM | show RV | (change PD _ (.Subscript (.Name "lows" _) _ _) _;apply Q4 hr) | (change PD _ (.Call _ [.Name "lows" _] _ _) _;apply Q3 T.len) | show Q5 | apply Q6 hr | apply RQ | apply Qn | apply RK | apply Qi | (change PD _ (.Call _ _ _ _) _;first | (apply Q8;assumption) | (apply Qc;assumption) | (apply Qb;assumption) | (apply Qe;assumption) | apply Qa T.min | apply Ql T.len | apply Qj T.list T.range | apply Qk T.list | apply RJ T.tuple | apply Qd T.max | apply R_ T.min | apply QD T.any | apply QF T.all | apply RO hr T.sorted U.set | apply RP T.sorted | apply Qq T | apply Qr T | apply Qp T | apply QH U.abs | apply Qg | apply Qf) | (change PD _ (.BinOp _ _ _ _) _;first | (have:=hB;first | apply Qz | apply RY) | apply QG | apply RL | apply RZ | apply Q0 | apply RX | apply RS) | (change PD _ (.Compare _ _ _ _) _;first | apply Q2 hr | apply Qm | apply Qy | apply Qt hr | apply Qo | apply Q7 kS kS fit_le fit_le xn.mo xn.mo) | apply QE | apply RT | apply RU | apply RW | apply Qu | (apply Qx;assumption) | (apply pl (Hs.a hc) hS hN;show jE hS hN;decide +kernel) | (apply pl (Hs.b hc) hS hN;show jE hS hN;decide +kernel))
  | (change xh _ _ _;first | show RG | apply RH)
  | (change xq _ _ _;first | (change xq _ (.Compare _ _ _ _) _;first | apply SX hr | apply Rg hr | apply SW hr | apply SY | apply Rf | apply Rc | apply Rb hr | apply Ra | apply S_) | apply SV | (apply rD.pt;first | apply b_ | apply aa) | apply SU)
  | apply b_ | apply aa | apply SO | apply SR
  | (change xS _ _ _;first | show Ri | apply Rh | apply Rj)
  | (change wy _ _ _;first | apply Ro | apply Ru | apply Rv PassesOwn.never rfl | apply Rl PassesOwn.never | (apply bR (Hs.a hc) hS hN nd;show jE hS hN;rfl;decide +kernel) | (apply bR (Hs.b hc) hS hN nd;show jE hS hN;rfl;decide +kernel) | (change wy _ (.Assign [.Subscript (.Name "lows" _) _ _] _ _) _;apply Rx hr) | (apply Rp;assumption) | apply Rm | apply Rt | apply Rw | apply Ry | show (Rq:wy _ (.Raise _ _ _) _))
  | apply RC | apply TY | apply TX | apply TV | apply RA | show R8
  | (change tw _ _ _ _;first | apply R5 T.range | apply R3 U.zip | apply R7 U.enumerate | apply R4)
  | show RF | show R0 | apply RE | apply Rz
  | show hr | show nd | intro _ _ _ _ _ nd | show λ _=>rfl | show λ _ _=>rfl | show Or.inl rfl | show Or.inr rfl | show#[rfl,rfl,rfl,rfl] | decide
  | show (rfl:(_:List Str)[0]?=_) | show (rfl:(_:List Str)[1]?=_) | show (rfl:(_:List Str)[2]?=_) | show (rfl:(_:List Str)[3]?=_) | show (rfl:(_:List Str)[4]?=_) | show (rfl:(_:List Str)[5]?=_) | show (rfl:(_:List Str)[6]?=_) | show (rfl:(_:List Str)[7]?=_) | show (rfl:(_:List Str)[8]?=_) | show (rfl:(_:List Str)[9]?=_) | show (rfl:(_:List Str)[10]?=_) | show (rfl:(_:List Str)[11]?=_) | show (rfl:(_:List Str)[12]?=_)):p:=h
section
variable {P:Program}{w:World}{K:Ac}{mg:AF}{base:Heap}{x:Str}{st:Stmt}{N ps:List Str}{k n:Nat}{g:Sm}{R:Rk}[Lo R]
def yf (hs:List (List Str×List (Option Nat))) (F:Fy K mg x st)
  (E9:∀ (f:Addr) (Af:Value) (A:Around) (outer:List Env) (s:Shared) (H:Hp) (E:XK),Hs hs->N.Nodup->(yT y7 P w K mg base N x (zE st) f Af A outer s H E).xa.N=N->(yT y7 P w K mg base N x (zE st) f Af A outer s H E).xa.env.scope=zE st->yb k (A.deeper (envOfC x (zE st) s.heap.objs.size f Af))->
   ∃ t,xS (yT y7 P w K mg base N x (zE st) f Af A outer s H E).xa (yQ st) t/\ym R g t:=by intro f Af A outer s H E hc nd hN hS hr;show#[_,pA,qO])
  (Sc:vt N ps (zE st):=by show mL) (hn:n=ps.length:=by rfl)
  (hb:∀ (kV doc pm:Value) (an:Option Addr) (Af ct:Value) (us:Ah),us.length=ps.length->bindArgs (PySem.W.fnOf x x (vo st) (yQ st) (zE st) .none kV doc pm an Af ct) #[us,[]]=pure (ps.zip us):=by intro _ _ _ _ _ _;first | show ie λ _=>rfl | show ic λ _ _=>rfl | show ib λ _ _ _=>rfl | show ia λ _ _ _ _=>rfl | show j_ λ _ _ _ _ _=>rfl):FD P w K mg base x (k+1) ps (zJ R (zR N n g)):=
 Ke F Sc hn hb λ f Af A outer s H E hr=>E9 f Af A outer s H E trivial Sc.nd rfl rfl hr
def LU {f:Addr}{fd:FuncData}(hs:List (List Str×List (Option Nat))) (F:vR K x x st f fd)
  (E9:∀ (Af:Value) (A:Around) (outer:List Env) (s:Shared) (H:Hp) (E:XK),Hs hs->N.Nodup->(yT y7 P w K mg base N x (zE st) f Af A outer s H E).xa.N=N->(yT y7 P w K mg base N x (zE st) f Af A outer s H E).xa.env.scope=zE st->yb k (A.deeper (envOfC x (zE st) s.heap.objs.size f Af))->
   ∃ t,xS (yT y7 P w K mg base N x (zE st) f Af A outer s H E).xa (yQ st) t/\ym R g t:=by intro Af A outer s H E hc nd hN hS hr;show#[_,pA,qO])
  (Sc:vt N ps (zE st):=by show mL) (hn:n=ps.length:=by rfl):w_ P w K mg base y7 (k+1) f fd ps (vE K (zJ R (zR N n g))):=
 ZQ F Sc hn λ Af A outer s H E hr=>E9 Af A outer s H E trivial Sc.nd rfl rfl hr
end
section
variable {P:Program}{w:World}{K:Ac}{mg:AF}{base:Heap}{m qual:Str}{cs:List Str}{st:Stmt}{N ps:List Str}{k n:Nat}{g:Sm}{is:List Nat}{f':Ae}
def jv (hs:List (List Str×List (Option Nat))) (F:Fm K cs m qual st)
  (E9:∀ (f:Addr) (Af:Value) (A:Around) (outer:List Env) (s:Shared) (H:Hp) (E:XK),Hs hs->N.Nodup->(yT y7 P w K mg base N qual (zE st) f Af A outer s H E).xa.N=N->(yT y7 P w K mg base N qual (zE st) f Af A outer s H E).xa.env.scope=zE st->yb k (A.deeper (envOfC qual (zE st) s.heap.objs.size f Af))->
   ∃ t,xS (yT y7 P w K mg base N qual (zE st) f Af A outer s H E).xa (yQ st) t/\ym sA g t:=by intro f Af A outer s H E hc nd hN hS hr;show#[_,pA,qO])
  (Sc:vt N ps (zE st):=by show mL) (hn:n=ps.length:=by rfl)
  (hb:∀ (kV doc pm:Value) (an:Option Addr) (Af ct:Value) (us:Ah),us.length=ps.length->bindArgs (PySem.W.fnOf m qual (vo st) (yQ st) (zE st) .none kV doc pm an Af ct) #[us,[]]=pure (ps.zip us):=by intro _ _ _ _ _ _;first | show ie λ _=>rfl | show ic λ _ _=>rfl | show ib λ _ _ _=>rfl | show ia λ _ _ _ _=>rfl | show j_ λ _ _ _ _ _=>rfl):uq P w K mg base cs m (k+1) ps (xH (wM N n is g)):=
 Ka F Sc hn hb λ f Af A outer s H E hr=>E9 f Af A outer s H E trivial Sc.nd rfl rfl hr
def ei (hs:List (List Str×List (Option Nat))) (F:Fm K cs m qual st)
  (E9:∀ (f:Addr) (Af:Value) (A:Around) (outer:List Env) (s:Shared) (H:Hp) (E:XK),Hs hs->N.Nodup->(yT y7 P w K mg base N qual (zE st) f Af A outer s H E).xa.N=N->(yT y7 P w K mg base N qual (zE st) f Af A outer s H E).xa.env.scope=zE st->yb k (A.deeper (envOfC qual (zE st) s.heap.objs.size f Af))->
   ∃ t,xS (yT y7 P w K mg base N qual (zE st) f Af A outer s H E).xa (yQ st) t/\dw f' t:=by intro f Af A outer s H E hc nd hN hS hr;show#[_,pA,qO])
  (Sc:vt N ps (zE st):=by show mL) (hn:n=ps.length:=by rfl)
  (hb:∀ (kV doc pm:Value) (an:Option Addr) (Af ct:Value) (us:Ah),us.length=ps.length->bindArgs (PySem.W.fnOf m qual (vo st) (yQ st) (zE st) .none kV doc pm an Af ct) #[us,[]]=pure (ps.zip us):=by intro _ _ _ _ _ _;first | show ie λ _=>rfl | show ic λ _ _=>rfl | show ib λ _ _ _=>rfl | show ia λ _ _ _ _=>rfl | show j_ λ _ _ _ _ _=>rfl):uq P w K mg base cs m (k+1) ps (sO N n f'):=
 L_ F Sc hn hb λ f Af A outer s H E hr=>E9 f Af A outer s H E trivial Sc.nd rfl rfl hr
def Kb (hs:List (List Str×List (Option Nat))) (F:Fc K m qual st) {h:Heap}(X:K.In h) (G:h.Ns mainGlobals mg)
  (E9:∀ (f:Addr) (Af:Value) (A:Around) (outer:List Env) (s:Shared) (H:Hp) (E:XK),Hs hs->N.Nodup->(yT y7 P w K mg base N qual (zE st) f Af A outer s H E).xa.N=N->(yT y7 P w K mg base N qual (zE st) f Af A outer s H E).xa.env.scope=zE st->yb k (A.deeper (envOfC qual (zE st) s.heap.objs.size f Af))->
   ∃ t,xS (yT y7 P w K mg base N qual (zE st) f Af A outer s H E).xa (yQ st) t/\ym sA g t:=by intro f Af A outer s H E hc nd hN hS hr;show#[_,pA,qO])
  (Sc:vt N ps (zE st):=by show mL) (hn:n=ps.length:=by rfl)
  (hb:∀ (kV doc pm:Value) (an:Option Addr) (Af ct:Value) (us:Ah),us.length=ps.length->bindArgs (PySem.W.fnOf "__init__" qual (vo st) (yQ st) (zE st) .none kV doc pm an Af ct) #[us,[]]=pure (ps.zip us):=by intro _ _ _ _ _ _;first | show ie λ _=>rfl | show ic λ _ _=>rfl | show ib λ _ _ _=>rfl | show ia λ _ _ _ _=>rfl | show j_ λ _ _ _ _ _=>rfl):iH P w K mg base m (k+1) ps (xH (wM N n is g)):=
 Kc F X G Sc hn hb λ f Af A outer s H E hr=>E9 f Af A outer s H E trivial Sc.nd rfl rfl hr
end
end L5
namespace RN
open L5
abbrev Bd:=List (Int×Int)
def y_ (b c:Bd):Prop:=∀ q,zF b q=true->zF c q=true
def y_.refl (b:Bd):y_ b b:=λ _ h=>h
def y_.of {b c:Bd}(h:∀ p∈b,∃ r∈c,r.1<=p.1/\r.2<=p.2):y_ b c:=λ q x=>by
 let#[p,hp,h1,h2]:=yC.mp x;let#[r,hr,h3,h4]:=h p hp;show yC.mpr #[r,hr,⋯,⋯]
def y_.at {b c:Bd}(h:y_ b c) {p:Int×Int}(hp:p∈b):∃ r∈c,r.1<=p.1/\r.2<=p.2:=yC.mp (h p (yC.mpr #[p,hp,A3 _,A3 _]))
structure Gd (A B:Int) (b:Bd):Prop where
 jg:vP b
 xM:∀ p∈b,(0<=p.1/\p.1<=A)/\0<=p.2/\p.2<=B
def xw:Bd:=[(0,0)]
def Y7 {q:Int×Int}:zF xw q=true↔0<=q.1/\0<=q.2:=by
 rw[yC];unfold xw;simp
theorem Gd.xw {A B:Int}(hA:0<=A) (hB:0<=B):Gd A B xw:=#[by unfold RN.xw vP;simp,λ p hp=>by
 unfold RN.xw at hp;cases AH.mp hp;show#[#[A3 _,hA],A3 _,hB]]
def Gd.M4 {A B:Int}{b:Bd}(h:Gd A B b):y_ b RN.xw:=y_.of λ p hp=>#[(0,0),by unfold RN.xw;simp,(h.xM p hp).1.1,(h.xM p hp).2.1]
theorem Gd.eq {A B:Int}{b c:Bd}(h:Gd A B b) (h':Gd A B c) (x:y_ b c) (y:y_ c b):b=c:=vP.eq h.jg h'.jg λ q=>by
 rw[Be];show#[x q,y q]
def Gd.least {A B:Int}{ps:Bd}(h:∀ p∈ps,(0<=p.1/\p.1<=A)/\0<=p.2/\p.2<=B):Gd A B (v7 ps):=#[fC ps,λ p hp=>h p (M0 hp)]
def Zf {ps qs:Bd}(h:∀ p∈ps,∃ r∈qs,r.1<=p.1/\r.2<=p.2):y_ (v7 ps) (v7 qs):=λ q x=>by
 rw[o8] at x ⊢;show y_.of h q x
theorem Zu:∀ {b:Bd}{lo hi:Int},vP b->(∀ p∈b,lo<=p.1/\p.1<=hi)->(b.length:Int)<=hi+1-lo\/b=[]
 | [],_,_,_,_=>.inr rfl
 | p::b,lo,hi,h,hb=>by
  have h1:=Bs.mp h;have hp:=hb p Ar;exact .inl ?_;rcases Zu (lo:=p.1+1) (hi:=hi) h1.2 (λ q hq=>#[by have:=(h1.1 q hq).1;lia,(hb q (Ay _ hq)).2]) with x | x
  .rw[A4];lia
  .subst x;simp;lia
theorem Zt:∀ {b:Bd}{lo hi:Int},vP b->(∀ p∈b,lo<=p.2/\p.2<=hi)->(b.length:Int)<=hi+1-lo\/b=[]
 | [],_,_,_,_=>.inr rfl
 | p::b,lo,hi,h,hb=>by
  have h1:=Bs.mp h;have hp:=hb p Ar;exact .inl ?_;rcases Zt (lo:=lo) (hi:=p.2-1) h1.2 (λ q hq=>#[(hb q (Ay _ hq)).1,by have:=(h1.1 q hq).2;lia]) with x | x
  .rw[A4];lia
  .subst x;simp;lia
def Gd.sY {A B:Int}{b:Bd}(h:Gd A B b) (hA:0<=A):(b.length:Int)<=A+1:=by
 rcases Zu (lo:=0) (hi:=A) h.jg (λ p hp=>(h.xM p hp).1) with x | x
 .lia
 .subst x;simp;lia
def Gd.Mz {A B:Int}{b:Bd}(h:Gd A B b) (hB:0<=B):(b.length:Int)<=B+1:=by
 rcases Zt (lo:=0) (hi:=B) h.jg (λ p hp=>(h.xM p hp).2) with x | x
 .lia
 .subst x;simp;lia
def yG (x:Int):Int:=if x>0 then x else 0
def kX (x:Int):0<=yG x:=by unfold yG;split <;> lia
def fh {x y:Int}(h:x<=y):yG x<=yG y:=by unfold yG;split <;> split <;> lia
def NX {x g:Int}(h:0<=x) (hg:0<=g):yG (x-g)<=x:=by unfold yG;split <;> lia
def xg (a b:Int) (p:Int×Int):Int×Int:=(yG (p.1-a),yG (p.2-b))
def vI (A B:Int) (p:Int×Int):Bool:=decide (p.1<=A)&&decide (p.2<=B)
def qt (A B a b:Int) (bd:Bd):Bd:=v7 ((bd.map (xg a b)).filter (vI A B))
def JQ (A B a b:Int) (bd:Bd):Gd A B (qt A B a b bd):=Gd.least λ p hp=>by
 let#[h1,h2]:=A7.mp hp;let#[q,_,rfl]:=Aq.mp h1;have h3:(xg a b q).1<=A/\(xg a b q).2<=B:=by simpa [vI] using h2
 show#[#[kX _,h3.1],kX _,h3.2]
def Xq (A B a b:Int) {bd bd':Bd}(h:y_ bd bd'):y_ (qt A B a b bd) (qt A B a b bd'):=Zf λ p hp=>by
 let#[h1,h2]:=A7.mp hp;let#[q,hq,rfl]:=Aq.mp h1;let#[r,hr,r1,r2]:=h.at hq;have h3:(xg a b q).1<=A/\(xg a b q).2<=B:=by simpa [vI] using h2
 have m1:(xg a b r).1<=(xg a b q).1:=fh ⋯;have m2:(xg a b r).2<=(xg a b q).2:=fh ⋯;show#[xg a b r,A7.mpr #[Aq.mpr #[r,hr,rfl],by simp[vI];lia],m1,m2]
def uJ (b c:Bd):Bd:=v7 (b++c)
def Ku (b c:Bd) (q:Int×Int):zF (uJ b c) q=(zF b q||zF c q):=by unfold uJ;rw[o8,KJ]
def Kt {A B:Int}{b c:Bd}(h:Gd A B b) (h':Gd A B c):Gd A B (uJ b c):=Gd.least λ p hp=>by
 rcases A5.mp hp with x | x
 .show h.xM p x
 .show h'.xM p x
def ja (p q:Int×Int):Int×Int:=(if q.1>p.1 then q.1 else p.1,if q.2>p.2 then q.2 else p.2)
def uj (b c:Bd):Bd:=v7 (b.flatMap λ p=>c.map (ja p))
def YS (b c:Bd) (q:Int×Int):zF (uj b c) q=(zF b q&&zF c q):=by
 unfold uj;rw[o8,Be,Cd,yC,yC,yC];constructor
 .rintro⟨p,hp,h1,h2⟩;let#[x,hx,hp]:=B9.mp hp;let#[y,hy,rfl]:=Aq.mp hp;unfold ja at h1 h2;dsimp only at h1 h2;exact#[#[x,hx,?_,?_],#[y,hy,?_,?_]] <;> (first | (split at h1 <;> lia) | (split at h2 <;> lia))
 .rintro⟨⟨x,hx,h1,h2⟩,⟨y,hy,h3,h4⟩⟩;exact#[ja x y,B9.mpr #[x,hx,Aq.mpr #[y,hy,rfl]],?_,?_]
  .change (if y.1>x.1 then y.1 else x.1)<=q.1;split <;> lia
  .change (if y.2>x.2 then y.2 else x.2)<=q.2;split <;> lia
def J9 {A B:Int}{b c:Bd}(h:Gd A B b) (h':Gd A B c):Gd A B (uj b c):=Gd.least λ p hp=>by
 let#[x,hx,hp]:=B9.mp hp;let#[y,hy,rfl]:=Aq.mp hp;have a1:=h.xM x hx;have a2:=h'.xM y hy;unfold ja;dsimp only;exact#[#[?_,?_],?_,?_] <;> split <;> lia
def uK (bs:List Bd):Bd:=bs.foldl uJ []
def oZ (bs:List Bd):Bd:=bs.foldl uj xw
theorem eE:∀ (bs:List Bd) (b:Bd) (q:Int×Int),zF (bs.foldl uJ b) q=true↔zF b q=true\/∃ c∈bs,zF c q=true
 | [],b,q=>#[]
 | c::bs,b,q=>by
  rw[Dv,eE bs,Ku,D2];constructor
  .rintro ((h | h) | ⟨d,hd,h⟩)
   .show .inl h
   .show .inr #[c,Ar,h]
   .show .inr #[d,Ay _ hd,h]
  .rintro (h | ⟨d,hd,h⟩)
   .show .inl (.inl h)
   .rcases Am.mp hd with e | e
    .subst e;show .inl (.inr h)
    .show .inr #[d,e,h]
theorem mR {A B:Int}:∀ (bs:List Bd) (b:Bd),Gd A B b->(∀ c∈bs,Gd A B c)->Gd A B (bs.foldl uJ b)
 | [],b,h,_=>h
 | c::bs,b,h,hb=>mR bs _ (Kt h (hb c Ar)) λ d hd=>hb d (Ay _ hd)
def Gd.nil {A B:Int}:Gd A B []:=#[by unfold vP;simp,λ p hp=>by cases hp]
theorem eR:∀ (bs:List Bd) (b:Bd) (q:Int×Int),zF (bs.foldl uj b) q=true↔zF b q=true/\∀ c∈bs,zF c q=true
 | [],b,q=>#[]
 | c::bs,b,q=>by
  rw[Dv,eR bs,YS,Cd];constructor
  .rintro⟨⟨h1,h2⟩,h3⟩;show#[h1,λ d hd=>by
    rcases Am.mp hd with e | e
    .subst e;show h2
    .show h3 d e]
  .rintro⟨h1,h2⟩;show#[#[h1,h2 c Ar],λ d hd=>h2 d (Ay _ hd)]
theorem eQ {A B:Int}:∀ (bs:List Bd) (b:Bd),Gd A B b->(∀ c∈bs,Gd A B c)->Gd A B (bs.foldl uj b)
 | [],b,h,_=>h
 | c::bs,b,h,hb=>eQ bs _ (J9 h (hb c Ar)) λ d hd=>hb d (Ay _ hd)
def yS (pu:Bool) (g t:Int):Int×Int:=if pu=true then (t,g) else (g,t)
def zO (pu:Bool) (p:Int×Int):Int:=if pu=true then p.2 else p.1
def yt (pu:Bool) (p:Int×Int):Int:=if pu=true then p.1 else p.2
def x_ (pu:Bool) (zy give get:Int):Nat->Int->Int->Bd
 | 0,_,_=>[]
 | n+1,g,t=>if g<=zy then yS pu g t::x_ pu zy give get n (g+give) (yG (t-get)) else []
def Tz {pu:Bool}{g t g' t':Int}(h:g'<=g) (h':t'<=t):(yS pu g' t').1<=(yS pu g t).1/\(yS pu g' t').2<=(yS pu g t).2:=by
 cases pu
 .show#[h,h']
 .show#[h',h]
theorem YF (pu:Bool) (zy give get:Int):∀ (n:Nat) (g t g' t':Int),g'<=g->t'<=t->∀ e∈x_ pu zy give get n g t,∃ r∈x_ pu zy give get n g' t',r.1<=e.1/\r.2<=e.2
 | 0,_,_,_,_,_,_,e,he=>by cases he
 | n+1,g,t,g',t',h1,h2,e,he=>by
  unfold x_ at he ⊢;split at he
  .rw[if_pos ⋯];rcases Am.mp he with x | x
   .subst x;show#[_,Ar,Tz h1 h2]
   .let#[r,hr,r1]:=YF pu zy give get n _ _ (g' + give) (yG (t'-get)) ⋯ (fh ⋯) e x;show#[r,Ay _ hr,r1]
  .cases he
theorem eM (pu:Bool) (zy give get most:Int) (hg:1<=give) (Dl:0<=get):∀ (n:Nat) (g t:Int),0<=g->0<=t->t<=most->∀ e∈x_ pu zy give get n g t,(0<=zO pu e/\zO pu e<=zy)/\0<=yt pu e/\yt pu e<=most
 | 0,_,_,_,_,_,e,he=>by cases he
 | n+1,g,t,h1,h2,h3,e,he=>by
  unfold x_ at he;split at he
  .rcases Am.mp he with x | x
   .subst x;cases pu <;> show#[#[h1,by assumption],h2,h3]
   .show eM pu zy give get most hg Dl n _ _ ⋯ (kX _) (Int.le_trans (NX h2 Dl) h3) e x
  .cases he
theorem YG (pu:Bool) (zy give get:Int) (hg:1<=give):∀ (n:Nat) (g t:Int),g<=zy+1->((x_ pu zy give get n g t).length:Int)<=zy+1-g
 | 0,g,t,h=>by simp[x_];lia
 | n+1,g,t,h=>by
  unfold x_;split
  .rw[A4];by_cases hh:g+give<=zy+1
   .have:=YG pu zy give get hg n (g+give) (yG (t-get)) hh;lia
   .have e:x_ pu zy give get n (g+give) (yG (t-get))=[]:=by
     cases n with
     | zero=>rfl
     | succ n=>unfold x_;rw[if_neg ⋯]
    rw[e];simp;lia
  .simp;lia
structure Wy where
 f:Nat
 t:Nat
 a:Int
 b:Int
structure Sl where
 p:Nat
 pu:Bool
 gv:Int
 gt:Int
structure zt where
 A:Int
 B:Int
 os:List Bool
 ws:List Wy
 ss:List Sl
structure zt.Ok (F:zt):Prop where
 a0:0<=F.A
 a1:F.A<=12
 b0:0<=F.B
 b1:F.B<=12
 n1:1<=F.os.length
 n8:F.os.length<=8
 ws:∀ w∈F.ws,w.f<F.os.length/\w.t<F.os.length
 tE:F.ws.length<=60
 ss:∀ s∈F.ss,1<=s.gv/\0<=s.gt
 sl:F.ss=[]\/(F.A+1)*(F.B+1)<64
 s8:F.ss.length<=60
def zt.zy (F:zt) (pu:Bool):Int:=if pu=true then F.B else F.A
def yY (F:zt) (s:Sl) (p:Int×Int):Bd:=x_ s.pu (F.zy s.pu) s.gv s.gt 100 (zO s.pu p) (yt s.pu p)
def p7 (F:zt) (s:Sl) (bd:Bd):Bd:=v7 (bd.flatMap (yY F s))
def Jb (F:zt) (s:Sl) {b c:Bd}(h:y_ b c):y_ (p7 F s b) (p7 F s c):=Zf λ p hp=>by
 let#[x,hx,hp]:=B9.mp hp;let#[r,hr,r1,r2]:=h.at hx;let#[e,he,e1]:=YF s.pu (F.zy s.pu) s.gv s.gt 100 (zO s.pu x) (yt s.pu x) (zO s.pu r) (yt s.pu r) (by unfold zO;split <;> assumption) (by unfold yt;split <;> assumption) p hp;show#[e,B9.mpr #[r,hr,he],e1]
def Ja {F:zt}{s:Sl}(hs:1<=s.gv/\0<=s.gt) {p:Int×Int}(hp:(0<=p.1/\p.1<=F.A)/\0<=p.2/\p.2<=F.B):∀ e∈yY F s p,(0<=e.1/\e.1<=F.A)/\0<=e.2/\e.2<=F.B:=λ e he=>by
 let#[p,pu,gv,gt]:=s;unfold yY zt.zy at he;cases pu with
 | true=>show (eM true F.B gv gt F.A hs.1 hs.2 100 _ _ hp.2.1 hp.1.1 hp.1.2 e he).symm
 | false=>show eM false F.A gv gt F.B hs.1 hs.2 100 _ _ hp.1.1 hp.2.1 hp.2.2 e he
def Jc {F:zt}{s:Sl}(hs:1<=s.gv/\0<=s.gt) {b:Bd}(h:Gd F.A F.B b):Gd F.A F.B (p7 F s b):=Gd.least λ p hp=>by
 let#[x,hx,hp]:=B9.mp hp;show Ja hs (h.xM x hx) p hp
def wa (F:zt) (EZ:List Bd) (p:Nat):List Bd:=(F.ws.filter λ w=>decide (w.f=p)).map λ w=>qt F.A F.B w.a w.b (EZ.getD w.t [])
def zt.Fo (F:zt) (p:Nat):Option Sl:=F.ss.find? λ s=>decide (s.p=p)
def y9 (F:zt) (EZ:List Bd) (p:Nat):Bd:=
 if F.os.getD p false=true then match F.Fo p with
  | none=>uK (wa F EZ p)
  | some s=>p7 F s (uK (wa F EZ p))
 else oZ (wa F EZ p)
def ig (F:zt) (EZ:List Bd) (p:Nat):∀ c∈wa F EZ p,Gd F.A F.B c:=λ c hc=>by
 let#[w,_,rfl]:=Aq.mp hc;show JQ ..
def aJ {F:zt}(ok:F.Ok) (EZ:List Bd) (p:Nat):Gd F.A F.B (y9 F EZ p):=by
 unfold y9;have h1:Gd F.A F.B (uK (wa F EZ p)):=mR _ _ Gd.nil (ig F EZ p);split
 .split
  .show h1
  .rename_i s e;show Jc (ok.ss s (CL e)) h1
 .show eQ _ _ (Gd.xw ok.a0 ok.b0) (ig F EZ p)
theorem NU (F:zt) {l m:List Bd}(p:Nat) (h:∀ w∈F.ws,w.f=p->y_ (l.getD w.t []) (m.getD w.t [])):y_ (y9 F l p) (y9 F m p):=by
 have h1:y_ (uK (wa F l p)) (uK (wa F m p)):=λ q hq=>by
  unfold uK at hq ⊢;rw[eE] at hq ⊢;rcases hq with x | ⟨c,hc,x⟩
  .show .inl x
  .let#[w,hw,rfl]:=Aq.mp hc;let#[w1,w2]:=A7.mp hw;show .inr #[_,Aq.mpr #[w,hw,rfl],Xq _ _ _ _ (h w w1 (by exists w2)) q x]
 unfold y9;split
 .split
  .show h1
  .show Jb F _ h1
 .intro q hq;unfold oZ at hq ⊢;rw[eR] at hq ⊢;exact#[hq.1,λ c hc=>?_];let#[w,hw,rfl]:=Aq.mp hc;let#[w1,w2]:=A7.mp hw;show Xq _ _ _ _ (h w w1 (by exists w2)) q (hq.2 _ (Aq.mpr #[w,hw,rfl]))
theorem NT (F:zt) {l m:List Bd}(p:Nat) (h:∀ w∈F.ws,w.f=p->l.getD w.t []=m.getD w.t []):y9 F l p=y9 F m p:=by
 have:wa F l p=wa F m p:=by
  unfold wa;exact DC λ w hw=>?_;let#[w1,w2]:=A7.mp hw;rw[h w w1 (by exists w2)]
 unfold y9;rw[this]
def box:List (Int×Int):=(List.range 13).flatMap λ(i:Nat)=>(List.range 13).map λ(j:Nat)=>((i:Int),(j:Int))
def mu (b:Bd):Nat:=box.countP (zF b)
theorem J5 {p:Int×Int}(h:(0<=p.1/\p.1<=12)/\0<=p.2/\p.2<=12):p∈box:=by
 let#[x,y]:=p;dsimp only at h;exact B9.mpr #[x.toNat,AG.mpr ⋯,Aq.mpr #[y.toNat,AG.mpr ⋯,?_]];rw[DM h.1.1,DM h.2.1]
theorem Y8 {α:Type}{p q:α->Bool}:∀ {l:List α},(∀ x,q x=true->p x=true)->(∃ x∈l,p x=true/\q x=false)->l.countP q<l.countP p
 | [],_,#[x,hx,_]=>by cases hx
 | a::l,h,#[x,hx,h1,h2]=>by
  have hle:l.countP q<=l.countP p:=List.countP_mono_left λ y _=>h y;rw[List.countP_cons,List.countP_cons];rcases Am.mp hx with e | e
  .subst e;rw[if_neg (by rw[h2];decide),if_pos h1];lia
  .have:=Y8 h #[x,e,h1,h2];by_cases c:q a=true
   .rw[if_pos c,if_pos (h a c)];lia
   .rw[if_neg c];split <;> lia
theorem Ma {A B:Int}(hA:A<=12) (hB:B<=12) {b c:Bd}(hb:Gd A B b) (hc:Gd A B c) (h:y_ b c) (Av:b≠c):mu b<mu c:=by
 exact Y8 h ?_;by_cases x:∃ p∈c,zF b p=false
 .let#[p,hp,e]:=x;have q:=hc.xM p hp;show#[p,J5 #[#[q.1.1,⋯],q.2.1,⋯],yC.mpr #[p,hp,A3 _,A3 _],e]
 .show absurd (hb.eq hc h (y_.of λ p hp=>by
   cases e:zF b p with
   | true=>show yC.mp e
   | false=>show absurd #[p,hp,e] x)) Av
theorem Mb (b:Bd):mu b<=169:=by
 have:box.length=169:=()
 rw[<- this];show List.countP_le_length
def uc (l:List Bd):Nat:=(l.map mu).sum
theorem aL:∀ (l:List Bd),uc l<=169*l.length
 | []=>by simp[uc]
 | b::l=>by
  have h1:=aL l;have h2:=Mb b;unfold uc at h1 ⊢;rw[Aw,List.sum_cons,A4];lia
theorem fk {A B:Int}(hA:A<=12) (hB:B<=12):∀ {l m:List Bd},l.length=m.length->(∀ b∈l,Gd A B b)->(∀ b∈m,Gd A B b)->(∀ i,y_ (l.getD i []) (m.getD i []))->l≠m->uc l<uc m
 | [],[],_,_,_,_,h=>absurd rfl h
 | [],_::_,h,_,_,_,_=>by simp at h
 | _::_,[],h,_,_,_,_=>by simp at h
 | b::l,c::m,hl,gb,gc,h,Av=>by
  have G3:l.length=m.length:=by exists hl
  have h0:y_ b c:=h 0;have hs:∀ i,y_ (l.getD i []) (m.getD i []):=λ i=>by exists h (i+1)
  have key:uc l<=uc m:=by
   by_cases e:l=m
   .rw[e];show Aj _
   .show Bv (fk hA hB G3 (λ x hx=>gb x (Ay _ hx)) (λ x hx=>gc x (Ay _ hx)) hs e)
  change (List.map mu (b::l)).sum<(List.map mu (c::m)).sum;rw[Aw,List.sum_cons,Aw,List.sum_cons];by_cases e:b=c
  .subst e;have:l≠m:=λ q=>Av (by rw[q]);have:=fk hA hB G3 (λ x hx=>gb x (Ay _ hx)) (λ x hx=>gc x (Ay _ hx)) hs this;unfold uc at this;lia
  .have:=Ma hA hB (gb b Ar) (gc c Ar) h0 e;unfold uc at key;lia
def uX (F:zt) (fresh:List Nat) (p:Nat):Bool:=F.ws.any λ w=>decide (w.f=p)&&fresh.contains w.t
def yn (F:zt) (EZ:List Bd) (fresh:List Nat):List Bd:=(List.range EZ.length).map λ p=>if uX F fresh p=true then y9 F EZ p else EZ.getD p []
def xB (EZ GN:List Bd):List Nat:=(List.range GN.length).filter λ p=>decide (GN.getD p []≠EZ.getD p [])
def rR (F:zt):Nat->List (List Bd)->List Bd->List Nat->Option (List (List Bd))
 | 0,_,_,_=>none
 | n+1,E5,EZ,fresh=>if fresh=[] then ↑(E5++[EZ]) else
   let fo:=yn F EZ fresh
   let fr:=xB EZ fo
   if fr=[] then ↑(E5++[EZ]) else rR F n (E5++[EZ]) fo fr
structure St (F:zt) (EZ:List Bd) (fresh:List Nat):Prop where
 len:EZ.length=F.os.length
 gd:∀ b∈EZ,Gd F.A F.B b
 fr:∀ p<F.os.length,uX F fresh p=false->(∃ w∈F.ws,w.f=p)->y9 F EZ p=EZ.getD p []
 le:∀ p<F.os.length,(∃ w∈F.ws,w.f=p)->y_ (y9 F EZ p) (EZ.getD p [])
def oU {α:Type}(f:Nat->α) (n p:Nat) (d:α) (h:p<n):((List.range n).map f).getD p d=f p:=by
 rw[AX,AD,Dx h];rfl
def rY (F:zt) (EZ:List Bd) (fresh:List Nat):(yn F EZ fresh).length=EZ.length:=by unfold yn;simp
theorem St.at {F:zt}{EZ:List Bd}{fresh:List Nat}(s:St F EZ fresh) {p:Nat}(hp:p<F.os.length) (hw:∃ w∈F.ws,w.f=p):(yn F EZ fresh).getD p []=y9 F EZ p:=by
 unfold yn;rw[oU _ _ _ _ (by rw[s.len];show hp)];split
 .rfl
 .rename_i h;show (s.fr p hp (by exists h) hw).symm
def Lp {F:zt}{fresh:List Nat}{p:Nat}(h:uX F fresh p=true):∃ w∈F.ws,w.f=p:=by
 unfold uX at h;let#[w,h1,h2]:=A8.mp h;show#[w,h1,by simp at h2;show h2.1]
theorem St.no {F:zt}{EZ:List Bd}{fresh:List Nat}(s:St F EZ fresh) {p:Nat}(hp:p<F.os.length) (hw:¬ ∃ w∈F.ws,w.f=p):(yn F EZ fresh).getD p []=EZ.getD p []:=by
 unfold yn;rw[oU _ _ _ _ (by rw[s.len];show hp),if_neg (λ h=>hw (Lp h))]
theorem St.YD {F:zt}{EZ:List Bd}{fresh:List Nat}(s:St F EZ fresh) (p:Nat):y_ ((yn F EZ fresh).getD p []) (EZ.getD p []):=by
 by_cases hp:p<F.os.length
 .by_cases hw:∃ w∈F.ws,w.f=p
  .rw[s.at hp hw];show s.le p hp hw
  .rw[s.no hp hw];show y_.refl _
 .have h1:(yn F EZ fresh).getD p []=[]:=by
   rw[AX,DF (by rw[rY,s.len];lia)];rfl
  rw[h1];intro q x;cases x
def St.next {F:zt}(ok:F.Ok) {EZ:List Bd}{fresh:List Nat}(s:St F EZ fresh):St F (yn F EZ fresh) (xB EZ (yn F EZ fresh)) where
 len:=by rw[rY,s.len]
 gd:=λ b hb=>by
  unfold yn at hb;let#[p,hp,rfl]:=Aq.mp hb;split
  .show aJ ok EZ p
  .have Au:=AG.mp hp;rw[AX,AR Au];show s.gd _ (Bl Au)
 fr:=λ p hp hn hw=>by
  rw[s.at hp hw];exact NT F p λ w w1 w2=>?_;have hwt:=(ok.ws w w1).2;by_cases e:(yn F EZ fresh).getD w.t []=EZ.getD w.t []
  .show e
  .have:uX F (xB EZ (yn F EZ fresh)) p=true:=by
    unfold uX;exact A8.mpr #[w,w1,?_];have:w.t∈xB EZ (yn F EZ fresh):=by
     unfold xB;show A7.mpr #[AG.mpr (by rw[rY,s.len];show hwt),by exists e]
    simp[w2,this]
   rw[this] at hn;cases hn
 le:=λ p hp hw=>by
  rw[s.at hp hw];show NU F p λ w w1 w2=>s.YD w.t
def LO {EZ fo:List Bd}(hl:fo.length=EZ.length) (h:xB EZ fo≠[]):fo≠EZ:=λ e=>h (by
 subst e;unfold xB;simp)
def start (F:zt):List Bd:=List.replicate F.os.length xw
theorem St.start {F:zt}(ok:F.Ok):St F (start F) (List.range F.os.length) where
 len:=by unfold RN.start;simp
 gd:=λ b hb=>by rw[List.eq_of_mem_replicate hb];show Gd.xw ok.a0 ok.b0
 fr:=λ p hp hn #[w,w1,w2]=>by
  have:uX F (List.range F.os.length) p=true:=by
   unfold uX;exact A8.mpr #[w,w1,?_];have:=(ok.ws w w1).2;simp[w2,this]
  rw[this] at hn;cases hn
 le:=λ p hp hw=>by
  have e:(RN.start F).getD p []=xw:=by
   unfold RN.start;rw[AX,CQ,if_pos hp];rfl
  rw[e];show (aJ ok _ p).M4
theorem b6 {F:zt}(ok:F.Ok):∀ (n:Nat) (E5:List (List Bd)) (EZ:List Bd) (fresh:List Nat),St F EZ fresh->uc EZ<n->
  ∃ more G8,rR F n E5 EZ fresh=↑(E5++EZ::more)/\(∀ r∈EZ::more,r.length=F.os.length/\∀ b∈r,Gd F.A F.B b)/\(EZ::more).getLast?=↑G8/\more.length<=uc EZ
 | 0,_,_,_,_,h=>⋯
 | n+1,E5,EZ,fresh,s,h=>by
  unfold rR;split
  .show#[[],EZ,rfl,λ r hr=>by cases AH.mp hr;show#[s.len,s.gd],rfl,AW _]
  .dsimp only;split
   .show#[[],EZ,rfl,λ r hr=>by cases AH.mp hr;show#[s.len,s.gd],rfl,AW _]
   .rename_i hf;have s':=s.next ok;have Au:uc (yn F EZ fresh)<uc EZ:=fk ok.a1 ok.b1 (rY ..) s'.gd s.gd s.YD (LO (rY ..) hf);let#[more,G8,e1,e2,e3,e4]:=b6 ok n (E5++[EZ]) _ _ s' ⋯;exact#[yn F EZ fresh::more,G8,by rw[e1];simp,λ r hr=>?_,by rw[List.getLast?_cons_cons];show e3,by rw[A4];lia];rcases Am.mp hr with e | e
    .subst e;show#[s.len,s.gd]
    .show e2 r e
theorem JR {A B a b:Int}{bd:Bd}(h0:∀ p∈bd,0<=p.1/\0<=p.2) {q:Int×Int}(hq:(0<=q.1/\q.1<=A)/\0<=q.2/\q.2<=B):zF (qt A B a b bd) q=true↔zF bd (q.1+a,q.2+b)=true:=by
 unfold qt;rw[o8,yC,yC];constructor
 .rintro⟨p,hp,h1,h2⟩;let#[hp,_]:=A7.mp hp;let#[r,hr,rfl]:=Aq.mp hp;exact#[r,hr,?_,?_]
  .unfold xg yG at h1;dsimp only at h1 ⊢;split at h1 <;> lia
  .unfold xg yG at h2;dsimp only at h2 ⊢;split at h2 <;> lia
 .rintro⟨r,hr,h1,h2⟩;dsimp only at h1 h2;have e1:(xg a b r).1<=q.1:=by unfold xg yG;dsimp only;split <;> lia
  have e2:(xg a b r).2<=q.2:=by unfold xg yG;dsimp only;split <;> lia
  exact#[xg a b r,A7.mpr #[Aq.mpr #[r,hr,rfl],?_],e1,e2];unfold vI;rw[za2 ⋯,za2 ⋯];rfl
theorem eN (pu:Bool) (zy give get:Int) (hg:1<=give) (Dl:0<=get):∀ (n:Nat) (g t:Int),0<=t->zy-g<n->∀ (G T:Int),G<=zy->
  ((∃ e∈x_ pu zy give get n g t,zO pu e<=G/\yt pu e<=T)↔∃ k:Nat,g+k*give<=G/\yG (t-k*get)<=T)
 | 0,g,t,ht,hn,G,T,hG=>by
  constructor
  .rintro⟨e,he,_⟩;cases he
  .rintro⟨k,h1,_⟩;exfalso;have:0<=(k:Int)*give:=Cv ⋯ ⋯;lia
 | n+1,g,t,ht,hn,G,T,hG=>by
  have gv:∀ x y,zO pu (yS pu x y)=x:=λ x y=>by cases pu <;> rfl
  have gt:∀ x y,yt pu (yS pu x y)=y:=λ x y=>by cases pu <;> rfl
  have ih:=eN pu zy give get hg Dl n (g+give) (yG (t-get)) (kX _) ⋯ G T hG;have mm:∀ k:Nat,yG (yG (t-get)-k*get)=yG (t-(k+1:Nat)*get):=λ k=>by
   have:0<=(k:Int)*get:=Cv ⋯ Dl;have e:((k+1:Nat):Int)*get=k*get+get:=by rw[B8,Cp];lia
   rw[e];unfold yG;split <;> split <;> (try split) <;> lia
  have gg:∀ k:Nat,g+give+k*give=g+(k+1:Nat)*give:=λ k=>by
   rw[B8,Cp];lia
  unfold x_;split
  .rename_i hgb;constructor
   .rintro⟨e,he,h1,h2⟩;rcases Am.mp he with rfl | he
    .rw[gv] at h1;rw[gt] at h2;exact#[0,by simpa using h1,?_];unfold yG;split <;> simp at * <;> lia
    .let#[k,k1,k2]:=ih.mp #[e,he,h1,h2];show#[k+1,by rw[<- gg];show k1,by rw[<- mm];show k2]
   .rintro⟨k,k1,k2⟩;cases k with
    | zero=>
     exact#[_,Ar,by rw[gv];simpa using k1,?_];rw[gt];unfold yG at k2;split at k2 <;> simp at * <;> lia
    | succ k=>
     let#[e,he,h1]:=ih.mpr #[k,by rw[gg];show k1,by rw[mm];show k2];show#[e,Ay _ he,h1]
  .rename_i hgb;constructor
   .rintro⟨e,he,_⟩;cases he
   .rintro⟨k,h1,_⟩;exfalso;have:0<=(k:Int)*give:=Cv ⋯ ⋯;lia
def rh {pu:Bool}{p q:Int×Int}:(p.1<=q.1/\p.2<=q.2)↔zO pu p<=zO pu q/\yt pu p<=yt pu q:=by
 cases pu
 .show Iff.rfl
 .show And.comm
def Jd {F:zt}{s:Sl}(hs:1<=s.gv/\0<=s.gt) (hA:F.A<=12) (hB:F.B<=12) {b:Bd}(hb:∀ p∈b,0<=p.1/\0<=p.2) {q:Int×Int}(hq:(0<=q.1/\q.1<=F.A)/\0<=q.2/\q.2<=F.B):
  zF (p7 F s b) q=true↔∃ k:Nat,zF b (yS s.pu (zO s.pu q-k*s.gv) (yt s.pu q+k*s.gt))=true:=by
 have EV:F.zy s.pu<=12:=by unfold zt.zy;split <;> assumption
 have hqb:zO s.pu q<=F.zy s.pu:=by unfold zO zt.zy;split <;> lia
 have hq0:0<=zO s.pu q/\0<=yt s.pu q:=by unfold zO yt;split <;> lia
 have gv:∀ x y,zO s.pu (yS s.pu x y)=x:=λ x y=>by cases s.pu <;> rfl
 have gt:∀ x y,yt s.pu (yS s.pu x y)=y:=λ x y=>by cases s.pu <;> rfl
 unfold p7;rw[o8,yC];constructor
 .rintro⟨e,he,h12⟩;let#[p,hp,he]:=B9.mp he;let#[h1,h2]:=rh (pu:=s.pu).mp h12;have p0:=hb p hp;have g0:0<=zO s.pu p/\0<=yt s.pu p:=by unfold zO yt;split <;> lia
  let#[k,k1,k2]:=(eN s.pu (F.zy s.pu) s.gv s.gt hs.1 hs.2 100 _ _ g0.2 ⋯ _ _ hqb).mp #[e,he,h1,h2];exact#[k,yC.mpr #[p,hp,rh (pu:=s.pu).mpr #[by rw[gv];lia,?_]]];rw[gt];unfold yG at k2;split at k2 <;> lia
 .rintro⟨k,hk⟩;let#[p,hp,h12]:=yC.mp hk;let#[h1,h2]:=rh (pu:=s.pu).mp h12;rw[gv] at h1;rw[gt] at h2;have p0:=hb p hp;have g0:0<=zO s.pu p/\0<=yt s.pu p:=by unfold zO yt;split <;> lia
  let#[e,he,h3]:=(eN s.pu (F.zy s.pu) s.gv s.gt hs.1 hs.2 100 (zO s.pu p) (yt s.pu p) g0.2 ⋯ (zO s.pu q) (yt s.pu q) hqb).mpr #[k,⋯,by unfold yG;split <;> lia];show#[e,B9.mpr #[p,hp,he],rh (pu:=s.pu).mpr h3]
def zG (F:zt):Nat->List Bd
 | 0=>start F
 | k+1=>(List.range F.os.length).map λ p=>y9 F (zG F k) p
theorem qV (F:zt):∀ k,(zG F k).length=F.os.length
 | 0=>by unfold zG start;simp
 | k+1=>by unfold zG;simp
theorem NS {F:zt}{EZ:List Bd}{fresh:List Nat}(s:St F EZ fresh) (hw:∀ p<F.os.length,∃ w∈F.ws,w.f=p):yn F EZ fresh=(List.range F.os.length).map λ p=>y9 F EZ p:=by
 exact C6 (by rw[rY,s.len];simp) λ i h1 h2=>?_;have hi:i<F.os.length:=by exists h2
 have e:=s.at hi (hw i hi);rw[AX,AR h1] at e;exists e
def LP {EZ fo:List Bd}(hl:fo.length=EZ.length) (h:xB EZ fo=[]):fo=EZ:=by
 exact C6 hl λ i h1 h2=>?_;have:i∉xB EZ fo:=by rw[h];simp
 unfold xB at this;rw[A7] at this;have e:fo.getD i []=EZ.getD i []:=Classical.byContradiction λ Av=>this #[AG.mpr h1,by exists Av];rw[AX,AR h1,AX,AR h2] at e;exists e
theorem b7 {F:zt}(ok:F.Ok) (hw:∀ p<F.os.length,∃ w∈F.ws,w.f=p):∀ (n:Nat) (E5:List (List Bd)) (k:Nat) (fresh:List Nat) (res:List (List Bd)),St F (zG F k) fresh->fresh≠[]->E5=(List.range k).map (zG F)->
  rR F n E5 (zG F k) fresh=↑res->∃ m,res=(List.range (m+1)).map (zG F)/\zG F (m+1)=zG F m
 | 0,_,_,_,_,_,_,_,h=>by cases h
 | n+1,E5,k,fresh,res,s,hf,ht,h=>by
  unfold rR at h;rw[if_neg hf] at h;dsimp only at h;have e:yn F (zG F k) fresh=zG F (k+1):=NS s hw;have et:E5++[zG F k]=(List.range (k+1)).map (zG F):=by rw[ht,List.range_succ,BH];rfl
  rw[e,et] at h;split at h
  .rename_i BX;cases h;show#[k,rfl,LP (by rw[qV,qV]) BX]
  .rename_i BX;have s':=s.next ok;rw[e] at s';show b7 ok hw n _ (k+1) _ res s' BX rfl h
def yv (F:zt) (q:Int×Int):Prop:=(0<=q.1/\q.1<=F.A)/\0<=q.2/\q.2<=F.B
def tJ (F:zt) (q:Int×Int) (w:Wy):Option (Int×Int):=if q.1+w.a<0\/q.2+w.b<0 then none else ↑(min (q.1+w.a) F.A,min (q.2+w.b) F.B)
def yW (F:zt) (EZ:List Bd) (q:Int×Int) (w:Wy):Bool:=match tJ F q w with
 | none=>false
 | some r=>zF (EZ.getD w.t []) r
def sL (F:zt) (p:Nat):List Wy:=F.ws.filter λ w=>decide (w.f=p)
def se (F:zt) (s:Sl):Nat->Int×Int->List (Int×Int)
 | 0,q=>[q]
 | n+1,q=>q::if s.gv<=zO s.pu q then se F s n (yS s.pu (zO s.pu q-s.gv) (min (yt s.pu q+s.gt) (F.zy (!s.pu)))) else []
def wY (F:zt) (p:Nat) (q:Int×Int):List (Int×Int):=match F.Fo p with
 | none=>[q]
 | some s=>se F s 20 q
def mJ (F:zt) (EZ:List Bd) (p:Nat) (q:Int×Int):Bool:=
 if F.os.getD p false=true then (wY F p q).any λ r=>(sL F p).any (yW F EZ r) else (sL F p).all (yW F EZ q)
def KI {A B:Int}{b:Bd}(hb:Gd A B b) (x y:Int):zF b (min x A,min y B)=zF b (x,y):=by
 rw[Be,yC,yC];constructor
 .rintro⟨p,hp,h1,h2⟩;dsimp only at h1 h2;show#[p,hp,by dsimp only;lia,by dsimp only;lia]
 .rintro⟨p,hp,h1,h2⟩;have:=hb.xM p hp;dsimp only at h1 h2;show#[p,hp,by dsimp only;lia,by dsimp only;lia]
def M3 {F:zt}{EZ:List Bd}{w:Wy}(hb:Gd F.A F.B (EZ.getD w.t [])) (q:Int×Int):yW F EZ q w=zF (EZ.getD w.t []) (q.1+w.a,q.2+w.b):=by
 unfold yW tJ;by_cases h:q.1+w.a<0\/q.2+w.b<0
 .rw[if_pos h]
  symm
  rw[<- Dr,yC];rintro⟨p,hp,h1,h2⟩;have:=hb.xM p hp;dsimp only at h1 h2;lia
 .rw[if_neg h];show KI hb _ _
def jc {F:zt}{EZ:List Bd}{w:Wy}(hb:Gd F.A F.B (EZ.getD w.t [])) {q:Int×Int}(hq:yv F q):zF (qt F.A F.B w.a w.b (EZ.getD w.t [])) q=yW F EZ q w:=by
 rw[M3 hb,Be];show JR (λ p hp=>#[(hb.xM p hp).1.1,(hb.xM p hp).2.1]) hq
def eD {F:zt}{EZ:List Bd}(hg:∀ p,Gd F.A F.B (EZ.getD p [])) {p:Nat}{q:Int×Int}(hq:yv F q):zF (uK (wa F EZ p)) q=(sL F p).any (yW F EZ q):=by
 rw[Be,uK,eE,A8];constructor
 .rintro (h | ⟨c,hc,h⟩)
  .cases h
  .unfold wa at hc;let#[w,hw,rfl]:=Aq.mp hc;show#[w,hw,by rw[<- jc (hg w.t) hq];show h]
 .rintro⟨w,hw,h⟩;show .inr #[_,Aq.mpr #[w,hw,rfl],by rw[jc (hg w.t) hq];show h]
def J8 {F:zt}{EZ:List Bd}(hg:∀ p,Gd F.A F.B (EZ.getD p [])) {p:Nat}{q:Int×Int}(hq:yv F q):zF (oZ (wa F EZ p)) q=(sL F p).all (yW F EZ q):=by
 rw[Be,oZ,eR,BA];constructor
 .rintro⟨_,h⟩ w hw;rw[<- jc (hg w.t) hq];show h _ (Aq.mpr #[w,hw,rfl])
 .intro h;exact#[Y7.mpr #[hq.1.1,hq.2.1],λ c hc=>?_];unfold wa at hc;let#[w,hw,rfl]:=Aq.mp hc;rw[jc (hg w.t) hq];show h w hw
def ue (pu:Bool) (x y:Int):zO pu (yS pu x y)=x:=by cases pu <;> rfl
def rf (pu:Bool) (x y:Int):yt pu (yS pu x y)=y:=by cases pu <;> rfl
def nQ (pu:Bool) (q:Int×Int):yS pu (zO pu q) (yt pu q)=q:=by cases pu <;> rfl
def vj {F:zt}{pu:Bool}{q:Int×Int}:yv F q↔(0<=zO pu q/\zO pu q<=F.zy pu)/\0<=yt pu q/\yt pu q<=F.zy (!pu):=by
 unfold yv zt.zy;cases pu
 .show Iff.rfl
 .show And.comm
theorem jG {F:zt}{s:Sl}(hs:1<=s.gv/\0<=s.gt):∀ (n:Nat) {q:Int×Int},yv F q->∀ r∈se F s n q,yv F r
 | 0,q,h,r,hr=>by cases AH.mp hr;show h
 | n+1,q,h,r,hr=>by
  unfold se at hr;rcases Am.mp hr with rfl | hr
  .show h
  .split at hr
   .rename_i hg;exact jG hs n ?_ r hr;have h':=vj (pu:=s.pu).mp h;rw[vj (pu:=s.pu),ue,rf];lia
   .cases hr
theorem YE {F:zt}{s:Sl}(hs:1<=s.gv/\0<=s.gt) {b:Bd}(hb:Gd F.A F.B b):∀ (n:Nat) {q:Int×Int},yv F q->zO s.pu q<n->
  ((∃ k:Nat,zF b (yS s.pu (zO s.pu q-k*s.gv) (yt s.pu q+k*s.gt))=true)↔(se F s n q).any (zF b)=true)
 | 0,q,h,hn=>by
  have:=(vj (pu:=s.pu).mp h).1.1;lia
 | n+1,q,h,hn=>by
  have h':=vj (pu:=s.pu).mp h;have cut:∀ x y,zF b (yS s.pu x y)=zF b (yS s.pu x (min y (F.zy (!s.pu)))):=λ x y=>by
   rw[Be,yC,yC];constructor
   .rintro⟨p,hp,h1⟩;have h2:=rh (pu:=s.pu).mp h1;have h3:=vj (pu:=s.pu).mp (show yv F p from hb.xM p hp);rw[ue,rf] at h2;show#[p,hp,rh (pu:=s.pu).mpr (by rw[ue,rf];lia)]
   .rintro⟨p,hp,h1⟩;have h2:=rh (pu:=s.pu).mp h1;rw[ue,rf] at h2;show#[p,hp,rh (pu:=s.pu).mpr (by rw[ue,rf];lia)]
  unfold se;rw[Bx,D2];by_cases hg:s.gv<=zO s.pu q
  .rw[if_pos hg];have hi:yv F (yS s.pu (zO s.pu q-s.gv) (min (yt s.pu q+s.gt) (F.zy (!s.pu)))):=by
    rw[vj (pu:=s.pu),ue,rf];lia
   have ih:=YE hs hb n hi (by rw[ue];lia);rw[ue,rf] at ih;have sh:∀ k:Nat,zF b (yS s.pu (zO s.pu q-s.gv-k*s.gv) (min (yt s.pu q+s.gt) (F.zy (!s.pu))+k*s.gt))=zF b (yS s.pu (zO s.pu q-(k+1:Nat)*s.gv) (yt s.pu q+(k+1:Nat)*s.gt)):=λ k=>by
    have e1:((k+1:Nat):Int)*s.gv=k*s.gv+s.gv:=by rw[B8,Cp];lia
    have e2:((k+1:Nat):Int)*s.gt=k*s.gt+s.gt:=by rw[B8,Cp];lia
    have k0:0<=(k:Int)*s.gt:=Cv ⋯ hs.2;rw[e1,e2,cut,cut (zO s.pu q-(k*s.gv+s.gv))];congr 2
    .lia
    .lia
   rw[<- ih];constructor
   .rintro⟨k,hk⟩;cases k with
    | zero=>show .inl (by simpa [nQ] using hk)
    | succ k=>show .inr #[k,by rw[sh];show hk]
   .rintro (hk | ⟨k,hk⟩)
    .show#[0,by simpa [nQ] using hk]
    .show#[k+1,by rw[<- sh];show hk]
  .rw[if_neg hg];constructor
   .rintro⟨k,hk⟩;cases k with
    | zero=>show .inl (by simpa [nQ] using hk)
    | succ k=>
     exfalso;let#[p,hp,h1]:=yC.mp hk;have h2:=rh (pu:=s.pu).mp h1;have h3:=vj (pu:=s.pu).mp (show yv F p from hb.xM p hp);rw[ue] at h2;have e1:((k+1:Nat):Int)*s.gv=k*s.gv+s.gv:=by rw[B8,Cp];lia
     have k0:0<=(k:Int)*s.gv:=Cv ⋯ ⋯;rw[e1] at h2;lia
   .rintro (hk | hk)
    .show#[0,by simpa [nQ] using hk]
    .cases hk
theorem fg {F:zt}(ok:F.Ok) {EZ:List Bd}(hg:∀ p,Gd F.A F.B (EZ.getD p [])) (p:Nat) {q:Int×Int}(hq:yv F q):zF (y9 F EZ p) q=mJ F EZ p q:=by
 have ge:Gd F.A F.B (uK (wa F EZ p)):=mR _ _ Gd.nil (ig F EZ p);unfold y9 mJ wY;by_cases ho:F.os.getD p false=true
 .rw[if_pos ho,if_pos ho];cases hs:F.Fo p with
  | none=>simp![Bx,List.any_nil,Bool.or_false];show eD hg hq
  | some s=>
   have GQ:=ok.ss s (CL hs);have hgv:zO s.pu q<20:=by
    have:=vj (pu:=s.pu).mp hq;have:F.zy s.pu<=12:=by have:=ok.a1;have:=ok.b1;unfold zt.zy;split <;> assumption
    lia
   rw[Be];dsimp only;rw[Jd GQ ok.a1 ok.b1 (λ p hp=>#[(ge.xM p hp).1.1,(ge.xM p hp).2.1]) hq,YE GQ ge 20 hq ⋯,A8,A8];constructor
   .rintro⟨r,hr,h⟩;show#[r,hr,by rw[<- eD hg (jG GQ 20 hq r hr)];show h]
   .rintro⟨r,hr,h⟩;show#[r,hr,by rw[eD hg (jG GQ 20 hq r hr)];show h]
 .rw[if_neg ho,if_neg ho];show J8 hg hq
end RN
namespace zL
open PySem L2 L3 L5
abbrev cq:Sm:=
 (retS (rB (FW "int" (zc 0)) (aC (FW "bool" (zc 0)))))
def pP:Al:=zR ["thing"] 1 cq
abbrev WA:Sm:=
 (retS (zq wU (zb (za zg (zc 0) (cI 1)) ze)))
def pK:Al:=zR ["floor"] 1 WA
abbrev Vk:Sm:=
 (retS (rB (za tT (za zg (zc 0) (cI 0)) (za zg (zc 1) (cI 0))) (za tT (za zg (zc 0) (cI 1)) (za zg (zc 1) (cI 1)))))
def nA:Al:=zR ["pair","other"] 2 Vk
abbrev l9:Sm:=
 (zW (v9 (xQ (y8 (zc 1))) (zD (za xt (za zg (zc 2) (cI 1)) (za zg (za zg (zc 1) (kW (cI 1))) (cI 1))))) (xD 1 (zh 2)) zZ)
abbrev WG:Sm:=
 (zo (vC 1 (we ze))
 (zo (xm [2] (yX (zq pY (zb (zc 0) ze))) (zu 2) l9)
 (retS (zq qH (zb (zc 1) ze)))))
def rF:Al:=zR ["pairs","least","pair"] 1 WG
abbrev p8:Sm:=
 (zo (xD 4 (ZC (zD (za (zP false) (zc 3) (cI 0))) (tupS (zb (zh 5) (zb (zh 6) ze))) (tupS (zb (zh 6) (zb (zh 5) ze)))))
 (zo (zA 5 (za zY (zc 5) (za zg (zc 1) (cI 2))))
 (zA 6 (zq sX (zb (cI 0) (zb (za yw (zc 6) (za zg (zc 1) (cI 3))) ze))))))
abbrev WB:Sm:=
 (zo (zA 3 (za zg (zc 1) (cI 1)))
 (zo (vC 4 (we ze))
 (zo (zA 5 (za zg (zc 2) (zc 3)))
 (zo (zA 6 (za zg (zc 2) (za yw (cI 1) (zc 3))))
 (zo (nB 1000000 [] (zD (za qT (zc 5) (za zg (zc 0) (zc 3)))) p8)
 (qM 4))))))
def lL:Al:=zR ["brims","stall","pair","purse","pairs","given","got"] 3 WB
abbrev W7:Sm:=
 (zo (zA 3 (bg (za zg (za zg (zc 0) (cI 2)) (zc 2)) ↑(cI 2) none))
 (zo (zA 4 (za zY (za zg (zc 1) (cI 0)) (za zg (zc 3) (cI 0))))
 (zo (zA 5 (za zY (za zg (zc 1) (cI 1)) (za zg (zc 3) (cI 1))))
 (zo (zW (v9 (zD (za xt (zc 4) (cI 0))) (zD (za xt (zc 5) (cI 0)))) (retS (cS .zp)) zZ)
 (retS (tupS (zb (zq vi (zb (zc 4) (zb (za zg (za zg (zc 0) (cI 0)) (cI 0)) ze))) (zb (zq vi (zb (zc 5) (zb (za zg (za zg (zc 0) (cI 0)) (cI 1)) ze))) ze))))))))
def q8:Al:=zR ["floor","pair","way","coins","first","second"] 3 W7
abbrev Ve:Sm:=
 (zo (zA 4 (za zg (zc 1) (cI 1)))
 (zo (zA 5 (za yw (za zg (zc 2) (zc 4)) (za xb (zc 3) (za zg (zc 1) (cI 2)))))
 (zo (zW (zD (za xt (zc 5) (cI 0))) (retS (cS .zp)) zZ)
 (zo (zA 6 (zq vi (zb (za zY (za zg (zc 2) (za yw (cI 1) (zc 4))) (za xb (zc 3) (za zg (zc 1) (cI 3)))) (zb (za zg (zc 0) (za yw (cI 1) (zc 4))) ze))))
 (zo (zW (zD (za (zP false) (zc 4) (cI 0))) (retS (tupS (zb (zh 5) (zb (zh 6) ze)))) zZ)
 (retS (tupS (zb (zh 6) (zb (zh 5) ze)))))))))
def pQ:Al:=zR ["brims","stall","pair","times","purse","left","got"] 4 Ve
abbrev WN:Sm:=
 (zo (zW (zD (za xt (zc 1) (zq wU (zb (zc 0) ze)))) (retS (za zg (zc 0) (zc 1))) zZ)
 (retS (cI 0)))
def rG:Al:=zR ["_law_script","_law_k"] 2 WN
abbrev Xj:Sm:=
 (zo (xD 2 (za ya (zc 3) (za xj (cI 10) (cI 6))))
 (zA 3 (za xO (zc 3) (za xj (cI 10) (cI 6)))))
abbrev Xh:Sm:=
 (zo (zA 3 (za ya (za zY (za zY (za wQ (zc 3) (cI 52027)) (za xO (zc 3) (za xj (cI 10) (cI 22)))) (za wQ (cI 13) (zc 4))) (za zY (za xj (cI 10) (cI 45)) (cI 9))))
 (xD 2 (za xO (za wQ (zc 3) (za zY (za xO (zc 3) (za xj (cI 10) (cI 23))) (cI 7))) (za xj (cI 10) (cI 9)))))
abbrev WI:Sm:=
 (zo (vC 2 (we ze))
 (zo (zA 3 (zq dn (zb (za xO (zc 0) (cI 2)) ze)))
 (zo (zW (zD (za (zP false) (za ya (zc 0) (cI 2)) (cI 1))) (zo (xm [4] (xc xW (zb (zc 1) ze)) (zu 4) Xj)
 (qM 2)) zZ)
 (zo (zA 3 (za zY (za ya (zc 3) (za zY (za xj (cI 10) (cI 45)) (cI 9))) (cI 77003)))
 (zo (xm [4] (xc xW (zb (zc 1) ze)) (zu 4) Xh)
 (qM 2))))))
def pN:Al:=zR ["_law_cell","_law_count","_law_found","_law_number","_law_k"] 2 WI
abbrev WR:Sm:=
 (retS (zq vi (zb (cI 12) (zb (za zY (za yw (za ya (za ya (zc 0) (cI 25)) (za zY (za xb (cI 2) (zc 1)) (cI 1))) (zc 1)) (za ya (za xf (zc 0) (cI 25)) (cI 2))) ze))))
def nq:Al:=zR ["_law_number","_law_most"] 2 WR
abbrev IY:Sm:=
 (retS (za zg (we (zb (tupS (zb (cI 3) (zb (cI 3) ze))) (zb (tupS (zb (cI 2) (zb (cI 4) ze))) (zb (tupS (zb (cI 4) (zb (cI 2) ze))) (zb (tupS (zb (cI 1) (zb (cI 6) ze))) (zb (tupS (zb (cI 3) (zb (cI 3) ze))) (zb (tupS (zb (cI 2) (zb (cI 3) ze))) (zb (tupS (zb (cI 8) (zb (cI 1) ze))) (zb (tupS (zb (cI 3) (zb (cI 3) ze))) (zb (tupS (zb (cI 2) (zb (cI 4) ze))) (zb (tupS (zb (cI 4) (zb (cI 2) ze))) ze))))))))))) (za ya (zc 0) (cI 10))))
def i5:Al:=zR ["_law_number"] 1 IY
abbrev jV:Sm:=
 (zW (u_ (zD (za (zP false) (zc 6) (zc 1))) (zD (za rg (zc 3) (cI 0)))) (zo (mr 5 (zc 7) (za yw (za zg (zc 2) (zc 7)) (za xb (zc 3) (zc 8))))
 (mr 5 (za yw (cI 1) (zc 7)) (zq vi (zb (za zg (za zg (zc 0) (cI 0)) (za yw (cI 1) (zc 7))) (zb (za zY (za zg (zc 2) (za yw (cI 1) (zc 7))) (za xb (zc 3) (zc 9))) ze))))) zZ)
abbrev WQ:Sm:=
 (zo (vC 5 (zq listS (zb (zc 2) ze)))
 (zo (xm [6,7,8,9] (yX (za zg (zc 0) (cI 3))) (xi 4 (zU (zu 6) (zU (zu 7) (zU (zu 8) (zU (zu 9) xr))))) jV)
 (zo (vC 5 (tupS (zb (za zY (za zg (zc 5) (cI 0)) (za zg (za zg (za zg (zc 0) (cI 2)) (zc 4)) (cI 2))) (zb (za zY (za zg (zc 5) (cI 1)) (za zg (za zg (za zg (zc 0) (cI 2)) (zc 4)) (cI 3))) ze))))
 (zo (zW (zD (za xt (zq fq (zb (zc 5) ze)) (cI 0))) (retS (cS .zp)) zZ)
 (retS (tupS (zb (za zg (za zg (za zg (zc 0) (cI 2)) (zc 4)) (cI 1)) (zb (tupS (zb (zq vi (zb (za zg (zc 5) (cI 0)) (zb (za zg (za zg (zc 0) (cI 0)) (cI 0)) ze))) (zb (zq vi (zb (za zg (zc 5) (cI 1)) (zb (za zg (za zg (zc 0) (cI 0)) (cI 1)) ze))) ze))) ze))))))))
def dH:Al:=zR ["_law_floor_here","_law_place","_law_pair","_law_times","_law_way_here","_law_held_here","_law_start_here","_law_purse","_law_give","_law_get"] 5 WQ
abbrev eW:Sm:=
 (zW (zD (za (zP false) (zc 4) (zc 1))) (retS (za qT (za xb (zc 3) (zc 6)) (za zg (zc 2) (zc 5)))) zZ)
abbrev WO:Sm:=
 (zo (zW (v9 (xQ (y8 (FW "int" (zc 3)))) (v9 (y8 (FW "bool" (zc 3))) (zD (za xt (zc 3) (cI 0))))) (retS (cS (.bl false))) zZ)
 (zo (xm [4,5,6,7] (yX (za zg (zc 0) (cI 3))) (xi 4 (zU (zu 4) (zU (zu 5) (zU (zu 6) (zU (zu 7) xr))))) eW)
 (retS (za (zP false) (zc 3) (cI 0)))))
def lR:Al:=zR ["_law_floor_here","_law_place","_law_pair","_law_times","_law_start_here","_law_purse","_law_give","_law_get"] 4 WO
abbrev J4:Ae:=
 xJ [none,↑0,↑1] (xc xW (zb (zq wU (zb (za zg (zc 0) (cI 2)) ze)) ze)) (zu 0) (zD (za (zP false) (za zg (za zg (za zg (zc 1) (cI 2)) (zc 0)) (cI 0)) (zc 2))) (zh 0)
abbrev IW:Sm:=
 (retS J4)
def lO:Al:=zR ["_law_floor_here","_law_place"] 2 IW
abbrev jN:Ae:=
 xJ [none,none,↑1] (yX (zc 0)) (xi 2 (zU (zu 0) (zU (zu 1) xr))) tq (rB (za tT (za zg (zc 2) (cI 0)) (zc 0)) (za tT (za zg (zc 2) (cI 1)) (zc 1)))
abbrev WK:Sm:=
 (retS (zq (l7 λ bs=>bs.any id) (zb jN ze)))
def i8:Al:=zR ["_law_border","_law_pair"] 2 WK
abbrev cp:Sm:=
 (zo (zA 3 (za ya (zc 2) (zq wU (zb (za zg (zc 0) (cI 1)) ze))))
 (zo (zA 4 (tupS (zb (za ya (za xf (zc 2) (cI 10)) (za zY (za zg (za zg (zc 0) (cI 0)) (cI 0)) (cI 1))) (zb (za ya (za xf (zc 2) (cI 1000)) (za zY (za zg (za zg (zc 0) (cI 0)) (cI 1)) (cI 1))) ze))))
 (zo (zA 5 (za zg (zc 1) (zc 3)))
 (zo (zW (u_ (zD (za (zP true) (zc 5) (tupS ze))) (zD (za rg (za ya (za xf (zc 2) (cI 100000)) (cI 3)) (cI 0)))) (zo (qJ (za zg (zc 5) (za ya (za xf (zc 2) (za xj (cI 10) (cI 6))) (zq wU (zb (zc 5) ze)))) (xi 2 (zU (zu 6) (zU (zu 7) xr))))
 (zA 4 (tupS (zb (zq sX (zb (cI 0) (zb (za yw (zc 6) (za xf (za ya (za xf (zc 2) (za xj (cI 10) (cI 8))) (cI 5)) (cI 4))) ze))) (zb (zq sX (zb (cI 0) (zb (za yw (zc 7) (za xf (za ya (za xf (zc 2) (za xj (cI 10) (cI 9))) (cI 5)) (cI 4))) ze))) ze))))) zZ)
 (retS (tupS (zb (zh 3) (zb (zh 4) ze))))))))
def dF:Al:=zR ["_law_floor_here","_law_told","_law_number","_law_place","_law_pair","_law_border","_law_x","_law_y"] 3 cp
abbrev cv:Ae:=
 (xN ["Taker"] 0 "stand")
abbrev cw:Ae:=
 (xN ["Taker"] 0 "done")
abbrev WU:Sm:=
 (retS (rB (zq pP (zb (zh 0) ze)) (YH qT qT (zc 1) (zc 0) (zc 2))))
def pO:Al:=zR ["thing","least","most"] 3 WU
abbrev WY:Sm:=
 (retS (rB (zq pP (zb (zh 0) ze)) (za tT (zc 0) (cI 0))))
def lV:Al:=zR ["thing"] 1 WY
abbrev jP:Ae:=
 xJ [none,↑1] (yX (zc 0)) (zu 0) tq (zq nA (zb (zh 1) (zb (zh 0) ze)))
abbrev WZ:Sm:=
 (retS (zq (l7 λ bs=>bs.any id) (zb jP ze)))
def qB:Al:=zR ["border","pair"] 2 WZ
abbrev YO:Ae:=
 xJ [none] (yX (zc 0)) (zu 0) tq (tupS (zb (za zg (zc 0) (cI 0)) (zb (cI 0) (zb (za zg (zc 0) (cI 1)) ze))))
abbrev YM:Ae:=
 xJ [none] (yX (zc 1)) (zu 0) tq (tupS (zb (za zg (zc 0) (cI 0)) (zb (cI 1) (zb (za zg (zc 0) (cI 1)) ze))))
abbrev eX:Sm:=
 (zo (eF 3 (zc 6) (zq vi (zb (zc 7) (zb (eG 3 (zc 6) (zh 7)) ze))))
 (zW (zD (za (zP false) (mX 3) (cI 2))) (xD 4 (tupS (zb (zh 5) (zb (zq sX (zb (ph 3 (cI 0)) (zb (ph 3 (cI 1)) ze))) ze)))) zZ))
abbrev Vf:Sm:=
 (zo (zA 2 (za zY YO YM))
 (zo (Ym 3)
 (zo (vC 4 (we ze))
 (zo (xm [5,6,7] (yX (zq pY (zb (zc 2) ze))) (xi 3 (zU (zu 5) (zU (zu 6) (zU (zu 7) xr)))) eX)
 (fX 4 (retS (zq rF (zb (zh 4) ze))))))))
def lY:Al:=zR ["border","other","steps","lows","shared","first","side","second"] 2 Vf
abbrev Va:Sm:=
 (retS (zq rF (zb (za zY (zq listS (zb (zc 0) ze)) (zq listS (zb (zc 1) ze))) ze)))
def lW:Al:=zR ["border","other"] 2 Va
abbrev jQ:Ae:=
 xJ [none,↑1] (yX (zc 2)) (zu 0) tq (tupS (zb (zq sX (zb (cI 0) (zb (za yw (za zg (zc 0) (cI 0)) (za zg (zc 1) (cI 2))) ze))) (zb (zq sX (zb (cI 0) (zb (za yw (za zg (zc 0) (cI 1)) (za zg (zc 1) (cI 3))) ze))) ze)))
abbrev jJ:Ae:=
 xJ [none,↑0] (yX (zc 3)) (zu 0) (y8 (zq nA (zb (zh 1) (zb (zh 0) ze)))) (zh 0)
abbrev Vi:Sm:=
 (zo (zA 3 jQ)
 (retS (zq rF (zb jJ ze))))
def ka:Al:=zR ["brims","way","border","pairs"] 3 Vi
abbrev WH:Sm:=
 (retS (tupS (zb (zh 0) (zb (za ya (za ya (zc 2) (cI 8)) (zc 1)) (zb (zq nq (zb (za ya (za xf (zc 2) (cI 8)) (cI 50)) (zb (zh 3) ze))) (zb (zq nq (zb (za ya (za xf (zc 2) (cI 400)) (cI 50)) (zb (zh 3) ze))) ze))))))
def qA:Al:=zR ["_law_place","_law_many","_law_number","_law_size"] 4 WH
abbrev eP:Ae:=
 xJ [none,↑5] (yX (zq lO (zb (zh 0) (zb (zh 1) ze)))) (zu 0) tq (tupS (zb (zh 1) (zb (zh 0) ze)))
abbrev eV:Sm:=
 (zW (y8 (zq lR (zb (zh 0) (zb (zh 1) (zb (zh 2) (zb (zh 5) ze)))))) (jz 4 eP) zZ)
abbrev Ha:Sm:=
 (zo (vC 4 (we ze))
 (zo (xm [5] (xc xW (zb (cI 13) ze)) (zu 5) eV)
 (retS (za zg (zc 4) (za ya (zc 3) (zq wU (zb (zc 4) ze)))))))
def i9:Al:=zR ["_law_floor_here","_law_place","_law_pair","_law_number","_law_deeds","_law_times"] 4 Ha
abbrev I_:Sm:=
 (zo (zW (v9 (xQ (y8 (FW "tuple" (zc 3)))) (v9 (zD (za (zP true) (zq wU (zb (zc 3) ze)) (cI 2))) (xQ (y8 (zq lR (zb (zh 0) (zb (zh 1) (zb (zh 2) (zb (za zg (zc 3) (cI 0)) ze))))))))) (retS (cS (.bl false))) zZ)
 (zo (zW (v9 (xQ (y8 (FW "int" (za zg (zc 3) (cI 1))))) (y8 (FW "bool" (za zg (zc 3) (cI 1))))) (retS (cS (.bl false))) zZ)
 (retS (za (qc false) (za zg (zc 3) (cI 1)) (zq lO (zb (zh 0) (zb (zh 1) ze)))))))
def i7:Al:=zR ["_law_floor_here","_law_place","_law_pair","_law_found"] 4 I_
abbrev Xk:Sm:=
 (zW (xQ (y8 (zq i8 (zb (za zg (za zg (zc 0) (zc 2)) (za zg (zc 1) (cI 0))) (zb (za zg (zc 1) (cI 1)) ze))))) (retS (zh 2)) zZ)
abbrev IZ:Sm:=
 (zo (zW (zD (za (yA false) (zc 1) (cS .zp))) (retS (cI 0)) zZ)
 (zo (xm [2] (xc xW (zb (zq wU (zb (zc 0) ze)) ze)) (zu 2) Xk)
 (retS (cS .zp))))
def lP:Al:=zR ["_law_told","_law_here","_law_k"] 2 IZ
abbrev lB:Sm:=
 (zo (qJ (za zg (zc 2) (za ya (za zg (zc 1) (za zY (za xb (cI 6) (zc 4)) (za xb (cI 2) (zc 5)))) (cI 8))) (xi 2 (zU (zu 6) (zU (zu 7) xr))))
 (xD 3 (tupS (zb (zh 4) (zb (za ya (za zg (zc 1) (za zY (za zY (za xb (cI 6) (zc 4)) (za xb (cI 2) (zc 5))) (cI 1))) (cI 2)) (zb (zh 6) (zb (zh 7) ze)))))))
abbrev Xi:Sm:=
 (xm [5,6,7] (xc xW (zb (cI 3) ze)) (zu 5) lB)
abbrev IX:Sm:=
 (zo (zA 1 (zq pN (zb (zh 0) (zb (cI 14) ze))))
 (zo (zA 2 (we (zb (tupS (zb (za yw (cI 0) (cI 1)) (zb (cI 0) ze))) (zb (tupS (zb (cI 0) (zb (za yw (cI 0) (cI 1)) ze))) (zb (tupS (zb (cI 1) (zb (za yw (cI 0) (cI 1)) ze))) (zb (tupS (zb (za yw (cI 0) (cI 1)) (zb (cI 1) ze))) (zb (tupS (zb (za yw (cI 0) (cI 1)) (zb (cI 1) ze))) (zb (tupS (zb (cI 1) (zb (za yw (cI 0) (cI 2)) ze))) (zb (tupS (zb (cI 0) (zb (cI 0) ze))) (zb (tupS (zb (za yw (cI 0) (cI 1)) (zb (za yw (cI 0) (cI 1)) ze))) ze))))))))))
 (zo (vC 3 (we ze))
 (zo (xm [4,5,6,7] (xc xW (zb (cI 2) ze)) (zu 4) Xi)
 (zo (zA 8 (tupS (zb (za zg (we (zb (cS (.str "keeper")) (zb (cS (.str "taker")) ze))) (za ya (za zg (zc 1) (cI 12)) (cI 2))) (zb (za zg (we (zb (cS (.str "keeper")) (zb (cS (.str "taker")) ze))) (za ya (za zg (zc 1) (cI 13)) (cI 2))) ze))))
 (retS (tupS (zb (tupS (zb (cI 7) (zb (cI 7) ze))) (zb (zh 8) (zb (zq qH (zb (zq tK (zb (zc 3) ze)) ze)) (zb (tupS ze) ze)))))))))))
def dG:Al:=zR ["_law_cell","_law_xs","_law_coins","_law_ways_here","_law_place","_law_k","_law_a","_law_b","_law_owners"] 1 IX
abbrev jO:Ae:=
 xJ [none,none] (xc iO (zb (zc 0) (zb (zc 1) ze))) (xi 2 (zU (zu 0) (zU (zu 1) xr))) tq (zq pO (zb (zh 0) (zb (za zg (zc 1) (cI 0)) (zb (za zg (zc 1) (cI 1)) ze))))
abbrev WX:Sm:=
 (zo (zW (v9 (xQ (y8 (FW "tuple" (zc 0)))) (zD (za (zP true) (zq wU (zb (zc 0) ze)) (zq wU (zb (zc 1) ze))))) (retS (cS (.bl false))) zZ)
 (retS (zq (l7 λ bs=>bs.all id) (zb jO ze))))
def lU:Al:=zR ["thing","bounds"] 2 WX
abbrev Vc:Sm:=
 (zW (xQ (y8 (zq pO (zb (zh 1) (zb (cI 0) (zb (za yw (zq pK (zb (zh 0) ze)) (cI 1)) ze)))))) qP zZ)
def nv:Al:=zR ["floor","place"] 2 Vc
abbrev jX:Sm:=
 (zA 1 (zq lW (zb (zh 1) (zb (zh 2) ze))))
abbrev Vg:Sm:=
 (zo (zA 1 (tupS ze))
 (zo (xm [2] (yX (zh 0)) (zu 2) jX)
 (retS (zh 1))))
def lZ:Al:=zR ["borders","joined","border"] 1 Vg
abbrev jY:Sm:=
 (zA 1 (zq lY (zb (zh 1) (zb (zh 2) ze))))
abbrev Vh:Sm:=
 (zo (zA 1 (tupS (zb (tupS (zb (cI 0) (zb (cI 0) ze))) ze)))
 (zo (xm [2] (yX (zh 0)) (zu 2) jY)
 (retS (zh 1))))
def l_:Al:=zR ["borders","joined","border"] 1 Vh
abbrev jW:Sm:=
 (zW (xQ (y8 (zq qB (zb (za zg (zc 4) (zc 1)) (zb (zh 2) ze))))) (retS (zh 3)) zZ)
abbrev W_:Sm:=
 (zo (xm [3,4] (xc ui (zb (zh 0) ze)) (xi 2 (zU (zu 3) (zU (zu 4) xr))) jW)
 (retS (cS .zp)))
def nr:Al:=zR ["told","place","pair","number","held"] 3 W_
abbrev WV:Sm:=
 (retS (zq pO (zb (zh 1) (zb (cI 0) (zb (za yw (zq wU (zb (za zg (zc 0) (cI 2)) ze)) (cI 1)) ze)))))
def lT:Al:=zR ["floor","thing"] 2 WV
abbrev cn:Sm:=
 (zo (zA 4 (zq q8 (zb (zh 0) (zb (zh 1) (zb (zh 2) ze)))))
 (retS (rB (za (yA true) (zc 4) (cS .zp)) (zq qB (zb (za zg (zc 3) (za zg (za zg (za zg (zc 0) (cI 2)) (zc 2)) (cI 1))) (zb (zh 4) ze))))))
def pL:Al:=zR ["floor","pair","way","held","behind"] 4 cn
abbrev jU:Sm:=
 (xD 6 (zq qA (zb (zh 8) (zb (zh 4) (zb (za zg (zc 3) (za zY (za zY (cI 3) (za xb (cI 4) (zc 8))) (zc 11))) (zb (zh 10) ze))))))
abbrev o_:Sm:=
 (zo (zA 9 (za zg (zc 3) (za zY (cI 2) (za xb (cI 4) (zc 8)))))
 (zo (xD 5 (za zg (we (zb (cS (.str "keeper")) (zb (cS (.str "taker")) ze))) (za ya (zc 9) (cI 2))))
 (zo (zA 10 (za zg (we (zb (cI 2) (zb (cI 3) (zb (cI 3) (zb (cI 12) ze))))) (za ya (za xf (zc 9) (cI 2)) (cI 4))))
 (zo (xm [11] (xc xW (zb (za zY (cI 1) (za ya (za xf (zc 9) (cI 8)) (cI 3))) ze)) (zu 11) jU)
 (zW (u_ (zD (za (zP false) (za zg (zc 5) (zc 8)) (cS (.str "keeper")))) (zD (za (zP false) (za ya (za xf (zc 9) (cI 24)) (cI 3)) (cI 0)))) (xD 7 (tupS (zb (zh 8) (zb (za ya (za xf (zc 9) (cI 72)) (cI 2)) (zb (za zY (cI 1) (za ya (za xf (zc 9) (cI 144)) (cI 4))) (zb (za ya (za xf (zc 9) (cI 576)) (cI 5)) ze)))))) zZ)))))
abbrev jS:Sm:=
 (xD 6 (zq qA (zb (za ya (za ya (za xf (za zg (zc 3) (cI 0)) (cI 64)) (cI 8)) (zc 4)) (zb (zh 4) (zb (za zg (zc 3) (za zY (cI 34) (zc 11))) (zb (cI 3) ze))))))
abbrev WM:Sm:=
 (zo (zA 3 (zq pN (zb (zh 0) (zb (cI 43) ze))))
 (zo (zA 4 (za zY (cI 1) (za ya (za zg (zc 3) (cI 0)) (zc 1))))
 (zo (vC 5 (we ze))
 (zo (vC 6 (we ze))
 (zo (vC 7 (we ze))
 (zo (xm [8,9,10,11] (xc xW (zb (zc 4) ze)) (zu 8) o_)
 (zo (zW (zD (za (zP false) (za ya (za xf (za zg (zc 3) (cI 0)) (cI 8)) (cI 8)) (cI 1))) (xm [11] (xc xW (zb (zq vi (zb (cI 9) (zb (za yw (cI 24) (zq wU (zb (zc 6) ze))) ze))) ze)) (zu 11) jS) zZ)
 (zo (zA 12 (tupS (zb (za ya (za zg (zc 3) (cI 1)) (za zY (zc 2) (cI 1))) (zb (za ya (za xf (za zg (zc 3) (cI 1)) (cI 13)) (za zY (zc 2) (cI 1))) ze))))
 (retS (tupS (zb (zh 12) (zb (zq qH (zb (zc 5) ze)) (zb (zq qH (zb (zq tK (zb (zc 6) ze)) ze)) (zb (zq qH (zb (zc 7) ze)) ze))))))))))))))
def lQ:Al:=zR ["_law_cell","_law_most","_law_brim","_law_xs","_law_many","_law_owners","_law_ways_here","_law_stalls","_law_place","_law_number","_law_size","_law_k","_law_brims"] 3 WM
abbrev He:Sm:=
 (zW (v9 (zD (za (yA false) (xN ["Taker"] 0 "stand") (cS .zp))) (zD (za (zP true) (za zg (za zg (xN ["Taker"] 0 "floor") (cI 1)) (za zg (xN ["Taker"] 0 "stand") (cI 0))) (zc 1)))) qP zZ)
def iG:List W->Option T:=wM ["self","owner"] 2 [0] He
abbrev Vd:Sm:=
 (zW (xQ (y8 (zq lU (zb (zh 1) (zb (tupS (zb (tupS (zb (cI 0) (zb (za zg (za zg (zc 0) (cI 0)) (cI 0)) ze))) (zb (tupS (zb (cI 0) (zb (za zg (za zg (zc 0) (cI 0)) (cI 1)) ze))) ze))) ze))))) qP zZ)
def iB:Al:=zR ["floor","pair"] 2 Vd
abbrev jK:Ae:=
 xJ [none,none,↑1] (xc ui (zb (za zg (zc 0) (cI 2)) ze)) (xi 2 (zU (zu 0) (zU (zu 1) xr))) (zD (za (zP false) (za zg (zc 1) (cI 0)) (zc 2))) (zh 0)
abbrev W6:Sm:=
 (zo (pd (zq nv (zb (zh 0) (zb (zh 1) ze))))
 (retS jK))
def sF:Al:=zR ["floor","place"] 2 W6
abbrev l8:Sm:=
 (zW (zD (za (zP false) (za zg (zc 2) (cI 0)) (zc 1))) (retS (zh 2)) zZ)
abbrev W8:Sm:=
 (zo (pd (zq nv (zb (zh 0) (zb (zh 1) ze))))
 (zo (xm [2] (yX (za zg (zc 0) (cI 3))) (zu 2) l8)
 (retS (cS .zp))))
def sG:Al:=zR ["floor","place","stall"] 2 W8
abbrev Vb:Sm:=
 (zW (v9 (xQ (y8 (zq lT (zb (zh 0) (zb (zh 2) ze))))) (zD (za (zP true) (za zg (za zg (za zg (zc 0) (cI 2)) (zc 2)) (cI 0)) (zc 1)))) qP zZ)
def lX:Al:=zR ["floor","place","way"] 3 Vb
abbrev jZ:Sm:=
 (jz 4 (zq lL (zb (za zg (zc 0) (cI 0)) (zb (zh 3) (zb (zh 5) ze)))))
abbrev cu:Sm:=
 (zo (zA 3 (zq sG (zb (zh 0) (zb (zh 1) ze))))
 (zo (zW (zD (za (yA false) (zc 3) (cS .zp))) (retS (zh 2)) zZ)
 (zo (vC 4 (we ze))
 (zo (xm [5] (yX (zh 2)) (zu 5) jZ)
 (fX 4 (retS (zq rF (zb (zh 4) ze))))))))
def ny:Al:=zR ["floor","place","border","stall","pairs","pair"] 3 cu
abbrev iL:Sm:=
 (zo (zW (zD (za (zP false) (zc 3) (cI 0))) (retS (tupS (zb (za zg (zc 2) (cI 0)) (zb (za zg (zc 2) (cI 1)) ze)))) zZ)
 (zo (zA 4 (zq sG (zb (zh 0) (zb (zh 1) ze))))
 (zo (zW (zD (za (yA false) (zc 4) (cS .zp))) (retS (cS .zp)) zZ)
 (retS (zq pQ (zb (za zg (zc 0) (cI 0)) (zb (zh 4) (zb (zh 2) (zb (zh 3) ze)))))))))
def pR:Al:=zR ["floor","place","pair","times","stall"] 4 iL
abbrev l4:Ae:=
 xJ [none,↑0,↑2,↑3,↑4] (yX (zq sF (zb (zh 0) (zb (zh 1) ze)))) (zu 0) (xQ (y8 (zq pL (zb (zh 1) (zb (zh 2) (zb (zh 0) (zb (za zg (zc 3) (za yw (zc 4) (cI 1))) ze))))))) (zh 0)
abbrev cm:Sm:=
 (zo (zA 4 (zq nr (zb (zh 3) (zb (zh 1) (zb (zh 2) ze)))))
 (zo (zW (zD (za (yA false) (zc 4) (cS .zp))) (retS (cS .zp)) zZ)
 (retS (za zg l4 (cI 0)))))
def lK:Al:=zR ["floor","place","pair","told","steps"] 4 cm
abbrev cx:Ae:=
 (za zg (zq sF (zb (xN ["Taker"] 0 "floor") (zb (za zg (xN ["Taker"] 0 "stand") (cI 0)) ze))) (cI 0))
abbrev jM:Ae:=
 xJ [none,↑0] (yX (zq sF (zb (zh 0) (zb (zh 1) ze)))) (zu 0) tq (za zg (za zg (zc 1) (cI 2)) (zc 0))
abbrev jI:Ae:=
 xJ [none,↑0,↑2] (yX (zc 3)) (zu 0) tq (zq ka (zb (za zg (zc 1) (cI 0)) (zb (zh 0) (zb (za zg (zc 2) (za zg (zc 0) (cI 1))) ze))))
abbrev WD:Sm:=
 (zo (zA 3 jM)
 (zo (zA 4 jI)
 (zo (zW (zD (za (zP false) (za zg (za zg (zc 0) (cI 1)) (zc 1)) (cS (.str "keeper")))) (retS (zq ny (zb (zh 0) (zb (zh 1) (zb (zq lZ (zb (zh 4) ze)) ze))))) zZ)
 (retS (zq l_ (zb (zh 4) ze))))))
def lM:Al:=zR ["floor","place","last","ways","ahead"] 3 WD
abbrev WE:Sm:=
 (zo (zW (xQ (y8 (zq lV (zb (zh 3) ze)))) qP zZ)
 (zo (zA 4 (zq pR (zb (zh 0) (zb (zh 1) (zb (zh 2) (zb (zh 3) ze))))))
 (zo (zW (zD (za (yA false) (zc 4) (cS .zp))) qP zZ)
 (retS (zh 4)))))
def lN:Al:=zR ["floor","place","pair","times","ready"] 4 WE
abbrev jL:Ae:=
 xJ [none,↑2] (yX (za zg (zc 0) (cI 2))) (zu 0) (zD (za (qc false) (za zg (zc 0) (cI 1)) (zc 1))) (za zg (zc 0) (cI 0))
abbrev jT:Sm:=
 (mr 3 (zc 4) (zq lM (zb (zh 0) (zb (zh 4) (zb (zh 1) ze)))))
abbrev WC:Sm:=
 (zo (vC 3 (zq listS (zb (zc 1) ze)))
 (zo (xm [4] (yX (zq tK (zb jL ze))) (zu 4) jT)
 (qM 3)))
def ni:Al:=zR ["floor","last","fresh","following","place"] 3 WC
abbrev Vj:Sm:=
 (zo (zA 4 (za zg (zc 3) (cI 0)))
 (zo (zA 5 (za zg (zc 3) (cI 1)))
 (zo (pd (zq lX (zb (zh 0) (zb (zh 1) (zb (zh 5) ze)))))
 (zo (zA 6 (zq lN (zb (zh 0) (zb (zh 1) (zb (zh 2) (zb (zh 4) ze))))))
 (zo (zA 7 (zq q8 (zb (zh 0) (zb (zh 6) (zb (zh 5) ze)))))
 (zo (zW (zD (za (yA false) (zc 7) (cS .zp))) (retS (cS .zp)) zZ)
 (retS (tupS (zb (za zg (za zg (za zg (zc 0) (cI 2)) (zc 5)) (cI 1)) (zb (zh 7) ze))))))))))
def kc:Al:=zR ["floor","place","pair","deed","times","way","ready","behind"] 4 Vj
abbrev l5:Ae:=
 xJ [none,none,↑3] (xc ui (zb (zc 4) ze)) (xi 2 (zU (zu 0) (zU (zu 1) xr))) (zD (za (zP true) (zc 1) (za zg (zc 2) (zc 0)))) (zh 0)
abbrev sj:Sm:=
 (zo (zA 3 (za zg (zc 1) (kW (cI 1))))
 (zo (zA 4 (zq ni (zb (zh 0) (zb (zh 3) (zb (zh 2) ze)))))
 (zo (zA 2 l5)
 (zW (y8 (zc 2)) (xD 1 (zh 4)) zZ))))
abbrev W9:Sm:=
 (zo (vC 1 (we (zb (za xb (we (zb (tupS (zb (tupS (zb (cI 0) (zb (cI 0) ze))) ze)) ze)) (zq pK (zb (zh 0) ze))) ze)))
 (zo (zA 2 (zq mq (zb (zq pK (zb (zh 0) ze)) ze)))
 (zo (nB 1000000 [3,4] (y8 (zc 2)) sj)
 (qM 1))))
def sH:Al:=zR ["floor","told","fresh","last","following"] 1 W9
abbrev Hd:Sm:=
 (zo (rS ["Taker"] 0 "stand" (zq kc (zb (xN ["Taker"] 0 "floor") (zb (za zg (xN ["Taker"] 0 "stand") (cI 0)) (zb (za zg (xN ["Taker"] 0 "stand") (cI 1)) (zb (tupS (zb (zh 1) (zb (zh 2) ze))) ze))))))
 (rS ["Taker"] 0 "done" (za zY (xN ["Taker"] 0 "done") (cI 1))))
def iE:List W->Option T:=wM ["self","times","way"] 3 [0] Hd
abbrev Hf:Sm:=
 (zo (pd (zq nv (zb (zh 1) (zb (zh 2) ze))))
 (zo (pd (zq iB (zb (zh 1) (zb (zh 3) ze))))
 (zo (rS ["Taker"] 0 "floor" (zh 1))
 (zo (rS ["Taker"] 0 "told" (zq sH (zb (zh 1) ze)))
 (zo (rS ["Taker"] 0 "stand" (tupS (zb (zh 2) (zb (zh 3) ze))))
 (rS ["Taker"] 0 "done" (cI 0)))))))
def dM:List W->Option T:=wM ["self","floor","place","pair"] 4 [0] Hf
abbrev Hb:Sm:=
 (zo (rZ ["Taker"] "check_turn" 0 iG (zb (cS (.str "taker")) ze))
 (zo (zA 1 (zq lK (zb (xN ["Taker"] 0 "floor") (zb (za zg (xN ["Taker"] 0 "stand") (cI 0)) (zb (za zg (xN ["Taker"] 0 "stand") (cI 1)) (zb (xN ["Taker"] 0 "told") ze))))))
 (zo (zW (zD (za (yA false) (zc 1) (cS .zp))) (zA 1 (tN ["Taker"] "first_way" ["self"] cx 0)) zZ)
 (zo (rZ ["Taker"] "step_on" 0 iE (zb (cI 0) (zb (zh 1) ze)))
 (gF [0] (zh 1))))))
def iC:List W->Option T:=wM ["self","way"] 1 [0] Hb
abbrev Hc:Sm:=
 (zo (rZ ["Taker"] "check_turn" 0 iG (zb (cS (.str "keeper")) ze))
 (rZ ["Taker"] "step_on" 0 iE (zb (zh 1) (zb (zh 2) ze))))
def iD:List W->Option T:=wM ["self","times","way"] 3 [0] Hc
abbrev lC:Sm:=
 (zo (zW (v9 (zD (za (zP true) (tN ["Taker"] "where" ["self"] cv 5) (zc 6))) (zD (za (zP true) (tN ["Taker"] "steps" ["self"] cw 5) (zc 8)))) (retS (cS (.bl false))) zZ)
 (zo (zW (zD (za (yA false) (zc 6) (cS .zp))) (retS (cS (.bl true))) zZ)
 (zo (zW (u_ (zD (za (yA true) (zc 7) (cS .zp))) (zD (za tT (zc 8) (zc 7)))) (retS (cS (.bl false))) zZ)
 (zo (qJ (zh 6) (xi 2 (zU (zu 2) (zU (zu 3) xr))))
 (zo (zA 10 (zq lP (zb (zh 1) (zb (zh 6) ze))))
 (zo (zA 11 (tupS (zb (cI 0) (zb (cI 0) ze))))
 (zo (zW (zD (za (zP false) (za zg (za zg (zc 0) (cI 1)) (zc 2)) (cS (.str "taker")))) (zo (k_ ["Taker"] "goes" 11 5 (cI 0) iC ze)
 (zW (xQ (y8 (zq i7 (zb (zh 0) (zb (zh 2) (zb (zh 3) (zb (zh 11) ze))))))) (retS (cS (.bl false))) zZ)) (zo (zA 11 (zq i9 (zb (zh 0) (zb (zh 2) (zb (zh 3) (zb (zh 9) ze))))))
 (rZ ["Taker"] "did" 5 iD (zb (za zg (zc 11) (cI 0)) (zb (za zg (zc 11) (cI 1)) ze)))))
 (zo (zA 6 (zq dH (zb (zh 0) (zb (zh 2) (zb (zh 3) (zb (za zg (zc 11) (cI 0)) (zb (za zg (zc 11) (cI 1)) ze)))))))
 (zo (zA 8 (za zY (zc 8) (cI 1)))
 (zo (zA 12 (zq lP (zb (zh 1) (zb (zh 6) ze))))
 (zW (u_ (zD (za (yA true) (zc 10) (cS .zp))) (v9 (zD (za (yA false) (zc 12) (cS .zp))) (zD (za tT (zc 12) (zc 10))))) (retS (cS (.bl false))) zZ)))))))))))
abbrev WJ:Sm:=
 (zo (fm "Taker" 5 dM (zb (zh 0) (zb (zh 2) (zb (zh 3) ze))))
 (zo (zA 6 (tupS (zb (zh 2) (zb (zh 3) ze))))
 (zo (zA 7 (zq lP (zb (zh 1) (zb (zh 6) ze))))
 (zo (zA 8 (cI 0))
 (zo (xm [2,3,9,10,11,12] (yX (zh 4)) (zu 9) lC)
 (retS (rB (za (zP false) (tN ["Taker"] "where" ["self"] cv 5) (zc 6)) (za (zP false) (tN ["Taker"] "steps" ["self"] cw 5) (zc 8)))))))))
def i6:Al:=zR ["_law_floor_here","_law_told","_law_place","_law_pair","_law_cells","_law_hand","_law_here","_law_due","_law_steps","_law_cell","_law_was","_law_deed_here","_law_left"] 5 WJ
abbrev YN:Ae:=
 xJ [none,↑0,↑5] (xc xW (zb (cI 18) ze)) (zu 0) tq (zq rG (zb (zh 1) (zb (za zY (za zY (cI 3) (za wQ (cI 19) (zc 2))) (zc 0)) ze)))
abbrev lD:Sm:=
 (zo (zA 6 (zq rG (zb (zh 0) (zb (za zY (cI 2) (za wQ (cI 19) (zc 5))) ze))))
 (zo (qJ (zq dF (zb (zh 3) (zb (za zg (zc 4) (kW (cI 1))) (zb (zh 6) ze)))) (xi 2 (zU (zu 7) (zU (zu 8) xr))))
 (zo (zW (u_ (zD (za rg (za ya (za xO (zc 6) (za xj (cI 10) (cI 12))) (cI 3)) (cI 0))) (zD (za rg (za zg (zc 8) (cI 0)) (cI 0)))) (zA 8 (tupS (zb (za yw (za zg (zc 8) (cI 0)) (cI 1)) (zb (za zg (zc 8) (cI 1)) ze)))) zZ)
 (zo (zA 9 YN)
 (zW (xQ (y8 (zq i6 (zb (zh 3) (zb (zh 4) (zb (zh 7) (zb (zh 8) (zb (zh 9) ze)))))))) (retS (cS (.bl false))) zZ)))))
abbrev WT:Sm:=
 (zo (qJ (zq i5 (zb (zq rG (zb (zh 0) (zb (cI 0) ze))) ze)) (xi 2 (zU (zu 1) (zU (zu 2) xr))))
 (zo (zA 3 (zq lQ (zb (zq rG (zb (zh 0) (zb (cI 1) ze))) (zb (zh 1) (zb (zh 2) ze)))))
 (zo (zW (zD (za (zP false) (za ya (za xO (zq rG (zb (zh 0) (zb (cI 0) ze))) (cI 10)) (cI 12)) (cI 1))) (zA 3 (zq dG (zb (zq rG (zb (zh 0) (zb (cI 1) ze))) ze))) zZ)
 (zo (zA 4 (zq sH (zb (zh 3) ze)))
 (zo (xm [5,6,7,8,9] (xc xW (zb (cI 3) ze)) (zu 5) lD)
 (retS (cS (.bl true))))))))
def lS:Al:=zR ["_law_script","_law_most","_law_brim","_law_floor_here","_law_told","_law_k","_law_number","_law_place","_law_pair","_law_cells"] 1 WT
def Us (ps:List (Int×Int)) (h:ps.length<64):pY [.lst (ps.map zj)]=↑(.lst ((sP ps).map zj)):=by
 change (vF (ps.map zj)).bind _=_;rw[UH,BO,if_pos #[by simpa using h,λ r hr=>by let#[p,_,rfl]:=Aq.mp hr;simp[vY]],<- cY,A2];rfl
def Lr {qs p:List (Int×Int)}{x:Int×Int}(hr:∀ r,qs++yK r (qs.getLast?.map (·.2))=yK (p++r) none) (hb:sf (qs.getLast?.map (·.2)) x.2=true) (r:List (Int×Int)):
  (qs++[x])++yK r ((qs++[x]).getLast?.map (·.2))=yK (p++[x]++r) none:=by
 have:=hr (x::r);rw[show yK (x::r) (qs.getLast?.map (·.2))=x::yK r ↑x.2 by rw[yK,if_pos hb]] at this;exists this
def Ls {qs p:List (Int×Int)}{x:Int×Int}(hr:∀ r,qs++yK r (qs.getLast?.map (·.2))=yK (p++r) none) (hb:sf (qs.getLast?.map (·.2)) x.2=false) (r:List (Int×Int)):
  qs++yK r (qs.getLast?.map (·.2))=yK (p++[x]++r) none:=by
 have:=hr (x::r);rw[show yK (x::r) (qs.getLast?.map (·.2))=yK r (qs.getLast?.map (·.2)) by rw[yK,if_neg (by rw[hb];nofun)]] at this;exists this
theorem i4 (ps:List (Int×Int)) (hl:ps.length<64):rF [.lst (ps.map zj)]=↑(.tup ((v7 ps).map zj)):=by
 let#[ρ',h1,qs,h2,h3,h4]:=v5 (is:=[2]) (g:=zu 2) (b:=l9) zj (λ p ρ=>∃ qs:List (Int×Int),ρ=[↑(.im (.lst (ps.map zj))),↑(.own (.lst (qs.map zj))),none]/\qs.length<=p.length/\
   ∀ r,qs++yK r (qs.getLast?.map (·.2))=yK (p++r) none) (sP ps) [↑(.im (.lst (ps.map zj))),↑(.own (.lst [])),none] #[[],#[],#[],λ r=>#[]] (by
  rintro p x q e ρ ⟨qs,rfl,hq,hr⟩;have hlen:p.length<64:=by
   have:=congrArg List.length e;rw[(gp ps).length_eq] at this;simp at this;lia
  have app:sf (qs.getLast?.map (·.2)) x.2=true->∃ HK:List (Int×Int),yz [2] [↑(.im (.lst (ps.map zj))),↑(.own (.lst (qs.map zj++[zj x]))),↑(.im (zj x))]=[↑(.im (.lst (ps.map zj))),↑(.own (.lst (HK.map zj))),none]/\HK.length<=(p++[x]).length/\∀ r,HK++yK r (HK.getLast?.map (·.2))=yK (p++[x]++r) none:=λ hb=>
   #[qs++[x],#[],by simp;lia,Lr hr hb]
  rcases List.eq_nil_or_concat qs with rfl | ⟨init,l,rfl⟩
  .exact#[_,?_,app (by simp[sf])];simp[turn,l9]
  .simp![List.concat_eq_append] at *;by_cases hb:x.2<l.2
   .exact#[_,?_,app (by simp[sf,hb])];simp at hq;simp[turn,l9,zj,hb,xt];lia
   .exact#[[↑(.im (.lst (ps.map zj))),↑(.own (.lst ((init++[l]).map zj))),↑(.im (zj x))],?_,init++[l],#[],by simp at hq ⊢;lia,Ls hr (by simp[sf];lia)];simp[turn,l9,zj,hb,xt])
 have h5:=h4 [];simp[yK] at h5;unfold rF WG;simp[Us ps hl,h1,h2,h5,v7]
theorem IE (b o:List (Int×Int)) (hl:b.length+o.length<64):lW [.tup (b.map zj),.tup (o.map zj)]=↑(.tup ((v7 (b++o)).map zj)):=by
 have h:=i4 (b++o) (by exists hl);rw[BH] at h;have:b.length+o.length<=16777216:=⋯;unfold lW Va;simp[h,this]
def r0 (p:Int×Int):List Int:=[p.1,0,p.2]
def r1 (p:Int×Int):List Int:=[p.1,1,p.2]
def yy (l:Option Int) (v:Int):Int:=match l with
 | none=>v
 | some m=>if m<v then m else v
def ux (l:Option Int) (sh:List (Int×Int)) (f:Int->Int×Int):List (Int×Int):=match l with
 | some m=>sh++[f m]
 | none=>sh
structure Sw (b o:List (Int×Int)) (p:List (List Int)) (l0 l1:Option Int) (sh:List (Int×Int)):Prop where
 f7:∀ x,r0 x∈p->∃ m,l0=↑m/\m<=x.2
 f6:∀ x,r1 x∈p->∃ m,l1=↑m/\m<=x.2
 dg:∀ m,l0=↑m->∃ x,r0 x∈p/\x.2=m
 df:∀ m,l1=↑m->∃ x,r1 x∈p/\x.2=m
 len:sh.length<=p.length
 snd:∀ s∈sh,(∃ x,r0 x∈p/\x.1<=s.1/\x.2<=s.2)/\∃ x,r1 x∈p/\x.1<=s.1/\x.2<=s.2
 all:∀ x y,r0 x∈p->r1 y∈p->∃ s∈sh,(s.1<=x.1\/s.1<=y.1)/\(s.2<=x.2\/s.2<=y.2)
def kM {x y:Int×Int}(h:r0 x=r0 y):x=y:=by
 unfold r0 at h;injection h with h1 h2;injection h2 with _ h2;injection h2 with h2 _;show Prod.ext h1 h2
def kL {x y:Int×Int}(h:r1 x=r1 y):x=y:=by
 unfold r1 at h;injection h with h1 h2;injection h2 with _ h2;injection h2 with h2 _;show Prod.ext h1 h2
def om {x y:Int×Int}(h:r0 x=r1 y):False:=by
 unfold r0 r1 at h;injection h with h1 h2;injection h2 with h2 _;lia
def tQ {p:List (List Int)}{a x:List Int}(h:a∈p++[x]):a∈p\/a=x:=by exists h
def Sw.Ul {b o:List (Int×Int)}{p:List (List Int)}{l0 l1:Option Int}{sh:List (Int×Int)}(h:Sw b o p l0 l1 sh) (x:Int×Int) (hx:∀ y,r0 y∈p->y.1<=x.1) (hy:∀ y,r1 y∈p->y.1<=x.1):
  Sw b o (p++[r0 x]) ↑(yy l0 x.2) l1 (ux l1 sh λ m=>(x.1,if m>yy l0 x.2 then m else yy l0 x.2)):=by
 have lo:yy l0 x.2<=x.2/\∀ m,l0=↑m->yy l0 x.2<=m:=by
  unfold yy;cases l0 with
  | none=>show#[A3 _,nofun]
  | some m=>dsimp only;split <;> exact#[⋯,λ m' e=>?_] <;> cases e <;> lia
 have la:∃ y,r0 y∈p++[r0 x]/\y.2=yy l0 x.2:=by
  unfold yy;cases l0 with
  | none=>show#[x,#[],rfl]
  | some m=>
   dsimp only;split
   .let#[y,h1,h2]:=h.dg m rfl;show#[y,by simp[h1],h2]
   .show#[x,#[],rfl]
 have Hn:∀ s∈sh,(∃ x',r0 x'∈p++[r0 x]/\x'.1<=s.1/\x'.2<=s.2)/\∃ x',r1 x'∈p++[r0 x]/\x'.1<=s.1/\x'.2<=s.2:=λ s hs=>by
  let#[#[a,a1,a2],c,c1,c2]:=h.snd s hs;show#[#[a,by simp[a1],a2],c,by simp[c1],c2]
 exact#[λ y hm=>?_,λ y hm=>?_,λ m e=>?_,λ m e=>?_,?_,λ s hs=>?_,λ y z hm hz=>?_]
 .rcases tQ hm with q | q
  .let#[m,e,q2]:=h.f7 y q;show#[_,rfl,by have:=lo.2 m e;lia]
  .cases kM q;show#[_,rfl,lo.1]
 .rcases tQ hm with q | q
  .show h.f6 y q
  .show (om q.symm).elim
 .cases e;show la
 .let#[y,q1,q2]:=h.df m e;show#[y,by simp[q1],q2]
 .have:=h.len;cases l1 <;> simp[ux] <;> lia
 .cases l1 with
  | none=>show Hn s hs
  | some m=>
   rcases A5.mp hs with q | q
   .show Hn s q
   .obtain rfl:s=_:=by exists q
    let#[y,y1,y2]:=la;let#[z,z1,z2]:=h.df m rfl;have Ee:=hy z z1;exact#[#[y,y1,?_,by dsimp only;split <;> lia],z,by simp[z1],Ee,by dsimp only;split <;> lia];rcases tQ y1 with w | w
    .show hx y w
    .cases kM w;show A3 _
 .have hz':r1 z∈p:=by
   rcases tQ hz with q | q
   .show q
   .show (om q.symm).elim
  rcases tQ hm with q | q
  .let#[s,s1,s2]:=h.all y z q hz';exact#[s,?_,s2];cases l1 <;> simp[ux,s1]
  .cases kM q;let#[m,e,hm]:=h.f6 z hz';subst e;exact#[_,A_ _ Ar,.inl (A3 _),?_];have:=lo.1;dsimp only;split <;> lia
def Sw.swap {b o:List (Int×Int)}{p:List (List Int)}{l0 l1:Option Int}{sh:List (Int×Int)}(x:Int×Int) (h:Sw b o p l0 l1 sh) (hx:∀ y,r0 y∈p->y.1<=x.1) (hy:∀ y,r1 y∈p->y.1<=x.1):
  Sw b o (p++[r1 x]) l0 ↑(yy l1 x.2) (ux l0 sh λ m=>(x.1,if yy l1 x.2>m then yy l1 x.2 else m)):=by
 have lo:yy l1 x.2<=x.2/\∀ m,l1=↑m->yy l1 x.2<=m:=by
  unfold yy;cases l1 with
  | none=>show#[A3 _,nofun]
  | some m=>dsimp only;split <;> exact#[⋯,λ m' e=>?_] <;> cases e <;> lia
 have la:∃ y,r1 y∈p++[r1 x]/\y.2=yy l1 x.2:=by
  unfold yy;cases l1 with
  | none=>show#[x,#[],rfl]
  | some m=>
   dsimp only;split
   .let#[y,h1,h2]:=h.df m rfl;show#[y,by simp[h1],h2]
   .show#[x,#[],rfl]
 have Hn:∀ s∈sh,(∃ x',r0 x'∈p++[r1 x]/\x'.1<=s.1/\x'.2<=s.2)/\∃ x',r1 x'∈p++[r1 x]/\x'.1<=s.1/\x'.2<=s.2:=λ s hs=>by
  let#[#[a,a1,a2],c,c1,c2]:=h.snd s hs;show#[#[a,by simp[a1],a2],c,by simp[c1],c2]
 exact#[λ y hm=>?_,λ y hm=>?_,λ m e=>?_,λ m e=>?_,?_,λ s hs=>?_,λ y z hm hz=>?_]
 .rcases tQ hm with q | q
  .show h.f7 y q
  .show (om q).elim
 .rcases tQ hm with q | q
  .let#[m,e,q2]:=h.f6 y q;show#[_,rfl,by have:=lo.2 m e;lia]
  .cases kL q;show#[_,rfl,lo.1]
 .let#[y,q1,q2]:=h.dg m e;show#[y,by simp[q1],q2]
 .cases e;show la
 .have:=h.len;cases l0 <;> simp[ux] <;> lia
 .cases l0 with
  | none=>show Hn s hs
  | some m=>
   rcases A5.mp hs with q | q
   .show Hn s q
   .obtain rfl:s=_:=by exists q
    let#[y,y1,y2]:=la;let#[z,z1,z2]:=h.dg m rfl;have Ee:=hx z z1;exact#[#[z,by simp[z1],Ee,by dsimp only;split <;> lia],y,y1,?_,by dsimp only;split <;> lia];rcases tQ y1 with w | w
    .show hy y w
    .cases kL w;show A3 _
 .have hm':r0 y∈p:=by
   rcases tQ hm with q | q
   .show q
   .show (om q).elim
  rcases tQ hz with q | q
  .let#[s,s1,s2]:=h.all y z hm' q;exact#[s,?_,s2];cases l0 <;> simp[ux,s1]
  .cases kL q;let#[m,e,hm]:=h.f7 y hm';subst e;exact#[_,A_ _ Ar,.inr (A3 _),?_];have:=lo.1;dsimp only;split <;> lia
structure Lw (d:List (Key×T)) (l0 l1:Option Int):Prop where
 v0:yV d (.inl 0)=l0.map T.int
 v1:yV d (.inl 1)=l1.map T.int
 len:d.length=(if l0.isSome then 1 else 0)+if l1.isSome then 1 else 0
def Lw.Tc {d:List (Key×T)}{l0 l1:Option Int}(h:Lw d l0 l1) (v:Int):Lw (vz d (.inl 0) (.int v)) ↑v l1:=by
 exact#[by rw[km];simp,by rw[km];simpa using h.v1,?_];rw[Zd,h.v0,h.len];cases l0 <;> cases l1 <;> simp
def Lw.Tb {d:List (Key×T)}{l0 l1:Option Int}(h:Lw d l0 l1) (v:Int):Lw (vz d (.inl 1) (.int v)) l0 ↑v:=by
 exact#[by rw[km];simpa using h.v0,by rw[km];simp,?_];rw[Zd,h.v1,h.len];cases l0 <;> cases l1 <;> simp
def ju {rows p q:List (List Int)}{x:List Int}(e:L4.xI rows=p++x::q) {a:List Int}(ha:a∈p) {i j:Int}{as xs:List Int}(h1:a=i::as) (h2:x=j::xs):i<=j:=by
 have h:=L4.kE rows;rw[e,DI] at h;have:=h.2.2 a ha x Ar;subst h1 h2;rw[HT.r_] at this;by_cases c:j=i
 .lia
 .rw[if_neg c] at this;have:=of_decide_eq_false this;lia
def J6 {a0 a1 a2:W}{d:List (Key×T)}{S:List T}{x k y:Int}{lk:Option Int}(hv:yV d (.inl k)=lk.map T.int) (hd:d.length<16777216):
  eF 3 (zc 6) (zq vi (zb (zc 7) (zb (eG 3 (zc 6) (zh 7)) ze))) [↑a0,↑a1,↑a2,↑(.own (.yj d)),↑(.own (.lst S)),↑(.im (.int x)),↑(.im (.int k)),↑(.im (.int y))] =
   ↑(.nx [↑a0,↑a1,↑a2,↑(.own (.yj (vz d (.inl k) (.int (yy lk y))))),↑(.own (.lst S)),↑(.im (.int x)),↑(.im (.int k)),↑(.im (.int y))]):=by
 have hm:vi [.int y,(yV d (.inl k)).getD (.int y)]=↑(.int (yy lk y)):=by rw[hv];cases lk <;> simp[yy]
 change (vi [.int y,(yV d (.inl k)).getD (.int y)]).bind _=_;rw[hm];show if_pos hd
def bS (S:List T) (x:Int):Option Int->Option Int->List T
 | some u,↑v=>S++[.tup [.int x,.int (if v>u then v else u)]]
 | _,_=>S
def J7 {a0 a1 a2:W}{d:List (Key×T)}{S:List T}{x:Int}{f g:Option W}{l0 l1:Option Int}(h:Lw d l0 l1) (hs:S.length<16777216):
  zW (zD (za (zP false) (mX 3) (cI 2))) (xD 4 (tupS (zb (zh 5) (zb (zq sX (zb (ph 3 (cI 0)) (zb (ph 3 (cI 1)) ze))) ze)))) zZ [↑a0,↑a1,↑a2,↑(.own (.yj d)),↑(.own (.lst S)),↑(.im (.int x)),f,g] =
   ↑(.nx [↑a0,↑a1,↑a2,↑(.own (.yj d)),↑(.own (.lst (bS S x l0 l1))),↑(.im (.int x)),f,g]):=by
 have ht:zP false (.int d.length) (.int 2)=↑(.bl (l0.isSome&&l1.isSome)):=by
  rw[h.len];cases l0 <;> cases l1 <;> rfl
 have hT:zD (za (zP false) (mX 3) (cI 2)) [↑a0,↑a1,↑a2,↑(.own (.yj d)),↑(.own (.lst S)),↑(.im (.int x)),f,g]=↑(l0.isSome&&l1.isSome):=by
  change ((zP false (.int d.length) (.int 2)).bind _)=_;rw[ht];rfl
 exact (congrArg (Option.bind · _) hT).trans ?_;cases l0 with
 | none=>rfl
 | some u=>
  cases l1 with
  | none=>rfl
  | some v=>
   have hf:tupS (zb (zh 5) (zb (zq sX (zb (ph 3 (cI 0)) (zb (ph 3 (cI 1)) ze))) ze)) [↑a0,↑a1,↑a2,↑(.own (.yj d)),↑(.own (.lst S)),↑(.im (.int x)),f,g]=↑(.tup [.int x,.int (if v>u then v else u)]):=by simp[h.v0,h.v1]
   show (congrArg (Option.bind · _) hf).trans (if_pos hs)
def YR {a0 a1 a2:W}{d:List (Key×T)}{S:List T}{x k y:Int}{lk l0 l1:Option Int}(hv:yV d (.inl k)=lk.map T.int) (hd:d.length<16777216) (h:Lw (vz d (.inl k) (.int (yy lk y))) l0 l1) (hs:S.length<16777216):
  turn (xi 3 (zU (zu 5) (zU (zu 6) (zU (zu 7) xr)))) eX (.tup [.int x,.int k,.int y]) [↑a0,↑a1,↑a2,↑(.own (.yj d)),↑(.own (.lst S)),none,none,none] =
   ↑(.nx [↑a0,↑a1,↑a2,↑(.own (.yj (vz d (.inl k) (.int (yy lk y))))),↑(.own (.lst (bS S x l0 l1))),↑(.im (.int x)),↑(.im (.int k)),↑(.im (.int y))]):=
 (congrArg (Option.bind · _) (J6 hv hd)).trans (J7 h hs)
theorem IT (b o:List (Int×Int)) (hl:b.length+o.length<64):∃ sh:List (Int×Int),lY [.tup (b.map zj),.tup (o.map zj)]=↑(.tup ((v7 sh).map zj))/\sh.length<64/\∀ q,zF sh q=(zF b q&&zF o q):=by
 let a0:W:=.im (.tup (b.map zj))
 let a1:W:=.im (.tup (o.map zj))
 let rows:=b.map r0++o.map r1
 let a2:W:=.im (.lst (rows.map z_))
 have hlen:rows.length<64:=by simp[rows];show hl
 have hs:pY [.lst (rows.map z_)]=↑(.lst ((L4.xI rows).map z_)):=by
  change ((vF (rows.map z_)).bind λ rs=>_)=_;rw[gC,BO,if_pos #[hlen,λ r hr=>by
   rcases A5.mp hr with h | h <;> let#[_,_,rfl]:=Aq.mp h <;> simp[r0,r1]]]
 have plen:(L4.xI rows).length=rows.length:=(L4.tL rows).length_eq;let#[ρ1,h1,d,l0,l1,sh,e1,w1,s1]:=v5 (is:=[5,6,7]) (g:=xi 3 (zU (zu 5) (zU (zu 6) (zU (zu 7) xr)))) (b:=eX) z_ (λ p ρ=>∃ d l0 l1 sh,ρ=[↑a0,↑a1,↑a2,↑(.own (.yj d)),↑(.own (.lst (sh.map zj))),none,none,none]/\Lw d l0 l1/\Sw b o p l0 l1 sh) (L4.xI rows) [↑a0,↑a1,↑a2,↑(.own (.yj [])),↑(.own (.lst [])),none,none,none]
  #[[],none,none,[],#[],#[rfl,rfl,rfl],#[nofun,nofun,nofun,nofun,#[],nofun,nofun]] (by
  rintro p x q e ρ ⟨d,l0,l1,sh,rfl,hw,Ce⟩;have hx:x∈rows:=(L4.tL rows).mem_iff.mp (by rw[e];simp);have Ao:p.length<64:=by
   have:=congrArg List.length e;rw[plen] at this;simp at this;lia
  have BB:sh.length<16777216:=by have:=Ce.len;lia
  have Dn:d.length<16777216:=by rw[hw.len];split <;> split <;> lia
  rcases A5.mp hx with hm | hm
  .let#[y,_,rfl]:=Aq.mp hm;have st:=Ce.Ul y (λ z hz=>ju e hz rfl rfl) (λ z hz=>ju e hz rfl rfl);have hw':=hw.Tc (yy l0 y.2);exact#[[↑a0,↑a1,↑a2,↑(.own (.yj (vz d (.inl 0) (.int (yy l0 y.2))))),↑(.own (.lst ((ux l1 sh λ m=>(y.1,if m>yy l0 y.2 then m else yy l0 y.2)).map zj))),↑(.im (.int y.1)),↑(.im (.int 0)),↑(.im (.int y.2))],?_,_,_,_,_,#[],hw',st];rw[show ((ux l1 sh λ m=>(y.1,if m>yy l0 y.2 then m else yy l0 y.2)).map zj)=bS (sh.map zj) y.1 ↑(yy l0 y.2) l1 by cases l1 <;> simp[ux,bS,zj]];show YR hw.v0 Dn hw' (by exists BB)
  .let#[y,_,rfl]:=Aq.mp hm;have st:=Ce.swap y (λ z hz=>ju e hz rfl rfl) (λ z hz=>ju e hz rfl rfl);have hw':=hw.Tb (yy l1 y.2);exact#[[↑a0,↑a1,↑a2,↑(.own (.yj (vz d (.inl 1) (.int (yy l1 y.2))))),↑(.own (.lst ((ux l0 sh λ m=>(y.1,if yy l1 y.2>m then yy l1 y.2 else m)).map zj))),↑(.im (.int y.1)),↑(.im (.int 1)),↑(.im (.int y.2))],?_,_,_,_,_,#[],hw',st];rw[show ((ux l0 sh λ m=>(y.1,if yy l1 y.2>m then yy l1 y.2 else m)).map zj)=bS (sh.map zj) y.1 l0 ↑(yy l1 y.2) by cases l0 <;> simp[ux,bS,zj]];show YR hw.v1 Dn hw' (by exists BB))
 have DP:sh.length<64:=by have:=s1.len;lia
 exact#[sh,?_,DP,λ q=>?_]
 .subst e1;have hc1:YO [↑a0,↑a1,none,none,none,none,none,none]=↑(.lst ((b.map r0).map z_)):=by
   rw[A2];show tS zj (z_ ∘ r0) b (by simp[a0]) ⋯ λ y _=>by simp[zj,z_,r0]
  have GS:YM [↑a0,↑a1,none,none,none,none,none,none]=↑(.lst ((o.map r1).map z_)):=by
   rw[A2];show tS zj (z_ ∘ r1) o (by simp[a1]) ⋯ λ y _=>by simp[zj,z_,r1]
  have hF:=i4 sh DP;have z:b.length+o.length<=16777216:=⋯;simp![a0,a1,a2,rows,BH] at hc1 GS hs h1;unfold lY Vf;simp[hc1,GS,z,hs,h1,hF] at hc1 GS hs h1 ⊢;simp[hc1,GS,z,hs,h1,hF]
 .have m0:∀ x,r0 x∈L4.xI rows↔x∈b:=λ x=>by
   rw[(L4.tL rows).mem_iff];constructor
   .intro h;rcases A5.mp h with h | h <;> let#[y,hy,e]:=Aq.mp h
    .cases kM e;show hy
    .show (om e.symm).elim
   .show λ h=>Ct _ (D1 h)
  have m1:∀ x,r1 x∈L4.xI rows↔x∈o:=λ x=>by
   rw[(L4.tL rows).mem_iff];constructor
   .intro h;rcases A5.mp h with h | h <;> let#[y,hy,e]:=Aq.mp h
    .show (om e).elim
    .cases kL e;show hy
   .show λ h=>A_ _ (D1 h)
  rw[Be,Cd,yC,yC,yC];constructor
  .rintro⟨s,hs,g1,g2⟩;let#[#[x,x1,x2,x3],y,y1,y2,y3]:=s1.snd s hs;show#[#[x,(m0 x).mp x1,⋯,⋯],y,(m1 y).mp y1,⋯,⋯]
  .rintro⟨⟨x,x1,x2,x3⟩,y,y1,y2,y3⟩;let#[s,s1,g1,g2]:=s1.all x y ((m0 x).mpr x1) ((m1 y).mpr y1);show#[s,s1,⋯,⋯]
theorem eI {α:Type}(enc:α->T) (n:Nat) (h:∀ x,dep (enc x)<=n):∀ xs:List α,xZ (xs.map enc)<=n
 | []=>by simp[xZ]
 | x::xs=>by
  have:=h x;have:=eI enc n h xs;simp![Aw,xZ];lia
def K5 (p:Int×Int):dep (zj p)<=1:=by simp[zj,dep,xZ]
def Yp (ps:List (Int×Int)):dep (.tup (ps.map zj))<=60:=by
 have:=eI zj 1 K5 ps;simp![dep];lia
end zL
namespace zL
open PySem L2 L3 L5 RN
def bT (b:Bd):T:=.tup (b.map zj)
def rT (r:List Bd):T:=.lst (r.map bT)
def kt (b:Bool):T:=if b=true then .str "keeper" else .str "taker"
def yc (w:Wy):T:=.tup [.int w.f,.int w.t,.int w.a,.int w.b]
def yP (b:Bool):Int:=if b=true then 1 else 0
def yE (s:Sl):T:=.tup [.int s.p,.int (yP s.pu),.int s.gv,.int s.gt]
def zr (F:zt):T:=.tup [.tup [.int F.A,.int F.B],.tup (F.os.map kt),.tup (F.ws.map yc),.tup (F.ss.map yE)]
def eq_int (i j:Int) (neg:Bool):zP neg (.int i) (.int j)=↑(.bl (cond neg (!decide (i=j)) (decide (i=j)))):=by
 simp[zP,dep,eqT];cases neg <;> simp[Bool.beq_eq_decide_eq]
def XE (F:zt):pK [zr F]=↑(.int F.os.length):=by
 simp[pK,WA,zr]
def XM (q p:Int×Int):nA [zj q,zj p]=↑(.bl (wB q p)):=by
 by_cases h1:p.1<=q.1 <;> by_cases h2:p.2<=q.2 <;> simp[nA,Vk,zj,wB,h1,h2]
def YW {α:Type}(g:α->Bool) (xs:List α):qo (xs.map λ x=>T.bl (g x))=↑(xs.map g):=by
 have:=JB (xs.map g)
 rwa [A2] at this
theorem XH (ps:List (Int×Int)) (q:Int×Int) (hl:ps.length<=10000):qB [bT ps,zj q]=↑(.bl (zF ps q)):=by
 have hc:jP [↑(.im (bT ps)),↑(.im (zj q))]=↑(.lst (ps.map λ p=>T.bl (wB q p))):=by
  unfold jP;exact tS zj _ ps (by simp[bT]) ⋯ λ p _=>?_;simp[XM]
 unfold qB WZ;generalize jP=cc at hc ⊢;simp[hc,YW];rfl
theorem IU (A B:Int) (w:Wy) (bd:Bd) (hl:bd.length<64):ka [.tup [.int A,.int B],yc w,bT bd]=↑(bT (qt A B w.a w.b bd)):=by
 have h1:jQ [↑(.im (.tup [.int A,.int B])),↑(.im (yc w)),↑(.im (bT bd)),none]=↑(.lst ((bd.map (xg w.a w.b)).map zj)):=by
  rw[A2];unfold jQ;exact tS zj _ bd (by simp[bT]) ⋯ λ p _=>?_;simp[zj,yc,xg,yG,oK]
 have h2:jJ [↑(.im (.tup [.int A,.int B])),↑(.im (yc w)),↑(.im (bT bd)),↑(.im (.lst ((bd.map (xg w.a w.b)).map zj)))]=↑(.lst (((bd.map (xg w.a w.b)).filter (vI A B)).map zj)):=by
  have:=oE zj (λ p=>if vI A B p=true then ↑(zj p) else none) (pick:=[none,↑0]) (it:=yX (zc 3)) (g:=zu 0) (c:=y8 (zq nA (zb (zh 1) (zb (zh 0) ze)))) (f:=zh 0) (ρ:=[↑(.im (.tup [.int A,.int B])),↑(.im (yc w)),↑(.im (bT bd)),↑(.im (.lst ((bd.map (xg w.a w.b)).map zj)))]) (bd.map (xg w.a w.b)) #[] (by simp;lia) (λ p _=>by
   have e:T.tup [.int A,.int B]=zj (A,B):=rfl;have ga:wB (A,B) p=vI A B p:=rfl;simp![qU,e];simp[XM,ga];cases vI A B p <;> simp)
  unfold jJ;rw[this,show ∀ l:List (Int×Int),l.filterMap (λ p=>if vI A B p=true then ↑(zj p) else none)=(l.filter (vI A B)).map zj from λ l=>by
   induction l with
   | nil=>rfl
   | cons a l ih=>by_cases h:vI A B a=true <;> simp[CA,h,ih]]
 have h3:=i4 ((bd.map (xg w.a w.b)).filter (vI A B)) (D_ (CK _ _) (by exists hl));unfold ka Vi;generalize jQ=d1 at h1 ⊢;generalize jJ=d2 at h2 ⊢;generalize rF=ff at h3 ⊢;generalize (bd.map (xg w.a w.b)).map zj=L1 at h1 h2;generalize (((bd.map (xg w.a w.b)).filter (vI A B)).map zj)=L2 at h2 h3;simp[h1,h2,h3];rfl
def ID (b c:Bd) (hl:b.length+c.length<64):lW [bT b,bT c]=↑(bT (uJ b c)):=IE b c hl
def IQ (b c:Bd) (hl:b.length+c.length<64):lY [bT b,bT c]=↑(bT (uj b c)):=by
 let#[sh,h1,_,h2]:=IT b c hl;have:v7 sh=uj b c:=vP.eq (fC _) (fC _) λ q=>by
  rw[o8,h2,<- YS]
 rw[<- this];show h1
theorem IC {A B:Int}(hA:0<=A/\A<=12) (bs:List Bd) (h:∀ b∈bs,Gd A B b):lZ [.lst (bs.map bT)]=↑(bT (uK bs)):=by
 let#[ρ',h1,h2]:=v5 (is:=[2]) (g:=zu 2) (b:=jX) bT (λ p ρ=>ρ=[↑(.im (.lst (bs.map bT))),↑(.im (bT (p.foldl uJ []))),none]) bs [↑(.im (.lst (bs.map bT))),↑(.im (bT [])),none] rfl (by
  rintro p x q e ρ rfl;have g1:Gd A B (p.foldl uJ []):=mR p [] Gd.nil λ c hc=>h c (by rw[e];simp[hc]);have g2:Gd A B x:=h x (by rw[e];simp);have l1:=g1.sY hA.1;have l2:=g2.sY hA.1;exact#[[↑(.im (.lst (bs.map bT))),↑(.im (bT (uJ (p.foldl uJ []) x))),↑(.im (bT x))],?_,#[]];simp[turn,jX,ID (p.foldl uJ []) x ⋯])
 subst h2;unfold lZ Vg;generalize jX=bb at h1 ⊢;have e:bT []=.tup []:=rfl;rw[e] at h1;simp[h1,uK]
theorem IP {A B:Int}(hA:0<=A/\A<=12) (hB:0<=B) (bs:List Bd) (h:∀ b∈bs,Gd A B b):l_ [.lst (bs.map bT)]=↑(bT (oZ bs)):=by
 let#[ρ',h1,h2]:=v5 (is:=[2]) (g:=zu 2) (b:=jY) bT (λ p ρ=>ρ=[↑(.im (.lst (bs.map bT))),↑(.im (bT (p.foldl uj xw))),none]) bs [↑(.im (.lst (bs.map bT))),↑(.im (bT xw)),none] rfl (by
  rintro p x q e ρ rfl;have g1:Gd A B (p.foldl uj xw):=eQ p xw (Gd.xw hA.1 hB) λ c hc=>h c (by rw[e];simp[hc]);have g2:Gd A B x:=h x (by rw[e];simp);have l1:=g1.sY hA.1;have l2:=g2.sY hA.1;exact#[[↑(.im (.lst (bs.map bT))),↑(.im (bT (uj (p.foldl uj xw) x))),↑(.im (bT x))],?_,#[]];simp[turn,jY,IQ (p.foldl uj xw) x ⋯])
 subst h2;unfold l_ Vh;generalize jY=bb at h1 ⊢;have e:bT xw=.tup [.tup [.int 0,.int 0]]:=rfl;rw[e] at h1;simp[h1,oZ]
theorem mv {α:Type}{is:List Nat}{g:T->Ev->Option Ev}{b:Sm}(enc ret:α->T) (test:α->Bool) (ρ0:Ev):∀ (xs:List α) (ρ:Ev),yz is ρ=ρ0->
  (∀ x∈xs,∃ ρ',yz is ρ'=ρ0/\turn g b (enc x) ρ0=↑(if test x=true then .rt (ret x) else .nx ρ'))->
  xu is g b (xs.map enc) ρ=↑(match xs.find? test with | some x=>.rt (ret x) | none=>.nx ρ0)
 | [],ρ,h,_=>by rw[Bu,List.find?_nil,xu,h]
 | x::xs,ρ,h,ht=>by
  rw[Aw,jb,h];let#[ρ',h1,h2]:=ht x Ar;rw[h2,Cz];by_cases c:test x=true
  .rw[if_pos c,c];rfl
  .rw[if_neg c];rw[Dr] at c;rw[c];show mv enc ret test ρ0 xs ρ' h1 λ y hy=>ht y (Ay _ hy)
def dD (i a b:Int):pO [.int i,.int a,.int b]=↑(.bl (decide (a<=i)&&decide (i<=b))):=by
 have h:pP [.int i]=↑(.bl true):=by simp[pP,cq,uV]
 by_cases h1:a<=i <;> by_cases h2:i<=b <;> simp[pO,WU,h,h1,h2]
theorem dJ (F:zt) (p:Nat) (h:p<F.os.length):nv [zr F,.int p]=↑.zp:=by
 have h1:=dD p 0 ((F.os.length:Int)-1);rw[show decide ((0:Int)<=p)=true from za2 ⋯,show decide ((p:Int)<=(F.os.length:Int)-1)=true from za2 ⋯] at h1;have h2:=XE F;unfold nv Vc;generalize zr F=fl at *;simp[h1,h2]
def KZ (pu:Bool) (A B:Int) (sp gv gt:Int) (x y:Int) (hg:1<=gv) (b0 b1:T) (hb:zg b0 (.int (yP pu))=↑(.int (if pu=true then B else A))) (HG:zg b1 (.int 2)=↑(.int gv)) (hs3:zg b1 (.int 3)=↑(.int gt)) (pr:T):
  ∀ (n m:Nat) (g t:Int) (acc:Bd),(if pu=true then B else A)+1-g<=n->n<m->acc.length+n<=1000->
  ∃ g' t',wR [] (zD (za qT (zc 5) (za zg (zc 0) (zc 3)))) p8 m [↑(.im b0),↑(.im b1),↑(.im pr),↑(.im (.int (yP pu))),↑(.own (.lst (acc.map zj))),↑(.im (.int g)),↑(.im (.int t))]
   = ↑(.nx [↑(.im b0),↑(.im b1),↑(.im pr),↑(.im (.int (yP pu))),↑(.own (.lst ((acc++x_ pu (if pu=true then B else A) gv gt n g t).map zj))),↑(.im (.int g')),↑(.im (.int t'))]):=by
 have Br:∀ (m:Nat) (g t:Int) (acc:Bd),¬ g<=(if pu=true then B else A)->wR [] (zD (za qT (zc 5) (za zg (zc 0) (zc 3)))) p8 (m+1) [↑(.im b0),↑(.im b1),↑(.im pr),↑(.im (.int (yP pu))),↑(.own (.lst (acc.map zj))),↑(.im (.int g)),↑(.im (.int t))]
   = ↑(.nx [↑(.im b0),↑(.im b1),↑(.im pr),↑(.im (.int (yP pu))),↑(.own (.lst (acc.map zj))),↑(.im (.int g)),↑(.im (.int t))]):=λ m g t acc hn=>by
  unfold wR;simp![zg] at hb;simp[hb,hn]
 intro n
 induction n with
 | zero=>
  intro m g t acc h1 h2 h3;obtain⟨m,rfl⟩:∃ k,m=k+1:=#[m-1,⋯];exact#[g,t,?_];rw[Br m g t acc ⋯];simp[x_]
 | succ n ih=>
  intro m g t acc h1 h2 h3;obtain⟨m,rfl⟩:∃ k,m=k+1:=#[m-1,⋯];by_cases hc:g<=(if pu=true then B else A)
  .let#[g',t',e]:=ih m (g+gv) (yG (t-gt)) (acc++[yS pu g t]) ⋯ ⋯ (by simp;lia);exact#[g',t',?_];have hb1:p8 [↑(.im b0),↑(.im b1),↑(.im pr),↑(.im (.int (yP pu))),↑(.own (.lst (acc.map zj))),↑(.im (.int g)),↑(.im (.int t))]=↑(.nx [↑(.im b0),↑(.im b1),↑(.im pr),↑(.im (.int (yP pu))),↑(.own (.lst ((acc++[yS pu g t]).map zj))),↑(.im (.int (g+gv))),↑(.im (.int (yG (t-gt))))]):=by
    simp![zg] at HG hs3;have hl:acc.length<16777216:=⋯;unfold p8;cases pu <;> simp[yP,eq_int,HG,hs3,hl,oK,yG,yS,zj]
   unfold wR;simp![zg] at hb;generalize p8=bb at *;have e2:x_ pu (if pu=true then B else A) gv gt (n+1) g t=yS pu g t::x_ pu (if pu=true then B else A) gv gt n (g+gv) (yG (t-gt)):=by
    rw[x_,if_pos hc]
   rw[e2];simp![D9,List.singleton_append] at e;simp[hb,hc,hb1];exists e
  .exact#[g,t,?_];rw[Br m g t acc hc,x_,if_neg hc,Cs]
theorem IK {F:zt}(ok:F.Ok) (s:Sl) (hs:1<=s.gv/\0<=s.gt) (p:Int×Int) (h0:0<=p.1/\0<=p.2):lL [.tup [.int F.A,.int F.B],yE s,zj p]=↑(.lst ((yY F s p).map zj)):=by
 let#[sp,pu,gv,gt]:=s;have a1:=ok.a1;have b1:=ok.b1;let#[g',t',h]:=KZ pu F.A F.B sp gv gt p.1 p.2 hs.1 (.tup [.int F.A,.int F.B]) (yE #[sp,pu,gv,gt]) (by cases pu <;> simp[yP]) (by simp[yE]) (by simp[yE]) (zj p) 100 1000000 (zO pu p) (yt pu p) [] (by cases pu <;> simp[zO] <;> lia) () #[];unfold lL WB nB;generalize hb:p8=bb at h ⊢;unfold yY zt.zy;simp![Bu,D0] at h;cases pu <;> simp[yE,yP,zj,zO,yt] at h ⊢ <;> simp[h]
theorem XD (F:zt) (p:Nat) (h:p<F.os.length) (hl:F.ss.length<=60):sG [zr F,.int p]=↑(match F.Fo p with | some s=>yE s | none=>.zp):=by
 have G3:=mv (is:=[2]) (g:=zu 2) (b:=l8) yE yE (λ s=>decide (s.p=p)) [↑(.im (zr F)),↑(.im (.int p)),none] F.ss [↑(.im (zr F)),↑(.im (.int p)),none] #[] λ s _=>#[[↑(.im (zr F)),↑(.im (.int p)),↑(.im (yE s))],#[],by
  by_cases c:s.p=p
  .simp[turn,l8,yE,eq_int,c]
  .have c':¬ ((s.p:Int)=(p:Int)):=⋯;simp[turn,l8,yE,eq_int,c,c']]
 have h1:=dJ F p h;have h2:zg (zr F) (.int 3)=↑(.tup (F.ss.map yE)):=by simp[zr]
 unfold sG W8;generalize l8=bb,zr F=fl at *;simp![zg] at h2;unfold zt.Fo;generalize F.ss.find? _=o at *;simp[h1,h2,G3];cases o <;> simp
theorem Yg:∀ (ws:List Wy) (k:Nat),r9 k (ws.map yc)=(ws.zipIdx k).map λ wi=>T.tup [.int (wi.2:Int),yc wi.1]
 | [],k=>rfl
 | w::ws,k=>by
  rw[Aw,r9,Yg ws (k+1),Ds,Aw]
theorem kl (f:Wy->Bool):∀ (ws:List Wy) (k:Nat),((ws.zipIdx k).filter λ wi=>f wi.1).map (λ wi=>wi.1)=ws.filter f
 | [],k=>rfl
 | w::ws,k=>by
  rw[Ds,List.filter_cons,List.filter_cons];by_cases c:f w=true
  .rw[if_pos (by show c),if_pos c,Aw,kl f ws]
  .rw[if_neg (by show c),if_neg c,kl f ws]
theorem dE (F:zt) (p:Nat) (h:p<F.os.length) (hl:F.ws.length<=60):sF [zr F,.int p]=↑(.lst (((F.ws.zipIdx).filter λ wi=>decide (wi.1.f=p)).map λ wi=>T.int (wi.2:Int))):=by
 have hc:jK [↑(.im (zr F)),↑(.im (.int p))]=↑(.lst (((F.ws.zipIdx).filter λ wi=>decide (wi.1.f=p)).map λ wi=>T.int (wi.2:Int))):=by
  have:=oE (λ wi:Wy×Nat=>T.tup [.int (wi.2:Int),yc wi.1]) (λ wi=>if wi.1.f=p then ↑(T.int (wi.2:Int)) else none) (pick:=[none,none,↑1]) (it:=xc ui (zb (za zg (zc 0) (cI 2)) ze)) (g:=xi 2 (zU (zu 0) (zU (zu 1) xr))) (c:=zD (za (zP false) (za zg (zc 1) (cI 0)) (zc 2))) (f:=zh 0) (ρ:=[↑(.im (zr F)),↑(.im (.int p))]) (F.ws.zipIdx) (by
   rw[<- Yg];simp[zr]) (by simp;lia) (λ wi _=>by
   by_cases c:wi.1.f=p
   .simp[yc,eq_int,c]
   .have c':¬ ((wi.1.f:Int)=(p:Int)):=⋯;simp[yc,eq_int,c,c'])
  unfold jK;rw[this];congr 2
  induction F.ws.zipIdx with
  | nil=>rfl
  | cons a l ih=>by_cases c:a.1.f=p <;> simp[CA,c,ih]
 have h1:=dJ F p h;unfold sF W6;generalize jK=cc,zr F=fl at *;generalize List.map (λ wi:Wy×Nat=>T.int (wi.2:Int)) _=LL at *;simp[h1,hc]
theorem Yd:∀ (b c:Bd),xP (b.map zj) (c.map zj)=decide (b=c)
 | [],[]=>by simp[xP]
 | [],_::_=>by simp[xP]
 | _::_,[]=>by simp[xP]
 | p::b,q::c=>by
  have h:=Yd b c;have e:eqT (zj p) (zj q)=decide (p=q):=by
   let#[p1,p2]:=p;let#[q1,q2]:=q;by_cases h1:p1=q1 <;> by_cases h2:p2=q2 <;> simp[zj,eqT,xP,h1,h2]
  rw[Aw,Aw,xP,e,h];by_cases h1:p=q <;> by_cases h2:b=c <;> simp[h1,h2]
def aK (b c:Bd):zP true (bT b) (bT c)=↑(.bl (decide (b≠c))):=by
 have h1:dep (bT b)<=60:=Yp b;have h2:dep (bT c)<=60:=Yp c;unfold zP;rw[if_pos #[h1,h2]];change ↑(T.bl (!(xP (b.map zj) (c.map zj))))=_;rw[Yd];by_cases h:b=c <;> simp[h]
def oH (l:List Bd) (p:Nat) (h:p<l.length):zg (rT l) (.int p)=↑(bT (l.getD p [])):=by
 change L2.zM (l.map bT) (p:Int)=_;exact xR ?_;rw[AD,AR h,AX,AR h];rfl
theorem IJ {F:zt}(ok:F.Ok) (p:Nat) (hp:p<F.os.length) (b:Bd) (hb:Gd F.A F.B b):ny [zr F,.int p,bT b]=↑(bT (match F.Fo p with | none=>b | some s=>p7 F s b)):=by
 have h1:=XD F p hp ok.s8;cases hs:F.Fo p with
 | none=>
  rw[hs] at h1;unfold ny cu;generalize sG=f1 at h1 ⊢;generalize zr F=fl,bT b=bb at *;have is1:yA false .zp .zp=↑(.bl true):=rfl;simp[h1,is1]
 | some s=>
  rw[hs] at h1;replace h1:sG [zr F,.int p]=↑(yE s):=h1;have A6:s∈F.ss:=CL hs;have hsz:=ok.ss s A6;have GF:(F.A+1)*(F.B+1)<64:=by
   rcases ok.sl with x | x
   .rw[x] at A6;cases A6
   .show x
  have a0:=ok.a0;have b0:=ok.b0;have Ew:∀ x∈b,((yY F s x).length:Int)<=F.zy s.pu+1:=λ x hx=>by
   have q:=hb.xM x hx;have:=YG s.pu (F.zy s.pu) s.gv s.gt hsz.1 100 (zO s.pu x) (yt s.pu x) (by unfold zt.zy zO;split <;> lia);have g0:0<=zO s.pu x:=by unfold zO;split <;> lia
   unfold yY;lia
  have AM:∀ q:Bd,(∀ x∈q,x∈b)->((q.flatMap (yY F s)).length:Int)<=q.length*(F.zy s.pu+1):=λ q=>by
   induction q with
   | nil=>intro _;simp
   | cons x q ih=>
    intro hq;have i1:=ih λ y hy=>hq y (Ay _ hy);have i2:=Ew x (hq x Ar);rw[List.flatMap_cons,BI,A4,Int.natCast_add,Int.natCast_add,Cp];lia
  have hlen:(b.flatMap (yY F s)).length<64:=by
   have h2:=AM b λ _ h=>h;have l1:=hb.sY a0;have l2:=hb.Mz b0;have:((b.flatMap (yY F s)).length:Int)<64:=by
    exact DZ h2 (DZ ?_ GF);unfold zt.zy;split
    .show zcD l1 ⋯
    .rw[Int.mul_comm (F.A+1)];show zcD l2 ⋯
   lia
  have EV:zg (zr F) (.int 0)=↑(.tup [.int F.A,.int F.B]):=by simp[zr]
  let#[ρ',h2,h3]:=v5 (is:=[5]) (g:=zu 5) (b:=jZ) zj (λ q ρ=>ρ=[↑(.im (zr F)),↑(.im (.int p)),↑(.im (bT b)),↑(.im (yE s)),↑(.own (.lst ((q.flatMap (yY F s)).map zj))),none]) b [↑(.im (zr F)),↑(.im (.int p)),↑(.im (bT b)),↑(.im (yE s)),↑(.own (.lst [])),none] rfl (by
   rintro q x r e ρ rfl;have hx:x∈b:=by rw[e];simp
   have q1:=hb.xM x hx;have hF:=IK ok s hsz x #[q1.1.1,q1.2.1];have hl2:(q.flatMap (yY F s)).length+(yY F s x).length<=16777216:=by
    have e2:(b.flatMap (yY F s)).length=(q.flatMap (yY F s)).length+((yY F s x).length+(r.flatMap (yY F s)).length):=by rw[e];simp
    lia
   exact#[[↑(.im (zr F)),↑(.im (.int p)),↑(.im (bT b)),↑(.im (yE s)),↑(.own (.lst (((q++[x]).flatMap (yY F s)).map zj))),↑(.im (zj x))],?_,#[]];have e3:((q++[x]).flatMap (yY F s)).map zj=(q.flatMap (yY F s)).map zj++(yY F s x).map zj:=#[];rw[e3];unfold turn jZ;have l3:((q.flatMap (yY F s)).map zj).length+((yY F s x).map zj).length<=16777216:=by exists hl2
   generalize lL=ff,(q.flatMap (yY F s)).map zj=L1,(yY F s x).map zj=L2,zr F=fl at *;simp![zg] at EV;simp[EV,hF,l3])
  subst h3;have hF:=i4 (b.flatMap (yY F s)) hlen;have nn:yA false (yE s) .zp=↑(.bl false):=rfl;unfold ny cu;generalize jZ=bb,rF=ff,sG=f1,(b.flatMap (yY F s)).map zj=L1 at *;have hbT:xU (bT b)=↑(b.map zj):=rfl;generalize bT b=bt,zr F=fl,yE s=st at *;simp[h1,nn,hbT,h2,hF];rfl
theorem Im {F:zt}(ok:F.Ok) (p:Nat) (hp:p<F.os.length) (l:List Bd) (hl:l.length=F.os.length) (hg:∀ b∈l,Gd F.A F.B b):lM [zr F,.int p,rT l]=↑(bT (y9 F l p)):=by
 have h1:=dE F p hp ok.tE;have G2:zg (zr F) (.int 2)=↑(.tup (F.ws.map yc)):=by simp[zr]
 have Hw:zg (zr F) (.int 0)=↑(.tup [.int F.A,.int F.B]):=by simp[zr]
 have hw1:zg (zr F) (.int 1)=↑(.tup (F.os.map kt)):=by simp[zr]
 have c1:jM [↑(.im (zr F)),↑(.im (.int p)),↑(.im (rT l)),none,none]=↑(.lst ((F.ws.filter λ w=>decide (w.f=p)).map yc)):=by
  rw[<- kl (λ w=>decide (w.f=p)) F.ws 0,A2];unfold jM;exact tS (λ wi:Wy×Nat=>T.int (wi.2:Int)) _ ((F.ws.zipIdx).filter λ wi=>decide (wi.1.f=p)) ?_ (AY (CK _ _) (by rw[List.length_zipIdx];have:=ok.tE;lia)) λ wi CV=>?_
  .generalize sF=ff at *;simp[h1]
  .have hm:=(A7.mp CV).1;have hg:=DY.mp hm;have:L2.zM (F.ws.map yc) (wi.2:Int)=↑(yc wi.1):=by
    show xR (by rw[AD,hg];rfl)
   generalize zr F=fl at *;simp![zg] at G2;simp[G2,this]
 have c2:jI [↑(.im (zr F)),↑(.im (.int p)),↑(.im (rT l)),↑(.im (.lst ((F.ws.filter λ w=>decide (w.f=p)).map yc))),none]=↑(.lst ((wa F l p).map bT)):=by
  unfold wa;rw[A2];unfold jI;exact tS yc _ (F.ws.filter λ w=>decide (w.f=p)) #[] (AY (CK _ _) (by have:=ok.tE;lia)) λ w hw=>?_;have hm:=(A7.mp hw).1;have ht:w.t<l.length:=by rw[hl];show (ok.ws w hm).2
  have e1:=oH l w.t ht;have gb:Gd F.A F.B (l.getD w.t []):=by
   rw[AX,AR ht];show hg _ (Bl ht)
  have l13:=gb.sY ok.a0;have a12:=ok.a1;have hF:=IU F.A F.B w (l.getD w.t []) ⋯;have e2:zg (yc w) (.int 1)=↑(.int (w.t:Int)):=by simp[yc]
  obtain⟨bd,hbd⟩:∃ bd,l.getD w.t []=bd:=#[_,rfl];rw[hbd] at e1 gb hF;have EW:(l[w.t]?).getD []=bd:=by rw[<- hbd,AX]
  generalize ka=ff,zr F=fl,rT l=rt,yc w=wt at *;simp![zg] at Hw e1 e2;simp[Hw,e1,e2,hF,EW]
 have gah:=ig F l p;have c3:=IC #[ok.a0,ok.a1] (wa F l p) gah;have c4:=IP #[ok.a0,ok.a1] ok.b0 (wa F l p) gah;have c5:=IJ ok p hp (uK (wa F l p)) (mR _ _ Gd.nil gah);have ho:L2.zM (F.os.map kt) (p:Int)=↑(kt (F.os.getD p false)):=by
  exact xR ?_;rw[AD,AR hp,AX,AR hp];rfl
 have hk:∀ b:Bool,zP false (kt b) (.str "keeper")=↑(.bl b):=λ b=>by cases b <;> rfl
 unfold lM WD;generalize jM=d1,jI=d2,lZ=f1,l_=f2,ny=f3,((F.ws.filter λ w=>decide (w.f=p)).map yc)=L1,zr F=fl,rT l=rt at *;unfold y9;have Gx:=hk (F.os.getD p false);generalize F.os.getD p false=kb at *;generalize kt kb=ktb at *;generalize (T.str "keeper")=ks at *;simp![zg] at hw1;cases kb with
 | true=>
  simp[c1,c2,hw1,ho,Gx,c3,c5]
  all_goals (cases F.Fo p <;> rfl)
 | false=>simp[c1,c2,hw1,ho,Gx,c4]
theorem mM {α β:Type}(c:α->Bool) (g:α->β):∀ l:List α,l.filterMap (λ x=>if c x=true then ↑(g x) else none)=(l.filter c).map g
 | []=>rfl
 | a::l=>by by_cases h:c a=true <;> simp[CA,h,mM c g l]
theorem Z9 (t:Nat) (fr:List Nat):qc false (.int t) (.lst (fr.map λ(k:Nat)=>T.int (k:Int)))=↑(.bl (fr.contains t)):=by
 have d1:xZ (fr.map λ(k:Nat)=>T.int (k:Int))<=60:=by
  exact eI _ 60 (λ x=>?_) fr;simp[dep]
 have d0:dep (.int (t:Int))<=60:=by simp[dep]
 unfold qc;change (if dep (.int (t:Int))<=60/\xZ (fr.map λ(k:Nat)=>T.int (k:Int))<=60 then _ else _)=_;rw[if_pos #[d0,d1]];change ↑(T.bl ((fr.map λ(k:Nat)=>T.int (k:Int)).any λ x=>eqT x (.int t)))=_;congr 2;rw[Be,A8,List.contains_iff_mem];constructor
 .rintro⟨x,hx,h⟩;let#[k,hk,rfl]:=Aq.mp hx;have:(k:Int)=(t:Int):=by simpa [eqT] using h
  have:k=t:=⋯;subst this;show hk
 .intro h;show#[_,Aq.mpr #[t,h,rfl],by simp[eqT]]
def Il {F:zt}(ok:F.Ok) (EZ:List Bd) (fr:List Nat) (hl:EZ.length=F.os.length) (hg:∀ b∈EZ,Gd F.A F.B b):
  ni [zr F,rT EZ,.lst (fr.map λ(k:Nat)=>T.int (k:Int))]=↑(rT (yn F EZ fr)):=by
 have G2:zg (zr F) (.int 2)=↑(.tup (F.ws.map yc)):=by simp[zr]
 have c1:jL [↑(.im (zr F)),↑(.im (rT EZ)),↑(.im (.lst (fr.map λ(k:Nat)=>T.int (k:Int)))),↑(.own (.lst (EZ.map bT))),none]=↑(.lst (((F.ws.filter λ w=>fr.contains w.t).map λ w=>(w.f:Int)).map T.int)):=by
  have:=oE yc (λ w=>if fr.contains w.t=true then ↑(T.int (w.f:Int)) else none) (pick:=[none,↑2]) (it:=yX (za zg (zc 0) (cI 2))) (g:=zu 0) (c:=zD (za (qc false) (za zg (zc 0) (cI 1)) (zc 1))) (f:=za zg (zc 0) (cI 0)) (ρ:=[↑(.im (zr F)),↑(.im (rT EZ)),↑(.im (.lst (fr.map λ(k:Nat)=>T.int (k:Int)))),↑(.own (.lst (EZ.map bT))),none]) F.ws (by
    generalize zr F=fl at *;simp![zg] at G2;simp[G2]) (by have:=ok.tE;lia) (λ w _=>by
   have hi:=Z9 w.t fr;generalize (T.lst (fr.map λ(k:Nat)=>T.int (k:Int)))=ft,fr.contains w.t=cb at *;cases cb <;> simp[yc,hi])
  unfold jL;rw[this];rw[mM (λ w:Wy=>fr.contains w.t) (λ w:Wy=>T.int (w.f:Int)),A2];rfl
 have DN:tK [.lst (((F.ws.filter λ w=>fr.contains w.t).map λ w=>(w.f:Int)).map T.int)]=↑(.lst ((vd ((F.ws.filter λ w=>fr.contains w.t).map λ w=>(w.f:Int))).map T.int)):=by
  change (match uB (((F.ws.filter λ w=>fr.contains w.t).map λ w=>(w.f:Int)).map T.int) with | some ns=>_ | none=>_)=_;rw[Z7];exact if_pos ?_;have:=CK (λ w:Wy=>fr.contains w.t) F.ws;have:=ok.tE;simp![AA];lia
 have A6:∀ k∈vd ((F.ws.filter λ w=>fr.contains w.t).map λ w=>(w.f:Int)),∃ p:Nat,k=(p:Int)/\p<F.os.length/\uX F fr p=true:=λ k hk=>by
  let#[w,hw,rfl]:=Aq.mp (kY.mp hk);let#[w1,w2]:=A7.mp hw;show#[w.f,rfl,(ok.ws w w1).1,A8.mpr #[w,w1,by exists w2]]
 have Ek:∀ p:Nat,uX F fr p=true->(p:Int)∈vd ((F.ws.filter λ w=>fr.contains w.t).map λ w=>(w.f:Int)):=λ p h=>by
  let#[w,w1,w2]:=A8.mp h;have w3:w.f=p/\fr.contains w.t=true:=by exists w2
  show kY.mpr (Aq.mpr #[w,A7.mpr #[w1,w3.2],by rw[w3.1]])
 generalize vd ((F.ws.filter λ w=>fr.contains w.t).map λ w=>(w.f:Int))=up at *;have ft:∃ t,(T.lst (fr.map λ(k:Nat)=>T.int (k:Int)))=t:=#[_,rfl];let#[ρ',h1,h2]:=v5 (is:=[4]) (g:=zu 4) (b:=jT) T.int (λ pre ρ=>ρ=[↑(.im (zr F)),↑(.im (rT EZ)),↑(.im (.lst (fr.map λ(k:Nat)=>T.int (k:Int)))),↑(.own (.lst (((List.range EZ.length).map λ(p:Nat)=>if (p:Int)∈pre then y9 F EZ p else EZ.getD p []).map bT))),none]) up
   [↑(.im (zr F)),↑(.im (rT EZ)),↑(.im (.lst (fr.map λ(k:Nat)=>T.int (k:Int)))),↑(.own (.lst (EZ.map bT))),none] (by
  have e:(List.range EZ.length).map (λ(p:Nat)=>if (p:Int)∈([]:List Int) then y9 F EZ p else EZ.getD p [])=EZ:=by
   exact C6 #[] λ i h1 h2=>?_;simp[h2]
  rw[e];rfl) (by
  rintro pre k q e ρ rfl;let#[p,rfl,hp,hw]:=A6 k (by rw[e];simp);have hF:=Im ok p hp EZ hl hg;exact#[[↑(.im (zr F)),↑(.im (rT EZ)),↑(.im (.lst (fr.map λ(k:Nat)=>T.int (k:Int)))),↑(.own (.lst (((List.range EZ.length).map λ(i:Nat)=>if (i:Int)∈pre++[(p:Int)] then y9 F EZ i else EZ.getD i []).map bT))),↑(.im (.int p))],?_,#[]];have Er:(((List.range EZ.length).map λ(i:Nat)=>if (i:Int)∈pre then y9 F EZ i else EZ.getD i []).map bT).set p (bT (y9 F EZ p))=((List.range EZ.length).map λ(i:Nat)=>if (i:Int)∈pre++[(p:Int)] then y9 F EZ i else EZ.getD i []).map bT:=by
   exact C6 #[] λ i h1 h2=>?_;rw[List.getElem_set];simp![List.getElem_map,D7,A5,AH];by_cases c:p=i
   .subst c;simp
   .have c':¬ ((i:Int)=(p:Int)):=⋯;simp[c,c']
  have Cu:wA (((List.range EZ.length).map λ(i:Nat)=>if (i:Int)∈pre then y9 F EZ i else EZ.getD i []).map bT).length (p:Int)=↑p:=by
   unfold wA;simp![AA,CB];rw[if_pos ⋯,if_pos ⋯,Cw]
  rw[<- Er];unfold turn jT;generalize lM=ff,(((List.range EZ.length).map λ(i:Nat)=>if (i:Int)∈pre then y9 F EZ i else EZ.getD i []).map bT)=LL,zr F=fl,rT EZ=rl,(T.lst (fr.map λ(k:Nat)=>T.int (k:Int)))=ftt at *;simp[hF,Cu])
 subst h2;have fin:((List.range EZ.length).map λ(p:Nat)=>if (p:Int)∈up then y9 F EZ p else EZ.getD p [])=yn F EZ fr:=by
  unfold yn;exact DC λ p hp=>?_;by_cases c:uX F fr p=true
  .rw[if_pos c,if_pos (Ek p c)]
  .rw[if_neg c,if_neg λ h=>c (by let#[p',e,_,h']:=A6 _ h;show (show p'=p by lia)▸h')]
 rw[fin] at h1;have hlist:listS [rT EZ]=↑(.lst (EZ.map bT)):=rfl;unfold ni WC;generalize jL=cc,jT=bb,(((F.ws.filter λ w=>fr.contains w.t).map λ w=>(w.f:Int)).map T.int)=L1 at *;generalize hup:up.map T.int=L2 at *;generalize EZ.map bT=L3,zr F=fl at *;have Ep:xU (rT EZ)=↑L3:=by exists hlist
 generalize rT EZ=rl,(T.lst (fr.map λ(k:Nat)=>T.int (k:Int)))=ftt at *;simp[Ep,c1,DN,h1,rT]
theorem eC {α:Type}(enc:α->T) (d:α) (fo:List α):∀ (l:List α) (k:Nat),(∀ i,l.getD i d=fo.getD (k+i) d)->r9 k (l.map enc)=(List.range l.length).map λ(p:Nat)=>T.tup [.int ((k+p:Nat):Int),enc (fo.getD (k+p) d)]
 | [],k,_=>rfl
 | b::l,k,h=>by
  have h0:=h 0;rw[Aw,r9,eC enc d fo l (k+1) λ i=>by have:=h (i+1);rw[show k+1+i=k+(i+1) from by lia];exists this];rw[A4,List.range_succ_eq_map,Aw,A2];have e:b=fo.getD k d:=by exists h0
  congr 1
  .rw[e];rfl
  .exact DC λ p _=>?_;simp![Function.comp];rw[show k+1+p=k+Nat.succ p from by lia]
def xv (fr:List Nat):T:=.lst (fr.map λ(k:Nat)=>T.int (k:Int))
theorem J2 (a:T) (b c:Option L5.W) (EZ fo:List Bd) (hl:fo.length=EZ.length) (h16:fo.length<=10000):l5 [↑(.im a),b,c,↑(.im (rT EZ)),↑(.im (rT fo))]=↑(xv (xB EZ fo)):=by
 have:=oE (λ p:Nat=>T.tup [.int (p:Int),bT (fo.getD p [])]) (λ p=>if decide (fo.getD p []≠EZ.getD p [])=true then ↑(T.int (p:Int)) else none) (pick:=[none,none,↑3]) (it:=xc ui (zb (zc 4) ze)) (g:=xi 2 (zU (zu 0) (zU (zu 1) xr))) (c:=zD (za (zP true) (zc 1) (za zg (zc 2) (zc 0)))) (f:=zh 0) (ρ:=[↑(.im a),b,c,↑(.im (rT EZ)),↑(.im (rT fo))]) (List.range fo.length) (by
   have:=eC bT [] fo fo 0 λ i=>by rw[C1]
   simp![C1] at this;have e:ui [rT fo]=↑(r9 0 (fo.map bT)):=rfl;rw[<- this];generalize ui=en at *;simp[e]) (by simp;lia) (λ p hp=>by
  have HV:p<EZ.length:=by rw[<- hl];show AG.mp hp
  have h1:=oH EZ p HV;have h2:=aK (fo.getD p []) (EZ.getD p []);generalize fo.getD p []=x,EZ.getD p []=y,rT EZ=rl at *;generalize decide (x≠y)=d at *;simp![zg] at h1;cases d <;> simp[h1,h2])
 unfold l5;rw[this,mM (λ p:Nat=>decide (fo.getD p []≠EZ.getD p [])) (λ p:Nat=>T.int (p:Int))];rfl
theorem bz {F:zt}(ok:F.Ok):∀ (n:Nat) (pre:List (List Bd)) (EZ:List Bd) (fr:List Nat) (res:List (List Bd)),St F EZ fr->rR F n pre EZ fr=↑res->pre.length+n<=10000->∀ (m:Nat),n<m->∀ x3 x4:Option L5.W,
  ∃ fr',wR [3,4] (y8 (zc 2)) sj m [↑(.im (zr F)),↑(.own (.lst ((pre++[EZ]).map rT))),↑(.im (xv fr)),x3,x4]=↑(.nx [↑(.im (zr F)),↑(.own (.lst (res.map rT))),↑(.im fr'),none,none])
 | 0,_,_,_,_,_,h,_,_,_,_,_=>by cases h
 | n+1,pre,EZ,fr,res,s,h,hn,m,hm,x3,x4=>by
  have Br:∀ (m:Nat) (E5:List (List Bd)) (x3 x4:Option L5.W),wR [3,4] (y8 (zc 2)) sj (m+1) [↑(.im (zr F)),↑(.own (.lst (E5.map rT))),↑(.im (xv [])),x3,x4]=↑(.nx [↑(.im (zr F)),↑(.own (.lst (E5.map rT))),↑(.im (xv [])),none,none]):=λ m E5 x3 x4=>by
   unfold wR;simp[xv]
  obtain⟨m,rfl⟩:∃ k,m=k+1:=#[m-1,⋯];unfold rR at h;by_cases BX:fr=[]
  .rw[if_pos BX] at h;cases h;subst BX;show#[_,Br m _ x3 x4]
  .rw[if_neg BX] at h;dsimp only at h;have hlen:=s.len;have n8:=ok.n8;have hF:=Il ok EZ fr s.len s.gd;have GK:zg (.lst ((pre++[EZ]).map rT)) (.int (-1))=↑(rT EZ):=by
    change L2.zM ((pre++[EZ]).map rT) (-1)=_;rw[BH];show e_ _ _
   have hc:=λ b c=>J2 (zr F) b c EZ (yn F EZ fr) (rY ..) (by rw[rY,s.len];lia);have Av:rN (xv fr)=↑true:=by
    cases fr with
    | nil=>show absurd rfl BX
    | cons a l=>rfl
   have hb:∃ G4,sj [↑(.im (zr F)),↑(.own (.lst ((pre++[EZ]).map rT))),↑(.im (xv fr)),none,none]=↑(.nx [↑(.im (zr F)),↑(.own (.lst (G4.map rT))),↑(.im (xv (xB EZ (yn F EZ fr)))),↑(.im (rT EZ)),↑(.im (rT (yn F EZ fr)))])/\G4=if xB EZ (yn F EZ fr)=[] then pre++[EZ] else pre++[EZ]++[yn F EZ fr]:=by
    have hl2:((pre++[EZ]).map rT).length<16777216:=by simp;lia
    by_cases hf:xB EZ (yn F EZ fr)=[]
    .exact#[pre++[EZ],?_,by rw[if_pos hf]];have ht:rN (xv (xB EZ (yn F EZ fr)))=↑false:=by rw[hf];rfl
     unfold sj;generalize l5=cc,ni=ff,(pre++[EZ]).map rT=L1,xv (xB EZ (yn F EZ fr))=f2 at *;unfold xv at *;simp![zg] at GK;generalize (T.lst (fr.map λ(k:Nat)=>T.int (k:Int)))=f1,rT (yn F EZ fr)=r2,rT EZ=r1 at *;simp![xU] at GK;simp[-rN,GK,hF,hc,ht]
    .exact#[pre++[EZ]++[yn F EZ fr],?_,by rw[if_neg hf]];have ht:rN (xv (xB EZ (yn F EZ fr)))=↑true:=by
      cases e:xB EZ (yn F EZ fr) with
      | nil=>show absurd e hf
      | cons a l=>rfl
     have e2:(pre++[EZ]++[yn F EZ fr]).map rT=(pre++[EZ]).map rT++[rT (yn F EZ fr)]:=#[];rw[e2];unfold sj;generalize l5=cc,ni=ff,(pre++[EZ]).map rT=L1,xv (xB EZ (yn F EZ fr))=f2 at *;unfold xv at *;simp![zg] at GK;generalize (T.lst (fr.map λ(k:Nat)=>T.int (k:Int)))=f1,rT (yn F EZ fr)=r2,rT EZ=r1 at *;simp![xU] at GK;simp[-rN,GK,hF,hc,ht,hl2]
   let#[G4,hb1,HN]:=hb;have key:∀ R,wR [3,4] (y8 (zc 2)) sj m [↑(.im (zr F)),↑(.own (.lst (G4.map rT))),↑(.im (xv (xB EZ (yn F EZ fr)))),↑(.im (rT EZ)),↑(.im (rT (yn F EZ fr)))]=R->wR [3,4] (y8 (zc 2)) sj (m+1) [↑(.im (zr F)),↑(.own (.lst ((pre++[EZ]).map rT))),↑(.im (xv fr)),x3,x4]=R:=λ R e=>by
    rw[wR];generalize hbb:sj=bb at *;generalize DS:wR [3,4] (y8 (zc 2)) bb m=lw at *;have hf:yz [3,4] [↑(.im (zr F)),↑(.own (.lst ((pre++[EZ]).map rT))),↑(.im (xv fr)),x3,x4]=[↑(.im (zr F)),↑(.own (.lst ((pre++[EZ]).map rT))),↑(.im (xv fr)),none,none]:=rfl;rw[hf];have ht:y8 (zc 2) [↑(.im (zr F)),↑(.own (.lst ((pre++[EZ]).map rT))),↑(.im (xv fr)),none,none]=↑true:=by
     generalize xv fr=f1 at *;simp[-rN,Av]
    rw[ht,BO,if_pos rfl,hb1,BO];show e
   by_cases hf:xB EZ (yn F EZ fr)=[]
   .rw[if_pos hf] at h HN;cases h;subst HN;rw[hf] at key;obtain⟨m,rfl⟩:∃ k,m=k+1:=#[m-1,⋯];show#[_,key _ (Br m _ _ _)]
   .rw[if_neg hf] at h HN;subst HN;let#[fr',e]:=bz ok n (pre++[EZ]) (yn F EZ fr) (xB EZ (yn F EZ fr)) res (s.next ok) h (by simp;lia) m ⋯ ↑(.im (rT EZ)) ↑(.im (rT (yn F EZ fr)));show#[fr',key _ e]
theorem Ii {F:zt}(ok:F.Ok):∃ more,sH [zr F]=↑(.lst ((RN.start F::more).map rT))/\(∀ r∈RN.start F::more,r.length=F.os.length/\∀ b∈r,Gd F.A F.B b)/\more.length<=2000/\rR F 2000 [] (RN.start F) (List.range F.os.length)=↑(RN.start F::more):=by
 have hmu:=aL (RN.start F);have BB:(RN.start F).length=F.os.length:=by unfold RN.start;simp
 have n8:=ok.n8;have n1:=ok.n1;let#[more,G8,e1,e2,_,e4]:=b6 ok 2000 [] (RN.start F) (List.range F.os.length) (St.start ok) ⋯;let#[fr',e]:=bz ok 2000 [] (RN.start F) (List.range F.os.length) _ (St.start ok) e1 #[] 1000000 () none none;exact#[more,?_,e2,⋯,e1];have hp:=XE F;have AU:rT (RN.start F)=.lst (List.replicate F.os.length (.tup [.tup [.int 0,.int 0]])):=by
  unfold rT RN.start;rw[List.map_replicate];rfl
 have hmul:xb (.lst [.tup [.tup [.int 0,.int 0]]]) (.int F.os.length)=↑(rT (RN.start F)):=by
  rw[AU];unfold xb;dsimp only;rw[if_pos #[#[],⋯,⋯,Mu (by simp;lia)]];have:∀ n:Nat,(List.replicate n [T.tup [.tup [.int 0,.int 0]]]).flatten=List.replicate n (.tup [.tup [.int 0,.int 0]]):=λ n=>by
   induction n with
   | zero=>rfl
   | succ n ih=>rw[BU,BU,Cr,ih];rfl
  rw[Cw,this]
 have Cf:mq [.int F.os.length]=↑(xv (List.range F.os.length)):=by
  change (if 0<=(F.os.length:Int)/\(F.os.length:Int)<=16777216 then ↑(T.lst (rangeT 0 (F.os.length:Int).toNat)) else none)=_;rw[if_pos #[⋯,⋯]];change ↑(T.lst ((List.range (F.os.length:Int).toNat).map λ(k:Nat)=>T.int (0+(k:Int))))=_;rw[Cw];unfold xv;simp
 unfold sH W9 nB;generalize sj=bb,pK=ff,mq=lr at *;simp![D0,Aw,Bu] at e;generalize xv (List.range F.os.length)=f1 at *;rw[Aw];generalize rT (RN.start F)=r0,zr F=fl,DS:wR [3,4] (y8 (zc 2)) bb 1000000=lw,xb=mw at *;simp[hp,hmul,Cf,e]
def o5 (i j:Int):xb (.int i) (.int j)=if vS i j then ↑(.int (i*j)) else none:=rfl
def Lc {r:List Int}{rs:List (List Int)}:uB ((r::rs).map z_)=none:=rfl
def Uo (rs:List (List Int)) (h0:rs≠[]) (hl:rs.length<64) (hn:∀ r∈rs,r≠[]):tK [.lst (rs.map z_)]=↑(.lst ((L4.xI (wO rs)).map z_)):=by
 cases rs with
 | nil=>show absurd rfl h0
 | cons r rs=>
  change (match uB ((r::rs).map z_) with
   | some ns=>if ns.length<64 then ↑(T.lst ((vd ns).map T.int)) else none
   | none=>nI [T.lst ((r::rs).map z_)])=_
  rw[Lc];change (vF ((r::rs).map z_)).bind _=_;rw[gC,BO,if_pos #[hl,hn]]
def zk {f:T->T->Option T}{fa fb:Ae}{ρ:Ev}{x y:T}{r:Option T}(h1:fa ρ=↑x) (h2:fb ρ=↑y) (h:f x y=r):za f fa fb ρ=r:=by
 change (fa ρ).bind _=r;rw[h1];change (fb ρ).bind _=r;rw[h2];show h
theorem ot (n:Nat) (h:n<=1000):xj (.int 10) (.int (n:Int))=↑(.int (10 ^ n)):=by
 have hc:qE 10 (n:Int):=#[⋯,⋯,()];change (if qE 10 (n:Int) then ↑(T.int (10 ^ (n:Int).toNat)) else none)=_;rw[if_pos hc,Cw]
def nR (n:Nat) (h:n<=1000) (ρ:Ev):za xj (cI 10) (cS (.int (n:Int))) ρ=↑(.int (10 ^ n)):=zk rfl rfl (ot n h)
def Uk (c:Int) (n:Nat) (hn:n<=100) (o6:Ae) (q6:Int) (h6:∀ ρ,o6 ρ=↑(.int q6)) (g6:0<q6/\q6<2 ^ 200) (GP:Int):
  ∃ (v:Int) (xs:List Int),xu [4] (zu 4) (zo (xD 2 (za ya (zc 3) o6)) (zA 3 (za xO (zc 3) o6))) ((List.range n).map λ(k:Nat)=>T.int (0+(k:Int))) [↑(.im (.int c)),↑(.im (.int n)),↑(.own (.lst [])),↑(.im (.int GP)),none]
   = ↑(.nx [↑(.im (.int c)),↑(.im (.int n)),↑(.own (.lst (xs.map T.int))),↑(.im (.int v)),none])/\xs.length=n:=by
 let#[ρ',h1,v,xs,h2,h3]:=v5 (is:=[4]) (g:=zu 4) (b:=(zo (xD 2 (za ya (zc 3) o6)) (zA 3 (za xO (zc 3) o6)))) (λ k:Nat=>T.int (0+(k:Int))) (λ p ρ=>∃ (v:Int) (xs:List Int),ρ=[↑(.im (.int c)),↑(.im (.int n)),↑(.own (.lst (xs.map T.int))),↑(.im (.int v)),none]/\xs.length=p.length)
   (List.range n) [↑(.im (.int c)),↑(.im (.int n)),↑(.own (.lst [])),↑(.im (.int GP)),none] #[GP,[],rfl,rfl] (by
  rintro p k q e ρ ⟨v,xs,rfl,r1⟩;have hp:p.length<n:=by have:=congrArg List.length e;simp at this;lia
  have hl:(xs.map T.int).length<16777216:=by simp;lia
  have d6:ur v q6:=g6;have p6:=g6.1;exact#[[↑(.im (.int c)),↑(.im (.int n)),↑(.own (.lst ((xs++[v%q6]).map T.int))),↑(.im (.int (v/q6))),↑(.im (.int (0+(k:Int))))],?_,v/q6,xs++[v%q6],#[],by simp[r1]];have e2:(xs++[v%q6]).map T.int=xs.map T.int++[.int (v%q6)]:=#[];rw[e2];generalize xs.map T.int=L,(0+(k:Int))=kk at *;simp[turn,h6,hl,d6,p6])
 subst h2;show#[v,xs,h1,by exists h3]
def Uj (c:Int) (n:Nat) (hn:n<=100) (oM o22 o23 o9:Ae) (M q22 G7 q9:Int) (hM:∀ ρ,oM ρ=↑(.int M)) (h22:∀ ρ,o22 ρ=↑(.int q22)) (h23:∀ ρ,o23 ρ=↑(.int G7)) (h9:∀ ρ,o9 ρ=↑(.int q9))
  (gM:0<M/\M<2 ^ 180) (g22:0<q22/\q22<2 ^ 200) (g23:0<G7/\G7<2 ^ 200) (g9:0<q9/\q9<2 ^ 200) (GP:Int) (EB:0<=GP/\GP<2 ^ 181):
  ∃ (v:Int) (xs:List Int),xu [4] (zu 4) (zo (zA 3 (za ya (za zY (za zY (za wQ (zc 3) (cI 52027)) (za xO (zc 3) o22)) (za wQ (cI 13) (zc 4))) oM)) (xD 2 (za xO (za wQ (zc 3) (za zY (za xO (zc 3) o23) (cI 7))) o9))) ((List.range n).map λ(k:Nat)=>T.int (0+(k:Int))) [↑(.im (.int c)),↑(.im (.int n)),↑(.own (.lst [])),↑(.im (.int GP)),none]
   = ↑(.nx [↑(.im (.int c)),↑(.im (.int n)),↑(.own (.lst (xs.map T.int))),↑(.im (.int v)),none])/\xs.length=n:=by
 let#[ρ',h1,v,xs,h2,h3,h4]:=v5 (is:=[4]) (g:=zu 4) (b:=(zo (zA 3 (za ya (za zY (za zY (za wQ (zc 3) (cI 52027)) (za xO (zc 3) o22)) (za wQ (cI 13) (zc 4))) oM)) (xD 2 (za xO (za wQ (zc 3) (za zY (za xO (zc 3) o23) (cI 7))) o9)))) (λ k:Nat=>T.int (0+(k:Int)))
   (λ p ρ=>∃ (v:Int) (xs:List Int),ρ=[↑(.im (.int c)),↑(.im (.int n)),↑(.own (.lst (xs.map T.int))),↑(.im (.int v)),none]/\xs.length=p.length/\0<=v/\v<2 ^ 181)
   (List.range n) [↑(.im (.int c)),↑(.im (.int n)),↑(.own (.lst [])),↑(.im (.int GP)),none] #[GP,[],rfl,rfl,EB] (by
  rintro p k q e ρ ⟨v,xs,rfl,r1,r2,r3⟩;have hp:p.length<n:=by have:=congrArg List.length e;simp at this;lia
  have hk:k<n:=AG.mp (by rw[e];simp);have hl:(xs.map T.int).length<16777216:=by simp;lia
  generalize hu:(v*52027+v/q22+13*(0+(k:Int)))%M=u;have u0:0<=u:=by rw[<- hu];show Bz _ ⋯
  have u1:u<M:=by rw[<- hu];show BM _ gM.1
  have d22:ur v q22:=g22;have m1:tB v 52027:=#[⋯,()];have m2:tB 13 (0+(k:Int)):=#[(),⋯];have pM:=gM.1;have d23:ur u G7:=g23;have w0:0<=u/G7:=Int.ediv_nonneg u0 ⋯;have w1:u/G7<=u:=Int.ediv_le_self _ u0;have m3:tB u (u/G7+7):=#[⋯,⋯];have d9:ur (u*(u/G7+7)) q9:=g9;exact#[[↑(.im (.int c)),↑(.im (.int n)),↑(.own (.lst ((xs++[u*(u/G7+7)/q9]).map T.int))),↑(.im (.int u)),↑(.im (.int (0+(k:Int))))],?_,u,xs++[u*(u/G7+7)/q9],#[],by simp[r1],u0,⋯];have e2:(xs++[u*(u/G7+7)/q9]).map T.int=xs.map T.int++[.int (u*(u/G7+7)/q9)]:=#[];rw[e2];generalize xs.map T.int=L,(0+(k:Int))=kk at *;simp[turn,hM,h22,h23,h9,hl,d22,m1,m2,pM,hu,d23,m3,d9])
 subst h2;show#[v,xs,h1,by exists h3]
def JY (i:Int):0<=(if i<0 then -i else i):=by split <;> lia
theorem XA (c:Int) (n:Nat) (hn:n<=100):∃ xs:List Int,pN [.int c,.int n]=↑(.lst (xs.map T.int))/\xs.length=n:=by
 obtain⟨q6,h6,g6⟩:∃ q:Int,(∀ ρ,za xj (cI 10) (cI 6) ρ=↑(.int q))/\0<q/\q<2 ^ 200:=#[_,nR 6 (),AL];obtain⟨q9,h9,g9⟩:∃ q:Int,(∀ ρ,za xj (cI 10) (cI 9) ρ=↑(.int q))/\0<q/\q<2 ^ 200:=#[_,nR 9 (),AL];obtain⟨q22,h22,g22⟩:∃ q:Int,(∀ ρ,za xj (cI 10) (cI 22) ρ=↑(.int q))/\0<q/\q<2 ^ 200:=#[_,nR 22 (),AL];obtain⟨G7,h23,g23⟩:∃ q:Int,(∀ ρ,za xj (cI 10) (cI 23) ρ=↑(.int q))/\0<q/\q<2 ^ 200:=#[_,nR 23 (),AL];obtain⟨M,hM,gM⟩:∃ q:Int,(∀ ρ,za zY (za xj (cI 10) (cI 45)) (cI 9) ρ=↑(.int q))/\0<q/\q<2 ^ 180:=#[10 ^ 45+9,fun ρ=>zk (nR 45 () ρ) rfl rfl,AL];have hr:=uR n ⋯;unfold pN WI Xj Xh;have a0:=JY (c/2);generalize ha:(if c/2<0 then -(c/2) else c/2)=num at *;have hnm0:0<=num%M:=Bz _ ⋯;have hnm1:num%M<M:=BM _ gM.1;have pM:=gM.1;have d2:ur c 2:=#[(),()];let#[v1,Gp,e1,l1]:=Uk c n hn _ q6 h6 g6 num;let#[v2,xs2,e2,l2]:=Uj c n hn _ _ _ _ M q22 G7 q9 hM h22 h23 h9 gM g22 g23 g9 (num%M+77003) #[⋯,⋯];generalize za zY (za xj (cI 10) (cI 45)) (cI 9)=oM,za xj (cI 10) (cI 6)=o6,za xj (cI 10) (cI 9)=o9,za xj (cI 10) (cI 22)=o22,za xj (cI 10) (cI 23)=o23 at *;generalize hb1:(zo (xD 2 (za ya (zc 3) o6)) (zA 3 (za xO (zc 3) o6)))=b1 at *;generalize HN:(zo (zA 3 (za ya (za zY (za zY (za wQ (zc 3) (cI 52027)) (za xO (zc 3) o22)) (za wQ (cI 13) (zc 4))) oM)) (xD 2 (za xO (za wQ (zc 3) (za zY (za xO (zc 3) o23) (cI 7))) o9)))=b2 at *;by_cases h:c%2=1
 .exact#[Gp,?_,l1];generalize Gp.map T.int=L1,(List.range n).map (λ(k:Nat)=>T.int (0+(k:Int)))=R at *;simp[d2,ha,h,hr,e1,eq_int]
 .exact#[xs2,?_,l2];generalize xs2.map T.int=L2',(List.range n).map (λ(k:Nat)=>T.int (0+(k:Int)))=R at *;simp[d2,ha,h,hr,hM,pM,e2,eq_int]
theorem XJ (x:Int) (m:Nat) (h:m<=12):∃ y,nq [.int x,.int m]=↑(.int y)/\-12<=y/\y<=12:=by
 have m1:vS 2 (m:Int):=.inl #[(),()];have m2:(0:Int)<2*(m:Int)+1:=⋯;have d:wz x 25:=#[(),()];have a0:=Bz (x%25) (b:=2*(m:Int)+1) ⋯;have b0:0<=x/25%2:=Bz _ ();exact#[if x%25%(2*(m:Int)+1)-m+x/25%2<12 then x%25%(2*(m:Int)+1)-m+x/25%2 else 12,by simp[nq,WR,o5,m1,m2,d],?_,?_]
 .split <;> lia
 .split <;> lia
def vc (many:Nat) (r:List Int):Prop:=∃ (f t:Nat) (a b:Int),r=[(f:Int),(t:Int),a,b]/\f<many/\t<many/\(-12<=a/\a<=12)/\-12<=b/\b<=12
theorem X8 (place many:Nat) (num:Int) (sz:Nat) (hp:place<many) (hs:sz<=12):∃ r,(vc many r/\r.head?=↑(place:Int))/\qA [.int place,.int many,.int num,.int sz]=↑(z_ r):=by
 have d8:wz num 8:=#[(),()];have d400:wz num 400:=#[(),()];let#[a,ha,a1]:=XJ (num/8%50) sz hs;let#[b,hb,b1]:=XJ (num/400%50) sz hs;have Dg:(0:Int)<many:=⋯;have t0:0<=num%8%many:=Bz _ ⋯;have t1:num%8%many<many:=BM _ Dg;have hm':0<many:=⋯;exact#[[(place:Int),((num%8%many).toNat:Int),a,b],#[#[place,(num%8%many).toNat,a,b,rfl,hp,⋯,a1,b1],rfl],?_];rw[DM t0];have hr:z_ [(place:Int),num%8%many,a,b]=.tup [.int place,.int (num%8%many),.int a,.int b]:=rfl;rw[hr];unfold qA WH;generalize nq=fa at *;simp[d8,d400,ha,hb,hm']
def ra {xs:List Int}{j:Nat}(h:j<xs.length):∃ v,L2.zM (xs.map T.int) (j:Int)=↑(.int v):=#[xs.getD j 0,xR (by simp[h])]
theorem MD (b:Bool):zP false (kt b) (.str "keeper")=↑(.bl b):=by
 have h:(("taker":Str) == ("keeper":Str))=false:=()
 cases b
 .change zP false (.str "taker") (.str "keeper")=_;simp[zP,dep,eqT,h]
 .change zP false (.str "keeper") (.str "keeper")=_;simp[zP,dep,eqT]
def Xm (b:Sm) (n many pl:Nat) (E:List T->Option L5.W->Ev) (hE:∀ r x,yz [11] (E r x)=E r none) (hn:n<=100)
  (ht:∀ k<n,∀ rows:List T,rows.length<=1000->∃ r,(vc many r/\r.head?=↑(pl:Int))/\turn (zu 11) b (.int (0+(k:Int))) (E rows none)=↑(.nx (E (rows++[z_ r]) ↑(.im (.int (0+(k:Int)))))))
  (rows:List (List Int)) (hl:rows.length<=100) (hr:∀ r∈rows,vc many r):
  ∃ E4:List (List Int),xu [11] (zu 11) b ((List.range n).map λ(k:Nat)=>T.int (0+(k:Int))) (E (rows.map z_) none)=↑(.nx (E (E4.map z_) none))/\E4.length=rows.length+n/\(∀ r∈E4,vc many r)/\(∀ r∈rows,r∈E4)/\(0<n->∃ r∈E4,r.head?=↑(pl:Int)):=by
 let#[ρ',h1,E4,h2,h3,h4,h5,h6]:=v5 (is:=[11]) (g:=zu 11) (b:=b) (λ k:Nat=>T.int (0+(k:Int))) (λ p ρ=>∃ E4:List (List Int),ρ=E (E4.map z_) none/\E4.length=rows.length+p.length/\(∀ r∈E4,vc many r)/\(∀ r∈rows,r∈E4)/\(0<p.length->∃ r∈E4,r.head?=↑(pl:Int)))
   (List.range n) (E (rows.map z_) none) #[rows,hE _ _,rfl,hr,λ _ h=>h,λ h=>absurd h #[]] (by
  rintro p k q e ρ ⟨E4,rfl,u1,u2,u3,u4⟩;have hp:p.length<n:=by have:=congrArg List.length e;simp at this;lia
  have hk:k<n:=AG.mp (by rw[e];simp);let#[r,#[v1,v3],v2]:=ht k hk (E4.map z_) (by simp;lia);exact#[_,v2,E4++[r],by rw[hE];simp,by simp![BI,List.length_singleton,u1];lia,λ r' hr'=>?_,λ r' h=>Ct _ (u3 r' h),λ _=>#[r,#[],v3]];rcases A5.mp hr' with h | h
  .show u2 r' h
  .cases AH.mp h;show v1)
 subst h2;show#[E4,h1,by simpa using h3,h4,h5,λ h=>h6 (by exists h)]
def T7 (c mo br:T) (xs:List Int) (hx:xs.length=43) (many:Nat) (hm:many<=8) (os:List Bool) (rows:List (List Int)) (GG:List T) (k:Nat) (hk:k<many) (ho:os.length=k) (hrl:rows.length<=3*k) (hr:∀ r∈rows,vc many r) (hs:GG.length<=k):
  ∃ (b:Bool) (E4:List (List Int)) (GD:List T) (nu sz:Int),turn (zu 8) o_ (.int (0+(k:Int))) [↑(.im c),↑(.im mo),↑(.im br),↑(.im (.lst (xs.map T.int))),↑(.im (.int many)),↑(.own (.lst (os.map kt))),↑(.own (.lst (rows.map z_))),↑(.own (.lst GG)),none,none,none,none,none]
   = ↑(.nx [↑(.im c),↑(.im mo),↑(.im br),↑(.im (.lst (xs.map T.int))),↑(.im (.int many)),↑(.own (.lst ((os++[b]).map kt))),↑(.own (.lst (E4.map z_))),↑(.own (.lst GD)),↑(.im (.int (0+(k:Int)))),↑(.im (.int nu)),↑(.im (.int sz)),none,none])
   /\ E4.length<=3*(k+1)/\(∀ r∈E4,vc many r)/\(∀ r∈rows,r∈E4)/\(∃ r∈E4,r.head?=↑(k:Int))/\GD.length<=k+1/\(GD=GG\/(b=true/\∃ s:RN.Sl,(s.p=k/\(1<=s.gv/\s.gv<=12)/\0<=s.gt/\s.gt<=12)/\GD=GG++[yE s])):=by
 let#[v,hv]:=ra (xs:=xs) (j:=2+4*k) ⋯;have Hx:L2.zM (xs.map T.int) (2+4*(k:Int))=↑(.int v):=hv;obtain⟨b,hb⟩:∃ b:Bool,L2.zM [T.str "keeper",T.str "taker"] (v%2)=↑(kt b):=by
  rcases Int.emod_two_eq v with h | h <;> rw[h]
  .show#[true,rfl]
  .show#[false,rfl]
 obtain⟨sz,hsz,sz1⟩:∃ sz:Nat,L2.zM [T.int 2,T.int 3,T.int 3,T.int 12] (v/2%4)=↑(.int (sz:Int))/\sz<=12:=by
  have h0:0<=v/2%4:=Bz _ ();have h1:v/2%4<4:=BM _ ();generalize v/2%4=z at *;obtain h | h | h | h:z=0\/z=1\/z=2\/z=3:=⋯
  all_goals subst h
  .show#[2,rfl,()]
  .show#[3,rfl,()]
  .show#[3,rfl,()]
  .show#[12,rfl,()]
 obtain⟨n1,hn1,n0,n3⟩:∃ n:Nat,1+v/8%3=(n:Int)/\0<n/\n<=3:=#[(1+v/8%3).toNat,⋯,⋯,⋯];let#[E4,g1,g2,g3,g4,g5]:=Xm jU n1 many k (λ rs x=>[↑(.im c),↑(.im mo),↑(.im br),↑(.im (.lst (xs.map T.int))),↑(.im (.int many)),↑(.own (.lst ((os++[b]).map kt))),↑(.own (.lst rs)),↑(.own (.lst GG)),↑(.im (.int (k:Int))),↑(.im (.int v)),↑(.im (.int sz)),x,none]) (λ _ _=>rfl) ⋯
  (λ k' Gx rs hrs=>by
   let#[v2,hv2]:=ra (xs:=xs) (j:=3+4*k+k') ⋯;have hv2':L2.zM (xs.map T.int) (3+4*(k:Int)+(0+(k':Int)))=↑(.int v2):=by rw[<- hv2];congr 1;lia
   let#[r,hr1,hr2]:=X8 k many v2 sz hk ⋯;exact#[r,hr1,?_];have m1:vS 4 (k:Int):=.inl #[(),()];have CC:rs.length<16777216:=⋯;unfold turn jU;generalize qA=fw,xs.map T.int=XL,(os++[b]).map kt=OL,z_ r=rr,(0+(k':Int))=kk at *;generalize hk4:(k:Int)=kI at *;simp[o5,m1,hv2',hr2,CC])
  rows ⋯ hr
 have Cf:=uR n1 ⋯;have Ci:(os.map kt).length<16777216:=by simp;lia
 have Cu:L2.zM ((os++[b]).map kt) (k:Int)=↑(kt b):=xR (by rw[BH,Cc (by simp;lia)];simp[ho]);have AU:GG.length<16777216:=⋯;have EG:=MD b;have m1:vS 4 (k:Int):=.inl #[(),()];have d2:wz v 2:=#[(),()];have d8:wz v 8:=#[(),()];have d24:wz v 24:=#[(),()];have d72:wz v 72:=#[(),()];have d144:wz v 144:=#[(),()];have d576:wz v 576:=#[(),()];have fin:∀ GD:List T,(if b=true/\v/24%3=0 then GG++[.tup [.int k,.int (v/72%2),.int (1+v/144%4),.int (v/576%5)]] else GG)=GD->turn (zu 8) o_ (.int (0+(k:Int))) [↑(.im c),↑(.im mo),↑(.im br),↑(.im (.lst (xs.map T.int))),↑(.im (.int many)),↑(.own (.lst (os.map kt))),↑(.own (.lst (rows.map z_))),↑(.own (.lst GG)),none,none,none,none,none]
   = ↑(.nx [↑(.im c),↑(.im mo),↑(.im br),↑(.im (.lst (xs.map T.int))),↑(.im (.int many)),↑(.own (.lst ((os++[b]).map kt))),↑(.own (.lst (E4.map z_))),↑(.own (.lst GD)),↑(.im (.int (0+(k:Int)))),↑(.im (.int v)),↑(.im (.int sz)),none,none]):=λ GD he=>by
  have e2:(os++[b]).map kt=os.map kt++[kt b]:=#[];unfold turn o_;rw[e2] at g1 Cu ⊢;simp![BK] at g1 Cf ⊢;generalize jU=bb,(List.range n1).map (λ(k:Nat)=>T.int (k:Int))=RR,E4.map z_=L2',rows.map z_=L1',xs.map T.int=XL,os.map kt=OL,(T.str "taker")=s2 at *;generalize hs1:(T.str "keeper")=s1 at *;generalize kt b=kb at *;generalize hkI:(k:Int)=kI at *;generalize hee:zP=ee at *;have hee0:ee false (.int (v/24%3)) (.int 0)=↑(.bl (decide (v/24%3=0))):=by rw[<- hee];show eq_int _ _ _
  by_cases hb1:b=true
  .subst hb1;by_cases hz:v/24%3=0
   .rw[if_pos #[rfl,hz]] at he;subst he;rw[hz] at hee0;simp[o5,m1,Hx,hb,Ci,d2,hsz,d8,hn1,Cf,g1,Cu,EG,d24,hee0,hz,AU,d72,d144,d576]
   .rw[if_neg (λ h=>hz h.2)] at he;subst he;simp[o5,m1,Hx,hb,Ci,d2,hsz,d8,hn1,Cf,g1,Cu,EG,d24,hee0,hz]
  .have HN:b=false:=by exists hb1
   subst HN;rw[if_neg (λ h=>hb1 h.1)] at he;subst he;simp[o5,m1,Hx,hb,Ci,d2,hsz,d8,hn1,Cf,g1,Cu,EG]
 exact#[b,E4,_,v,sz,fin _ rfl,⋯,g3,g4,g5 n0,?_,?_]
 .split
  .simp;lia
  .lia
 .split
  .rename_i EU;have hp:v/72%2=0\/v/72%2=1:=⋯;exact .inr #[EU.1,#[k,decide (v/72%2=1),1+v/144%4,v/576%5],#[rfl,by dsimp only;lia,by dsimp only;lia,by dsimp only;lia],?_];rcases hp with h | h <;> simp[yE,yP,h]
  .show .inl rfl
def qF (w:Wy):List Int:=[(w.f:Int),(w.t:Int),w.a,w.b]
theorem Vn {w v:Wy}(h:qF w=qF v):w=v:=by
 let#[f,t,a,b]:=w;let#[f',t',a',b']:=v;simp![qF,List.cons.injEq,and_true] at h;let#[h1,h2,rfl,rfl]:=h;have e1:f=f':=⋯;have e2:t=t':=⋯;subst e1 e2;rfl
theorem bx {many:Nat}:∀ l:List (List Int),(∀ r∈l,vc many r)->∃ ws:List Wy,l=ws.map qF/\∀ w∈ws,(w.f<many/\w.t<many)/\(-12<=w.a/\w.a<=12)/\-12<=w.b/\w.b<=12
 | [],_=>#[[],rfl,nofun]
 | r::l,h=>by
  let#[ws,e1,e2]:=bx l λ x hx=>h x (Ay _ hx);let#[f,t,a,b,rfl,hf,ht,hc]:=h r Ar;exact#[#[f,t,a,b]::ws,by rw[e1];rfl,λ w hw=>?_];rcases Am.mp hw with x | x
  .subst x;show#[#[hf,ht],hc]
  .show e2 w x
def cU {many:Nat}(rs:List (List Int)) (h0:rs≠[]) (hl:rs.length<64) (hw:∀ r∈rs,vc many r):
  ∃ ws:List Wy,tK [.lst (rs.map z_)]=↑(.lst (ws.map yc))/\ws.length<=rs.length/\(∀ w∈ws,(w.f<many/\w.t<many)/\(-12<=w.a/\w.a<=12)/\-12<=w.b/\w.b<=12)/\(∀ w:Wy,w∈ws↔qF w∈rs)/\(ws.map qF).Pairwise (λ a b=>HT.lexLt b a=false/\a≠b):=by
 have hn:∀ r∈rs,r≠[]:=λ r hr=>by let#[f,t,a,b,rfl,_]:=hw r hr;simp
 have hm:∀ r,r∈L4.xI (wO rs)↔r∈rs:=λ r=>by rw[(L4.tL _).mem_iff,mh]
 let#[ws,e1,e2]:=bx (many:=many) (L4.xI (wO rs)) λ r hr=>hw r ((hm r).mp hr);exact#[ws,?_,?_,e2,λ w=>?_,?_]
 .rw[Uo rs h0 hl hn,e1,A2];rfl
 .have:=congrArg List.length e1;rw[(L4.tL _).length_eq,AA] at this;have:=gZ rs;lia
 .rw[<- hm,e1];constructor
  .show λ h=>Aq.mpr #[w,h,rfl]
  .intro h;let#[v,hv,e]:=Aq.mp h;rw[<- Vn e];show hv
 .rw[<- e1];show (L4.kE _).and ((L4.tL _).nodup_iff.mpr (kU rs))
structure Gf (os:List Bool) (ws:List Wy) (ss:List Sl):Prop where
 n1:1<=os.length
 n8:os.length<=8
 wr:∀ w∈ws,(w.f<os.length/\w.t<os.length)/\(-12<=w.a/\w.a<=12)/\-12<=w.b/\w.b<=12
 wl:ws.length<=24
 wp:(ws.map qF).Pairwise (λ a b=>HT.lexLt b a=false/\a≠b)
 way:∀ x<os.length,∃ w∈ws,w.f=x
 sr:∀ s∈ss,s.p<os.length/\os.getD s.p false=true/\(1<=s.gv/\s.gv<=12)/\0<=s.gt/\s.gt<=12
 sp:ss.Pairwise (λ a b=>a.p<b.p)
 sl:ss.length<=8
def IA (c:Int) (most zy:Nat) (h1:1<=most) (h8:most<=8) (hb:zy<=12):
  ∃ F:zt,lQ [.int c,.int most,.int zy]=↑(zr F)/\Gf F.os F.ws F.ss/\(0<=F.A/\F.A<=zy)/\0<=F.B/\F.B<=zy:=by
 let#[xs,Eg,hx]:=XA c 43 ();have Dc:pN [.int c,.int 43]=↑(.lst (xs.map T.int)):=Eg;let#[v0,hv0]:=ra (xs:=xs) (j:=0) ⋯;let#[v1,hv1]:=ra (xs:=xs) (j:=1) ⋯;have hv0':L2.zM (xs.map T.int) 0=↑(.int v0):=hv0;have hv1':L2.zM (xs.map T.int) 1=↑(.int v1):=hv1;have DR:(0:Int)<most:=⋯;have hmoN:0<most:=h1;obtain⟨many,HW,m1,m8⟩:∃ n:Nat,1+v0%most=(n:Int)/\1<=n/\n<=8:=by
  have:=Bz v0 (b:=(most:Int)) ⋯;have:=BM v0 DR;show#[(1+v0%most).toNat,⋯,⋯,⋯]
 let#[ρ',g1,os,rows,GG,g2,g3,g4,g5,g6,g7,ss,DN,hsg,BW]:=v5 (is:=[8,9,10,11]) (g:=zu 8) (b:=o_) (λ k:Nat=>T.int (0+(k:Int)))
   (λ p ρ=>∃ (os:List Bool) (rows:List (List Int)) (GG:List T),ρ=[↑(.im (.int c)),↑(.im (.int most)),↑(.im (.int zy)),↑(.im (.lst (xs.map T.int))),↑(.im (.int many)),↑(.own (.lst (os.map kt))),↑(.own (.lst (rows.map z_))),↑(.own (.lst GG)),none,none,none,none,none]
    /\ os.length=p.length/\rows.length<=3*p.length/\(∀ r∈rows,vc many r)/\(∀ x∈p,∃ r∈rows,r.head?=↑(x:Int))/\GG.length<=p.length/\∃ ss:List Sl,GG=ss.map yE/\(∀ s∈ss,s.p<os.length/\os.getD s.p false=true/\(1<=s.gv/\s.gv<=12)/\0<=s.gt/\s.gt<=12)/\ss.Pairwise (λ a b=>a.p<b.p))
   (List.range many) [↑(.im (.int c)),↑(.im (.int most)),↑(.im (.int zy)),↑(.im (.lst (xs.map T.int))),↑(.im (.int many)),↑(.own (.lst [])),↑(.own (.lst [])),↑(.own (.lst [])),none,none,none,none,none] #[[],[],[],rfl,rfl,#[],nofun,nofun,#[],[],rfl,nofun,.nil] (by
  rintro p k q e ρ ⟨os,rows,GG,rfl,r1,r2,r3,r4,r5,ss,r6,r7,r8⟩;have hk:k<many:=AG.mp (by rw[e];simp);have hpk:p.length=k:=by
   have h2:=congrArg (λ l=>l[p.length]?) e;simp![Cc (Aj _),Nat.sub_self,List.getElem?_cons_zero] at h2;let#[h3,h4]:=AO.mp h2;exists h4
  let#[b,E4,GD,nu,sz,t1,t2,t3,t4,t5,t6,t7]:=T7 (.int c) (.int most) (.int zy) xs hx many m8 os rows GG k hk ⋯ ⋯ r3 ⋯;have grow:∀ s∈ss,s.p<(os++[b]).length/\(os++[b]).getD s.p false=true/\(1<=s.gv/\s.gv<=12)/\0<=s.gt/\s.gt<=12:=λ s hs=>by
   let#[a1,a2,a3]:=r7 s hs;exact#[by simp;lia,?_,a3];rw[AX,Cb a1,<- AX];show a2
  exact#[_,t1,os++[b],E4,GD,rfl,by simp[r1],by simp;lia,t3,λ x hx=>?_,by simp;lia,by
   rcases t7 with rfl | ⟨hb,s,⟨s0,s1⟩,rfl⟩
   .show#[ss,r6,grow,r8]
   .exact#[ss++[s],by rw[r6];simp,λ z hz=>?_,DI.mpr #[r8,#[],λ a ha c hc=>?_]]
    .rcases A5.mp hz with h | h
     .show grow z h
     .cases AH.mp h;exact#[by simp;lia,?_,s1];rw[s0,AX,Cc ⋯,show k-os.length=0 by lia,hb];rfl
    .cases AH.mp hc;have:=(r7 a ha).1;lia]
  rcases A5.mp hx with h | h
  .let#[r,y1,y2]:=r4 x h;show#[r,t4 r y1,y2]
  .cases AH.mp h;show t5)
 subst g2;rw[CB] at g3 g4 g7;obtain⟨n9,hn9,n9'⟩:∃ n:Nat,(if 24-(rows.length:Int)<9 then 24-(rows.length:Int) else 9)=(n:Int)/\n<=9:=by
  split
  .show#[24-rows.length,⋯,⋯]
  .show#[9,rfl,⋯]
 obtain⟨pl,Ao,pl1⟩:∃ n:Nat,v0/64%8%many=(n:Int)/\n<many:=by
  have:=Bz (v0/64%8) (b:=(many:Int)) ⋯;have:=BM (v0/64%8) (b:=(many:Int)) ⋯;show#[(v0/64%8%many).toNat,⋯,⋯]
 have d64:wz v0 64:=#[(),()];have Dg:0<many:=m1;let#[Hr,k1,k2,k3,k4,_]:=Xm jS n9 many pl (λ rs x=>[↑(.im (.int c)),↑(.im (.int most)),↑(.im (.int zy)),↑(.im (.lst (xs.map T.int))),↑(.im (.int many)),↑(.own (.lst (os.map kt))),↑(.own (.lst rs)),↑(.own (.lst GG)),none,none,none,x,none]) (λ _ _=>rfl) ⋯
  (λ k' Gx rs hrs=>by
   let#[v2,hv2]:=ra (xs:=xs) (j:=34+k') ⋯;have hv2':L2.zM (xs.map T.int) (34+(0+(k':Int)))=↑(.int v2):=by rw[<- hv2];congr 1;lia
   let#[r,hr1,hr2]:=X8 pl many v2 3 pl1 ⋯;have hr2':qA [.int pl,.int many,.int v2,.int 3]=↑(z_ r):=hr2;exact#[r,hr1,?_];have CC:rs.length<16777216:=⋯;unfold turn jS;generalize qA=fw,xs.map T.int=XL,os.map kt=OL,z_ r=rr,(0+(k':Int))=kk at *;simp[hv0',d64,Dg,Ao,hv2',hr2',CC])
  rows ⋯ g5
 have fin:∃ Gu:List (List Int),(if v0/8%8=1 then Hr else rows)=Gu/\Gu≠[]/\Gu.length<=24/\(∀ r∈Gu,vc many r)/\∀ x<many,∃ r∈Gu,r.head?=↑(x:Int):=by
  exact#[_,rfl,?_];have hx:∀ x<many,∃ r∈rows,r.head?=↑(x:Int):=λ x hx=>g6 x (AG.mpr hx);have HU:∀ x<many,∃ r∈Hr,r.head?=↑(x:Int):=λ x hh=>by
   let#[r,y1,y2]:=hx x hh;show#[r,k4 r y1,y2]
  split
  .exact#[λ e=>?_,⋯,k3,HU];let#[r,y,_]:=HU 0 Dg;rw[e] at y;cases y
  .exact#[λ e=>?_,⋯,g5,hx];let#[r,y,_]:=hx 0 Dg;rw[e] at y;cases y
 let#[Gu,e3,r0,r1,r2,r3]:=fin;let#[ws,w1,w2,w3,w4,w5]:=cU Gu r0 ⋯ r2;have DX:(0:Int)<(zy:Int)+1:=⋯;have A0:=Bz v1 (b:=(zy:Int)+1) ⋯;have A1:=BM v1 DX;have B0:=Bz (v1/13) (b:=(zy:Int)+1) ⋯;have B1:=BM (v1/13) DX;have BB:ss.length=GG.length:=by rw[DN,AA]
 exact#[#[v1%((zy:Int)+1),v1/13%((zy:Int)+1),os,ws,ss],?_,#[by dsimp only;lia,by dsimp only;lia,λ w hw=>by dsimp only;rw[g3];show w3 w hw,by dsimp only;lia,w5,λ x hx=>?_,hsg,BW,by dsimp only;lia],by dsimp only;lia]
 .have Cf:=uR many ⋯;have hrg9:=uR n9 ⋯;have d8:wz v0 8:=#[(),()];have d13:wz v1 13:=#[(),()];have hlen:wU [.lst (rows.map z_)]=↑(.int rows.length):=#[];have ED:(os.map kt).length<=16777216:=by simp;lia
  have hls:GG.length<=16777216:=⋯;have DS:(ws.map yc).length<=16777216:=by simp;lia
  have hq:=eq_int (v0/8%8) 1 false;change lQ _=↑(.tup [.tup [.int (v1%((zy:Int)+1)),.int (v1/13%((zy:Int)+1))],.tup (os.map kt),.tup (ws.map yc),.tup (ss.map yE)]);rw[<- DN];unfold lQ WM;generalize o_=bb2,jS=bb3,pN=fs,xs.map T.int=XL,(List.range many).map (λ(k:Nat)=>T.int (0+(k:Int)))=R1,(List.range n9).map (λ(k:Nat)=>T.int (0+(k:Int)))=R9,os.map kt=OL at *;by_cases h:v0/8%8=1
  .rw[if_pos h] at e3;subst e3;rw[h] at hq;generalize ws.map yc=WL at *;generalize hrr:rows.map z_=RR at *;generalize Hr.map z_=RR2 at *;have CI:RR.length=rows.length:=by rw[<- hrr,AA]
   generalize zP=ee,tK=sv at *;simp[Dc,hv0',DR,hmoN,HW,Cf,g1,d8,hq,h,CI,hn9,hrg9,k1,hv1',DX,d13,w1,ED,hls,DS]
  .rw[if_neg h] at e3;subst e3;generalize ws.map yc=WL,rows.map z_=RR,zP=ee,tK=sv at *;simp[Dc,hv0',DR,hmoN,HW,Cf,g1,d8,hq,h,hv1',DX,d13,w1,ED,hls,DS]
 .dsimp only at hx;rw[g3] at hx;let#[r,y1,y2]:=r3 x hx;let#[f,t,a,b,rfl,hf,ht,_]:=r2 r y1;exact#[#[f,t,a,b],(w4 _).mpr y1,?_];have:(f:Int)=(x:Int):=by exists y2
  dsimp only;lia
def md {i j:Int}(h:vS i j):xb (.int i) (.int j)=↑(.int (i*j)):=by rw[o5,if_pos h]
def mi (x y:Int):(if y<x then y else x)=min x y:=by split <;> lia
def vv (o:Option (Int×Int)):T:=match o with
 | none=>.zp
 | some r=>zj r
def mN (F:zt):zg (zr F) (.int 0)=↑(.tup [.int F.A,.int F.B]):=by simp[zr]
def jt (F:zt):zg (zr F) (.int 1)=↑(.tup (F.os.map kt)):=by simp[zr]
def pb (F:zt):zg (zr F) (.int 2)=↑(.tup (F.ws.map yc)):=by simp[zr]
def ZT (F:zt):zg (zr F) (.int 3)=↑(.tup (F.ss.map yE)):=by simp[zr]
theorem XC (F:zt) (q:Int×Int) {i:Nat}{w:Wy}(hw:F.ws[i]?=↑w):q8 [zr F,zj q,.int (i:Int)]=↑(vv (tJ F q w)):=by
 have Hw:=mN F;have G2:=pb F;have hi:L2.zM (F.ws.map yc) (i:Int)=↑(.tup [.int w.f,.int w.t,.int w.a,.int w.b]):=xR (by rw[AD,hw];rfl);have hc:tm [T.int w.f,.int w.t,.int w.a,.int w.b] ↑2 none=[.int w.a,.int w.b]:=rfl;unfold q8 W7 tJ zj;generalize F.ws.map yc=WS,zr F=fl at *;simp![zg] at Hw G2;by_cases h1:q.1+w.a<0
 .simp[h1,xt,vv,G2,hi,hc]
 .by_cases h2:q.2+w.b<0
  .simp[h1,h2,xt,vv,G2,hi,hc]
  .simp[h1,h2,xt,vv,Hw,G2,hi,hc,mi,zj]
theorem Iq {F:zt}{l:List Bd}{q:Int×Int}{i:Nat}{w:Wy}(hw:F.ws[i]?=↑w) (ht:w.t<l.length) (hb:(l.getD w.t []).length<=10000):pL [zr F,zj q,.int (i:Int),rT l]=↑(.bl (yW F l q w)):=by
 have G2:=pb F;have hi:L2.zM (F.ws.map yc) (i:Int)=↑(yc w):=xR (by rw[AD,hw];rfl);have h1:zg (yc w) (.int 1)=↑(.int w.t):=by simp[yc]
 have h2:=XC F q hw;have h3:=oH l w.t ht;unfold yW;cases ho:tJ F q w with
 | none=>
  rw[ho] at h2;have i1:yA true .zp .zp=↑(.bl false):=rfl;unfold pL cn;generalize q8=f1,qB=f2,zr F=fl,zj q=pq,rT l=rl at *;simp[h2,vv,i1]
 | some r=>
  rw[ho] at h2;have h4:=XH (l.getD w.t []) r hb;have i1:yA true (zj r) .zp=↑(.bl true):=rfl;unfold pL cn;generalize q8=f1,qB=f2,bT (l.getD w.t [])=bt,F.ws.map yc=WS,yc w=wt,zr F=fl,zj q=pq,rT l=rl at *;simp![zg] at G2 h1 h3;simp![vv] at h2;generalize zj r=rr at *;simp[h2,i1,G2,hi,h1,h3,h4]
def uL (F:zt) (s:Sl) (q:Int×Int) (k:Nat):Int×Int:=yS s.pu (zO s.pu q-k*s.gv) (min (yt s.pu q+k*s.gt) (F.zy (!s.pu)))
theorem jH {F:zt}{s:Sl}(hs:1<=s.gv/\0<=s.gt):∀ (n:Nat) {q:Int×Int},yv F q->zO s.pu q<n->∀ k:Nat,(se F s n q)[k]?=if (k:Int)*s.gv<=zO s.pu q then ↑(uL F s q k) else none
 | 0,q,h,hn,_=>by
  have:=(vj (pu:=s.pu).mp h).1.1;lia
 | n+1,q,h,hn,0=>by
  have h':=vj (pu:=s.pu).mp h;unfold se uL;rw[List.getElem?_cons_zero,if_pos (by simp;lia)];simp![Int.natCast_zero,Int.zero_mul,Int.sub_zero,Int.add_zero];rw[Int.min_eq_left h'.2.2,nQ]
 | n+1,q,h,hn,k+1=>by
  have h':=vj (pu:=s.pu).mp h;have e1:((k+1:Nat):Int)*s.gv=k*s.gv+s.gv:=by rw[B8,Cp];lia
  have e2:((k+1:Nat):Int)*s.gt=k*s.gt+s.gt:=by rw[B8,Cp];lia
  have k0:0<=(k:Int)*s.gt:=Cv ⋯ hs.2;have k1:0<=(k:Int)*s.gv:=Cv ⋯ ⋯;unfold se;rw[Dy];by_cases hg:s.gv<=zO s.pu q
  .rw[if_pos hg];have hi:yv F (yS s.pu (zO s.pu q-s.gv) (min (yt s.pu q+s.gt) (F.zy (!s.pu)))):=by
    rw[vj (pu:=s.pu),ue,rf];lia
   rw[jH hs n hi (by rw[ue];lia) k,ue];unfold uL;rw[ue,rf,e1,e2];by_cases hk:(k:Int)*s.gv<=zO s.pu q-s.gv
   .rw[if_pos hk,if_pos ⋯];congr 2
    .lia
    .lia
   .rw[if_neg hk,if_neg ⋯]
  .rw[if_neg hg,e1,if_neg ⋯];rfl
def IH (mw:T->T->Option T) {F:zt}{s:Sl}{q:Int×Int}{k:Nat}(hb:Ve=(zo (zA 4 (za zg (zc 1) (cI 1)))
 (zo (zA 5 (za yw (za zg (zc 2) (zc 4)) (za mw (zc 3) (za zg (zc 1) (cI 2)))))
 (zo (zW (zD (za xt (zc 5) (cI 0))) (retS (cS .zp)) zZ)
 (zo (zA 6 (zq vi (zb (za zY (za zg (zc 2) (za yw (cI 1) (zc 4))) (za mw (zc 3) (za zg (zc 1) (cI 3)))) (zb (za zg (zc 0) (za yw (cI 1) (zc 4))) ze))))
 (zo (zW (zD (za (zP false) (zc 4) (cI 0))) (retS (tupS (zb (zh 5) (zb (zh 6) ze)))) zZ)
 (retS (tupS (zb (zh 6) (zb (zh 5) ze))))))))))
  (m1:mw (.int (k:Int)) (.int s.gv)=↑(.int (k*s.gv))) (m2:mw (.int (k:Int)) (.int s.gt)=↑(.int (k*s.gt))):pQ [.tup [.int F.A,.int F.B],yE s,zj q,.int (k:Int)]=↑(vv (if (k:Int)*s.gv<=zO s.pu q then ↑(uL F s q k) else none)):=by
 unfold pQ;rw[hb];unfold yE zj uL;generalize (k:Int)*s.gv=x at *;generalize (k:Int)*s.gt=y at *;cases DQ:s.pu with
 | true=>
  by_cases h:x<=q.2
  .have h':¬ q.2-x<0:=⋯;simp[yP,m1,m2,h,h',xt,zO,DQ,vv,mi,eq_int,zj,yS,yt,zt.zy]
  .have h':q.2-x<0:=⋯;simp[yP,m1,m2,h,h',xt,zO,DQ,vv]
 | false=>
  by_cases h:x<=q.1
  .have h':¬ q.1-x<0:=⋯;simp[yP,m1,m2,h,h',xt,zO,DQ,vv,mi,eq_int,zj,yS,yt,zt.zy]
  .have h':q.1-x<0:=⋯;simp[yP,m1,m2,h,h',xt,zO,DQ,vv]
def II {F:zt}{s:Sl}{q:Int×Int}{k:Nat}(hk:k<=100):pQ [.tup [.int F.A,.int F.B],yE s,zj q,.int (k:Int)]=↑(vv (if (k:Int)*s.gv<=zO s.pu q then ↑(uL F s q k) else none)):=
 IH xb rfl (md (.inl #[⋯,⋯])) (md (.inl #[⋯,⋯]))
def jF (F:zt) (p:Nat) (q:Int×Int):(wY F p q)[0]?=↑q:=by
 unfold wY;cases F.Fo p with
 | none=>rfl
 | some s=>rfl
theorem IM {F:zt}(ok:F.Ok) {p:Nat}(hp:p<F.os.length) {q:Int×Int}(hq:yv F q) {k:Nat}(hk:k<=100):pR [zr F,.int (p:Int),zj q,.int (k:Int)]=↑(vv (wY F p q)[k]?):=by
 cases k with
 | zero=>
  rw[jF];unfold pR iL vv zj;simp[eq_int]
 | succ k=>
  have hk0:¬ ((k:Int)+1=0):=⋯;have h1:=XD F p hp ok.s8;have Hw:=mN F;unfold wY;cases hs:F.Fo p with
  | none=>
   rw[hs] at h1;have i1:yA false .zp .zp=↑(.bl true):=rfl;unfold pR iL;generalize sG=f1,pQ=f2,zr F=fl,zj q=pq at *;simp[eq_int,hk0,h1,i1,vv]
  | some s=>
   rw[hs] at h1;have GQ:=ok.ss s (CL hs);have hgv:zO s.pu q<20:=by
    have:=vj (pu:=s.pu).mp hq;have:F.zy s.pu<=12:=by have:=ok.a1;have:=ok.b1;unfold zt.zy;split <;> assumption
    lia
   have h2:=II (F:=F) (s:=s) (q:=q) (k:=k+1) hk;rw[<- jH GQ 20 hq ⋯] at h2;rw[B8] at h2;have i1:yA false (yE s) .zp=↑(.bl false):=rfl;unfold pR iL;dsimp only;generalize (se F s 20 q)[k+1]?=oo,sG=f1,pQ=f2,zr F=fl,zj q=pq at *;dsimp only at h1;generalize yE s=sl at *;simp![zg] at Hw;simp[eq_int,hk0,h1,i1,Hw,h2]
def va (F:zt) (p:Nat):List (Wy×Nat):=F.ws.zipIdx.filter λ wi=>decide (wi.1.f=p)
def iP {F:zt}{p:Nat}{wi:Wy×Nat}(h:wi∈va F p):F.ws[wi.2]?=↑wi.1/\wi.1.f=p:=by
 let#[h1,h2]:=A7.mp h;show#[DY.mp h1,of_decide_eq_true h2]
def Vp {F:zt}{p:Nat}(t:Wy->Bool):(va F p).any (λ wi=>t wi.1)=(sL F p).any t:=by
 unfold sL;rw[<- kl (λ w=>decide (w.f=p)) F.ws 0,List.any_map];rfl
structure Fix (F:zt) (l:List Bd):Prop where
 ok:F.Ok
 len:l.length=F.os.length
 gd:∀ b∈l,Gd F.A F.B b
 pw:F.ss.Pairwise (λ a b=>a.p≠b.p)
 go:∀ p<F.os.length,∀ q,yv F q->zF (l.getD p []) q=mJ F l p q
section
variable {F:zt}
def gT {p:Nat}(hp:p<F.os.length):L2.zM (F.os.map kt) (p:Int)=↑(kt (F.os.getD p false)):=xR (by rw[AD,AX,AR hp];rfl)
end
def LV {F:zt}(ok:F.Ok) (hpw:F.ss.Pairwise (λ a b=>a.p≠b.p)) {m:Nat}(hg:∀ b∈zG F m,Gd F.A F.B b) (AU:zG F (m+1)=zG F m):Fix F (zG F m):=by
 exact#[ok,qV F m,hg,hpw,λ p hp q hq=>?_];have hg':∀ p,Gd F.A F.B ((zG F m).getD p []):=λ p=>by
  rcases Bj p (zG F m).length with h | h
  .rw[AX,AR h];show hg _ (Bl h)
  .rw[AX,DF h];show Gd.nil
 have e:(zG F m).getD p []=y9 F (zG F m) p:=by
  have:(zG F (m+1)).getD p []=y9 F (zG F m) p:=oU (λ p=>y9 F (zG F m) p) F.os.length p [] hp;rw[AU] at this;show this
 rw[e];show fg ok hg' p hq
def yO (E5:List (List Bd)):T:=.lst (E5.map rT)
def wD (E5:List (List Bd)) (p:Nat) (q:Int×Int):Option Nat:=(List.range E5.length).find? λ k=>!zF ((E5.getD k []).getD p []) q
def xY (o:Option Nat):T:=match o with
 | some k=>.int (k:Int)
 | none=>.zp
def VE {E5:List (List Bd)}{n:Nat}(h:∀ r∈E5,r.length=n) {k:Nat}(hk:k<E5.length):(E5.getD k []).length=n:=by
 rw[AX,AR hk];show h _ (Bl hk)
theorem IB (E5:List (List Bd)) (n p:Nat) (q:Int×Int) (hn:∀ r∈E5,r.length=n) (hb:∀ r∈E5,∀ b∈r,b.length<=100) (hp:p<n):nr [yO E5,.int p,zj q]=↑(xY (wD E5 p q)):=by
 have hl:=mv (is:=[3,4]) (g:=xi 2 (zU (zu 3) (zU (zu 4) xr))) (b:=jW) (λ k:Nat=>T.tup [.int (k:Int),rT (E5.getD k [])]) (λ k:Nat=>T.int (k:Int)) (λ k=>!zF ((E5.getD k []).getD p []) q) [↑(.im (yO E5)),↑(.im (.int p)),↑(.im (zj q)),none,none] (List.range E5.length) [↑(.im (yO E5)),↑(.im (.int p)),↑(.im (zj q)),none,none] #[] λ k hk=>#[[↑(.im (yO E5)),↑(.im (.int p)),↑(.im (zj q)),↑(.im (.int (k:Int))),↑(.im (rT (E5.getD k [])))],#[],by
  have Gx:=AG.mp hk;have hlen:=VE hn Gx;have e1:=oH (E5.getD k []) p ⋯;have e2:=XH ((E5.getD k []).getD p []) q (by
   have hm:E5.getD k []∈E5:=by rw[AX,AR Gx];show Bl Gx
   have HN:(E5.getD k []).getD p []∈E5.getD k []:=by
    have:p<(E5.getD k []).length:=⋯;rw[AX (l:=E5.getD k []),AR this];show Bl this
   have:=hb _ hm _ HN;lia)
  unfold turn jW;generalize (E5.getD k []).getD p []=bd,rT (E5.getD k [])=rk,qB=ff,yO E5=tt,zj q=pq at *;simp![zg] at e1;cases hc:zF bd q <;> rw[hc] at e2 <;> simp[e1,e2]]
 have he:ui [yO E5]=↑((List.range E5.length).map λ k:Nat=>T.tup [.int (k:Int),rT (E5.getD k [])]):=by
  have:=eC rT [] E5 E5 0 λ i=>by rw[C1]
  simp![C1] at this;change ↑(r9 0 (E5.map rT))=_;rw[this]
 unfold nr W_ wD xY;generalize jW=bb,ui=en,yO E5=tt,zj q=pq,(List.range E5.length).map (λ k:Nat=>T.tup [.int (k:Int),rT (E5.getD k [])])=LL at *;generalize (List.range E5.length).find? _=o at *;simp[he,hl];cases o <;> simp
structure uN (F:zt) (m:Nat):Prop where
 fx:Fix F (zG F m)
 gd:∀ k,k<=m->∀ b∈zG F k,Gd F.A F.B b
def zV (F:zt) (m:Nat):List (List Bd):=(List.range (m+1)).map (zG F)
section
variable {F:zt}{m:Nat}
def nE (F:zt) (m:Nat):(zV F m).length=m+1:=by unfold zV;simp
def kz {k:Nat}(h:k<=m):(zV F m).getD k []=zG F k:=oU (zG F) (m+1) k [] ⋯
def uN.jm (R:uN F m) {k:Nat}(hk:k<=m) (p:Nat):Gd F.A F.B ((zG F k).getD p []):=by
 rcases Bj p (zG F k).length with h | h
 .rw[AX,AR h];show R.gd k hk _ (Bl h)
 .rw[AX,DF h];show Gd.nil
theorem j7 {p:Nat}{q:Int×Int}{k:Nat}(h:wD (zV F m) p q=↑k):k<=m/\zF ((zG F k).getD p []) q=false:=by
 unfold wD at h;have h1:=AG.mp (CL h);rw[nE] at h1;have h2:=List.find?_some h;rw[kz ⋯] at h2;show#[⋯,by exists h2]
theorem Kv {p:Nat}{q:Int×Int}{k:Nat}(hk:k<=m) (h:zF ((zG F k).getD p []) q=false):∃ j,j<=k/\wD (zV F m) p q=↑j:=by
 unfold wD;cases ho:(List.range (zV F m).length).find? (λ k=>!zF (((zV F m).getD k []).getD p []) q) with
 | none=>
  rw[List.find?_eq_none] at ho;have:=ho k (AG.mpr (by rw[nE];lia));rw[kz hk,h] at this;show absurd rfl this
 | some j=>
  exact#[j,?_,rfl];rcases Bj k j with hj | hj
  .have:=(List.find?_range_eq_some.mp ho).2.2 k hj;rw[kz hk,h] at this;cases this
  .show hj
def j9 {p:Nat}(hp:p<F.os.length) {q:Int×Int}(hq:yv F q):wD (zV F m) p q≠↑0:=λ h=>by
 let#[_,h2]:=j7 h;have e1:(zG F 0).getD p []=xw:=by
  change (RN.start F).getD p []=xw;unfold RN.start;rw[AX,CQ,if_pos hp];rfl
 rw[e1,Y7.mpr #[hq.1.1,hq.2.1]] at h2;cases h2
def VD:L2.zM ((zV F m).map rT) (-1)=↑(rT (zG F m)):=by
 unfold zV;rw[List.range_succ,BH,BH];show e_
def cM {k:Nat}(h:k<=m):L2.zM ((zV F m).map rT) (k:Int)=↑(rT (zG F k)):=xR (by
 unfold zV;rw[A2,AD,Dx ⋯];rfl)
theorem cL (R:uN F m):(∀ r∈zV F m,r.length=F.os.length)/\∀ r∈zV F m,∀ b∈r,b.length<=100:=by
 constructor
 .intro r hr;let#[k,hk,rfl]:=Aq.mp hr;show qV F k
 .intro r hr b hb;let#[k,hk,rfl]:=Aq.mp hr;have:=AG.mp hk;have h1:=(R.gd k ⋯ b hb).sY R.fx.ok.a0;have:=R.fx.ok.a1;lia
theorem Ik (R:uN F m) {p:Nat}(hp:p<F.os.length) {q:Int×Int}(hq:yv F q) (ho:F.os.getD p false=false):∃ o:Option Nat,lK [zr F,.int (p:Int),zj q,yO (zV F m)]=↑(xY o)/\(wD (zV F m) p q=none->o=none)/\∀ k,wD (zV F m) p q=↑k->∃ (i:Nat) (w:Wy),o=↑i/\F.ws[i]?=↑w/\w.f=p/\yW F (zG F (k-1)) q w=false:=by
 have h1:=IB (zV F m) F.os.length p q (cL R).1 (cL R).2 hp;have i0:yA false .zp .zp=↑(.bl true):=rfl;cases hd:wD (zV F m) p q with
 | none=>
  rw[hd] at h1;exact#[none,?_,λ _=>rfl,nofun];unfold lK cm;generalize l4=c1,nr=f1,yO (zV F m)=tt,zr F=fl,zj q=pq at *;simp![xY] at h1 ⊢;simp[h1,i0]
 | some k=>
  rw[hd] at h1;let#[k1,k2]:=j7 hd;have k0:k≠0:=λ h=>j9 hp hq (by rw[hd,h]);obtain⟨j,rfl⟩:∃ j,k=j+1:=#[k-1,⋯];have EI:j<=m:=⋯;have hg:(sL F p).all (yW F (zG F j) q)=false:=by
   have e:(zG F (j+1)).getD p []=y9 F (zG F j) p:=oU (λ p=>y9 F (zG F j) p) F.os.length p [] hp;rw[e,fg R.fx.ok (R.jm EI) p hq] at k2;unfold mJ at k2;rw[if_neg (by rw[ho];decide)] at k2;show k2
  have Av:(va F p).filter (λ wi=>!yW F (zG F j) q wi.1)≠[]:=by
   intro h;rw[List.filter_eq_nil_iff] at h;have:(sL F p).all (yW F (zG F j) q)=true:=by
    rw[BA];intro w hw;have ha:=Vp (F:=F) (p:=p) (λ v=>!yW F (zG F j) q v);have:(va F p).any (λ wi=>!yW F (zG F j) q wi.1)=false:=by
     rw[<- Dr,A8];rintro⟨wi,h1,h2⟩;show h wi h1 h2
    rw[this] at ha;cases hl:yW F (zG F j) q w with
    | true=>rfl
    | false=>
     have:(sL F p).any (λ v=>!yW F (zG F j) q v)=true:=A8.mpr #[w,hw,by simp[hl]];rw[<- ha] at this;cases this
   rw[hg] at this;cases this
  obtain⟨wi,E6,CU⟩:∃ wi E6,(va F p).filter (λ wi=>!yW F (zG F j) q wi.1)=wi::E6:=by
   cases h:(va F p).filter (λ wi=>!yW F (zG F j) q wi.1) with
   | nil=>show absurd h Av
   | cons a b=>show#[a,b,rfl]
  have A6:wi∈(va F p).filter (λ wi=>!yW F (zG F j) q wi.1):=by rw[CU];show Ar
  let#[m1,m2]:=A7.mp A6;let#[g1,g2]:=iP m1;exact#[↑wi.2,?_,nofun,λ k hk=>?_]
  .have Ej:=dE F p hp R.fx.ok.tE;have CW:=cM (F:=F) (m:=m) EI;have hc:l4 [↑(.im (zr F)),↑(.im (.int (p:Int))),↑(.im (zj q)),↑(.im (yO (zV F m))),↑(.im (.int ((j:Int)+1)))]=↑(.lst (((va F p).filter λ wi=>!yW F (zG F j) q wi.1).map λ wi=>T.int (wi.2:Int))):=by
    have:=oE (λ wi:Wy×Nat=>T.int (wi.2:Int)) (λ wi=>if (!yW F (zG F j) q wi.1)=true then ↑(T.int (wi.2:Int)) else none) (pick:=[none,↑0,↑2,↑3,↑4]) (it:=yX (zq sF (zb (zh 0) (zb (zh 1) ze)))) (g:=zu 0) (c:=xQ (y8 (zq pL (zb (zh 1) (zb (zh 2) (zb (zh 0) (zb (za zg (zc 3) (za yw (zc 4) (cI 1))) ze))))))) (f:=zh 0) (ρ:=[↑(.im (zr F)),↑(.im (.int (p:Int))),↑(.im (zj q)),↑(.im (yO (zV F m))),↑(.im (.int ((j:Int)+1)))]) (va F p) (by
      replace Ej:sF [zr F,.int (p:Int)]=↑(.lst ((va F p).map λ wi=>T.int (wi.2:Int))):=Ej;generalize (va F p).map (λ wi=>T.int (wi.2:Int))=WW,sF=f1,zr F=fl at *;simp[Ej]) (by
      have h7:(va F p).length<=F.ws.zipIdx.length:=CK _ _;have h8:=R.fx.ok.tE;have h9:F.ws.zipIdx.length=F.ws.length:=#[];lia) (λ wi hw=>by
      let#[q1,q2]:=iP hw;have ht:wi.1.t<(zG F j).length:=by rw[qV];show (R.fx.ok.ws wi.1 (A9 q1)).2
      have h3:=Iq (F:=F) (l:=zG F j) (q:=q) q1 ht (by
       have:=(R.jm EI wi.1.t).sY R.fx.ok.a0;have:=R.fx.ok.a1;lia)
      have hs:(j:Int)+1-1=j:=⋯;have htt:yO (zV F m)=.lst ((zV F m).map rT):=rfl;rw[htt];generalize (zV F m).map rT=TT,pL=f1,zr F=fl,zj q=pq,rT (zG F j)=rl,yW F (zG F j) q wi.1=b at *;cases b <;> simp[hs,CW,h3])
    unfold l4;rw[this,mM]
   rw[CU,Aw] at hc;have i1:yA false (.int ((j:Int)+1)) .zp=↑(.bl false):=rfl;unfold lK cm;generalize E6.map (λ wi=>T.int (wi.2:Int))=RR,l4=c1,nr=f1,yO (zV F m)=tt,zr F=fl,zj q=pq at *;simp![xY,B8] at h1 ⊢;simp[h1,i1,hc]
  .cases hk;show#[wi.2,wi.1,rfl,g1,g2,by exists m2]
end
abbrev Sd:=Option (Nat×(Int×Int))
def xA (o:Sd):T:=match o with
 | none=>.zp
 | some x=>.tup [.int (x.1:Int),zj x.2]
def wq (F:zt) (r:Int×Int) (w:Wy):Sd:=(tJ F r w).map λ x=>(w.t,x)
def hF (F:zt) (m:Nat) (st:Sd) (n:Nat):List (Str×T):=[("floor",zr F),("told",yO (zV F m)),("stand",xA st),("done",.int (n:Int))]
theorem Ih (A B:Int) (q:Int×Int) (h:(0<=q.1/\q.1<=A)/\0<=q.2/\q.2<=B):lU [zj q,.tup [.tup [.int 0,.int A],.tup [.int 0,.int B]]]=↑(.bl true):=by
 have hc:jO [↑(.im (zj q)),↑(.im (.tup [.tup [.int 0,.int A],.tup [.int 0,.int B]]))]=↑(.lst ([(q.1,A),(q.2,B)].map λ x:Int×Int=>T.bl true)):=by
  unfold jO;exact tS (λ x:Int×Int=>T.tup [.int x.1,.tup [.int 0,.int x.2]]) _ [(q.1,A),(q.2,B)] (by simp[zj]) #[] λ x hx=>?_;have HL:0<=x.1/\x.1<=x.2:=by
   simp![Am,List.mem_nil_iff,or_false] at hx;rcases hx with rfl | rfl
   .show h.1
   .show h.2
  simp[dD,HL]
 unfold lU WX;have it:uV "tuple" "tuple"=true:=()
 generalize jO=cc at *;simp[zj] at hc;simp[zj,it,eq_int,hc,qo]
def IL (F:zt) (q:Int×Int) (h:(0<=q.1/\q.1<=F.A)/\0<=q.2/\q.2<=F.B):iB [zr F,zj q]=↑.zp:=by
 have h1:=Ih F.A F.B q h;have Hw:zg (zr F) (.int 0)=↑(.tup [.int F.A,.int F.B]):=by simp[zr]
 unfold iB Vd;generalize lU=ff,zr F=fl,zj q=pq at *;simp![zg] at Hw;simp[Hw,h1]
def XI {F:zt}(ok:F.Ok) {p:Nat}(hp:p<F.os.length) {q r:Int×Int}(hq:yv F q) {k i:Nat}{w:Wy}(hk:k<=100) (hr:(wY F p q)[k]?=↑r) (hw:F.ws[i]?=↑w) (hf:w.f=p):
  kc [zr F,.int (p:Int),zj q,.tup [.int (k:Int),.int (i:Int)]]=↑(xA (wq F r w)):=by
 have hi:=(AO.mp hw).1;have h1:lT [zr F,.int (i:Int)]=↑(.bl true):=by
  have a:=dD i 0 ((F.ws.length:Int)-1);rw[show decide ((0:Int)<=i)=true from za2 ⋯,show decide ((i:Int)<=(F.ws.length:Int)-1)=true from za2 ⋯] at a;have h2:=pb F;have hl:(F.ws.map yc).length=F.ws.length:=#[];unfold lT WV;generalize pO=f1,zr F=fl,F.ws.map yc=W at *;simp![zg] at h2;simp[h2,hl,a]
 have h2:L2.zM (F.ws.map yc) (i:Int)=↑(yc w):=xR (by rw[AD,hw];rfl);have e2:=pb F;have h3:lX [zr F,.int (p:Int),.int (i:Int)]=↑.zp:=by
  have h4:=eq_int (w.f:Int) (p:Int) true;rw[hf] at h4;unfold lX Vb;generalize lT=f1,zP=ee,zr F=fl,F.ws.map yc=W at *;simp![zg] at e2;simp[h1,e2,h2,yc,hf,h4]
 have h5:=IM ok hp hq hk;rw[hr] at h5;have h6:lV [.int (k:Int)]=↑(.bl true):=by
  have:pP [.int (k:Int)]=↑(.bl true):=by simp[pP,cq,uV]
  simp[lV,WY,this]
 have h7:lN [zr F,.int (p:Int),zj q,.int (k:Int)]=↑(zj r):=by
  have hn:yA false (zj r) .zp=↑(.bl false):=rfl;unfold lN WE;generalize lV=f1,pR=f2,yA=is,zr F=fl,zj q=pq at *;have h5:f2 [fl,.int (p:Int),pq,.int (k:Int)]=↑(zj r):=h5;generalize zj r=pr at *;simp[h6,h5,hn]
 have h8:=XC F r hw;unfold kc Vj wq;generalize lX=f1,lN=f2,q8=f3,zr F=fl,F.ws.map yc=W,zj q=pq,zj r=pr at *;simp![zg] at e2;cases hs:tJ F r w with
 | none=>
  rw[hs] at h8;have h8:f3 [fl,pr,.int (i:Int)]=↑.zp:=h8;have hn:yA false .zp .zp=↑(.bl true):=rfl;generalize yA=is at *;simp[h3,h7,h8,hn,xA]
 | some x=>
  rw[hs] at h8;have h8:f3 [fl,pr,.int (i:Int)]=↑(zj x):=h8;have hn:yA false (zj x) .zp=↑(.bl false):=rfl;generalize yA=is at *;have ht:xA ↑(w.t,x)=.tup [.int (w.t:Int),zj x]:=rfl;rw[Option.map_some,ht];generalize zj x=px at *;simp[h3,h7,h8,hn,e2,h2,yc]
section
variable {F:zt}{m:Nat}
abbrev hW (a:Addr) (F:zt) (m:Nat) (st:Sd) (n:Nat):W:=.own (.obj ↑a "Taker" (hF F m st n))
abbrev mG (v:T) (a:Addr) (F:zt) (m:Nat) (st:Sd) (n:Nat):T:=vg v [(a,.obj none "Taker" (hF F m st n))]
def yB:("Taker":Str)∈(["Taker"]:List Str):=AH.mpr rfl
def Iw (hr:sH [zr F]=↑(yO (zV F m))) {p:Nat}(hp:p<F.os.length) {q:Int×Int}(hq:yv F q) (a:Addr):
  dM [.own (.obj ↑a "Taker" []),.im (zr F),.im (nT p),.im (zj q)]=↑(mG .zp a F m ↑(p,q) 0):=
 kG (L:=[(a,.obj ↑a "Taker" (hF F m ↑(p,q) 0))]) (zI (Yl (yo rfl (dJ F p hp))) (zI (Yl (yo rfl (IL F q hq))) (zI (oq rfl yB (of_decide_eq_true rfl) rfl rfl) (zI (oq rfl yB (of_decide_eq_true rfl) (yo rfl hr) rfl) (zI (oq rfl yB (of_decide_eq_true rfl) (vU rfl (of_decide_eq_true rfl)) rfl) (oq rfl yB (of_decide_eq_true rfl) rfl rfl)))))) rfl rfl
def rj {cs:List Str}{i:Nat}{a:Option Addr}{c:Str}{st:Sd}{n:Nat}{ρ:Ev}(h0:ρ[i]?=↑↑(.own (.obj a c (hF F m st n)))) (hc:c∈cs):xN cs i "stand" ρ=↑(xA st):=oT h0 hc rfl
def jn {cs:List Str}{i:Nat}{a:Option Addr}{c:Str}{st:Sd}{n:Nat}{ρ:Ev}(h0:ρ[i]?=↑↑(.own (.obj a c (hF F m st n)))) (hc:c∈cs):xN cs i "floor" ρ=↑(zr F):=oT h0 hc rfl
def X9 {p:Nat}{q:Int×Int}{n:Nat}{s:T}(hp:p<F.os.length) (hs:kt (F.os.getD p false)=s) (a:Addr):iG [hW a F m ↑(p,q) n,.im s]=↑(mG .zp a F m ↑(p,q) n):=by
 have h2:=gT (F:=F) hp;have h3:zP true (kt (F.os.getD p false)) s=↑(.bl false):=by rw[<- hs];cases F.os.getD p false <;> simp[kt,zP,dep,eqT]
 show kG (L:=[(a,.obj ↑a "Taker" (hF F m ↑(p,q) n))]) (xk (rW (yr (zk (rj rfl yB) rfl rfl)) (yr (zk (zk (zk (jn rfl yB) rfl (jt F)) (zk (rj rfl yB) rfl (r:=↑(nT p)) rfl) h2) rfl h3))) rfl) rfl rfl
def XB {p:Nat}{q:Int×Int}{n k i:Nat}{st:Sd}(h:kc [zr F,nT p,zj q,.tup [nT k,nT i]]=↑(xA st)) (a:Addr):
  iE [hW a F m ↑(p,q) n,.im (nT k),.im (nT i)]=↑(mG .zp a F m st (n+1)):=
 kG (L:=[(a,.obj ↑a "Taker" (hF F m st (n+1)))]) (zI (oq (fs:=hF F m ↑(p,q) n) (Ge:=hF F m st n) rfl yB (of_decide_eq_true rfl) (yo (zK (jn rfl yB) (zK (zk (rj rfl yB) rfl rfl) (zK (zk (rj rfl yB) rfl rfl) (zK (vU rfl (of_decide_eq_true rfl)) rfl)))) h) rfl) (oq (fs:=hF F m st n) (Ge:=hF F m st (n+1)) rfl yB (of_decide_eq_true rfl) (zk (oT rfl yB rfl) rfl rfl) rfl)) rfl rfl
def IG (ok:F.Ok) {p:Nat}(hp:p<F.os.length) (ho:F.os.getD p false=true) {q r:Int×Int}(hq:yv F q) {k i n:Nat}{w:Wy}(hk:k<=100) (hr:(wY F p q)[k]?=↑r) (hw:F.ws[i]?=↑w) (hf:w.f=p) (a:Addr):
  iD [hW a F m ↑(p,q) n,.im (nT k),.im (nT i)]=↑(mG .zp a F m (wq F r w) (n+1)):=
 kG (L:=[(a,.obj ↑a "Taker" (hF F m (wq F r w) (n+1)))]) (zI (mj (xs:=[.str "keeper"]) rfl yB rfl rfl (X9 (m:=m) (q:=q) (n:=n) hp (by rw[ho];rfl))) (mj (xs:=[nT k,nT i]) rfl yB rfl rfl (XB (m:=m) (n:=n) (XI ok hp hq hk hr hw hf)))) rfl rfl
end
theorem Iy (b:Bd) (q:Int×Int) (hl:b.length<=100):i8 [bT b,zj q]=↑(.bl (zF b q)):=by
 have hc:jN [↑(.im (bT b)),↑(.im (zj q))]=↑(.lst (b.map λ p=>T.bl (wB q p))):=by
  unfold jN;exact tS zj _ b (by simp[bT]) ⋯ λ p _=>?_;unfold wB;by_cases h:q.1≥p.1 <;> simp[qU,zj,h]
 unfold i8 WK;generalize jN=cc,bT b=bt,zj q=pq at *;simp[hc,YW];rfl
section
variable {F:zt}{m:Nat}
def vH (F:zt) (m:Nat):Sd->Option Nat
 | none=>↑0
 | some x=>wD (zV F m) x.1 x.2
theorem dI (R:uN F m) (hm:m<=2000) {st:Sd}(hs:∀ x,st=↑x->x.1<F.os.length):lP [yO (zV F m),xA st]=↑(xY (vH F m st)):=by
 cases st with
 | none=>show wN (og (uC (yr (zk rfl rfl (r:=↑(.bl true)) rfl)) rfl)) rfl
 | some x=>
  let#[p,q]:=x;have hp:p<F.os.length:=hs _ rfl;have hl:=mv (is:=[2]) (g:=zu 2) (b:=Xk) (λ k:Nat=>T.int (0+(k:Int))) (λ k:Nat=>T.int (0+(k:Int))) (λ k=>!zF (((zV F m).getD k []).getD p []) q) [im (yO (zV F m)),im (xA ↑(p,q)),none] (List.range (zV F m).length) [im (yO (zV F m)),im (xA ↑(p,q)),none] rfl λ k hk=>#[[im (yO (zV F m)),im (xA ↑(p,q)),im (.int (0+(k:Int)))],rfl,by
   have Gx:k<=m:=by have:=AG.mp hk;rw[nE] at this;lia
   have e0:L2.zM ((zV F m).map rT) (0+(k:Int))=↑(rT (zG F k)):=by rw[BK];show cM Gx
   have e2:=Iy ((zG F k).getD p []) q (by
    have:=(R.jm Gx p).sY R.fx.ok.a0;have:=R.fx.ok.a1;lia)
   rw[kz Gx];have e3:=oz (ρ:=[im (yO (zV F m)),im (xA ↑(p,q)),im (.int (0+(k:Int)))]) (pX (yo (zK (zk (f:=zg) (zk (f:=zg) (fa:=zc 0) (fb:=zc 2) rfl rfl e0) (fb:=za zg (zc 1) (cI 0)) rfl (oH (zG F k) p (by rw[qV];show hp))) (u:=zb (za zg (zc 1) (cI 1)) ze) rfl) e2));cases hc:zF ((zG F k).getD p []) q <;> rw[hc] at e3
   .show uC e3 rfl
   .show xk e3 rfl]
  have fr:=rn (f:=xc xW (zb (zq wU (zb (zc 0) ze)) ze)) (show xc xW _ [im (yO (zV F m)),im (xA ↑(p,q)),none]=_ by
   change xW [.int (((zV F m).map rT).length:Int)]=_;rw[AA];show uR _ (by rw[nE];lia)) hl
  have e1:zD (za (yA false) (zc 1) (cS .zp)) [im (yO (zV F m)),im (xA ↑(p,q)),none]=↑false:=yr (zk rfl rfl rfl);change _=↑(xY (wD (zV F m) p q));unfold wD;generalize (List.range (zV F m).length).find? _=o at *;cases o with
  | none=>show wN (zI (xk e1 rfl) (zI fr rfl)) rfl
  | some k=>show (wN (zI (xk e1 rfl) (og fr)) rfl).trans (by rw[BK];rfl)
def Vo {p:Nat}(h:∃ w∈F.ws,w.f=p):∃ wi r,va F p=wi::r:=by
 cases q:va F p with
 | cons wi r=>show#[wi,r,rfl]
 | nil=>
  let#[w,hw,hf]:=h;let#[i,hi]:=B_.mp hw;have:(w,i)∈va F p:=A7.mpr #[DY.mpr hi,za2 hf];rw[q] at this;cases this
def Iz (R:uN F m) (gw:∀ x<F.os.length,∃ w∈F.ws,w.f=x) {p:Nat}(hp:p<F.os.length) (ho:F.os.getD p false=false) {q:Int×Int}(hq:yv F q):
  ∃ (i:Nat) (w:Wy),F.ws[i]?=↑w/\w.f=p/\(∀ k,wD (zV F m) p q=↑k->yW F (zG F (k-1)) q w=false)/\∀ (n:Nat) (a:Addr),iC [hW a F m ↑(p,q) n]=↑(mG (nT i) a F m (wq F q w) (n+1)):=by
 let#[o,h1,h2,h3]:=Ik R hp hq ho;let#[wi,rr,hwn]:=Vo (gw p hp);let#[hw1,G2]:=iP (F:=F) (p:=p) (wi:=wi) (by rw[hwn];show Ar);have w1:=dE F p hp R.fx.ok.tE;rw[show (F.ws.zipIdx.filter λ wi=>decide (wi.1.f=p))=va F p from rfl,hwn,Aw] at w1;have key:∃ (i:Nat) (w:Wy),F.ws[i]?=↑w/\w.f=p/\(∀ k,wD (zV F m) p q=↑k->yW F (zG F (k-1)) q w=false)/\∀ (n:Nat) (a:Addr),
   zW (zD (za (yA false) (zc 1) (cS .zp))) (zA 1 (tN ["Taker"] "first_way" ["self"] cx 0)) zZ [↑(hW a F m ↑(p,q) n),im (xY o)]=↑(.nx [↑(hW a F m ↑(p,q) n),im (nT i)]):=by
  cases Gb:o with
  | none=>
   exact#[wi.2,wi.1,hw1,G2,λ k hk=>?_,λ n a=>uC (yr (zk rfl rfl rfl)) (xp (nN rfl yB rfl (zk (yo (zK (jn rfl yB) (zK (zk (rj rfl yB) rfl rfl) rfl)) w1) rfl uk)))];let#[i,w,e,_]:=h3 k hk;rw[Gb] at e;cases e
  | some i=>
   cases hd:wD (zV F m) p q with
   | none=>rw[h2 hd] at Gb;cases Gb
   | some k=>
    let#[i',w,e,g1,g2,g3]:=h3 k hd;rw[Gb] at e;cases e;show#[i,w,g1,g2,λ k' Gx=>by cases Gx;show g3,λ n a=>xk (yr (zk rfl rfl rfl)) rfl]
 let#[i,w,k1,k2,k3,k4]:=key;show#[i,w,k1,k2,k3,λ n a=>UD (zI (mj (xs:=[.str "taker"]) rfl yB rfl rfl (X9 (m:=m) (q:=q) (n:=n) hp (by rw[ho];rfl))) (zI (xp (yo (zK (jn rfl yB) (zK (zk (rj rfl yB) rfl rfl) (zK (zk (rj rfl yB) rfl rfl) (zK (oT rfl yB rfl) rfl)))) h1)) (zI (k4 n a) (zI (mj (xs:=[nT 0,nT i]) rfl yB rfl rfl (XB (m:=m) (n:=n) (k:=0) (XI R.fx.ok hp hq () (jF F p q) k1 k2))) (UK (L:=[(a,.obj ↑a "Taker" (hF F m (wq F q w) (n+1)))]) rfl rfl))))) rfl]
def sJ (F:zt) (k:Nat):Wy:=F.ws.getD k #[0,0,0,0]
def vb (F:zt) (p:Nat):List Nat:=(List.range F.ws.length).filter λ k=>decide ((sJ F k).f=p)
def iQ {p k:Nat}:k∈vb F p↔∃ w,F.ws[k]?=↑w/\w.f=p:=by
 unfold vb sJ;rw[A7,AG,AX];constructor
 .rintro⟨h1,h2⟩;rw[AR h1] at h2 ⊢;show#[_,rfl,of_decide_eq_true h2]
 .rintro⟨w,h1,h2⟩;exact#[(AO.mp h1).1,?_];rw[h1];show za2 h2
theorem XF (hl:F.ws.length<=60) (p:Nat):lO [zr F,nT p]=↑(.lst ((vb F p).map λ k:Nat=>T.int (0+(k:Int)))):=by
 exact wN (sS ((oE (λ k:Nat=>T.int (0+(k:Int))) (λ k=>if decide ((sJ F k).f=p)=true then ↑(T.int (0+(k:Int))) else none) (List.range F.ws.length) ?_ (by rw[CB];show AY hl ()) λ k hk=>?_).trans (by rw[mM];rfl))) rfl
 .change (zb _ _ _).bind _=_;rw[zK (yo (zK (zk rfl rfl (pb F)) rfl) (y:=nT F.ws.length) (congrArg (λ n:Nat=>↑(T.int n)) (AA ..))) rfl];show uR _ ⋯
 .have hw:L2.zM (F.ws.map yc) (0+(k:Int))=↑(yc (sJ F k)):=by
   rw[BK];exact xR ?_;unfold sJ;rw[AD,AX,AR (AG.mp hk)];rfl
  have hq:=eq_int ((sJ F k).f:Int) (p:Int) false;rw[show decide (((sJ F k).f:Int)=(p:Int))=decide ((sJ F k).f=p) from decide_eq_decide.mpr ⋯] at hq;change (zD _ _).bind _=_;rw[yr (zk (zk (zk (zk rfl rfl (pb F)) rfl hw) rfl uk) rfl hq)];by_cases h:(sJ F k).f=p
  .rw[za2 h];rfl
  .rw[za3 h];rfl
def gk {p:Nat}{s:Sl}(h:F.Fo p=↑s):s∈F.ss/\s.p=p:=#[CL h,by have:=List.find?_some h;exists this]
def tp (F:zt) (p:Nat) (q:Int×Int) (k:Nat):Bool:=match F.Fo p with
 | some s=>decide ((k:Int)*s.gv<=zO s.pu q)
 | none=>decide (k=0)
def YQ (ok:F.Ok) (pu:Bool):F.zy pu<=12:=by
 have:=ok.a1;have:=ok.b1;unfold zt.zy;split <;> assumption
theorem Jf (ok:F.Ok) {p:Nat}{q:Int×Int}(hq:yv F q) (k:Nat):tp F p q k=((wY F p q)[k]?).isSome:=by
 unfold tp wY;cases h:F.Fo p with
 | none=>
  dsimp only;cases k with
  | zero=>rfl
  | succ k=>rfl
 | some s=>
  have hs:=ok.ss s (gk h).1;have hg:=vj (pu:=s.pu).mp hq;have:=YQ ok s.pu;dsimp only;rw[jH hs 20 hq ⋯ k];by_cases c:(k:Int)*s.gv<=zO s.pu q
  .rw[if_pos c,za2 c];rfl
  .rw[if_neg c,za3 c];rfl
def Tx (q:Int×Int) (pu:Bool):L2.zM [T.int q.1,T.int q.2] (yP pu)=↑(.int (zO pu q)):=by cases pu <;> simp[yP,zO]
abbrev lx (F:zt) (p:Nat) (q:Int×Int) (k:Nat) (a b c d:Option W):Ev:=[im (zr F),im (nT p),im (zj q),im (nT k),a,b,c,d]
theorem XG {p:Nat}{q:Int×Int}{k:Nat}(hk:k<=100):lR [zr F,nT p,zj q,nT k]=↑(.bl (tp F p q k)):=by
 have hl:=mv (is:=[4,5,6,7]) (g:=xi 4 (zU (zu 4) (zU (zu 5) (zU (zu 6) (zU (zu 7) xr))))) (b:=eW) yE (λ s=>.bl (decide ((k:Int)*s.gv<=zO s.pu q))) (λ s:Sl=>decide (s.p=p)) (lx F p q k none none none none) F.ss (lx F p q k none none none none) rfl λ s hs=>#[lx F p q k (im (nT s.p)) (im (.int (yP s.pu))) (im (.int s.gv)) (im (.int s.gt)),rfl,by
  have hq:=eq_int (s.p:Int) (p:Int) false;have hm:xb (nT k) (.int s.gv)=↑(.int (k*s.gv)):=md (.inl #[⋯,⋯]);change eW (lx F p q k (im (nT s.p)) (im (.int (yP s.pu))) (im (.int s.gv)) (im (.int s.gt)))=_;by_cases h:s.p=p
  .rw[za2 (show (s.p:Int)=p by rw[h])] at hq;rw[if_pos (za2 h)];show uC (yr (zk rfl rfl hq)) (sS (zk (zk rfl rfl hm) (zk rfl rfl (Tx q s.pu)) rfl))
  .rw[za3 (show ¬(s.p:Int)=p by lia)] at hq;rw[if_neg (by simp[h])];show xk (yr (zk rfl rfl hq)) rfl]
 have Au:xt (nT k) (.int 0)=↑(.bl false):=congrArg (λ b=>↑(T.bl b)) (za3 ⋯);have pre:∀ o,_->WO (lx F p q k none none none none)=o:=λ o h=>zI (xk (rW rfl (rW rfl (yr (zk rfl rfl Au)))) rfl) h;have fr:=rn (f:=yX (za zg (zc 0) (cI 3))) (by change (za zg _ _ _).bind _=_;rw[zk rfl rfl (ZT F)];rfl) hl;unfold tp zt.Fo;generalize F.ss.find? _=o at *;cases o with
 | none=>show wN (pre _ (zI fr (sS (zk rfl rfl ((eq_int _ _ _).trans (congrArg (λ b=>↑(T.bl b)) (decide_eq_decide.mpr ⋯))))))) rfl
 | some s=>show wN (pre _ (og fr)) rfl
end
def aR {n:Nat}{f v:Ae}{ρ:Ev}{ts:List T}{z:T}{k:Int}{j:Nat}(hv:v ρ=↑z) (hf:f ρ=↑(.int k)) (h0:ρ[n]?=↑↑(.own (.lst ts))) (hj:wA ts.length k=↑j):mr n f v ρ=↑(.nx (ρ.set n ↑(.own (.lst (ts.set j z))))):=by
 change (v ρ).bind _=_;rw[hv];change (f ρ).bind _=_;rw[hf];dsimp only[Option.bind];rw[h0];dsimp only;rw[hj];rfl
section
variable {F:zt}
abbrev qp (F:zt) (p:Nat) (q:Int×Int) (k i:Nat) (x:Int×Int) (a b c d:Option W):Ev:=[im (zr F),im (nT p),im (zj q),im (nT k),im (nT i),↑(.own (.lst [.int x.1,.int x.2])),a,b,c,d]
theorem JF {p:Nat}{q x:Int×Int}{k i:Nat}(hk:k<=100) (s:Sl):∃ ρ',turn (xi 4 (zU (zu 6) (zU (zu 7) (zU (zu 8) (zU (zu 9) xr))))) jV (yE s) (qp F p q k i x none none none none)=↑(.nx ρ')/\yz [6,7,8,9] ρ'=qp F p q k i (if s.p=p/\0<k then uL F s q k else x) none none none none:=by
 have hq:=eq_int (s.p:Int) (p:Int) false;change ∃ ρ',jV (qp F p q k i x (im (nT s.p)) (im (.int (yP s.pu))) (im (.int s.gv)) (im (.int s.gt)))=↑(.nx ρ')/\_;by_cases h:s.p=p
 .rw[show decide ((s.p:Int)=(p:Int))=true from za2 (by rw[h])] at hq;have gt:rg (nT k) (.int 0)=↑(.bl (decide (0<(k:Int)))):=rfl;by_cases hk0:0<k
  .rw[za2 ⋯] at gt;have m:∀ j,xb (nT k) (.int j)=↑(.int ((k:Int)*j)):=λ j=>md (.inl #[⋯,⋯]);obtain⟨j,j',y,a1,a2,a3,a4,a5,a6,a7⟩:∃ (j j':Nat) (y:Int×Int),wA 2 (yP s.pu)=↑j/\wA 2 (1-yP s.pu)=↑j'/\([T.int x.1,T.int x.2].set j (.int (zO s.pu q-(k:Int)*s.gv)))=[T.int y.1,T.int y.2]/\[T.int y.1,T.int y.2].set j' (.int (min (yt s.pu q+(k:Int)*s.gt) (F.zy (!s.pu))))=[T.int (uL F s q k).1,T.int (uL F s q k).2]/\L2.zM [T.int q.1,T.int q.2] (yP s.pu)=↑(.int (zO s.pu q))/\L2.zM [T.int q.1,T.int q.2] (1-yP s.pu)=↑(.int (yt s.pu q))/\L2.zM [T.int F.A,T.int F.B] (1-yP s.pu)=↑(.int (F.zy (!s.pu))):=by
    unfold uL;cases s.pu
    .show#[0,1,(q.1-(k:Int)*s.gv,x.2),rfl,rfl,rfl,rfl,rfl,rfl,rfl]
    .show#[1,0,(x.1,q.2-(k:Int)*s.gv),rfl,rfl,rfl,rfl,rfl,rfl,rfl]
   rw[if_pos #[h,hk0]];have e1:=aR (n:=5) (f:=zc 7) (v:=za yw (za zg (zc 2) (zc 7)) (za xb (zc 3) (zc 8))) (ρ:=qp F p q k i x (im (nT s.p)) (im (.int (yP s.pu))) (im (.int s.gv)) (im (.int s.gt))) (zk (zk rfl rfl a5) (zk rfl rfl (m s.gv)) rfl) rfl rfl a1;rw[a3] at e1;have sb:∀ y,za yw (cI 1) (zc 7) (qp F p q k i y (im (nT s.p)) (im (.int (yP s.pu))) (im (.int s.gv)) (im (.int s.gt)))=↑(.int (1-yP s.pu)):=λ y=>zk rfl rfl rfl;have e2:=aR (n:=5) (z:=.int (min (yt s.pu q+(k:Int)*s.gt) (F.zy (!s.pu)))) (v:=zq vi (zb (za zg (za zg (zc 0) (cI 0)) (za yw (cI 1) (zc 7))) (zb (za zY (za zg (zc 2) (za yw (cI 1) (zc 7))) (za xb (zc 3) (zc 9))) ze))) (yo (zK (zk (zk rfl rfl (mN F)) (sb y) a7) (zK (zk (zk rfl (sb y) a6) (zk rfl rfl (m s.gt)) rfl) rfl)) (by
    change ↑(T.int (if yt s.pu q+(k:Int)*s.gt<F.zy (!s.pu) then yt s.pu q+(k:Int)*s.gt else F.zy (!s.pu)))=_;rw[mi,Int.min_comm])) (sb y) rfl a2
   rw[a4] at e2;show#[_,uC (qq (yr (zk rfl rfl hq)) (yr (zk rfl rfl gt))) (zI e1 e2),rfl]
  .rw[za3 ⋯] at gt;rw[if_neg (λ z=>hk0 z.2)];show#[_,xk (qq (yr (zk rfl rfl hq)) (yr (zk rfl rfl gt))) rfl,rfl]
 .rw[show decide ((s.p:Int)=(p:Int))=false from za3 ⋯] at hq;rw[if_neg (λ z=>h z.1)];show#[_,xk (lE (yr (zk rfl rfl hq))) rfl,rfl]
theorem cT:∀ {ss:List Sl},ss.Pairwise (λ a b=>a.p≠b.p)->∀ {s s':Sl},s∈ss->s'∈ss->s.p=s'.p->s=s'
 | [],_,_,_,h,_,_=>by cases h
 | a::l,hp,s,s',h,h',e=>by
  let#[h1,h2]:=Bs.mp hp;rcases Am.mp h with r1 | r1
  .rcases Am.mp h' with r2 | r2
   .rw[r1,r2]
   .show absurd (r1▸e) (h1 s' r2)
  .rcases Am.mp h' with r2 | r2
   .show absurd (r2▸e.symm) (h1 s r1)
   .show cT h2 r1 r2 e
theorem K_ (ok:F.Ok) (pw:F.ss.Pairwise (λ a b=>a.p≠b.p)) {p:Nat}{q r:Int×Int}(hq:yv F q) {k:Nat}(hr:(wY F p q)[k]?=↑r):(k=0->r=q)/\(0<k->∃ s∈F.ss,s.p=p/\r=uL F s q k):=by
 exact#[λ e=>?_,λ e=>?_]
 .subst e;rw[jF] at hr;cases hr;rfl
 .unfold wY at hr;cases h:F.Fo p with
  | none=>
   rw[h] at hr;obtain⟨k,rfl⟩:∃ j,k=j+1:=#[k-1,⋯];cases hr
  | some s=>
   rw[h] at hr;let#[h1,h2]:=gk h;have hs:=ok.ss s h1;have hg:=vj (pu:=s.pu).mp hq;have:=YQ ok s.pu;dsimp only at hr;rw[jH hs 20 hq ⋯ k] at hr;split at hr
   .cases hr;show#[s,h1,h2,rfl]
   .cases hr
def Iu (ok:F.Ok) (pw:F.ss.Pairwise (λ a b=>a.p≠b.p)) {p:Nat}{q r:Int×Int}(hq:yv F q) {k i:Nat}{w:Wy}(hk:k<=100) (hr:(wY F p q)[k]?=↑r) (hw:F.ws[i]?=↑w):
  dH [zr F,.int (p:Int),zj q,.int (k:Int),.int (i:Int)]=↑(xA (wq F r w)):=by
 let#[c1,c2]:=K_ ok pw hq hr;let#[ρ',g1,x,g2,g3]:=v5 (is:=[6,7,8,9]) (g:=xi 4 (zU (zu 6) (zU (zu 7) (zU (zu 8) (zU (zu 9) xr))))) (b:=jV) yE
  (λ pre ρ=>∃ x,ρ=qp F p q k i x none none none none/\((x=q/\∀ s∈pre,¬ (s.p=p/\0<k))\/∃ s∈pre,s.p=p/\0<k/\x=uL F s q k)) F.ss (qp F p q k i q none none none none) #[q,rfl,.inl #[rfl,nofun]] (by
   rintro pre s post e ρ ⟨x,rfl,hx⟩;let#[ρ',h1,h2]:=JF (F:=F) (p:=p) (q:=q) (x:=x) (i:=i) hk s;exact#[ρ',h1,_,h2,?_];by_cases c:s.p=p/\0<k
   .rw[if_pos c];show .inr #[s,#[],c.1,c.2,rfl]
   .rw[if_neg c];rcases hx with ⟨e1,e2⟩ | ⟨s',e1,e2⟩
    .exact .inl #[e1,λ y hy=>?_];rcases A5.mp hy with hy | hy
     .show e2 y hy
     .cases AH.mp hy;show c
    .show .inr #[s',Ct _ e1,e2])
 have hx:x=r:=by
  rcases DA k with k0 | k0
  .rcases g3 with ⟨e,_⟩ | ⟨_,_,_,z,_⟩
   .rw[e,c1 k0]
   .lia
  .let#[s,a1,a2,a3]:=c2 k0;rcases g3 with ⟨_,e⟩ | ⟨s',b1,b2,_,b3⟩
   .show absurd #[a2,k0] (e s a1)
   .rw[b3,a3,cT pw b1 a1 (by rw[b2,a2])]
 subst hx g2;have f0:=mN F;have f2:=pb F;have h2:L2.zM (F.ws.map yc) (i:Int)=↑(yc w):=xR (by rw[AD,hw];rfl);have lt:xt (.int (if x.2+w.b<x.1+w.a then x.2+w.b else x.1+w.a)) (.int 0)=↑(.bl (decide ((if x.2+w.b<x.1+w.a then x.2+w.b else x.1+w.a)<0))):=rfl;have pre:∀ o,_->WQ [im (zr F),im (nT p),im (zj q),im (nT k),im (nT i),none,none,none,none,none]=o:=λ o h=>
  zI (ρ':=qp F p q k i q none none none none) rfl (zI (rn (ts:=F.ss.map yE) (by change (za zg _ _ _).bind _=_;rw[zk rfl rfl (ZT F)];rfl) g1) (zI (ρ':=[im (zr F),im (nT p),im (zj q),im (nT k),im (nT i),im (zj (x.1+w.a,x.2+w.b)),none,none,none,none]) (by
   change (tupS _ _).bind _=_;rw[vU (zK (zk (zk rfl rfl uk) (zk (zk (zk rfl rfl f2) rfl h2) rfl JL) rfl) (zK (zk (zk rfl rfl su) (zk (zk (zk rfl rfl f2) rfl h2) rfl JK) rfl) rfl)) (of_decide_eq_true rfl)];rfl) h))
 unfold wq tJ;by_cases c:x.1+w.a<0\/x.2+w.b<0
 .rw[za2 (by split <;> lia)] at lt;rw[if_pos c];show wN (pre _ (og (uC (yr (zk (yo rfl rfl) rfl lt)) rfl))) rfl
 .rw[za3 (by split <;> lia)] at lt;rw[if_neg c];have mn:∀ a b:Int,vi [.int a,.int b]=↑(.int (min a b)):=λ a b=>by
   change ↑(T.int (if b<a then b else a))=_;rw[mi]
  show wN (pre _ (zI (xk (yr (zk (yo rfl rfl) rfl lt)) rfl) (sS (vU (zK (zk (zk (zk rfl rfl f2) rfl h2) rfl su) (zK (vU (zK (yo (zK (zk rfl rfl uk) (zK (zk (zk rfl rfl f0) rfl uk) rfl)) (mn _ _)) (zK (yo (zK (zk rfl rfl su) (zK (zk (zk rfl rfl f0) rfl su) rfl)) (mn _ _)) rfl)) (of_decide_eq_true rfl)) rfl)) (of_decide_eq_true rfl))))) rfl
def qj (x:Nat×Nat):T:=.tup [.int (0+(x.1:Int)),.int (0+(x.2:Int))]
def Vq (p:Nat):(vb F p).length<=F.ws.length:=AY (CK _ _) (by rw[CB];show Aj _)
def Lf {p i:Nat}(h:i∈vb F p):qc false (nT i) (.lst ((vb F p).map λ k:Nat=>T.int (0+(k:Int))))=↑(.bl true):=by
 simp![BK];rw[Z9,List.contains_iff_mem.mpr h]
def Iv (hl:F.ws.length<=60) {p:Nat}{q:Int×Int}{k i:Nat}(hk:k<=100) (hc:tp F p q k=true) (hi:i∈vb F p):i7 [zr F,nT p,zj q,.tup [nT k,nT i]]=↑(.bl true):=by
 have h1:=XG (F:=F) (p:=p) (q:=q) hk;rw[hc] at h1;show wN (zI (xk (rW (oz (b:=true) rfl) (rW (yr (zk rfl rfl (eq_int 2 2 true))) (oz (pX (yo (zK rfl (zK rfl (zK rfl (zK (zk rfl rfl uk) rfl)))) h1))))) rfl) (zI (xk (rW (oz (b:=true) rfl) rfl) rfl) (sS (zk (zk rfl rfl su) (yo rfl (XF hl p)) (Lf hi))))) rfl
theorem YJ {p:Nat}{q:Int×Int}(hq:yv F q):tp F p q 0=true:=by
 unfold tp;cases h:F.Fo p with
 | none=>rfl
 | some s=>
  have:=(vj (pu:=s.pu).mp hq).1.1;show za2 ⋯
def u7 {i j:Int}(h:0<j):ya (.int i) (.int j)=↑(.int (i%j)):=if_pos h
theorem mf (c:Int) {n:Nat}(h:0<n):∃ p:Nat,p<n/\ya (.int c) (nT n)=↑(nT p):=by
 have m0:=Bz c (b:=(n:Int)) ⋯;have m1:=BM c (b:=(n:Int)) ⋯;exact#[(c%(n:Int)).toNat,⋯,?_];unfold nT;rw[u7 ⋯,show (((c%(n:Int)).toNat:Nat):Int)=c%(n:Int) by lia]
abbrev qa (F:zt) (p:Nat) (q:Int×Int) (c:Int) (l:List (Nat×Nat)) (k:Option W):Ev:=[im (zr F),im (nT p),im (zj q),im (.int c),↑(.own (.lst (l.map qj))),k]
def Ir (ok:F.Ok) (gw:∀ x<F.os.length,∃ w∈F.ws,w.f=x) {p:Nat}(hp:p<F.os.length) {q:Int×Int}(hq:yv F q) (c:Int):
  ∃ k i:Nat,i9 [zr F,nT p,zj q,.int c]=↑(.tup [nT k,nT i])/\k<=12/\tp F p q k=true/\i∈vb F p:=by
 have wl:=ok.tE;have wI:=Vq (F:=F) p;let#[w,hw,hf]:=gw p hp;let#[i0,hi0]:=B_.mp hw;have ne:i0∈vb F p:=iQ.mpr #[w,hi0,hf];let#[ρ',g1,l,g2,g3,g4,g5]:=v5 (is:=[5]) (g:=zu 5) (b:=eV) (λ k:Nat=>T.int (0+(k:Int)))
  (λ pre ρ=>∃ l:List (Nat×Nat),ρ=qa F p q c l none/\(∀ x∈l,x.1<=12/\tp F p q x.1=true/\x.2∈vb F p)/\l.length<=60*pre.length/\(pre≠[]->l≠[]))
  (List.range 13) (qa F p q c [] none) #[[],rfl,nofun,#[],λ z=>absurd rfl z] (by
   rintro pre k post e ρ ⟨l,rfl,h1,h2,h3⟩;have Ao:pre.length+1+post.length=13:=by
    have:=congrArg List.length e;simp at this;lia
   have hkp:k=pre.length:=by
    have:=congrArg (λ l=>l[pre.length]?) e;simp at this;rw[Dx ⋯] at this;cases this;rfl
   have hc:zq lR (zb (zh 0) (zb (zh 1) (zb (zh 2) (zb (zh 5) ze)))) (qa F p q c l (im (.int (0+(k:Int)))))=↑(.bl (tp F p q k)):=yo rfl (by rw[BK];show XG ⋯);have hcomp:eP (qa F p q c l (im (.int (0+(k:Int)))))=↑(.lst ((vb F p).map λ i=>qj (k,i))):=by
    exact tS (λ i:Nat=>T.int (0+(i:Int))) (λ i=>qj (k,i)) (vb F p) ?_ (AY (AY wI wl) ()) λ i _=>rfl;change (zq lO _ _).bind xU=_;rw[yo rfl (XF wl p)];rfl
   change ∃ ρ',eV (qa F p q c l (im (.int (0+(k:Int)))))=↑(.nx ρ')/\_;cases hb:tp F p q k with
   | false=>
    rw[hb] at hc;exact#[_,xk (pX hc) rfl,l,rfl,h1,by simp;lia,λ _=>h3 λ z=>?_];rw[z] at hkp;rw[hkp,show ([]:List Nat).length=0 from rfl,YJ hq] at hb;cases hb
   | true=>
    rw[hb] at hc;have hsz:(l.map qj).length+((vb F p).map λ i=>qj (k,i)).length<=sizeLine:=by
     rw[AA,AA];show AY (AY (Nat.add_le_add h2 (AY wI wl)) (Nat.add_le_add_right (Nat.mul_le_mul_left 60 (show pre.length<=12 by lia)) 60)) ()
    exact#[qa F p q c (l++(vb F p).map λ i=>(k,i)) (im (.int (0+(k:Int)))),uC (pX hc) ?_,l++(vb F p).map λ i=>(k,i),rfl,λ x hx=>?_,?_,λ _ z=>?_]
    .change (eP _).bind _=_;rw[hcomp];change (if _ then _ else _)=_;rw[if_pos hsz];unfold qa;rw[BH,A2];rfl
    .rcases A5.mp hx with hx | hx
     .show h1 x hx
     .let#[i,hi,rfl]:=Aq.mp hx;show#[by dsimp only;lia,hb,hi]
    .rw[BI,BI,AA];simp;lia
    .have:(k,i0)∈l++(vb F p).map λ i=>(k,i):=A_ _ (Aq.mpr #[i0,ne,rfl]);rw[z] at this;cases this)
 subst g2;let#[j,hj,hm]:=mf c (D3.mpr (g5 #[]));let#[a1,a2,a3]:=g3 l[j] (Bl hj);exact#[l[j].1,l[j].2,?_,a1,a2,a3];have Cu:L2.zM (l.map qj) (j:Int)=↑(.tup [nT l[j].1,nT l[j].2]):=xR (by rw[AD,AR hj];simp[qj]);show wN (zI (ρ':=qa F p q c [] none) rfl (zI (rn (uR 13 ()) g1) (sS (zk rfl (zk rfl (yo rfl (y:=nT l.length) (by change ↑(T.int ((l.map qj).length:Int))=_;rw[AA])) hm) Cu)))) rfl
def Yn {i j:Int}(h:0<j/\j<1073741824):xf (.int i) (.int j)=↑(.int (i/j)):=if_pos (show wz i j from h)
def mE {x y:Int}(h1:0<=x) (h2:x<=F.A) (h3:0<=y) (h4:y<=F.B):yv F (x,y):=#[#[h1,h2],h3,h4]
def Ze {α:Type}(f:α->T) (l:List α):wU [.tup (l.map f)]=↑(nT l.length):=by
 change ↑(T.int ((l.map f).length:Int))=_;rw[AA]
theorem aN (c:Int) {A:Int}(h:0<=A):∃ x,(0<=x/\x<=A)/\ya (.int c) (.int (A+1))=↑(.int x):=by
 have m0:=Bz c (b:=A+1) ⋯;have m1:=BM c (b:=A+1) ⋯;show#[_,#[m0,⋯],u7 ⋯]
def Io (ok:F.Ok) {l:List Bd}(hl:l.length=F.os.length) (hg:∀ b∈l,Gd F.A F.B b) (c:Int):
  ∃ (p:Nat) (q:Int×Int),dF [zr F,rT l,.int c]=↑(xA ↑(p,q))/\p<F.os.length/\yv F q:=by
 let#[p,pl,hp]:=mf c ok.n1;let#[x,hx,mx]:=aN (c/10) ok.a0;let#[y,hy,my]:=aN (c/1000) ok.b0;have gb:=hg (l.getD p []) (by rw[AX,AR ⋯];show Bl _);have f0:=mN F;have ir:=oH l p ⋯;have ne:=aK (l.getD p []) [];generalize l.getD p []=b at *;have d:∀ j:Int,0<j/\j<1073741824->xf (.int c) (.int j)=↑(.int (c/j)):=λ j h=>Yn h;have pre:∀ o,_->cp [im (zr F),im (rT l),im (.int c),none,none,none,none,none]=o:=λ o h=>
  zI (xp (zk rfl (yo (zK (zk rfl rfl (jt F)) rfl) (Ze _ _)) hp)) (zI (xp (vU (zK (zk (zk rfl rfl (d 10 ())) (zk (zk (zk rfl rfl f0) rfl uk) rfl rfl) mx) (zK (zk (zk rfl rfl (d 1000 ())) (zk (zk (zk rfl rfl f0) rfl su) rfl rfl) my) rfl)) (of_decide_eq_true rfl))) (zI (xp (zk rfl rfl ir)) h))
 suffices h:∃ q,cp [im (zr F),im (rT l),im (.int c),none,none,none,none,none]=↑(.rt (xA ↑(p,q)))/\yv F q by
  let#[q,h1,h2]:=h;show#[p,q,wN h1 rfl,pl,h2]
 have t2:=zk (f:=rg) (fb:=cS (.int 0)) (zk (fa:=za xf (zc 2) (cI 100000)) (ρ:=[im (zr F),im (rT l),im (.int c),im (nT p),im (zj (x,y)),im (bT b),none,none]) (f:=ya) (fb:=cS (.int 3)) (zk rfl rfl (d 100000 ())) rfl (u7 ())) rfl (r:=↑(.bl (decide (0<c/100000%3)))) rfl;by_cases hb0:b=[]
 .rw[za3 (by simp[hb0])] at ne;show#[(x,y),pre _ (zI (xk (lE (yr (zk rfl rfl ne))) rfl) rfl),mE hx.1 hx.2 hy.1 hy.2]
 rw[za2 hb0] at ne;by_cases hc3:0<c/100000%3
 .rw[za2 hc3] at t2;let#[j,jl,hj]:=mf (c/10 ^ 6) (D3.mpr hb0);have bi:L2.zM (b.map zj) (j:Int)=↑(zj b[j]):=xR (by rw[AD,AR jl];rfl);have gi:=gb.xM b[j] (Bl jl);generalize b[j]=r at *;have dd:∀ k:Nat,k<=1000->(0:Int)<10 ^ k/\(10:Int) ^ k<1073741824->∃ e,(0<=e/\e<=1)/\∀ ρ:Ev,ρ[2]?=↑(im (.int c))->za xf (za ya (za xf (zc 2) (za xj (cI 10) (cS (nT k)))) (cI 5)) (cI 4) ρ=↑(.int e):=λ k hk hd=>#[c/10 ^ k%5/4,⋯,fun ρ h=>
   zk (zk (zk (show zc 2 ρ=↑(.int c) by unfold zc;rw[h]) (zk rfl rfl (ot k hk)) (d _ hd)) rfl (u7 ())) rfl (Yn ())]
  let#[e8,h8,k8]:=dd 8 () ();let#[e9,h9,k9]:=dd 9 () ();exact#[(if 0<r.1-e8 then r.1-e8 else 0,if 0<r.2-e9 then r.2-e9 else 0),pre _ (zI (uC (qq (yr (zk rfl rfl ne)) (yr t2)) (zI (nF (zk rfl (zk (zk rfl (zk rfl rfl (ot 6 ())) (d _ ())) (yo rfl (Ze _ _)) hj) bi) rfl) (xp (vU (zK (yo (zK rfl (zK (zk rfl (k8 _ rfl) rfl) rfl)) rfl) (zK (yo (zK rfl (zK (zk rfl (k9 _ rfl) rfl) rfl)) rfl) rfl)) (of_decide_eq_true rfl))))) rfl),?_];show mE (by split <;> lia) (by split <;> lia) (by split <;> lia) (by split <;> lia)
 .rw[za3 hc3] at t2;show#[(x,y),pre _ (zI (xk (qq (yr (zk rfl rfl ne)) (yr t2)) rfl) rfl),mE hx.1 hx.2 hy.1 hy.2]
end
def oY:List (Int×Int):=[(-1,0),(0,-1),(1,-1),(-1,1),(-1,1),(1,-2),(0,0),(-1,-1)]
abbrev uw (c:Int) (xs:List Int) (rows:List (List Int)) (a b d e:Option W):Ev:=[im (.int c),im (.lst (xs.map T.int)),im (.lst (oY.map zj)),↑(.own (.lst (rows.map z_))),a,b,d,e,none]
theorem Ut (c:Int) (xs:List Int) (hx:xs.length=14) (x k:Nat) (HU:x<2) (hk:k<3) (rows:List (List Int)) (hl:rows.length<=100):∃ r a b,(vc 2 r/\r.head?=↑(x:Int))/\turn (zu 5) lB (.int (0+(k:Int))) (uw c xs rows (im (.int (0+(x:Int)))) none none none)=↑(.nx (uw c xs (rows++[r]) (im (.int (0+(x:Int)))) (im (.int (0+(k:Int)))) a b)):=by
 let#[v1,h1]:=ra (xs:=xs) (j:=6*x+2*k) ⋯;let#[v2,h2]:=ra (xs:=xs) (j:=6*x+2*k+1) ⋯;have m:∀ (i j:Nat),i<10->xb (nT i) (.int (0+(j:Int)))=↑(nT (i*j)):=λ i j h=>by
  rw[BK];show md (.inl #[⋯,⋯])
 let#[j,j8,hj]:=mf v1 (n:=8) ();let#[t,t2,ht]:=mf v2 (n:=2) ();obtain⟨⟨a,b⟩,hr,hc⟩:∃ r∈oY,L2.zM (oY.map zj) (j:Int)=↑(zj r):=#[oY[j]'(by show j8),Bl _,xR (by rw[AD,AR (by show j8)];rfl)];have BF:(-12<=a/\a<=12)/\-12<=b/\b<=12:=by
  have:oY.all (λ r=>decide ((-12<=r.1/\r.1<=12)/\-12<=r.2/\r.2<=12))=true:=()
  show of_decide_eq_true (BA.mp this _ hr)
 exact#[[(x:Int),(t:Int),a,b],im (.int a),im (.int b),#[#[x,t,a,b,rfl,HU,t2,BF],rfl],?_];change lB (uw c xs rows (im (.int (0+(x:Int)))) (im (.int (0+(k:Int)))) none none)=_;have ad:∀ y z:Nat,zY (nT y) (nT z)=↑(nT (y+z)):=λ _ _=>rfl;exact Eq.trans (b:=↑(.nx _)) (zI (nF (zk rfl (zk (zk rfl (zk (zk rfl rfl (m 6 x ())) (zk rfl rfl (m 2 k ())) (ad _ _)) h1) rfl hj) hc) rfl) (JN rfl (vU (zK rfl (zK (zk (zk rfl (zk (zk (zk rfl rfl (m 6 x ())) (zk rfl rfl (m 2 k ())) (ad _ _)) rfl (ad _ 1)) h2) rfl ht) rfl)) (of_decide_eq_true rfl)) (by rw[AA];lia))) ?_;simp![BK];unfold uw;rw[BH];rfl
def Uu (c:Int) (xs:List Int) (hx:xs.length=14) (x:Nat) (HU:x<2) (rows:List (List Int)) (hl:rows.length<=50) (hr:∀ r∈rows,vc 2 r):
  ∃ E4,xu [5,6,7] (zu 5) lB ((List.range 3).map λ(k:Nat)=>T.int (0+(k:Int))) (uw c xs rows (im (.int (0+(x:Int)))) none none none)=↑(.nx (uw c xs E4 (im (.int (0+(x:Int)))) none none none))/\E4.length=rows.length+3/\(∀ r∈E4,vc 2 r)/\(∀ r∈rows,r∈E4)/\∃ r∈E4,r.head?=↑(x:Int):=by
 let#[ρ',g1,E4,g2,g3,g4,g5,g6]:=v5 (is:=[5,6,7]) (g:=zu 5) (b:=lB) (λ k:Nat=>T.int (0+(k:Int)))
  (λ pre ρ=>∃ E4:List (List Int),ρ=uw c xs E4 (im (.int (0+(x:Int)))) none none none/\E4.length=rows.length+pre.length/\(∀ r∈E4,vc 2 r)/\(∀ r∈rows,r∈E4)/\(0<pre.length->∃ r∈E4,r.head?=↑(x:Int)))
  (List.range 3) (uw c xs rows (im (.int (0+(x:Int)))) none none none) #[rows,rfl,rfl,hr,λ _ h=>h,λ h=>absurd h (BN 0)] (by
   rintro pre k post e ρ ⟨E4,rfl,h1,h2,h3,h4⟩;have Ao:pre.length+1+post.length=3:=by
    have:=congrArg List.length e;simp at this;lia
   have hk:k<3:=AG.mp (by rw[e];simp);let#[r,a,b,#[k1,k2],k3]:=Ut c xs hx x k HU hk E4 ⋯;exact#[_,k3,E4++[r],rfl,by simp;lia,λ y hy=>?_,λ y hy=>Ct _ (h3 y hy),λ _=>#[r,#[],k2]];rcases A5.mp hy with hy | hy
   .show h2 y hy
   .cases AH.mp hy;show k1)
 subst g2;show#[E4,g1,g3,g4,g5,g6 ()]
theorem Ip (c:Int):∃ F:zt,dG [.int c]=↑(zr F)/\F.Ok/\F.ss=[]/\∀ x<F.os.length,∃ w∈F.ws,w.f=x:=by
 let#[xs,Eg,hx]:=XA c 14 ();let#[ρ',g1,rows,g2,g3,g4,g5]:=v5 (is:=[4,5,6,7]) (g:=zu 4) (b:=Xi) (λ k:Nat=>T.int (0+(k:Int)))
  (λ pre ρ=>∃ rows:List (List Int),ρ=uw c xs rows none none none none/\rows.length=3*pre.length/\(∀ r∈rows,vc 2 r)/\∀ x∈pre,∃ r∈rows,r.head?=↑((x:Nat):Int))
  (List.range 2) (uw c xs [] none none none none) #[[],rfl,rfl,nofun,nofun] (by
   rintro pre x post e ρ ⟨rows,rfl,h1,h2,h3⟩;have Ao:pre.length+1+post.length=2:=by
    have:=congrArg List.length e;simp at this;lia
   have HU:x<2:=AG.mp (by rw[e];simp);let#[E4,k1,k2,k3,k4,k5]:=Uu c xs hx x HU rows ⋯ h2;exact#[uw c xs E4 (im (.int (0+(x:Int)))) none none none,?_,E4,rfl,by simp;lia,k3,λ y hy=>?_]
   .show rn (f:=xc xW (zb (cI 3) ze)) (uR 3 ()) k1
   .rcases A5.mp hy with hy | hy
    .let#[r,r1,r2]:=h3 y hy;show#[r,k4 r r1,r2]
    .cases AH.mp hy;show k5)
 subst g2;have r0:rows≠[]:=λ z=>by
  rw[z] at g3;simp at g3
 let#[ws,w1,w2,w3,w4,w5]:=cU (many:=2) rows r0 (by rw[g3];decide) g4;have wl:ws.length<=6:=AY w2 (by rw[g3];decide);let#[v1,h1]:=ra (xs:=xs) (j:=12) ⋯;let#[v2,h2]:=ra (xs:=xs) (j:=13) ⋯;have own:∀ v:Int,∃ b:Bool,L2.zM [T.str "keeper",T.str "taker"] (v%2)=↑(kt b):=λ v=>by
  rcases (show v%2=0\/v%2=1 by lia) with h | h
  .rw[h];show#[true,uk]
  .rw[h];show#[false,su]
 let#[o1,e1]:=own v1;let#[o2,e2]:=own v2;exact#[#[7,7,[o1,o2],ws,[]],?_,#[of_decide_eq_true rfl,of_decide_eq_true rfl,of_decide_eq_true rfl,of_decide_eq_true rfl,of_decide_eq_true rfl,of_decide_eq_true rfl,λ w hw=>(w3 w hw).1,by dsimp only;lia,nofun,.inl rfl,of_decide_eq_true rfl],rfl,λ x hx=>?_]
 .show wN (zI (xp (yo (xs:=[.int c,nT 14]) rfl Eg)) (zI (xp (y:=.lst (oY.map zj)) rfl) (zI (ρ':=uw c xs [] none none none none) rfl (zI (rn (uR 2 ()) g1) (zI (xp (vU (zK (zk rfl (zk (zk rfl rfl h1) rfl (u7 ())) e1) (zK (zk rfl (zk (zk rfl rfl h2) rfl (u7 ())) e2) rfl)) (of_decide_eq_true rfl))) (sS (vU (zK rfl (zK rfl (zK (yo (zK (yo rfl w1) rfl) rfl) rfl))) (of_decide_eq_true rfl)))))))) rfl
 .let#[r,y1,y2]:=g5 x (AG.mpr hx);let#[f,t,a,b,rfl,hf,ht,_]:=g4 r y1;exact#[#[f,t,a,b],(w4 _).mpr y1,?_];have:(f:Int)=(x:Int):=by exists y2
  dsimp only;lia
theorem UO {F:zt}(ok:F.Ok) (gw:∀ x<F.os.length,∃ w∈F.ws,w.f=x) (pw:F.ss.Pairwise (λ a b=>a.p≠b.p)):∃ m,m<=2000/\sH [zr F]=↑(yO (zV F m))/\uN F m:=by
 let#[more,hr,hn,DR,hR]:=Ii ok;have n1:=ok.n1;have Av:List.range F.os.length≠[]:=λ h=>by
  have h2:=congrArg List.length h;rw[CB] at h2;rw[h2] at n1;show absurd n1 ()
 let#[m,e,AU]:=b7 ok gw 2000 [] 0 (List.range F.os.length) _ (St.start ok) Av rfl hR;have ht:RN.start F::more=zV F m:=e;have el:=congrArg List.length ht;rw[nE] at el;rw[ht] at hr hn;have hgk:∀ k,k<=m->∀ b∈zG F k,Gd F.A F.B b:=λ k hk=>(hn (zG F k) (Aq.mpr #[k,AG.mpr ⋯,rfl])).2;show#[m,by simp at el;lia,hr,LV ok pw (hgk m (Aj _)) AU,hgk]
section
variable {F:zt}{m:Nat}
def ik (F:zt) (st:Sd):Prop:=∀ x,st=↑x->x.1<F.os.length/\yv F x.2
def KY (ok:F.Ok) {p:Nat}{q r:Int×Int}(hq:yv F q) (h:r∈wY F p q):yv F r:=by
 unfold wY at h;cases e:F.Fo p with
 | none=>rw[e] at h;cases AH.mp h;show hq
 | some s=>rw[e] at h;show jG (ok.ss s (gk e).1) 20 hq r h
def JG (ok:F.Ok) {r:Int×Int}(hr:yv F r) {w:Wy}(hw:w∈F.ws):ik F (wq F r w):=λ x e=>by
 unfold wq at e;let#[y,h1,rfl]:=AE.mp e;exact#[(ok.ws w hw).2,?_];unfold tJ at h1;have:=ok.a0;have:=ok.b0;split at h1
 .cases h1
 .cases h1;show mE ⋯ ⋯ ⋯ ⋯
theorem Zk (hk:k<=m) (k1:1<=k) {r:Int×Int}{w:Wy}(h:yW F (zG F (k-1)) r w=false):∃ j<k,vH F m (wq F r w)=↑j:=by
 unfold yW at h;unfold wq;cases e:tJ F r w with
 | none=>show#[0,k1,rfl]
 | some x=>
  rw[e] at h;let#[j,j1,j2]:=Kv (F:=F) (m:=m) (k:=k-1) ⋯ h;show#[j,⋯,j2]
theorem MM (R:uN F m) {p:Nat}(hp:p<F.os.length) (ho:F.os.getD p false=true) {q r:Int×Int}(hq:yv F q) {k:Nat}(hd:wD (zV F m) p q=↑k) (hr:r∈wY F p q) {w:Wy}(hw:w∈F.ws) (hf:w.f=p):∃ j<k,vH F m (wq F r w)=↑j:=by
 let#[h1,h2]:=j7 hd;have k1:1<=k:=Nat.pos_of_ne_zero λ z=>j9 hp hq (z▸hd);exact Zk h1 k1 ?_;have e:(zG F k).getD p []=y9 F (zG F (k-1)) p:=by
  obtain⟨j,rfl⟩:∃ j,k=j+1:=#[k-1,⋯];show oU (λ p=>y9 F (zG F j) p) F.os.length p [] hp
 rw[e,fg R.fx.ok (λ p=>R.jm ⋯ p) p hq] at h2;unfold mJ at h2;rw[if_pos ho] at h2;have h3:=Eb.mp h2 r hr;rw[Dr] at h3;have h4:=Eb.mp h3 w (A7.mpr #[hw,za2 hf]);exists h4
end
theorem aU {α:Type}{is:List Nat}{g:T->Ev->Option Ev}{b:Sm}(enc:α->T) (v:T) (I:List α->Ev->Prop):∀ (xs:List α) (pre:List α) (ρ:Ev),I pre (yz is ρ)->
  (∀ p x q,pre++xs=p++x::q->∀ ρ,I p ρ->turn g b (enc x) ρ=↑(.rt v)\/∃ ρ',turn g b (enc x) ρ=↑(.nx ρ')/\I (p++[x]) (yz is ρ'))->xu is g b (xs.map enc) ρ=↑(.rt v)\/∃ ρ',xu is g b (xs.map enc) ρ=↑(.nx ρ')/\I (pre++xs) ρ'
 | [],pre,ρ,h,_=>.inr #[yz is ρ,by rw[Bu,xu],by exists h]
 | x::xs,pre,ρ,h,hs=>by
  rcases hs pre x xs rfl _ h with h1 | ⟨ρ',h1,h2⟩
  .show .inl (by rw[Aw,jb,h1];rfl)
  .have ih:=aU enc v I xs (pre++[x]) ρ' h2 λ p y q e=>hs p y q (by rw[<- e];simp);rw[Aw,jb,h1];exists ih
def Yc (neg:Bool) (st:Sd):zP neg (xA st) (xA st)=↑(.bl (cond neg false true)):=by
 have h:dep (xA st)<=60:=by
  cases st with
  | none=>simp[xA,dep]
  | some x=>simp[xA,zj,dep,xZ]
 unfold zP;rw[if_pos #[h,h],eB];cases neg <;> rfl
theorem MC (b:Bool):zP false (kt b) (.str "taker")=↑(.bl (!b)):=by
 have h:(("keeper":Str) == ("taker":Str))=false:=()
 cases b
 .change zP false (.str "taker") (.str "taker")=_;simp[zP,dep,eqT]
 .change zP false (.str "keeper") (.str "taker")=_;simp[zP,dep,eqT,h]
section
variable {F:zt}{m:Nat}
abbrev hO (F:zt) (m:Nat) (st:Sd) (n:Nat):Option W:=↑(.own (.obj none "Taker" (hF F m st n)))
abbrev sT (F:zt) (m:Nat) (st:Sd) (n:Nat) (Hm cs:T) (a b c d e f:Option W):Ev:=
 [im (zr F),im (yO (zV F m)),a,b,im cs,hO F m st n,im (xA st),im Hm,im (nT n),c,d,e,f]
def K6 (R:uN F m) (gw:∀ x<F.os.length,∃ w∈F.ws,w.f=x) {p:Nat}{q:Int×Int}(hp:p<F.os.length) (hq:yv F q) {ρ:Ev}{n:Nat}{c:Int}(h0:ρ[0]?=↑(im (zr F))) (h2:ρ[2]?=↑(im (nT p))) (h3:ρ[3]?=↑(im (zj q))) (h5:ρ[5]?=↑(hO F m ↑(p,q) n)) (h9:ρ[9]?=↑(im (.int c))) (hl:ρ.length=13):
  ∃ (k i:Nat) (r:Int×Int) (w:Wy),(k<=100/\(wY F p q)[k]?=↑r/\F.ws[i]?=↑w)/\(∀ kk,wD (zV F m) p q=↑kk->∃ j<kk,vH F m (wq F r w)=↑j)/\
   zW (zD (za (zP false) (za zg (za zg (zc 0) (cI 1)) (zc 2)) (cS (.str "taker")))) (zo (k_ ["Taker"] "goes" 11 5 (cI 0) iC ze)
    (zW (xQ (y8 (zq i7 (zb (zh 0) (zb (zh 2) (zb (zh 3) (zb (zh 11) ze))))))) (retS (cS (.bl false))) zZ)) (zo (zA 11 (zq i9 (zb (zh 0) (zb (zh 2) (zb (zh 3) (zb (zh 9) ze))))))
    (rZ ["Taker"] "did" 5 iD (zb (za zg (zc 11) (cI 0)) (zb (za zg (zc 11) (cI 1)) ze)))) ρ
   = ↑(.nx ((ρ.set 5 (hO F m (wq F r w) (n+1))).set 11 (im (.tup [nT k,nT i])))):=by
 obtain⟨a0,a1,a2,a3,a4,a5,a6,a7,a8,a9,b0,b1,b2,rfl⟩:∃ a0 a1 a2 a3 a4 a5 a6 a7 a8 a9 b0 b1 b2,ρ=[a0,a1,a2,a3,a4,a5,a6,a7,a8,a9,b0,b1,b2]:=by
  match ρ,hl with
  | [a0,a1,a2,a3,a4,a5,a6,a7,a8,a9,b0,b1,b2],_=>show#[a0,a1,a2,a3,a4,a5,a6,a7,a8,a9,b0,b1,b2,rfl]
 cases h0;cases h2;cases h3;cases h5;cases h9;have tk:=MC (F.os.getD p false);cases ho:F.os.getD p false with
 | false=>
  rw[ho] at tk;let#[i,w,g1,g2,g3,g4]:=Iz R gw hp ho hq;exact#[0,i,q,w,#[(),jF F p q,g1],λ kk hk=>?_,uC (yr (zk (zk (zk rfl rfl (jt F)) rfl (gT hp)) rfl (by rw[ho];show tk))) (zI (Mi (a:=.int 0) (xs:=[]) rfl rfl yB rfl rfl (g4 n)) (xk (oz (pX (yo (xs:=[zr F,nT p,zj q,.tup [nT 0,nT i]]) rfl (Iv R.fx.ok.tE (AW 100) (YJ hq) (iQ.mpr #[w,g1,g2]))))) rfl))];show Zk (j7 hk).1 (Nat.pos_of_ne_zero λ z=>j9 hp hq (z▸hk)) (g3 kk hk)
 | true=>
  rw[ho] at tk;let#[k,i,d1,d2,d3,d4]:=Ir R.fx.ok gw hp hq c;let#[w,g1,g2]:=iQ.mp d4;rw[Jf R.fx.ok hq] at d3;let#[r,hr]:=C_.mp d3;show#[k,i,r,w,#[⋯,hr,g1],λ kk hk=>MM R hp ho hq hk (A9 hr) (A9 g1) g2,xk (yr (zk (zk (zk rfl rfl (jt F)) rfl (gT hp)) rfl (by rw[ho];show tk))) (zI (xp (yo rfl d1)) (mj (xs:=[nT k,nT i]) rfl yB rfl (zK (zk rfl rfl uk) (zK (zk rfl rfl su) rfl)) (IG (m:=m) (n:=n) R.fx.ok hp ho hq ⋯ hr g1 g2)))]
def T5 (R:uN F m) (hm:m<=2000) (gw:∀ x<F.os.length,∃ w∈F.ws,w.f=x) {st:Sd}(hs:ik F st) (n:Nat) {Hm:Option Nat}(hd:∀ d,Hm=↑d->∃ j,vH F m st=↑j/\j+n<=d) (cs:T) (c:Int):
  turn (zu 9) lC (.int c) (sT F m st n (xY Hm) cs none none none none none none)=↑(.rt (.bl true))\/∃ ρ',turn (zu 9) lC (.int c) (sT F m st n (xY Hm) cs none none none none none none)=↑(.nx ρ')/\
   ∃ GH,yz [2,3,9,10,11,12] ρ'=sT F m GH (n+1) (xY Hm) cs none none none none none none/\ik F GH/\∀ d,Hm=↑d->∃ j,vH F m GH=↑j/\j+(n+1)<=d:=by
 have hn:zP true (nT n) (nT n)=↑(.bl false):=by rw[eq_int,za2 rfl];rfl
 have pre:∀ o,_->lC (sT F m st n (xY Hm) cs none none (im (.int c)) none none none)=o:=λ o h=>zI (xk (rW (yr (zk (nN rfl yB rfl (rj rfl yB)) rfl (Yc true st))) (yr (zk (nN rfl yB rfl (oT rfl yB rfl)) rfl hn))) rfl) h;cases st with
 | none=>show .inl (pre _ (og (uC (yr (zk rfl rfl rfl)) rfl)))
 | some x=>
  let#[p,q]:=x;let#[hp,hq]:=hs _ rfl;exact .inr ?_;have d1:u_ (zD (za (yA true) (zc 7) (cS .zp))) (zD (za tT (zc 8) (zc 7))) (sT F m ↑(p,q) n (xY Hm) cs none none (im (.int c)) none none none)=↑false:=by
   cases Hm with
   | none=>show lE (yr (zk rfl rfl rfl))
   | some d=>
    let#[j,j1,j2]:=hd d rfl;have:j≠0:=λ z=>j9 hp hq (z▸j1);exact qq (yr (zk rfl rfl rfl)) (yr (zk rfl rfl ?_));change ↑(T.bl (decide ((d:Int)<=(n:Int))))=_;rw[za3 ⋯]
  let#[k,i,r,w,#[k1,k2,k3],k4,k5]:=K6 R gw hp hq (ρ:=sT F m ↑(p,q) n (xY Hm) cs (im (nT p)) (im (zj q)) (im (.int c)) (im (xY (vH F m ↑(p,q)))) (im (.tup [.int 0,.int 0])) none) rfl rfl rfl rfl rfl rfl;have sk:=JG R.fx.ok (KY R.fx.ok hq (A9 k2)) (A9 k3);have t7:u_ (zD (za (yA true) (zc 10) (cS .zp))) (v9 (zD (za (yA false) (zc 12) (cS .zp))) (zD (za tT (zc 12) (zc 10)))) (sT F m (wq F r w) (n+1) (xY Hm) cs (im (nT p)) (im (zj q)) (im (.int c)) (im (xY (vH F m ↑(p,q)))) (im (.tup [nT k,nT i])) (im (xY (vH F m (wq F r w)))))=↑false:=by
   cases ho:vH F m ↑(p,q) with
   | none=>show lE (yr (zk rfl rfl rfl))
   | some kk=>
    let#[j,j1,j2]:=k4 kk ho;rw[j2];exact qq (yr (zk rfl rfl rfl)) (rW (yr (zk rfl rfl rfl)) (yr (zk rfl rfl ?_)));change ↑(T.bl (decide ((kk:Int)<=(j:Int))))=_;rw[za3 ⋯]
  exact#[_,pre _ (zI (xk (yr (zk rfl rfl rfl)) rfl) (zI (xk d1 rfl) (zI (nF rfl rfl) (zI (xp (yo rfl (dI R hm (st:=↑(p,q)) λ x e=>(hs x e).1))) (zI (xp (vU rfl (of_decide_eq_true rfl))) (zI k5 (zI (xp (yo (zK rfl (zK rfl (zK rfl (zK (zk rfl rfl uk) (zK (zk rfl rfl su) rfl))))) (Iu R.fx.ok R.fx.pw hq k1 k2 k3))) (zI (xp (y:=nT (n+1)) (zk rfl rfl rfl)) (zI (xp (yo rfl (dI R hm (st:=wq F r w) λ x e=>(sk x e).1))) (xk t7 rfl)))))))))),wq F r w,rfl,sk,λ d e=>?_];let#[j,j1,j2]:=hd d e;let#[j',h1,h2]:=k4 j j1;show#[j',h2,⋯]
def JO {a b:Ae}{ρ:Ev}{y:Option T}(ha:a ρ=↑(.bl true)) (hb:b ρ=y):rB a b ρ=y:=by
 change (a ρ).bind _=_;rw[ha];show hb
def Ij (R:uN F m) (hm:m<=2000) (hr:sH [zr F]=↑(yO (zV F m))) (gw:∀ x<F.os.length,∃ w∈F.ws,w.f=x) {p:Nat}(hp:p<F.os.length) {q:Int×Int}(hq:yv F q) (cs:List Int):
  i6 [zr F,yO (zV F m),nT p,zj q,.lst (cs.map T.int)]=↑(.bl true):=by
 have hl:=aU (is:=[2,3,9,10,11,12]) (g:=zu 9) (b:=lC) T.int (.bl true)
  (λ pre ρ=>∃ st,ρ=sT F m st pre.length (xY (vH F m ↑(p,q))) (.lst (cs.map T.int)) none none none none none none/\ik F st/\∀ d,vH F m ↑(p,q)=↑d->∃ j,vH F m st=↑j/\j+pre.length<=d)
  cs [] (sT F m ↑(p,q) 0 (xY (vH F m ↑(p,q))) (.lst (cs.map T.int)) (im (nT p)) (im (zj q)) none none none none) #[↑(p,q),rfl,λ x e=>by cases e;show#[hp,hq],λ d e=>#[d,e,Aj _]] (by
   rintro pre c post _ ρ ⟨st,rfl,h1,h2⟩;rcases T5 R hm gw h1 pre.length h2 (.lst (cs.map T.int)) c with h | ⟨ρ',g1,GH,g2,g3,g4⟩
   .show .inl h
   .exact .inr #[ρ',g1,GH,?_,g3,?_]
    .rw[g2,BI];rfl
    .rw[BI];show g4)
 have pre:∀ o,_->WJ [im (zr F),im (yO (zV F m)),im (nT p),im (zj q),im (.lst (cs.map T.int)),none,none,none,none,none,none,none,none]=o:=λ o h=>
  zI (Md (xs:=[zr F,nT p,zj q]) rfl (Iw hr hp hq)) (zI (xp (vU rfl (of_decide_eq_true rfl))) (zI (xp (yo rfl (dI R hm (st:=↑(p,q)) λ x e=>by cases e;show hp))) (zI (xp rfl) h)))
 rcases hl with hl | ⟨ρ',hl,st,rfl,h1,h2⟩
 .show wN (pre _ (og (rn rfl hl))) rfl
 .have hn:zP false (nT cs.length) (nT cs.length)=↑(.bl true):=by rw[eq_int,za2 rfl];rfl
  rw[D0] at hl;show wN (pre _ (zI (rn rfl hl) (sS (y:=.bl true) (JO (zk (nN rfl yB rfl (rj rfl yB)) rfl (Yc false st)) (zk (nN rfl yB rfl (oT rfl yB rfl)) rfl hn))))) rfl
end
theorem pS (ns:List Int) (k:Nat):rG [oh ns,nT k]=↑(.int (ns.getD k 0)):=by
 unfold rG WN oh;by_cases h:k<ns.length
 .have e:L2.zM (ns.map T.int) (k:Int)=↑(.int (ns.getD k 0)):=xR (by simp[h]);simp[h,e,xt]
 .simp[h,xt]
def mY {i j:Int}(h:0<j/\j<2 ^ 200):xO (.int i) (.int j)=↑(.int (i/j)):=by
 change (if ur i j then ↑(T.int (i/j)) else none)=_;rw[if_pos (show ur i j from h)]
def NZ {i j:Int}(h:i.natAbs<2 ^ 200/\j.natAbs<2 ^ 200):wQ (.int i) (.int j)=↑(.int (i*j)):=by
 change (if tB i j then ↑(T.int (i*j)) else none)=_;rw[if_pos (show tB i j from h)]
abbrev qQ (ns:List Int) (a b:T) (F:zt) (m:Nat) (c d e f g:Option W):Ev:=[im (oh ns),im a,im b,im (zr F),im (yO (zV F m)),c,d,e,f,g]
def M8 {F:zt}{m:Nat}(R:uN F m) (hm:m<=2000) (hr:sH [zr F]=↑(yO (zV F m))) (gw:∀ x<F.os.length,∃ w∈F.ws,w.f=x) (ns:List Int) (a b:T) (k:Nat) (hk:k<3):
  ∃ ρ',turn (zu 5) lD (.int (0+(k:Int))) (qQ ns a b F m none none none none none)=↑(.nx ρ')/\yz [5,6,7,8,9] ρ'=qQ ns a b F m none none none none none:=by
 rw[BK];have mu:wQ (.int 19) (nT k)=↑(.int (19*(k:Int))):=NZ #[(),Bn (show (k:Int).natAbs<3 by lia) ()];let#[p,q,s1,s2,s3]:=Io R.fx.ok (qV F m) (R.gd m (Aj _)) (ns.getD (2+19*k) 0);have h0:=pS ns (2+19*k);generalize ns.getD (2+19*k) 0=v at *;have fin:∀ q',yv F q'->∃ ρ',zo (zA 9 YN) (zW (xQ (y8 (zq i6 (zb (zh 3) (zb (zh 4) (zb (zh 7) (zb (zh 8) (zb (zh 9) ze)))))))) (retS (cS (.bl false))) zZ) (qQ ns a b F m (im (nT k)) (im (.int v)) (im (nT p)) (im (zj q')) none)=↑(.nx ρ')/\yz [5,6,7,8,9] ρ'=qQ ns a b F m none none none none none:=λ q' HM=>by
  have Ao:=Ij R hm hr gw s2 HM ((List.range 18).map λ j=>ns.getD (3+19*k+j) 0);rw[A2] at Ao;show#[_,zI (xp (tS (λ j:Nat=>T.int (0+(j:Int))) (λ j=>T.int (ns.getD (3+19*k+j) 0)) (List.range 18) (uR 18 ()) () λ j hj=>congrArg (Option.map some) (yo (zK rfl (zK (zk (zk rfl (zk rfl rfl mu) rfl) rfl (by change ↑(T.int (3+19*(k:Int)+(0+(j:Int))))=_;rw[BK];congr 2)) rfl)) (pS ns _)))) (xk (oz (pX (yo rfl Ao))) rfl),rfl]
 have pre:∀ o,_->lD (qQ ns a b F m (im (nT k)) none none none none)=o:=λ o h=>zI (xp (yo (zK rfl (zK (zk rfl (zk rfl rfl mu) rfl) rfl)) h0)) (zI (nF (yo (zK rfl (zK (zk rfl rfl VD) (zK rfl rfl))) s1) rfl) h);have c1:rg (.int (v/10 ^ 12%3)) (.int 0)=↑(.bl (decide (0<v/10 ^ 12%3))):=rfl;have c2:rg (.int q.1) (.int 0)=↑(.bl (decide (0<q.1))):=rfl;by_cases h1:0<v/10 ^ 12%3
 .rw[za2 h1] at c1;by_cases h2:0<q.1
  .rw[za2 h2] at c2;let#[ρ',f1,f2]:=fin (q.1-1,q.2) (mE ⋯ (by have:=s3.1;lia) s3.2.1 s3.2.2);show#[ρ',pre _ (zI (uC (qq (yr (zk (zk (zk rfl (zk rfl rfl (ot 12 ())) (mY ())) rfl (u7 ())) rfl c1)) (yr (zk (zk rfl rfl uk) rfl c2))) (xp (vU (zK (zk (zk rfl rfl uk) rfl rfl) (zK (zk rfl rfl su) rfl)) (of_decide_eq_true rfl)))) f1),f2]
  .rw[za3 h2] at c2;let#[ρ',f1,f2]:=fin q s3;show#[ρ',pre _ (zI (xk (qq (yr (zk (zk (zk rfl (zk rfl rfl (ot 12 ())) (mY ())) rfl (u7 ())) rfl c1)) (yr (zk (zk rfl rfl uk) rfl c2))) rfl) f1),f2]
 .rw[za3 h1] at c1;let#[ρ',f1,f2]:=fin q s3;show#[ρ',pre _ (zI (xk (lE (yr (zk (zk (zk rfl (zk rfl rfl (ot 12 ())) (mY ())) rfl (u7 ())) rfl c1))) rfl) f1),f2]
theorem Ig (v:Int):∃ most zy:Nat,i5 [.int v]=↑(.tup [nT most,nT zy])/\(1<=most/\most<=8)/\zy<=6:=by
 obtain⟨m,hm,m10⟩:∃ m:Nat,v%10=(m:Int)/\m<10:=#[(v%10).toNat,⋯,⋯];have hs:∃ L:List (Nat×Nat),m<L.length/\L.all (λ x=>decide ((1<=x.1/\x.1<=8)/\x.2<=6))=true/\∀ y,L2.zM (L.map λ x=>T.tup [nT x.1,nT x.2]) (v%10)=↑y->i5 [.int v]=↑y:=
  #[[(3,3),(2,4),(4,2),(1,6),(3,3),(2,3),(8,1),(3,3),(2,4),(4,2)],m10,(),λ y h=>wN (sS (zk rfl (zk rfl rfl (u7 ())) h)) rfl]
 let#[L,hl,ha,h]:=hs;show#[L[m].1,L[m].2,h _ (by rw[hm];show xR (by rw[AD,AR hl];rfl)),of_decide_eq_true (BA.mp ha _ (Bl hl))]
theorem M9 (ns:List Int) (_:ns.length<=63):lS [oh ns]=↑(.bl true):=by
 let#[most,zy,z1,z2,z3]:=Ig (ns.getD 0 0);let#[G,g1,g2,g3,g4]:=IA (ns.getD 1 0) most zy z2.1 z2.2 ⋯;let#[S,s1,s2,s3,s4]:=Ip (ns.getD 1 0);have fin:∀ F:zt,F.Ok->(∀ x<F.os.length,∃ w∈F.ws,w.f=x)->F.ss.Pairwise (λ a b=>a.p≠b.p)->zo (zA 4 (zq sH (zb (zh 3) ze))) (zo (xm [5,6,7,8,9] (xc xW (zb (cI 3) ze)) (zu 5) lD) (retS (cS (.bl true)))) [im (oh ns),im (nT most),im (nT zy),im (zr F),none,none,none,none,none,none]=↑(.rt (.bl true)):=λ F ok gw pw=>by
  let#[m,hm,hr,R]:=UO ok gw pw;let#[ρ',l1,l2]:=v5 (is:=[5,6,7,8,9]) (g:=zu 5) (b:=lD) (λ k:Nat=>T.int (0+(k:Int))) (λ _ ρ=>ρ=qQ ns (nT most) (nT zy) F m none none none none none) (List.range 3) (qQ ns (nT most) (nT zy) F m none none none none none) rfl (by
   rintro pre k post e ρ rfl;show M8 R hm hr gw ns _ _ k (AG.mp (by rw[e];simp)))
  show zI (xp (yo rfl hr)) (zI (rn (uR 3 ()) l1) rfl)
 have t:=eq_int (ns.getD 0 0/10%12) 1 false;have pre:∀ o,_->WT [im (oh ns),none,none,none,none,none,none,none,none,none]=o:=λ o h=>zI (nF (yo (zK (yo rfl (pS ns 0)) rfl) z1) rfl) (zI (xp (yo (zK (yo rfl (pS ns 1)) rfl) g1)) h);by_cases h:ns.getD 0 0/10%12=1
 .rw[za2 h] at t;show wN (pre _ (zI (uC (yr (zk (zk (zk (yo rfl (pS ns 0)) rfl (mY ())) rfl (u7 ())) rfl t)) (xp (yo (zK (yo rfl (pS ns 1)) rfl) s1))) (fin S s2 s4 (by rw[s3];show .nil)))) rfl
 .rw[za3 h] at t;exact wN (pre _ (zI (xk (yr (zk (zk (zk (yo rfl (pS ns 0)) rfl (mY ())) rfl (u7 ())) rfl t)) rfl) (fin G #[g3.1,⋯,g4.1,⋯,g2.n1,g2.n8,λ w hw=>(g2.wr w hw).1,by have:=g2.wl;lia,λ s hs=>#[(g2.sr s hs).2.2.1.1,(g2.sr s hs).2.2.2.1],.inr ?_,by have:=g2.sl;lia] g2.way (g2.sp.imp λ h=>AI h)))) rfl;show DZ (Int.mul_le_mul (c:=7) (d:=7) ⋯ ⋯ ⋯ ⋯) ()
end zL
namespace PySem.W.Fast
def te18086021887261445052:=0
local macro_rules|`(command|example:=$s:str)=>do
 let mut r:Array Lean.Syntax:=.empty
 let mut n:=0
 let mut k:=0
 for c in s.getString.toList do
  let a:=c.toNat
  n:=n*62+(if a>96 then a-61 else if a>64 then a-55 else a-48)
  k:=k+1
  if k==11 then
   let i:=Lean.mkIdent (.mkSimple s!"tw{n}")
   r:=r.push (<-`(command|theorem $i:ident:True:=trivial))
   n:=0
   k:=0
 return Lean.mkNullNode r
example:="8RYSBwiXhQHHtIpgmMDjqgLU2720buT2PCNhp3tV9bCzDqRsMRhslq5BRZSEHZXumK0I24QUGfRUS8ViU1Vb8pyCC1oHhZA6OTULjvt0jPWbPRJ3rPfvaNVN0E9UI1j0tCsyKBpWL9xqaH8DyzNrYhSprO1X3IgnIyIwdA6rCpJG2G8Y1RjW021XQ9m5jTijPhVYOTDCPwbt82AhkBkSiuENZXRHDRVP3EcwFv6F83mUVONfWG6gZxXyEuJV1KPNR6iT17wPICcnLLV7Eb77gecqk7ZTRC9HoyqQMdnW976cg1XgWnSM70719ixyEsBJfBa97qWqhIGU2DbXMreZ4D4fYDRXpKY6FjQFaJPZSDnI5Xml2Is2ohGTtoJ8zhupN70kCdqJqJMELAYN1A7H5sN3E7ABZC4ZVYFozDyPkitImKA3eEa69j9SJrGaBs7g60y4oJlGMYhOMj1y3EzDftzoUFJajp38rGGCDnZ6ZaCmIwR6QqEwbV0xrm2Nj2zXPGqOvBj4grA2mTf04fknENM5mDNIgZpN1cSjdO4CwzJiU9N140cEZT53FxE4DanLLFPi9oUJnz3lDOtMKvBD8YmM6Ejd0FIVXxqX3h9hG8IvgRlDHZ28G4GD9Tuz2oJhbMR6Adt7nKvThgOCxq3hKJiwaA0HPrMBvhVfHS8MIo6NXhYUpilWMAL3DJdEb6GRKUjkQqbfXC7K78n2kiEoNAAWMzfhapd7RJWCYeM7XUu384BNoHffEkoHUR9Y1kguxz5S7BzgVf7YICraBlbl89ag46mQbxk9nlS4TG0RxUSQlUBxmKa5VyAgjFOeLfUnsili5sP6jzHTpZWF7YEO6CLaCg9Bbj6JmQ9dFEoJJ6VeSa1KK0MlCdwSqiBKDAQV4c54bFHuqksOMgleD8fah6ZucW2JITKxn32h4VyKLBJ4BIDmSW1pjJGvESnA3JylIRfem5qx6KwfRQzLWfQAMXSbayTUEwLuqZycqfawjImJ5mvLFDLZC7cRU01XhzmA7LTNpGsgwCJ5oEB5zOeDw5PHVhky6UpKKGVIiwaNb21EYzaIBQeqsjDRBUZGtOHgTC8Zx517GVHDDcKLjoiG99cDsX9lS69W9Q9SuR5CmcVoLF5P5HKfPUZr8pZCJCeFS5kIvCtTcPgLFP3QVezPB9yAg7CBNlP2uKMaFv7yMnYEe016vWT6jlOc20GCeNzKn4jBf5qjVEPtm2V56CuWObRkt41DrW1CEGhtY8KWhGHarTTgRJAZO3kyXvlwEEy6fJ1Vf4A3DtaCY4tj5Y7cqe1JDIsl5DYR2kLVk5hjAmxdfyztDBz6OE39sxAeqeEL2PFoZN9u21q47tOQsuMLKidY5XBi6ZeJho6fe9HqPHLBaCinMOvpZEHtnLzXlDbXCvJIfN7Zq9TKb2gueJihzi7MNtyJxUffoEIyRTW63z452UeBMzjweBb4P4CkblgzK58Yod0SOhU1e9DkY9PbEpS2KXn9lEpxjt76got8kdfspmJ2GYxuezIeu5s1iqbRUrhQ7FTpoAxkRj2EkXb9HldqiVH2d0JBdqJqHAEYWO2A38wpGgk3zzAqbYSDXJsH3v18mlDdgfuntaX9wBZuIHoKUgiTESbvnxJSvh2EvolOPYZO6x6vLopL1NWAwAtWS9PSNm1E0BOUixdEeAU3yrEaowiDAHFK44lcpBhmm9Ey1O2Ircoo3XE2WpRW9s4BbsBC88uf48KBcee0WRqFXLOGYb31as1J1cH5wVijCVE7dMLrdnoX3M5s5FYpB0GhF6TxYwOCBzrD7SLbsn82W798FIYlIFfSX32v6kGufOkkz0Z28If5irJGCKUwtEB4CwS3691Bu4aDo9HnPQ1Ov43Sr06peydWcidtIAYS28wDOZvEMCHQVuSt2AJj3xtNI1JTmHNNSBbFLLCC4XB0KYbvTaRHvEnvY538gpJbfyjOaNBBxII6zdtn1OGW50rtXyphhgyKuJw39oh2rCKa7jXoTRapIJO4hfZVEsziCDEhuhVwMkN7lRgmH0DqLcChJ1jKwenHMCtrqbTlvaHEHSRRAue0hkD2xrq9GdUyCtE6Um1qbXaS50cghBWhchXhKfN6nkhNjlJAVTbwXUNBN2LRhcFCe0TS4Hehfa6V1j7cLN6EBCSw8RV2BbgwnoPxod8AMxbj2LEpZ4uQYu38OOfZH7MGKkxi3CNIKL23FlM1f2ABsfcoawRhZEFx23me6FqV4wSY8qNKCAHGLwkCYDLBJj188uXFODyYyDPcJ4Smz4uA7DzYBrbt6i4FTWqrJIMBg6GZ7uG7GY9pYBioPgKsiXQ07DHPP1XA7ym8m8tnCVrvqIEdwoUHple5kGsyhtc1EVleGgfNc907Mv9Ia2PWbyddQGKR9pZetkug34BHDwH4HtMmAi6ieyEGyA32h965aD2zbpLAibp4kBtyTEzFNzFBuAm23QhoD76UOzaKoWhQzjEuh16VYaxaJ62UbCpQTE1JPMd6BvDUPnSVXN9H8i4gBGNe6KIqmZJCRG0Y4IJKknOWFlrj3RlP1S0x5LhE2NWBfQ06RXDOSIJj26Qyk6xU6PAgVs5d1Xf48XqinkALGcMasFf6SfGjZFiWdUtpS6nZDf2CcukS23m1rKj5sfyBrDpvGYlximLhQV6m2WL8PKwXfriFPVR3Kk8nn9PYkkWI3WxlSYYhSg4EaZ93Jqu0sLKUr7ewCeMK1GSmNqN1Ez14ktz0W3bRAz7uysaJrYcY96jRkje1PahA1474Z2BghQG4gLZ0htlXgoKWLzfuoa0Tc4gKiTW3RoU51CrEA1ahHGV4KOSnNyWxhZ07hKULcg8LnEZ6bJvsoOIjE7anOwlGuwzI6exS2am6nwGKzYhLyi1ETLeyB2nqjjWG4p5NUTuvV5vCB9WhGNua7U9zFgxp37o68Idk2ZzoZbXWBE0T038DDO74e8PUPMYx7RErG848jsqN1Bn5GGBiliZnAIa64z48YmhEH6tFhd0Am1BFJvfE7pMShH2giAsxi8Cs2prmUQh5BoZ8L6DtHN4mnV1FejQnXxvvN6IUKEfSOxrQC1s2sifVLiZC2e4MXOj1M1BcvJOAAknj49RlwvO4AnBSIvfBMc4gDO9Bq08H9dhLP2ACI7JtJZIcmFaSn9toRmkg5Pakxed8VEz2HNMNOq74w8FwHEpC085tICWbmLOgCFdkGm6vzsAuKMgFEQFpaiWrOfGGPETxPaDqQJnGTK9UpfU87vkNYYag8azH0TJOJiqKfzGaHcq9Uolon8of4daOTcEg77cubKjxoZ4HJ5ZlgMuzdB4CO5yktwN9YIaD9rDIPUWW2FCNwRkp4ne1N9cQvNRKj484yte1MlBkx2jNgdyIsmuILPvIg1qletIF07EPEwVSS87qyxT5TB51IGAGK5WGl0kI0BG7fcYkOGG88ow4eN15r3EnIHTzgvnrYBJxQYpnt0eq9TOCGnCqzEF7qcm9y5jXZ68SHoiH5N5LQI8hUZiXzJAXAq4PaKYnAOsFDEzriONQkF8Cygn4gPFKRKU6EHMLzH6r0vSKY7H4Ag9DNtwAPLTDC09hmmbQzB2AmEDYdByzC9blDBt1XYlOULv4IWnQV61xECId4LLdBVqo54jpWHasELIl6S7XVyuJetfAUVlZpF587g5bfLPXafbFfE7olzbsPE4vG3SMvPP9yQUCYSCnJmyaaX7gFM5fvOIXqCZ1FqnRXyMtINyXSPGePQD48VpmxehaXn2RkGv6UmgKX3ryXc2irkrG3rUs5kX9VpU6zFZ6eXZrMnGOmcuJCmo4v2CoKjBcciOaAee3Ls5zx7nBn8euVftDldLrNwLSPvA227ltjxDRkPZ90Vgvb1DWA64JL6MfcYjip66eORxCoCQnGGEGm7fd2zmN9UJwdENdHKUILyFjt1xXvD8bjuf7MmJYfLl0pa4vHhSYDZk4X6mrj50GF8Zn07tqXcAXCHtPZkMqRKm4r78l2LLTF4Y2dKirbzcDztgvBx0OtfDQm8NgEkClwHKWJiOPuhzu1a8ZApGxGpGBCH1d0WcddI44ehGUdvX0HIHSL7yQ1L97FxLpLxXJRveD2MeMcjDTdw8oUIB3COncQ2D4WJQrwhYg6S811wJvB7PGIfu132SeAS0a46bVnoV3OJ8yUhamtIjR2opStUY3VXs60WfNkIrnpxDipW2aFsyQbHdqIbGu03FZIwApQotasKlFuycfpvr9o3HpGkLL7meec0r92FHZQXJtLvu0PC3L8oc0cLSLjlF5wH37iEUhGAD530W2i3e5uSMV16dbQMuJtasHZhWemz490x7XjkNQcPDhEFpKWL9x6bDT4ZrlHfEWHIODbKx2GtfnEwIaJgrezGqACK5vP3A56dTfIIRqb9R1zYY3bbvpVE6tTG3hXyWvs3xry4UX8S1CryG7JRwP627v86E1xRMoWY63NiAc5Q3y8jOuO1vIp0uj9JsSDLy4PNzpOUHFjBYdUOOdQA5tTCBrRScpGG0hGNMkfp5IB7jcfAIGMyG9kH5cGFlywB5Nx3ySy5Xxw6t4gX0YTKPHKcNvQqpAfSEKUjD4SziqnY13eMdHZaLtF8D34b6UGTsmJr2xwueEHoSAAAgbws4XTNLDXdfLvAGLa6Y3LHCnuFj5BOGoI3EiGanBQeMUqxh5HdIDaoIu9PlM65sZg1eKua4c0LrRMnvT8U5FVSFQDWXGdx9e41rWaitBT7ECAlUShvchKOm9AjA1Wm63I4UxC6z6h35ETmJ4JAoqFJQUAaWibs9IK6rlEVPN2gtFrpnXHIJweI5oswETsnCCc0VBTseGSoRVLgvPB08IYnR93CtRQCUq4qEuJ1cIEnGI4Hs6t4dJLVxm3hEDtduyVmZ0N7H8psVuyyD2VUJmCpzUL7Om8MITGlat37LeJsIgrhk6K8OrzwG4it1wo3Lxl0LSFIA5jMfg4c5rBil6SqtHa98ENJSjuRfa7023gnOPd5NinHMW8d6PJdItIowr9W0OUJl7jeupXJHi264ptw2CYh7b984MzdIkhxBg2oYJvkCagay2uTYkVNsXbgAUdv35eYAuJLP1nvAo93mz5MBbZuBfE7c55PYkT4lcZzLYoDJqCX75UIO7SOY4LUJDBWzASyBS4iXJwF73IRqVSf9RB354RJqktBmZBFS86mvkHidAvAT5Y94LKl12mhXKxjHmmTHbd4gobCtKGv4RlcS52FAJvMh95RI06qdeCYVQeQ3mY3Ym2qIdSEw9u9EZluTwDPUfmaqiG2eEjEgFHt1L6P30Xlnz8gO61Aido7t9od9s"
end PySem.W.Fast
namespace zL
open PySem L2 L3 L5
open PyProof.Rows hiding St
def top (i:Nat):Stmt:=PySem.Challenge.pw_purseborder_k83_whole_taker_takes.main.body.getD i (.Pass #[0,0,0,0])
def met (i j:Nat):Stmt:=(KW (top i)).getD j (.Pass #[0,0,0,0])
set_option maxHeartbeats 0
section
variable (P:Program)(w:World)(K:Ac)(mg:AF)(base:Heap)
abbrev dX:=FD P w K mg base "is_whole" 1 ["thing"] (zJ zC pP)
abbrev dR:=FD P w K mg base "places_of" 1 ["floor"] (zJ zC pK)
abbrev dZ:=FD P w K mg base "at_or_above" 1 ["pair","other"] (zJ zC nA)
abbrev ke:=FD P w K mg base "least_pairs" 1 ["pairs"] (zJ zC rF)
abbrev XO:=FD P w K mg base "pairs_ahead_of_changes" 1 ["brims","stall","pair"] (zJ zC lL)
abbrev dN:=FD P w K mg base "step_by" 1 ["floor","pair","way"] (zJ zC q8)
abbrev Wq:=FD P w K mg base "change_by" 1 ["brims","stall","pair","times"] (zJ zC pQ)
abbrev Wf:=FD P w K mg base "_law_cell_at" 1 ["_law_script","_law_k"] (zJ xx rG)
abbrev dU:=FD P w K mg base "_law_stirred" 1 ["_law_cell","_law_count"] (zJ zC pN)
abbrev Wh:=FD P w K mg base "_law_amount" 1 ["_law_number","_law_most"] (zJ zC nq)
abbrev XZ:=FD P w K mg base "_law_sized" 1 ["_law_number"] (zJ xx i5)
abbrev Wg:=FD P w K mg base "_law_behind" 1 ["_law_floor_here","_law_place","_law_pair","_law_times","_law_way_here"] (zJ zC dH)
abbrev dW:=FD P w K mg base "_law_can" 1 ["_law_floor_here","_law_place","_law_pair","_law_times"] (zJ zC lR)
abbrev dS:=FD P w K mg base "_law_ways" 1 ["_law_floor_here","_law_place"] (zJ zC lO)
abbrev Wc:=FD P w K mg base "_law_held" 1 ["_law_border","_law_pair"] (zJ zC i8)
abbrev XX:=FD P w K mg base "_law_start" 1 ["_law_floor_here","_law_told","_law_number"] (zJ zC dF)
abbrev W2:=uq P w K mg base ["Taker"] "where" 1 ["self"] (sO ["self"] 1 cv)
abbrev W3:=uq P w K mg base ["Taker"] "steps" 1 ["self"] (sO ["self"] 1 cw)
abbrev iJ:=FD P w K mg base "is_whole_within" 2 ["thing","least","most"] (zJ zC pO)
abbrev Wk:=FD P w K mg base "is_from_nought_on" 2 ["thing"] (zJ zC lV)
abbrev dY:=FD P w K mg base "holds" 2 ["border","pair"] (zJ zC qB)
abbrev Ws:=FD P w K mg base "both" 2 ["border","other"] (zJ zC lY)
abbrev Wm:=FD P w K mg base "either" 2 ["border","other"] (zJ zC lW)
abbrev Wv:=FD P w K mg base "border_ahead_of_way" 2 ["brims","way","border"] (zJ zC ka)
abbrev XW:=FD P w K mg base "_law_way" 2 ["_law_place","_law_many","_law_number","_law_size"] (zJ zC qA)
abbrev We:=FD P w K mg base "_law_deed" 2 ["_law_floor_here","_law_place","_law_pair","_law_number"] (zJ xx i9)
abbrev Wb:=FD P w K mg base "_law_is_deed" 2 ["_law_floor_here","_law_place","_law_pair","_law_found"] (zJ zC i7)
abbrev Wa:=FD P w K mg base "_law_lasting" 2 ["_law_told","_law_here"] (zJ xx lP)
abbrev XY:=FD P w K mg base "_law_slow" 2 ["_law_cell"] (zJ zC dG)
abbrev Wj:=FD P w K mg base "is_row_within" 3 ["thing","bounds"] (zJ zC lU)
abbrev iK:=FD P w K mg base "check_place" 3 ["floor","place"] (zJ zC nv)
abbrev Wt:=FD P w K mg base "border_of_either" 3 ["borders"] (zJ xx lZ)
abbrev Wu:=FD P w K mg base "border_of_all" 3 ["borders"] (zJ xx l_)
abbrev Wl:=FD P w K mg base "first_without" 3 ["told","place","pair"] (zJ xx nr)
abbrev Wi:=FD P w K mg base "is_way" 3 ["floor","thing"] (zJ zC lT)
abbrev XU:=FD P w K mg base "leads_into" 3 ["floor","pair","way","held"] (zJ zC pL)
abbrev Wd:=FD P w K mg base "_law_floor" 3 ["_law_cell","_law_most","_law_brim"] (zJ zC lQ)
abbrev cg:=uq P w K mg base ["Taker"] "check_turn" 3 ["self","owner"] (xH iG)
abbrev Wo:=FD P w K mg base "check_pair" 4 ["floor","pair"] (zJ zC iB)
abbrev iI:=FD P w K mg base "ways_from" 4 ["floor","place"] (zJ zC sF)
abbrev dP:=FD P w K mg base "stall_at" 4 ["floor","place"] (zJ xx sG)
abbrev Wn:=FD P w K mg base "check_way_from" 4 ["floor","place","way"] (zJ zC lX)
abbrev Ww:=FD P w K mg base "border_ahead_of_changes" 5 ["floor","place","border"] (zJ xx ny)
abbrev Wr:=FD P w K mg base "change_at" 5 ["floor","place","pair","times"] (zJ zC pR)
abbrev XN:=FD P w K mg base "way_out_of" 5 ["floor","place","pair","told"] (zJ xx lK)
abbrev W4:=uq P w K mg base ["Taker"] "first_way" 5 ["self"] (sO ["self"] 1 cx)
abbrev XR:=FD P w K mg base "next_border" 6 ["floor","place","last"] (zJ xx lM)
abbrev XT:=FD P w K mg base "made_ready" 6 ["floor","place","pair","times"] (zJ xx lN)
abbrev XQ:=FD P w K mg base "next_round" 7 ["floor","last","fresh"] (zJ zC ni)
abbrev Wx:=FD P w K mg base "behind_deed" 7 ["floor","place","pair","deed"] (zJ zC kc)
abbrev dQ:=FD P w K mg base "rounds" 8 ["floor"] (zJ zC sH)
abbrev d_:=uq P w K mg base ["Taker"] "step_on" 8 ["self","times","way"] (xH iE)
abbrev XS:=iH P w K mg base "Taker" 9 ["self","floor","place","pair"] (xH dM)
abbrev Wz:=uq P w K mg base ["Taker"] "goes" 9 ["self"] (xH iC)
abbrev W0:=uq P w K mg base ["Taker"] "did" 9 ["self","times","way"] (xH iD)
abbrev X_:=FD P w K mg base "_law_played" 11 ["_law_floor_here","_law_told","_law_place","_law_pair","_law_cells"] (zJ zC i6)
variable {K mg}(T:Bt mg)(U:W5 mg)
include T U
theorem Nc (F:Fy K mg "is_whole" (top 10)):dX P w K mg base:=
 yf [] F
theorem O2 (F:Fy K mg "places_of" (top 14)):dR P w K mg base:=
 yf [] F
theorem N9 (F:Fy K mg "at_or_above" (top 20)):dZ P w K mg base:=
 yf [] F
theorem OE (F:Fy K mg "least_pairs" (top 21)):ke P w K mg base:=
 yf [] F
theorem O3 (F:Fy K mg "pairs_ahead_of_changes" (top 27)):XO P w K mg base:=
 yf [] F
theorem Ox (F:Fy K mg "step_by" (top 37)):dN P w K mg base:=
 yf [] F
theorem Ny (F:Fy K mg "change_by" (top 38)):Wq P w K mg base:=
 yf [] F
theorem OX (F:Fy K mg "_law_cell_at" (top 50)):Wf P w K mg base:=
 yf [] F
theorem OK (F:Fy K mg "_law_stirred" (top 51)):dU P w K mg base:=
 yf [] F (by intro f Af A outer s H E hc nd hN hS hr;have hB:=trivial;show#[_,pA,qO])
theorem O_ (F:Fy K mg "_law_amount" (top 52)):Wh P w K mg base:=
 yf [] F
theorem OP (F:Fy K mg "_law_sized" (top 55)):XZ P w K mg base:=
 yf [] F
theorem OZ (F:Fy K mg "_law_behind" (top 56)):Wg P w K mg base:=
 yf [] F
theorem OY (F:Fy K mg "_law_can" (top 57)):dW P w K mg base:=
 yf [] F
theorem OI (F:Fy K mg "_law_ways" (top 58)):dS P w K mg base:=
 yf [(["_law_k","_law_floor_here","_law_place"],[none,↑0,↑1])] F
theorem OU (F:Fy K mg "_law_held" (top 61)):Wc P w K mg base:=
 yf [(["_law_x","_law_y","_law_pair"],[none,none,↑1])] F
theorem OM (F:Fy K mg "_law_start" (top 62)):XX P w K mg base:=
 yf [] F
theorem ND (F:Fm K ["Taker"] "where" "Hand.where" (met 47 1)) (hk:∀ c∈(["Taker"]:List Str),Kl K c ["floor","told","stand","done"]):W2 P w K mg base:=
 ei [] F
theorem NF (F:Fm K ["Taker"] "steps" "Hand.steps" (met 47 2)) (hk:∀ c∈(["Taker"]:List Str),Kl K c ["floor","told","stand","done"]):W3 P w K mg base:=
 ei [] F
theorem Nb (F:Fy K mg "is_whole_within" (top 11)) (FG:dX P w K mg base):iJ P w K mg base:=
 yf [] F
theorem Ng (F:Fy K mg "is_from_nought_on" (top 12)) (FG:dX P w K mg base):Wk P w K mg base:=
 yf [] F
theorem Nk (F:Fy K mg "holds" (top 22)) (Fn:dZ P w K mg base):dY P w K mg base:=
 yf [(["own","pair"],[none,↑1])] F
theorem N2 (F:Fy K mg "both" (top 23)) (E8:ke P w K mg base):Ws P w K mg base:=
 yf [(["pair"],[none])] F
theorem Nr (F:Fy K mg "either" (top 24)) (E8:ke P w K mg base):Wm P w K mg base:=
 yf [] F
theorem N5 (F:Fy K mg "border_ahead_of_way" (top 26)) (E8:ke P w K mg base) (Fn:dZ P w K mg base):Wv P w K mg base:=
 yf [(["pair","way"],[none,↑1]),(["pair","brims"],[none,↑0])] F
theorem OJ (F:Fy K mg "_law_way" (top 53)) (F7:Wh P w K mg base):XW P w K mg base:=
 yf [] F
theorem OW (F:Fy K mg "_law_deed" (top 59)) (FO:dW P w K mg base) (FE:dS P w K mg base):We P w K mg base:=
 yf [(["_law_way_here","_law_times"],[none,↑5])] F
theorem OT (F:Fy K mg "_law_is_deed" (top 60)) (FE:dS P w K mg base) (FO:dW P w K mg base):Wb P w K mg base:=
 yf [] F
theorem OS (F:Fy K mg "_law_lasting" (top 63)) (GB:Wc P w K mg base):Wa P w K mg base:=
 yf [] F
theorem OO (F:Fy K mg "_law_slow" (top 65)) (Fj:dU P w K mg base):XY P w K mg base:=
 yf [] F
theorem Nf (F:Fy K mg "is_row_within" (top 13)) (E7:iJ P w K mg base):Wj P w K mg base:=
 yf [(["number","bound"],[none,none])] F
theorem Nw (F:Fy K mg "check_place" (top 15)) (E7:iJ P w K mg base) (Fu:dR P w K mg base):iK P w K mg base:=
 yf [] F
theorem N3 (F:Fy K mg "border_of_either" (top 29)) (GX:Wm P w K mg base):Wt P w K mg base:=
 yf [] F
theorem N4 (F:Fy K mg "border_of_all" (top 30)) (HE:Ws P w K mg base):Wu P w K mg base:=
 yf [] F
theorem Nl (F:Fy K mg "first_without" (top 34)) (Gr:dY P w K mg base):Wl P w K mg base:=
 yf [] F
theorem Nd (F:Fy K mg "is_way" (top 36)) (E7:iJ P w K mg base):Wi P w K mg base:=
 yf [] F
theorem OG (F:Fy K mg "leads_into" (top 44)) (FN:dN P w K mg base) (Gr:dY P w K mg base):XU P w K mg base:=
 yf [] F
theorem OV (F:Fy K mg "_law_floor" (top 54)) (Fj:dU P w K mg base) (GO:XW P w K mg base):Wd P w K mg base:=
 yf [] F
theorem NI (F:Fm K ["Taker"] "check_turn" "Hand.check_turn" (met 47 3)) (hk:∀ c∈(["Taker"]:List Str),Kl K c ["floor","told","stand","done"]):cg P w K mg base:=
 jv [] F
theorem Nx (F:Fy K mg "check_pair" (top 16)) (FH:Wj P w K mg base):Wo P w K mg base:=
 yf [] F
theorem Oj (F:Fy K mg "ways_from" (top 17)) (E_:iK P w K mg base):iI P w K mg base:=
 yf [(["number","way","place"],[none,none,↑1])] F
theorem Oy (F:Fy K mg "stall_at" (top 18)) (E_:iK P w K mg base):dP P w K mg base:=
 yf [] F
theorem Nv (F:Fy K mg "check_way_from" (top 40)) (GW:Wi P w K mg base):Wn P w K mg base:=
 yf [] F
theorem N6 (F:Fy K mg "border_ahead_of_changes" (top 28)) (FC:dP P w K mg base) (E8:ke P w K mg base) (Ff:XO P w K mg base):Ww P w K mg base:=
 yf [] F
theorem Nz (F:Fy K mg "change_at" (top 39)) (FC:dP P w K mg base) (Gk:Wq P w K mg base):Wr P w K mg base:=
 yf [] F
theorem Ol (F:Fy K mg "way_out_of" (top 45)) (FI:Wl P w K mg base) (Fg:iI P w K mg base) (F4:XU P w K mg base):XN P w K mg base:=
 yf [(["way","floor","pair","told","steps"],[none,↑0,↑2,↑3,↑4])] F
theorem NH (F:Fm K ["Taker"] "first_way" "Hand.first_way" (met 47 4)) (hk:∀ c∈(["Taker"]:List Str),Kl K c ["floor","told","stand","done"]) (Fg:iI P w K mg base):W4 P w K mg base:=
 ei [] F
theorem O7 (F:Fy K mg "next_border" (top 31)) (Fw:Cm mg "KEEPER" (.str "keeper")) (FJ:Wu P w K mg base) (Fi:Wv P w K mg base) (Fd:Ww P w K mg base) (Fg:iI P w K mg base) (Fs:Wt P w K mg base):XR P w K mg base:=
 yf [(["number","floor"],[none,↑0]),(["way","floor","last"],[none,↑0,↑2])] F
theorem OC (F:Fy K mg "made_ready" (top 41)) (Gm:Wr P w K mg base) (Fp:Wk P w K mg base):XT P w K mg base:=
 yf [] F
theorem O6 (F:Fy K mg "next_round" (top 32)) (FP:XR P w K mg base):XQ P w K mg base:=
 yf [(["way","fresh"],[none,↑2])] F
theorem N8 (F:Fy K mg "behind_deed" (top 42)) (Fz:Wn P w K mg base) (F0:XT P w K mg base) (FN:dN P w K mg base):Wx P w K mg base:=
 yf [] F
theorem O0 (F:Fy K mg "rounds" (top 33)) (FZ:XQ P w K mg base) (Fu:dR P w K mg base):dQ P w K mg base:=
 yf [(["place","border","last"],[none,none,↑3])] F
theorem NG (F:Fm K ["Taker"] "step_on" "Hand.step_on" (met 47 5)) (hk:∀ c∈(["Taker"]:List Str),Kl K c ["floor","told","stand","done"]) (FV:Wx P w K mg base):d_ P w K mg base:=
 jv [] F
theorem OB {h:Heap}(X:K.In h) (G:h.Ns mainGlobals mg) (F:Fc K "Taker" "Hand.__init__" (met 47 0)) (hk:∀ c∈(["Taker"]:List Str),Kl K c ["floor","told","stand","done"]) (E_:iK P w K mg base) (F8:Wo P w K mg base) (FY:dQ P w K mg base):XS P w K mg base:=
 Kb [] F X G
theorem NB (F:Fm K ["Taker"] "goes" "Taker.goes" (met 48 0)) (hk:∀ c∈(["Taker"]:List Str),Kl K c ["floor","told","stand","done"]) (Gq:Cm mg "TAKER" (.str "taker")) (Fb:cg P w K mg base) (FX:XN P w K mg base) (Fh:d_ P w K mg base) (FA:W4 P w K mg base):Wz P w K mg base:=
 jv [] F
theorem NC (F:Fm K ["Taker"] "did" "Taker.did" (met 48 1)) (hk:∀ c∈(["Taker"]:List Str),Kl K c ["floor","told","stand","done"]) (Fw:Cm mg "KEEPER" (.str "keeper")) (Fb:cg P w K mg base) (Fh:d_ P w K mg base):W0 P w K mg base:=
 jv [] F
theorem OQ (F:Fy K mg "_law_played" (top 64)) (Gz:XS P w K mg base) (FQ:Wa P w K mg base) (F6:Wg P w K mg base) (GC:We P w K mg base) (Gn:W0 P w K mg base) (F_:W2 P w K mg base) (Ga:W3 P w K mg base) (F9:Wz P w K mg base) (FT:Wb P w K mg base):X_ P w K mg base:=
 yf [] F
theorem Na {f:Addr}{fd:FuncData}(F:vR K "law" "law" (top 66) f fd) (Gi:XZ P w K mg base) (Gj:Wd P w K mg base) (FY:dQ P w K mg base) (FU:Wf P w K mg base) (GA:XY P w K mg base) (Gh:XX P w K mg base) (F5:X_ P w K mg base):w_ P w K mg base y7 12 f fd ["_law_script"] (vE K (zJ zC lS)):=
 LU [(["_law_j","_law_script","_law_k"],[none,↑0,↑5])] F (by intro Af A outer s H E hc nd hN hS hr;have hB:=trivial;show#[_,pA,qO])
end
def all_mk {l:PySem.W.OpenLaw}{w:World}{K:Ac}{h:Heap}{mg:AF}{fa:Addr}(X:K.In h) (G:h.Ns mainGlobals mg) (EN:mg "law"=↑(.ref fa))
  (h0:Fx K "is_whole" (top 10)) (h1:Fx K "is_whole_within" (top 11)) (h2:Fx K "is_from_nought_on" (top 12)) (h3:Fx K "is_row_within" (top 13)) (h4:Fx K "places_of" (top 14)) (h5:Fx K "check_place" (top 15)) (h6:Fx K "check_pair" (top 16)) (h7:Fx K "ways_from" (top 17)) (h8:Fx K "stall_at" (top 18)) (h9:Fx K "at_or_above" (top 20)) (h10:Fx K "least_pairs" (top 21)) (h11:Fx K "holds" (top 22)) (h12:Fx K "both" (top 23)) (h13:Fx K "either" (top 24)) (h14:Fx K "border_ahead_of_way" (top 26)) (h15:Fx K "pairs_ahead_of_changes" (top 27)) (h16:Fx K "border_ahead_of_changes" (top 28)) (h17:Fx K "border_of_either" (top 29)) (h18:Fx K "border_of_all" (top 30)) (h19:Fx K "next_border" (top 31)) (h20:Fx K "next_round" (top 32)) (h21:Fx K "rounds" (top 33)) (h22:Fx K "first_without" (top 34)) (h23:Fx K "is_way" (top 36)) (h24:Fx K "step_by" (top 37)) (h25:Fx K "change_by" (top 38)) (h26:Fx K "change_at" (top 39)) (h27:Fx K "check_way_from" (top 40)) (h28:Fx K "made_ready" (top 41)) (h29:Fx K "behind_deed" (top 42)) (h30:Fx K "leads_into" (top 44)) (h31:Fx K "way_out_of" (top 45)) (h32:Fx K "_law_cell_at" (top 50)) (h33:Fx K "_law_stirred" (top 51)) (h34:Fx K "_law_amount" (top 52)) (h35:Fx K "_law_way" (top 53)) (h36:Fx K "_law_floor" (top 54)) (h37:Fx K "_law_sized" (top 55)) (h38:Fx K "_law_behind" (top 56)) (h39:Fx K "_law_can" (top 57)) (h40:Fx K "_law_ways" (top 58)) (h41:Fx K "_law_deed" (top 59)) (h42:Fx K "_law_is_deed" (top 60)) (h43:Fx K "_law_held" (top 61)) (h44:Fx K "_law_start" (top 62)) (h45:Fx K "_law_lasting" (top 63)) (h46:Fx K "_law_played" (top 64)) (h47:Fx K "_law_slow" (top 65)) (h48:Fx K "law" (top 66))
  (Hv:Fc K "Taker" "Hand.__init__" (met 47 0))
  (m1:Fm K ["Taker"] "where" "Hand.where" (met 47 1))
  (m2:Fm K ["Taker"] "steps" "Hand.steps" (met 47 2))
  (m3:Fm K ["Taker"] "check_turn" "Hand.check_turn" (met 47 3))
  (m4:Fm K ["Taker"] "first_way" "Hand.first_way" (met 47 4))
  (m5:Fm K ["Taker"] "step_on" "Hand.step_on" (met 47 5))
  (m6:Fm K ["Taker"] "goes" "Taker.goes" (met 48 0))
  (m7:Fm K ["Taker"] "did" "Taker.did" (met 48 1))
  (Ft:Kl K "Taker" ["floor","told","stand","done"])
  (Fw:Cn K "KEEPER" (.str "keeper"))
  (Gq:Cn K "TAKER" (.str "taker"))
  (y0:PySem.W.nsIn K mainGlobals "set"=↑none) (y1:PySem.W.nsIn K mainGlobals "zip"=↑none) (y2:PySem.W.nsIn K mainGlobals "enumerate"=↑none) (y3:PySem.W.nsIn K mainGlobals "abs"=↑none)
  (z0:PySem.W.nsIn K mainGlobals "len"=↑none) (z1:PySem.W.nsIn K mainGlobals "range"=↑none) (z2:PySem.W.nsIn K mainGlobals "any"=↑none) (z3:PySem.W.nsIn K mainGlobals "all"=↑none) (z4:PySem.W.nsIn K mainGlobals "sorted"=↑none) (z5:PySem.W.nsIn K mainGlobals "isinstance"=↑none) (z6:PySem.W.nsIn K mainGlobals "bool"=↑none) (z7:PySem.W.nsIn K mainGlobals "int"=↑none) (z8:PySem.W.nsIn K mainGlobals "str"=↑none) (z9:PySem.W.nsIn K mainGlobals "list"=↑none) (z10:PySem.W.nsIn K mainGlobals "tuple"=↑none) (z11:PySem.W.nsIn K mainGlobals "max"=↑none) (z12:PySem.W.nsIn K mainGlobals "min"=↑none):
  ∃ fd:FuncData,(∀ (s:Shared) (v:Value),BindsTo s fd #[[v],[]] [("_law_script",v)])/\∀ base:Heap,K.In base->base.Ns mainGlobals mg->w_ l.prog w K mg base y7 12 fa fd ["_law_script"] (vE K (zJ zC lS)):=by
 have T:Bt mg:=#[Bg X G z0,Bg X G z1,Bg X G z2,Bg X G z3,Bg X G z4,Bg X G z5,Bg X G z6,Bg X G z7,Bg X G z8,Bg X G z9,Bg X G z10,Bg X G z11,Bg X G z12];have U:W5 mg:=#[#[Bg X G y0,Bg X G y1,Bg X G y2],Bg X G y3];replace Fw:=Fw.mk X G;replace Gq:=Gq.mk X G;let#[fd,Fl,hb]:=h48.law X G EN λ _ _ _ _ _ _ _ _=>.of_eq rfl;exact#[fd,hb,λ base _ _=>?_];have FG:=Nc l.prog w base T U (h0.mk X G);have Fu:=O2 l.prog w base T U (h4.mk X G);have Fn:=N9 l.prog w base T U (h9.mk X G);have E8:=OE l.prog w base T U (h10.mk X G);have Ff:=O3 l.prog w base T U (h15.mk X G);have FN:=Ox l.prog w base T U (h24.mk X G);have Gk:=Ny l.prog w base T U (h25.mk X G);have FU:=OX l.prog w base T U (h32.mk X G);have Fj:=OK l.prog w base T U (h33.mk X G);have F7:=O_ l.prog w base T U (h34.mk X G);have Gi:=OP l.prog w base T U (h37.mk X G);have F6:=OZ l.prog w base T U (h38.mk X G);have FO:=OY l.prog w base T U (h39.mk X G);have FE:=OI l.prog w base T U (h40.mk X G);have GB:=OU l.prog w base T U (h43.mk X G);have Gh:=OM l.prog w base T U (h44.mk X G);have F_:=ND l.prog w base T U m1 (λ c hc=>by cases AH.mp hc;show Ft);have Ga:=NF l.prog w base T U m2 (λ c hc=>by cases AH.mp hc;show Ft);have E7:=Nb l.prog w base T U (h1.mk X G) FG;have Fp:=Ng l.prog w base T U (h2.mk X G) FG;have Gr:=Nk l.prog w base T U (h11.mk X G) Fn;have HE:=N2 l.prog w base T U (h12.mk X G) E8;have GX:=Nr l.prog w base T U (h13.mk X G) E8;have Fi:=N5 l.prog w base T U (h14.mk X G) E8 Fn;have GO:=OJ l.prog w base T U (h35.mk X G) F7;have GC:=OW l.prog w base T U (h41.mk X G) FO FE;have FT:=OT l.prog w base T U (h42.mk X G) FE FO;have FQ:=OS l.prog w base T U (h45.mk X G) GB;have GA:=OO l.prog w base T U (h47.mk X G) Fj;have FH:=Nf l.prog w base T U (h3.mk X G) E7;have E_:=Nw l.prog w base T U (h5.mk X G) E7 Fu;have Fs:=N3 l.prog w base T U (h17.mk X G) GX;have FJ:=N4 l.prog w base T U (h18.mk X G) HE;have FI:=Nl l.prog w base T U (h22.mk X G) Gr;have GW:=Nd l.prog w base T U (h23.mk X G) E7;have F4:=OG l.prog w base T U (h30.mk X G) FN Gr;have Gj:=OV l.prog w base T U (h36.mk X G) Fj GO;have Fb:=NI l.prog w base T U m3 (λ c hc=>by cases AH.mp hc;show Ft);have F8:=Nx l.prog w base T U (h6.mk X G) FH;have Fg:=Oj l.prog w base T U (h7.mk X G) E_;have FC:=Oy l.prog w base T U (h8.mk X G) E_;have Fz:=Nv l.prog w base T U (h27.mk X G) GW;have Fd:=N6 l.prog w base T U (h16.mk X G) FC E8 Ff;have Gm:=Nz l.prog w base T U (h26.mk X G) FC Gk;have FX:=Ol l.prog w base T U (h31.mk X G) FI Fg F4;have FA:=NH l.prog w base T U m4 (λ c hc=>by cases AH.mp hc;show Ft) Fg;have FP:=O7 l.prog w base T U (h19.mk X G) Fw FJ Fi Fd Fg Fs;have F0:=OC l.prog w base T U (h28.mk X G) Gm Fp;have FZ:=O6 l.prog w base T U (h20.mk X G) FP;have FV:=N8 l.prog w base T U (h29.mk X G) Fz F0 FN;have FY:=O0 l.prog w base T U (h21.mk X G) FZ Fu;have Fh:=NG l.prog w base T U m5 (λ c hc=>by cases AH.mp hc;show Ft) FV;have Gz:=OB l.prog w base T U X G Hv (λ c hc=>by cases AH.mp hc;show Ft) E_ F8 FY;have F9:=NB l.prog w base T U m6 (λ c hc=>by cases AH.mp hc;show Ft) Gq Fb FX Fh FA;have Gn:=NC l.prog w base T U m7 (λ c hc=>by cases AH.mp hc;show Ft) Fw Fb Fh;have F5:=OQ l.prog w base T U (h46.mk X G) Gz FQ F6 GC Gn F_ Ga F9 FT;show Na l.prog w base T U Fl Gi Gj FY FU GA Gh F5
def walk {l:PySem.W.OpenLaw}{q:Program}{loose:List Str}{XP:(Str->Option Value)->Heap->Prop}{YP:World->Heap->Prop}{d:DefRec}{K:Params->Ac}(hn:l.most=↑63) (Dp:d.params.defaults=[])
  (hY:∀ (w:World) (h:Heap),YP w h->(K w.params).In h)
  (F:∀ (w:World) (mg:AF) (fa:Addr) (h:Heap),(K w.params).In h->h.Ns mainGlobals mg->mg d.name=↑(.ref fa)->
   ∃ fd:FuncData,(∀ (s:Shared) (u:Value),BindsTo s fd #[[u],[]] [("_law_script",u)])/\∀ base:Heap,(K w.params).In base->base.Ns mainGlobals mg->w_ l.prog w (K w.params) mg base y7 12 fa fd ["_law_script"] (vE (K w.params) (zJ zC lS))):
  PySem.W.WalkO q loose XP YP l.row.toRowW d [] (λ f vs=>PySem.call f vs):=
 L2.Vt (n:=63) (k:=12) (x:="_law_script") (CX:=λ _=>y7) (sp:=λ w=>vE (K w.params) (zJ zC lS)) hn () Dp #[rfl,(),()] hY F (λ _ _ a ns hl hO hS=>MB M9 hO hS hl) λ _ _ _ _ _ z=>z
end zL
open PySem PySem.W PyProof.Rows
set_option maxHeartbeats 0 in
theorem PySem.Challenge.cw_purseborder_k83_whole_taker_takes_holds : PySem.Challenge.rw_purseborder_k83_whole_taker_takes.Holds := by
 w_on;o_law;k_head;(case hw=>w_witness2)
 k_fill
 refine zL.walk (l:=PySem.Challenge.rw_purseborder_k83_whole_taker_takes) rfl rfl (λ w h Y=>PySem.W.kIn_of Y) ?F
 case F=>
  intro w mg fa h KX G Dh;refine' zL.all_mk KX G Dh ?_ ?_ ?_ ?_ ?_ ?_ ?_ ?_ ?_ ?_ ?_ ?_ ?_ ?_ ?_ ?_ ?_ ?_ ?_ ?_ ?_ ?_ ?_ ?_ ?_ ?_ ?_ ?_ ?_ ?_ ?_ ?_ ?_ ?_ ?_ ?_ ?_ ?_ ?_ ?_ ?_ ?_ ?_ ?_ ?_ ?_ ?_ ?_ ?_ ?_ ?_ ?_ ?_ ?_ ?_ ?_ ?_ ?_ ?_ ?_ ?_ ?_ ?_ ?_ ?_ ?_ ?_ ?_ ?_ ?_ ?_ ?_ ?_ ?_ ?_ ?_ ?_
  all_goals first | exact L3.Ei.i (by k_is) (by k_is) (by k_is) (by k_is) (by kernel_rfl) (by k_is) (by k_is) (by k_is) (by k_is) (by k_is) (by k_is) | exact L3.Ec.i (by k_is) (by k_is) (by k_is) (by k_is) (by kernel_rfl) | exact L3.Ez.i (by k_is) (by k_is) (by k_is) (by k_is) (by kernel_rfl) (by k_is) (by k_is) | exact L5.Fx.i (by k_is) (by k_is) (by k_is) (by k_is) | exact L5.Fm.i1 (L5.Ck.i (by k_is) (by k_is) (by k_is) (by k_is) (by k_is) (by k_is) (by k_is) (by k_is)) (by k_is) (by k_is) (by k_is) | exact L5.Fc.i (by k_is) (by k_is) (by k_is) (by k_is) (by k_is) (by k_is) (by k_is) (by k_is) | exact L5.Kl.i (by k_is) (by k_is) (by k_is) (by k_is) (by k_is) (by kernel_rfl) | k_is | exact L5.Cn.i (by k_is) (by exact⟨_,rfl⟩)
