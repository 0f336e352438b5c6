import PyProof.Rows.All
import Wide.All
import OpenK.AllK
import Wide.FinOn
import Lean
import PyProof.EqAt
import PyProof.EqKinds
import PyProof.TupleCall
import PySem.SetOps
import PyProof.SetScanFacts
import PyProof.TupleKey
import PyProof.SetKind
import PyProof.SetRoads
import PyProof.IsRules
import PyProof.ZipIter
import PyProof.TupleIter
import PyProof.ListMulRoad
import PyProof.FactsAll.tuple
import PyProof.ListRange
import PyProof.Draws
import PyProof.EnumFor
import PyProof.Rows.ListMul
import PyProof.AutoListH
import PyProof.ExcInit
import PyProof.ExcClass2
import PyProof.InstStore
import PyProof.InstStoreFacts
import PyProof.ExcArgsOwn
import PyProof.IsInstance
import PyProof.IsInstanceH
import PyProof.StationsW
import PyProof.Rows.CatchOwn
import PyProof.FactsAll.dict_1
import PyProof.Rows.Range3
import PyProof.FitsBits
import PySem.Challenge.RW_purseborder_k63_floors_compared
set_option Elab.async false
set_option linter.all false
set_option maxRecDepth 100000
set_option genSizeOf false
set_option compiler.extract_closed false
set_option bootstrap.genMatcherCode false
abbrev Af:=PySem.Value->PySem.Shared->Prop
abbrev Aj:=List (PySem.Addr×PySem.Obj)
abbrev Ae:=List PySem.Value
abbrev Au:=PySem.Str->Option PySem.Value
abbrev Aw:=Array PySem.Value
def AG {p:Prop}[Decidable p](h:decide p=true:=by decide +kernel):p:=of_decide_eq_true h
noncomputable section
def Kj:=@PySem.wpAny_bind
def gV:=@PySem.Heap.get?_push_of_some
def tp:=@PySem.wpAny_mono
def za3:=@PySem.wpAny_field
def za4:=@PySem.wpAny_loadPart_at
def za5:=@decide_eq_false
def za6:=@PySem.Heap.get?_update_other
def za7:=@PySem.wpAny_holding
def za8:=@PySem.Heap.get?_update_self
def za9:=@PySem.wpAny_newObj_type
def zaA:=@decide_eq_true
def zaB:=@PySem.wpAny_call_entry
def zaC:=@PySem.wpAny_setState_of
def zaD:=@PySem.wpAny_setField
def zaE:=@PySem.wpAny_seqItems
def zaF:=@PySem.wpAny_isSubtype_exc
def zaG:=@PySem.wpAny_callSpecial?_slot
def zaH:=@PySem.wpAny_truthy_bool
def zaI:=@PySem.wpAny_execs_nil
def zaJ:=@PySem.wpAny_passesOwn
def zaK:=@PySem.wpAny_typeOf
def zaL:=@PySem.wpAny_setField_rec
def zaM:=@PySem.wpAny_Call_Name_kw
def zaN:=@PySem.wpAny_askSetting
def zaO:=@PySem.Heap.get?_none_of_le
def zaP:=@PySem.Heap.get?_update_ne
def Al:=@Option.bind_eq_some_iff
def Ax:=@List.mem_cons_self
def Ay:=@List.mem_cons_of_mem
def AM:=@Option.map_eq_some_iff
def A8:=@List.not_mem_nil
def Bh:=@List.map_nil
def Bo:=@Nat.ne_of_gt
def BC:=@List.nodup_cons
def BJ:=@List.lookup_cons
def BI:=@List.pairwise_cons
def BH:=@List.any_cons
def BG:=@List.contains_cons
def BO:=@List.length_take
def BN:=@Nat.lt_or_ge
def BZ:=@List.length_filter_le
def B_:=@Bool.false_ne_true
def B9:=@List.length_drop
def B8:=@List.replicate_succ
def B7:=@Nat.lt_trans
def Ct:=@List.getElem?_append_right
def Cs:=@List.getElem?_append_left
def Cr:=@Int.toNat_natCast
def Cq:=@List.flatten_cons
def Cp:=@List.mem_iff_getElem
def Co:=@Nat.lt_succ_of_lt
def CD:=@List.filterMap_cons
def CC:=@List.append_nil
def CB:=@Bool.or_true
def CA:=@List.find?_cons
def Cz:=@Array.getElem_toList
def Cy:=@List.mem_flatMap
def C6:=@List.mem_append_left
def C5:=@List.mem_filterMap
def C4:=@List.of_mem_zip
def C3:=@List.length_nil
def C2:=@List.length_set
def C1:=@List.reverse_cons
def C0:=@Bool.and_false
def CZ:=@List.getElem?_set
def CY:=@Array.getElem?_eq_none
def CW:=@List.map_take
def CV:=@List.map_drop
def CU:=@Nat.le_add_right
def CT:=@Int.zero_add
def Di:=@Bool.or_false
def Dh:=@Array.size_map
def Dg:=@List.pairwise_map
def Df:=@List.pairwise_iff_getElem
def De:=@Nat.mod_lt
def Dd:=@List.toList_toArray
def DZ:=@Option.isSome_iff_exists
def DY:=@List.getElem?_replicate
def DX:=@List.forIn_cons
def DW:=@List.append_assoc
def DV:=@List.pairwise_append
def DU:=@List.lookup_append
def DT:=@List.getElem_range
def DS:=@Array.getD_eq_getD_getElem?
def DR:=@Bool.and_self
def DQ:=@List.map_congr_left
def DP:=@Nat.mul_comm
def DN:=@Nat.lt_trichotomy
def DM:=@List.mem_of_mem_drop
def DL:=@Array.getElem?_setIfInBounds
def DJ:=@List.foldl_cons
def DI:=@List.zipIdx_cons
def DH:=@Nat.le_succ
def Ex:=@Array.append_assoc
def Ew:=@List.getElem?_set_self
def Eu:=@List.getElem?_set_ne
def Et:=@List.pairwise_singleton
def Es:=@List.ext_getElem
def Er:=@List.range_succ_eq_map
def Ep:=@List.any_append
def Eo:=@Nat.eq_zero_or_pos
def En:=@List.length_pos_of_mem
def Em:=@List.nodup_range
def El:=@List.getElem?_cons_succ
def Ek:=@List.take_append_drop
def Ej:=@List.mem_of_mem_take
def Eh:=@List.perm_ext_iff_of_nodup
def Eg:=@List.mem_iff_getElem?
def Ef:=@Bool.or_eq_true
def Ee:=@Int.mul_le_mul_of_nonneg_right
def Ed:=@Int.lt_of_le_of_lt
def zcD:=@Array.getElem?_setIfInBounds_ne
def AD:=@List.size_toArray
def A7:=@List.getElem?_eq_getElem
def AU:=@List.getElem?_eq_some_iff
def AR:=@List.getElem?_map
def Ak:=@Nat.le_refl
def An:=@List.mem_cons
def Ar:=@List.map_cons
def AA:=@List.length_map
def Aq:=@PySem.Heap.lt_size
def AJ:=@PySem.Heap.get?_push_size
def Av:=@List.mem_map
def BL:=@List.getD_eq_getElem?_getD
def C8:=@Bool.not_false
def AH:=@Nat.ne_of_lt
def A5:=@List.mem_append_right
def C7:=@Bool.not_true
def AZ:=@List.mem_singleton
def BU:=@List.mem_of_getElem?
def Bu:=@Array.getElem?_eq_getElem
def AY:=@List.mem_append
def Bj:=@List.length_cons
def A2:=@List.mem_range
def Bg:=@PySem.W.mg_none_of
def Ba:=@Nat.lt_of_lt_of_le
def Bp:=@Bool.false_eq_true
def Cv:=@List.length_range
def AX:=@Int.le_refl
def B2:=@Bool.eq_iff_iff
def Bf:=@List.mem_filter
def BS:=@Option.bind_some
def Bi:=@List.any_eq_true
def Ad:=@PySem.wpAny_pure
def BE:=@Array.length_toList
def BR:=@Array.getElem?_toList
def A4:=@Nat.zero_le
def A_:=@Option.some.inj
def AN:=@List.map_map
def Bs:=@List.length_append
def CH:=@List.getElem_mem
def A9:=@Nat.le_trans
def Cb:=@Nat.lt_irrefl
def CG:=@Nat.lt_succ_self
def BD:=@Nat.le_of_lt
def CF:=@List.all_eq_true
def BQ:=@Bool.and_eq_true
def BP:=@List.map_append
def Br:=@Int.emod_nonneg
def BK:=@Int.emod_lt_of_pos
def Cu:=@Int.toNat_of_nonneg
open Lean in
def zR:Nat->Term->MacroM (TSyntax `rcasesPat)
|0,_=>Macro.throwUnsupported
|n+1,t=>match t with
 |`(#[$xs,*])=>do let ys<-xs.getElems.mapM (zR n);`(rcasesPat|⟨$[$ys:rcasesPat],*⟩)
 |`(_)=>`(rcasesPat|_)
 |`($x:ident)=>`(rcasesPat|$x:ident)
 |_=>Macro.throwUnsupported
local macro_rules|`(tactic|let $p:term:=$e)=>do let q<-zR 9 p;`(tactic|obtain $q:rcasesPat:=$e)
local macro_rules|`(tactic|simp! [$a,*] $[$l:location]?)=>`(tactic|simp only [$a,*] $[$l:location]?)
local macro_rules|`(tactic|exists $e)=>`(tactic|simpa using $e)
local macro_rules|`(tactic|show $e)=>`(tactic|refine $e)
local macro_rules|`(tactic|exact $e)=>`(tactic|refine $e)
local macro_rules|`(#[])=>`(by simp)|`(#[$xs,*])=>`(⟨$xs,*⟩)
local macro_rules|`(↑$x)=>`(some $x)
local macro_rules|`(⋯)=>`(by lia)
local macro_rules|`(())=>`(by decide)
abbrev Ac:=PySem.W.Frag
local macro_rules(kind:=Lean.Parser.Command.declaration)|s=>do
 if s[0][4].getNumArgs>0||![``Lean.Parser.Command.definition,``Lean.Parser.Command.abbrev].contains s[1].getKind then Lean.Macro.throwUnsupported
 return s.setArg 0 (s[0].setArg 4 (Lean.mkNullNode [Lean.mkNode ``Lean.Parser.Command.noncomputable [Lean.mkAtom "noncomputable"].toArray].toArray))
namespace L2
open PySem PySem.Spec PyProof.Rows
abbrev Key:=Sum Int Str
def qR:Key->Value->Bool
 | .inl k,v=>Value.isInt k v
 | .inr x,v=>Value.isStrOf x v
def OJ (w:World):Key->Int
 | .inl k=>hashInt k
 | .inr x=>hashStr w x
theorem tX:∀ {k:Key}{v:Value},qR k v=true->(∃ i t,k=Sum.inl i/\v=Value.int i t)\/(∃ x t,k=Sum.inr x/\v=Value.str x t)
 | .inl i,v,h=>by
  let#[t,e]:=Value.isInt_shape (k:=i) (v:=v) h;show .inl #[i,t,rfl,e]
 | .inr x,v,h=>by
  let#[t,e]:=Value.isStrOf_shape (x:=x) (v:=v) h;show .inr #[x,t,rfl,e]
def OI (i:Int) (t:Tok):qR (.inl i) (.int i t)=true:=by simp[qR,Value.isInt]
def OH (x:Str) (t:Tok):qR (.inr x) (.str x t)=true:=by simp[qR,Value.isStrOf]
def OG (a b:Int):decide ((Sum.inl a:Key)=Sum.inl b)=(a == b):=by
 by_cases e:a=b
 .subst e;simp
 .have h:¬ (Sum.inl a:Key)=Sum.inl b:=λ q=>e (Sum.inl.inj q);rw[za5 h];show (beq_eq_false_iff_ne.mpr e).symm
def OC (a b:Str):decide ((Sum.inr a:Key)=Sum.inr b)=decide (a=b):=by
 by_cases e:a=b
 .subst e;simp
 .have h:¬ (Sum.inr a:Key)=Sum.inr b:=λ q=>e (Sum.inr.inj q);rw[za5 h,za5 e]
def OE (a:Int) (b:Str):decide ((Sum.inl a:Key)=Sum.inr b)=false:=za5 (λ q=>nomatch q)
def OD (a:Str) (b:Int):decide ((Sum.inr a:Key)=Sum.inl b)=false:=za5 (λ q=>nomatch q)
def wA (prog:Program) (w:World):PySem.KeyKind prog w Key where
 is:=qR
 hash:=OJ w
 inj:=λ v a b ha hb=>by
  rcases tX ha with ⟨i,t,rfl,rfl⟩ | ⟨x,t,rfl,rfl⟩
  .rcases tX hb with ⟨j,u,rfl,e⟩ | ⟨y,u,rfl,e⟩
   .injection e with e1 _;rw[e1]
   .show nomatch e
  .rcases tX hb with ⟨j,u,rfl,e⟩ | ⟨y,u,rfl,e⟩
   .show nomatch e
   .injection e with e1 _;rw[e1]
 byValue:=λ k v h=>by
  rcases tX h with ⟨i,t,rfl,rfl⟩ | ⟨x,t,rfl,rfl⟩ <;> rfl
 pyHash:=λ hv h=>by
  rcases tX hv with ⟨i,t,rfl,rfl⟩ | ⟨x,t,rfl,rfl⟩
  .show wpAny_pyHash_int h
  .show wpAny_pyHash_str h
 eqBool:=λ hu hv h=>by
  rcases tX hu with ⟨i,t,rfl,rfl⟩ | ⟨x,t,rfl,rfl⟩
  .rcases tX hv with ⟨j,u,rfl,rfl⟩ | ⟨y,u,rfl,rfl⟩
   .rw[OG] at h;show wpAny_eqBool_int h
   .rw[OE] at h;show SeqAt.EqAt.int_str i t y u _ _ _ _ h
  .rcases tX hv with ⟨j,u,rfl,rfl⟩ | ⟨y,u,rfl,rfl⟩
   .rw[OD] at h;show SeqAt.EqAt.str_int x t j u _ _ _ _ h
   .rw[OC] at h;show wpAny_eqBool_str h
 «strs»:=λ k x t v h=>by
  rcases tX h with ⟨i,u,rfl,e⟩ | ⟨y,u,rfl,e⟩
  .show nomatch e
  .injection e with e1 _
   subst e1;cases v <;> rfl
def Oc (prog:Program) (w:World) (i:Int) (t:Tok):(wA prog w).is (.inl i) (.int i t)=true:=OI i t
def Ob (prog:Program) (w:World) (x:Str) (t:Tok):(wA prog w).is (.inr x) (.str x t)=true:=OH x t
inductive V where
 | zr | bl (b:Bool) | int (i:Int) | str (x:Str) | kj (b:Array UInt8) | bR (b:UInt64) | ref (a:Addr) | ty (n:String)
 deriving DecidableEq
def RelV:V->Value->Prop
 | .zr,u=>u=Value.none
 | .bl b,u=>u=Value.bool b
 | .int i,u=>∃ t,u=Value.int i t
 | .str x,u=>∃ t,u=Value.str x t
 | .kj b,u=>∃ t,u=Value.bytes b t
 | .bR b,u=>∃ t,u=Value.float b t
 | .ref a,u=>u=Value.ref a
 | .ty n,u=>u=Value.type n
abbrev Vals:List V->List Value->Prop:=Paired RelV
theorem Vals.length {xs:List V}{us:Ae}(r:Vals xs us):xs.length=us.length:=Paired.length r
theorem Vals.get:∀ {xs:List V}{us:Ae}{i:Nat}{x:V},Vals xs us->xs[i]?=↑x->∃ u,us[i]?=↑u/\RelV x u
 | _,_,_,_,.nil,e=>by simp at e
 | _,_,0,_,.cons r _,e=>by simp at e;subst e;show#[_,rfl,r]
 | _,_,i+1,x,.cons _ t,e=>by
  let#[u,h1,h2]:=Vals.get (i:=i) (x:=x) t (by exists e);show#[u,by simpa using h1,h2]
theorem Vals.set {x:V}{u:Value}(r:RelV x u):∀ {xs:List V}{us:Ae}(i:Nat),Vals xs us->Vals (xs.set i x) (us.set i u)
 | _,_,_,.nil=>.nil
 | _,_,0,.cons _ t=>.cons r t
 | _,_,i+1,.cons q t=>.cons q (Vals.set r i t)
theorem Vals.append:∀ {xs ys:List V}{us ws:Ae},Vals xs us->Vals ys ws->Vals (xs++ys) (us++ws)
 | _,_,_,_,.nil,s=>s
 | _,_,_,_,.cons r t,s=>.cons r (Vals.append t s)
theorem Vals.take:∀ {xs:List V}{us:Ae}(n:Nat),Vals xs us->Vals (xs.take n) (us.take n)
 | _,_,0,_=>.nil
 | _,_,_+1,.nil=>.nil
 | _,_,n+1,.cons r t=>.cons r (Vals.take n t)
theorem Vals.drop:∀ {xs:List V}{us:Ae}(n:Nat),Vals xs us->Vals (xs.drop n) (us.drop n)
 | _,_,0,r=>r
 | _,_,_+1,.nil=>.nil
 | _,_,n+1,.cons _ t=>Vals.drop n t
def uk:Option V->Option Value->Prop
 | some v,↑u=>RelV v u
 | none,none=>True
 | _,_=>False
def KV {κ:Type}:List (κ × V)->List (κ × Value)->Prop:=Paired λ(p:κ × V) (q:κ × Value)=>p.1=q.1/\RelV p.2 q.2
def kV:Key->V
 | .inl i=>.int i
 | .inr x=>.str x
inductive HO where
 /-- a list -/
 | lst (xs:List V)
 /-- a tuple (never changes) -/
 | tup (xs:List V)
 /-- a dict I_ keys are ints and texts;one I_ keys are tuples of ints and texts (IL empty one is both) -/
 | dK (Ab:List (Key×V)) | dT (Ab:List (List Key×V))
 /-- a set of ints: Aa members,Aa size -/
 | set (S:Int->Bool) (n:Nat)
 /-- an instance of IL class at C,Aa dict at dx,Aa attributes -/
 | ins (C dx:Addr) (fs:List (Str×V))
 /-- IL dict of IL instance at x -/
 | own (x:Addr)
 /-- IL dict of an exception -/
 | xd (fs:List (Str×V))
 /-- a bound method,f of x -/
 | met (f x:Addr)
 /-- a range object lo,lo+1,.. below hi -/
 | jw (lo hi:Int)
 /-- a Jc that is known to IL object (IL Kp;a dict while a loop walks it): read,never written while it is so -/
 | xV (o:Obj) (u:HO)
 /-- a code Ji table -/
 | rP (ps:Aw)
 /-- any other Jc,by what is true of Aa one object (a def of one's own: y6 a S n:=HO.ext λ h=>..) -/
 | ext (φ:Heap->Prop)
abbrev Hp:=Addr->Option HO
def upd (H:Hp) (a:Addr) (o:HO):Hp:=λ b=>if b=a then ↑o else H b
def yf {H:Hp}{a:Addr}{o:HO}:upd H a o a=↑o:=by unfold upd;rw[if_pos rfl]
def zO {H:Hp}{a b:Addr}{o:HO}(h:b≠a):upd H a o b=H b:=by unfold upd;rw[if_neg h]
def uR {H:Hp}{a b:Addr}{o u:HO}(h:H a=↑o) (h':H b=↑u) (d:o≠u):a≠b:=by
 intro e;subst e;rw[h] at h';show d (A_ h')
def xE {H:Hp}{a b:Addr}{o:HO}(h:H a=↑o) (h':H b=none):a≠b:=by
 intro e;subst e;rw[h] at h';cases h'
def gE (h:Heap) (a:Addr):Prop:=∃ o,h.get? a=↑o/\o.dict=none
def gE.new (h:Heap) {d:Aw}{n:Nat}:gE (h.push { cls:=.type "tuple",data:=.seq d n }) h.objs.size:=#[_,AJ _ rfl,rfl]
section
variable (P:Program)(w:World)
def yH (H:Hp) (h:Heap) (a:Addr):HO->Prop
 | .lst xs=>xs.length<=sizeLine/\∃ (Aa:Ae) (n:Nat),Vals xs Aa/\h.get? a=↑{ cls:=.type "list",data:=.seq Aa.toArray n }
 | .tup xs=>(xs.length<=sizeLine/\gE h a)/\∃ Aa:List Value,Vals xs Aa/\IsTup h a Aa.toArray
 | .dK Ab=>Ab.length<=sizeLine/\(a == sysModules)=false/\∃ vs,KV Ab vs/\h.DictOf (wA P w) a vs
 | .dT Ab=>Ab.length<=sizeLine/\(a == sysModules)=false/\∃ xs:List (List Key×Addr×Value),
   Paired (λ(p:List Key×V) (q:List Key×Addr×Value)=>p.1=q.1/\H q.2.1=↑(.tup (p.1.map kV))/\RelV p.2 q.2.2) Ab xs/\
   ∃ o es ep,h.get? a=↑o/\o.ExactDict/\o.data=.dict es ep/\es.toList=xs.map (entryOfKey (tupleKind (wA P w)))/\(xs.map (·.1)).Nodup
 | .set S n=>h.SetOf (intKind P w) a S n
 | .ins C dx fs=>H dx=↑(.own a)/\fs.length<=1000/\dx≠a/\h.get? a=↑(PySem.W.instObj C dx)/\
   ∃ mA,h.Ns1 dx mA/\(∀ f,uk (fs.lookup f) (mA f))/\PySem.Within mA (fs.map (·.1))
 | .own _=>∃ o,h.get? a=↑o
 | .xd fs=>∃ mA,h.Ns1 a mA/\∀ f,uk (fs.lookup f) (mA f)
 | .jw lo hi=>∃ t u v,h.get? a=↑{ cls:=.type "range",data:=.fields [.int lo t,.int hi u,.int 1 v].toArray }
 | .xV o u=>h.get? a=↑o/\yH H h a u
 | .rP ps=>h.get? a=↑{ cls:=.none,data:=.fields ps }
 | .met f x=>h.get? a=↑(PySem.W.methodObj (.ref f) (.ref x))
 | .ext φ=>φ h/\(∃ o,h.get? a=↑o)/\∀ h1 h2:Heap,φ h1->(∀ o,h1.get? a=↑o->h2.get? a=↑o)->φ h2
def ye (H:Hp) (h:Heap):Prop:=∀ a o,H a=↑o->yH P w H h a o
end
section
variable {P:Program}{w:World}{H H':Hp}{h h':Heap}{a:Addr}{o:HO}
theorem yH.lt (x:yH P w H h a o):a<h.objs.size:=by
 cases o with
 | lst xs=>let#[_,_,_,_,e]:=x;show Aq e
 | tup xs=>let#[_,_,_,p]:=x;show p.lt
 | dK Ab=>let#[_,_,_,_,o,_,_,e,_]:=x;show Aq e
 | dT Ab=>let#[_,_,_,_,o,_,_,e,_]:=x;show Aq e
 | set S n=>let#[o,_,_,_,e,_]:=x;show Aq e
 | ins C dx fs=>let#[_,_,_,e,_]:=x;show Aq e
 | own y=>let#[_,e]:=x;show Aq e
 | xd fs=>let#[_,#[_,_,_,e,_],_]:=x;show Aq e
 | jw lo hi=>let#[_,_,_,e]:=x;show Aq e
 | xV ob u=>let#[e,_]:=x;show Aq e
 | rP ps=>show Aq (show h.get? a=↑_ from x)
 | met f y=>show Aq (show h.get? a=↑_ from x)
 | ext φ=>let#[_,#[_,e],_]:=x;show Aq e
theorem Paired.l7 {α β:Type}{F G:α->β->Prop}:∀ {l₁:List α}{l₂:List β},Paired F l₁ l₂->(∀ a b,F a b->G a b)->Paired G l₁ l₂
 | _,_,.nil,_=>.nil
 | _,_,.cons r t,f=>.cons (f _ _ r) (Paired.l7 t f)
def yH.vk (x:yH P w H h a o) (k:∀ b u,(b=a\/H b=↑(.own a))->h.get? b=↑u->h'.get? b=↑u)
  (ho:∀ b,H b=↑(.own a)->H' b=↑(.own a)) (ht:∀ b xs,H b=↑(.tup xs)->H' b=↑(.tup xs)):yH P w H' h' a o:=by
 induction o with
 | lst xs=>let#[z,Aa,n,r,e]:=x;show#[z,Aa,n,r,k _ _ (.inl rfl) e]
 | tup xs=>let#[#[z,y,u,v],Aa,r,ob,e,c]:=x;show#[#[z,y,k _ _ (.inl rfl) u,v],Aa,r,ob,k _ _ (.inl rfl) e,c]
 | dK Ab=>let#[z,y,vs,r,ob,es,ep,e,c]:=x;show#[z,y,vs,r,ob,es,ep,k _ _ (.inl rfl) e,c]
 | dT Ab=>
  let#[z,y,xs,r,ob,es,ep,e,c]:=x;show#[z,y,xs,Paired.l7 r λ p q z=>#[z.1,ht _ _ z.2.1,z.2.2],ob,es,ep,k _ _ (.inl rfl) e,c]
 | set S n=>let#[ob,es,ep,t,e,c]:=x;show#[ob,es,ep,t,k _ _ (.inl rfl) e,c]
 | ins C dx fs=>
  let#[d,z,ne,e,mA,#[od,es,ep,e2,c],r]:=x;show#[ho _ d,z,ne,k _ _ (.inl rfl) e,mA,#[od,es,ep,k _ _ (.inr d) e2,c],r]
 | own y=>let#[ob,e]:=x;show#[ob,k _ _ (.inl rfl) e]
 | xd fs=>let#[mA,#[od,es,ep,e,c],r]:=x;show#[mA,#[od,es,ep,k _ _ (.inl rfl) e,c],r]
 | jw lo hi=>let#[t,u,v,e]:=x;show#[t,u,v,k _ _ (.inl rfl) e]
 | xV ob u ih=>let#[e,q]:=x;show#[k _ _ (.inl rfl) e,ih q]
 | rP ps=>
  have e:h.get? a=↑{ cls:=.none,data:=.fields ps }:=x;change h'.get? a=↑{ cls:=.none,data:=.fields ps };show k a _ (.inl rfl) e
 | met f y=>
  have e:h.get? a=↑(PySem.W.methodObj (.ref f) (.ref y)):=x;change h'.get? a=↑(PySem.W.methodObj (.ref f) (.ref y));show k a _ (.inl rfl) e
 | ext φ=>let#[p,#[o,e],st]:=x;show#[st _ _ p λ o q=>k _ _ (.inl rfl) q,#[o,k _ _ (.inl rfl) e],st]
theorem ye.lt (x:ye P w H h) (e:H a=↑o):a<h.objs.size:=(x a o e).lt
def ye.fresh (x:ye P w H h) (e:h.objs.size<=a):H a=none:=by
 cases q:H a with
 | none=>rfl
 | some u=>show absurd (Ba (x.lt q) e) (Cb _)
def ye.kept (x:ye P w H h) (k:∀ b u,h.get? b=↑u->h'.get? b=↑u):ye P w H h':=λ a o e=>
 (x a o e).vk (λ b u _ q=>k b u q) (λ _ q=>q) λ _ _ q=>q
def ye.laid (x:ye P w H h) (k:∀ b u,h.get? b=↑u->h'.get? b=↑u) (hp:h.objs.size<=a) (new:yH P w (upd H a o) h' a o):ye P w (upd H a o) h':=λ b u e=>by
 have hn:=x.fresh hp;by_cases hb:b=a
 .subst hb;rw[yf] at e;cases e;show new
 .rw[zO hb] at e;show (x b u e).vk (λ c v _ q=>k c v q) (λ c q=>by rw[zO (xE q hn)];show q) λ c xs q=>by rw[zO (xE q hn)];show q
end
def Rd (H:Hp) (a:Addr) (u:HO):Prop:=H a=↑u\/∃ o,H a=↑(.xV o u)
def Rd.ok {P:Program}{w:World}{H:Hp}{h:Heap}{a:Addr}{u:HO}(r:Rd H a u) (x:ye P w H h):yH P w H h a u:=by
 rcases r with r | ⟨o,r⟩
 .show x a u r
 .let#[_,q]:=x a _ r;show q
def nZ:Option HO->Prop
 | some (.lst _)=>True
 | some (.dK _)=>True
 | some (.dT _)=>True
 | some (.set _ _)=>True
 | some (.ins _ _ _)=>True
 | some (.ext _)=>True
 | _=>False
section
variable {P:Program}{w:World}{H:Hp}{h h':Heap}{x e:Addr}{o':HO}
def ye.write (ok:ye P w H h) (mu:nZ (H x)) (he:e=x\/H e=↑(.own x)) (k:∀ b u,b≠e->h.get? b=↑u->h'.get? b=↑u) (C_:∃ u,h'.get? e=↑u)
  (new:yH P w (upd H x o') h' x o'):ye P w (upd H x o') h':=λ b u q=>by
 have Jl:∀ c y,H c=↑(.own y)->c≠x:=λ c y r z=>by subst z;rw[r] at mu;show mu
 have Kw:∀ c xs,H c=↑(.tup xs)->c≠x:=λ c xs r z=>by subst z;rw[r] at mu;show mu
 by_cases hb:b=x
 .subst hb;rw[yf] at q;cases q;show new
 .rw[zO hb] at q;by_cases BB:b=e
  .have q':H b=↑(.own x):=by
    rcases he with z | z
    .show absurd (BB.trans z) hb
    .rw[BB];show z
   rw[q] at q';cases q';let#[v,hv]:=C_;show#[v,by rw[BB];show hv]
  .exact (ok b u q).vk (λ c v hc r=>k c v ?_ r) (λ c r=>by rw[zO (Jl c b r)];show r) λ c xs r=>by rw[zO (Kw c xs r)];show r
   rcases hc with rfl | hc
   .show BB
   .rintro rfl;rcases he with z | z
    .show Jl c b hc z
    .rw[hc] at z;cases z;show hb rfl
end
structure Un (fs ex:List Addr) (H H':Hp) (h h':Heap):Prop where
 keep:∀ b o,h.get? b=↑o->H b=none->b∉fs->b∉ex->h'.get? b=↑o
 slot:∀ b o,h.get? b=↑o->H b=none->b∈fs->b∉ex->∃ sl,h'.get? b=↑{ o with slots:=sl }
 free:∀ b o,h.get? b=↑o->H b=none->b∉ex->H' b=none
 there:∀ b o,h.get? b=↑o->b∉ex->∃ o',h'.get? b=↑o'
 wZ:∀ b xs,H b=↑(.tup xs)->H' b=↑(.tup xs)
 v9:∀ b o u,H b=↑(.xV o u)->H' b=↑(.xV o u)
 vO:∀ b ps,H b=↑(.rP ps)->∃ more,H' b=↑(.rP (ps++more))
section
variable {fs ex:List Addr}{H H1:Hp}{h h1 h':Heap}{a x e:Addr}{o:HO}
def Un.any (u:Un fs ex H H1 h h1) {b:Addr}{ob:Obj}(q:h.get? b=↑ob) (n:H b=none) (hx:b∉ex):∃ sl,h1.get? b=↑{ ob with slots:=sl }:=by
 by_cases hb:b∈fs
 .show u.slot b ob q n hb hx
 .show#[ob.slots,u.keep b ob q n hb hx]
def Un.kept (k:∀ b u,h.get? b=↑u->h'.get? b=↑u):Un fs ex H H h h':=
 #[λ b ob q _ _ _=>k b ob q,λ b ob q _ _ _=>#[ob.slots,k b ob q],λ _ _ _ n _=>n,λ b ob q _=>#[ob,k b ob q],λ _ _ q=>q,λ _ _ _ q=>q,λ _ ps q=>#[[].toArray,by rw[q];simp]]
def Un.refl:Un fs ex H H h h:=Un.kept λ _ _ q=>q
def Un.laid (k:∀ b u,h.get? b=↑u->h'.get? b=↑u) (hp:h.objs.size<=a) (hn:H a=none):Un fs ex H (upd H a o) h h' where
 keep:=λ b u q _ _ _=>k b u q
 slot:=λ b u q _ _ _=>#[u.slots,k b u q]
 free:=λ b u q n _=>by rw[zO (AH (Ba (Aq q) hp))];show n
 there:=λ b u q _=>#[u,k b u q]
 wZ:=λ b xs q=>by rw[zO (xE q hn)];show q
 v9:=λ b u xs q=>by rw[zO (xE q hn)];show q
 vO:=λ b ps q=>#[[].toArray,by rw[zO (xE q hn),q];simp]
def Un.write (mu:nZ (H x)) (he:e=x\/H e=↑(.own x)) (k:∀ b u,b≠e->h.get? b=↑u->h'.get? b=↑u) (C_:∃ u,h'.get? e=↑u):Un fs ex H (upd H x o) h h':=by
 have hx:∀ b,H b=none->b≠x:=λ b n z=>by subst z;rw[n] at mu;show mu
 have hb:∀ b,H b=none->b≠e:=λ b n z=>by
  subst z;rcases he with r | r
  .show hx b n r
  .rw[n] at r;cases r
 have hm:∀ b u,H b=↑u->¬ nZ ↑u->b≠x:=λ b u q nm z=>by subst z;rw[q] at mu;show nm mu
 exact#[λ b u q n _ _=>k b u (hb b n) q,λ b u q n _ _=>#[u.slots,k b u (hb b n) q],λ b u q n _=>by rw[zO (hx b n)];show n,λ b u q _=>?_,
  λ b xs q=>by rw[zO (hm b _ q λ z=>z)];show q,λ b u xs q=>by rw[zO (hm b _ q λ z=>z)];show q,λ b ps q=>#[[].toArray,by rw[zO (hm b _ q λ z=>z),q];simp]]
 by_cases BB:b=e
 .subst BB;show C_
 .show#[u,k b u BB q]
end
def mI (h:Heap) (H:Hp):List Addr:=(List.range h.objs.size).filter λ a=>(H a).isSome
def tY (h:Heap) (H:Hp):Heap:=PySem.W.hideAll h (mI h H)
def Nn (h:Heap) (H:Hp):(tY h H).objs.size=h.objs.size:=PySem.W.hideAll_size _ _
def Np {h:Heap}{H:Hp}{b:Addr}{o:Obj}(e:h.get? b=↑o) (n:H b=none):(tY h H).get? b=↑o:=
 PySem.W.hideAll_get _ e λ hm=>by
  have q:(H b).isSome=true:=(Bf.mp hm).2;rw[n] at q;simp at q
def Pt {h:Heap}{H:Hp}{b:Addr}{o:Obj}(e:(tY h H).get? b=↑o):h.get? b=↑o/\H b=none:=by
 have e':h.get? b=↑o:=PySem.W.of_hideAll (mI h H) e;exact#[e',?_];cases q:H b with
 | none=>rfl
 | some x=>
  have hm:b∈mI h H:=Bf.mpr #[A2.mpr (Aq e'),by simp[q]];have z:(tY h H).get? b=none:=PySem.W.hideAll_none (mI h H) hm;rw[z] at e;cases e
structure Mod (K:Ac) (mg:Au) (base:Heap):Prop where
 oK:K.In base
 glob:base.Ns mainGlobals mg
 blt:∃ mb,base.Ns builtinsNs mb/\∀ x:Str,x≠"__name__"->mb x=bootBuiltins x
 nolimit:base.NoLimit
structure Cx where
 prog:Program
 w:World
 K:Ac
 mg:Str->Option Value
 base:Heap
 A:Around
 N:List Str
 s₀:Shared
 H₀:Hp
 env:Env
 outer:List Env
 stack:List Env
 ex:List Addr
 fn:Str->Bool
 calm:Bool
 pn:Aj
 xe:Af
def y8 (l:List Env):List Addr:=l.filterMap (·.frame)
abbrev AE (X:Cx) (e:Expr) (es:List Expr):Prop:=starEach (e::es) X.env=(false,eval e X.env)::starEach es X.env
abbrev AI (X:Cx) (p:Pos) (es:List Expr):Prop:=(backTo p (starEach es X.env)).any (·.1)=false
abbrev Cx.fs (X:Cx):List Addr:=y8 X.outer
def k8 (sc:Scope) (x:Str):Prop:=sc.names.lookup x=↑.local\/sc.names.lookup x=↑.cell\/sc.names.lookup x=↑.free
def Loc (sc:Scope) (x:Str):Prop:=sc.names.lookup x=↑.local\/sc.names.lookup x=↑.cell
def Look (env:Env) (h:Heap) (m:Au) (x:Str) (u:Value):Prop:=
 (env.kindOf x=↑.local/\m x=↑u)\/((env.kindOf x=↑.cell\/env.kindOf x=↑.free)/\∃ c,env.cells.lookup x=↑c/\h.IsCell c ↑u)
structure Cx.Ok (X:Cx):Prop where
 mod:Mod X.K X.mg X.base
 kind:X.env.scope.kind=.function
 glob:X.env.globals=mainGlobals
 blt:X.env.builtins=builtinsNs
 above:X.s₀.heap.objs.size<=X.env.locals
 inj:∀ x y c,X.env.cells.lookup x=↑c->X.env.cells.lookup y=↑c->x=y
 has:∀ x,(X.env.kindOf x=↑.cell\/X.env.kindOf x=↑.free)->∃ c,X.env.cells.lookup x=↑c
 qj:∀ x c,X.fn x=true->X.env.cells.lookup x=↑c->X.s₀.heap.objs.size<=c
 hd:X.calm=true->X.A.handled=none
 frames:X.A.frames=↑X.stack
 qD:X.stack=X.outer\/(X.stack=X.env::X.outer/\X.env.frame=↑X.env.locals)
 o_:∀ b∈X.ex,b≠X.env.locals/\∀ x c,X.env.cells.lookup x=↑c->c≠b
 bs:∀ b o,X.base.get? b=↑o->X.s₀.heap.get? b=↑o/\X.H₀ b=none
 se:X.base.objs.size<=X.s₀.heap.objs.size
 rV:∀ b o,X.base.get? b=↑o->b∉X.ex
 qd:∀ b∈X.ex,b∉X.fs
 v8:X.s₀.heap.FunFrames X.base X.outer
 sW:∀ b∈X.fs,X.H₀ b=none
structure Inv (X:Cx) (Ff:Aj) (Y:List (Option V)) (H:Hp) (s:Shared):Prop where
 ok:X.Ok
 os:s.os=X.s₀.os
 bare:AllBare s.gens
 base:Un X.fs X.ex X.H₀ H X.s₀.heap s.heap
 loc:∃ m,s.heap.Ns X.env.locals m/\∀ (i:Nat) (x:Str) (v:V),X.N[i]?=↑x->Y[i]?=↑↑v->k8 X.env.scope x->∃ u,RelV v u/\Look X.env s.heap m x u
 cell:∀ x c,X.env.cells.lookup x=↑c->∃ v,s.heap.IsCell c v
 free:H X.env.locals=none
 wN:∀ x c,X.env.cells.lookup x=↑c->H c=none
 pin:∀ p∈X.pn++Ff,s.heap.get? p.1=↑p.2/\H p.1=none/\p.1≠X.env.locals/\p.1∉X.fs/\∀ v,p.2.data≠.cell v
 zm:ye X.prog X.w H s.heap
 len:Y.length=X.N.length
section
variable {X:Cx}{Ff:Aj}{Y:List (Option V)}{H H':Hp}{s:Shared}{h':Heap}
def Cx.Ok.PH (ok:X.Ok) {b:Addr}{o:Obj}(e:X.base.get? b=↑o):b∉X.fs:=λ hb=>by
 have:=(ok.v8.mem hb).1;rw[e] at this;cases this
theorem Inv.bs (I:Inv X Ff Y H s):∀ b o,X.base.get? b=↑o->s.heap.get? b=↑o/\H b=none:=λ b o e=>
 #[I.base.keep b o (I.ok.bs b o e).1 (I.ok.bs b o e).2 (I.ok.PH e) (I.ok.rV b o e),I.base.free b o (I.ok.bs b o e).1 (I.ok.bs b o e).2 (I.ok.rV b o e)]
def Inv.bk (I:Inv X Ff Y H s):∀ b o,X.base.get? b=↑o->s.heap.get? b=↑o:=λ b o e=>(I.bs b o e).1
theorem Inv.mod (I:Inv X Ff Y H s):Mod X.K X.mg X.base:=I.ok.mod
def Inv.yD (I:Inv X Ff Y H s):X.K.In s.heap:=I.ok.mod.oK.keeps I.bk
theorem Inv.lt (I:Inv X Ff Y H s):X.env.locals<s.heap.objs.size:=let #[_,hn,_]:=I.loc;hn.lt
def Inv.sz (I:Inv X Ff Y H s):X.s₀.heap.objs.size<=s.heap.objs.size:=A9 I.ok.above (BD I.lt)
def Inv.cj (I:Inv X Ff Y H s) {a:Addr}(h:s.heap.objs.size<=a):a∉X.fs:=λ hb=>by
 let#[_,o,ho,_]:=I.ok.v8.mem hb;show absurd (Ba (Aq ho) (A9 I.sz h)) (Cb _)
def Inv.uG (I:Inv X Ff Y H s):∀ x c,X.env.cells.lookup x=↑c->c≠X.env.locals:=λ x c e z=>by
 let#[v,o,ho,hd]:=I.cell x c e;let#[m,#[o',es,ep,F5,HU,_],_]:=I.loc;rw[z,F5] at ho;cases ho;rw[HU] at hd;cases hd
theorem Inv.v8 (I:Inv X Ff Y H s):s.heap.FunFrames X.base X.outer:=by
 have all:∀ (l:List Env),(∀ b∈y8 l,b∈X.fs)->X.s₀.heap.FunFrames X.base l->s.heap.FunFrames X.base l:=by
  intro l
  induction l with
  | nil=>intro _ _;trivial
  | cons env r ih=>
   intro hs hl;let#[hk,#[L,o,hf,hn,ho,hd],hr]:=hl;have hL:L∈X.fs:=hs L (by unfold y8;rw[CD,hf];show Ax);let#[sl,e]:=I.base.slot L o ho (I.ok.sW L hL) hL λ z=>I.ok.qd L z hL;show#[hk,#[L,_,hf,hn,e,hd],ih (λ b hb=>hs b (by unfold y8;rw[CD,hf];show Ay _ hb)) hr]
 show all X.outer (λ _ hb=>hb) I.ok.v8
theorem Inv.stack (I:Inv X Ff Y H s):s.heap.FunFrames X.base X.stack:=by
 rcases I.ok.qD with e | ⟨e,hf⟩
 .rw[e];show I.v8
 .rw[e];let#[m,hn,_]:=I.loc;exact .cons (by rw[I.ok.kind];decide) hf hn ?_ I.v8;show zaO (A9 I.ok.se I.ok.above)
def Inv.jl (I:Inv X Ff Y H s):∀ b∈y8 X.stack,b∈X.env.locals::X.fs:=λ b hb=>by
 rcases I.ok.qD with e | ⟨e,hf⟩
 .rw[e] at hb;show Ay _ hb
 .rw[e] at hb;unfold y8 at hb;rw[CD,hf] at hb;show hb
def Inv.jm (I:Inv X Ff Y H s):∀ b∈y8 X.stack,H b=none:=λ b hb=>by
 rcases An.mp (I.jl b hb) with e | hb
 .rw[e];show I.free
 .let#[_,o,ho,_]:=I.ok.v8.mem hb;show I.base.free b o ho (I.ok.sW b hb) λ z=>I.ok.qd b z hb
def Inv.step {g':Array GenState}{t':Nat}{d':Drawn}{ch:List Addr}(I:Inv X Ff Y H s)
  (Ca:∀ b∈ch,(b∈X.ex\/X.s₀.heap.objs.size<=b)/\b≠X.env.locals/\(∀ x c,X.env.cells.lookup x=↑c->c≠b)/\∀ p∈X.pn++Ff,p.1≠b)
  (keep:∀ b o,b≠X.env.locals->b∉X.fs->b∉ch->s.heap.get? b=↑o->H b=none->h'.get? b=↑o)
  (slot:∀ b o,b≠X.env.locals->b∈X.fs->b∉ch->s.heap.get? b=↑o->H b=none->∃ sl,h'.get? b=↑{ o with slots:=sl }) (free:∀ b o,b∉ch->s.heap.get? b=↑o->H b=none->H' b=none)
  (there:∀ b o,b∉ch->s.heap.get? b=↑o->∃ o',h'.get? b=↑o')
  (wZ:∀ b xs,H b=↑(.tup xs)->H' b=↑(.tup xs)) (v9:∀ b o u,H b=↑(.xV o u)->H' b=↑(.xV o u)) (vO:∀ b ps,H b=↑(.rP ps)->∃ more,H' b=↑(.rP (ps++more)))
  (ns:∀ m,s.heap.Ns X.env.locals m->h'.Ns X.env.locals m) (zm:ye X.prog X.w H' h') (hg:AllBare g'):
  Inv X Ff Y H' { s with heap:=h',gens:=g',drawn:=d',toks:=t' }:=by
 have neL:∀ b o,X.s₀.heap.get? b=↑o->b≠X.env.locals:=λ b o e=>AH (Ba (Aq e) I.ok.above);have JX:∀ b o,X.s₀.heap.get? b=↑o->b∉X.ex->b∉ch:=λ b o e hx hb=>by
  rcases (Ca b hb).1 with z | z
  .show hx z
  .show absurd (Ba (Aq e) z) (Cb _)
 have cellK:∀ x c,X.env.cells.lookup x=↑c->∀ v,s.heap.IsCell c v->h'.IsCell c v:=λ x c e v #[o,ho,hd]=>by
  have Jo:c∉ch:=λ z=>(Ca c z).2.2.1 x c e rfl;by_cases hc:c∈X.fs
  .let#[sl,q]:=slot c o (I.uG x c e) hc Jo ho (I.wN x c e);show#[_,q,hd]
  .show#[o,keep c o (I.uG x c e) hc Jo ho (I.wN x c e),hd]
 exact#[I.ok,I.os,hg,#[λ b o e n hb hx=>?_,λ b o e n hb hx=>?_,λ b o e n hx=>?_,λ b o e hx=>?_,λ b xs e=>wZ b xs (I.base.wZ b xs e),λ b o xs e=>v9 b o xs (I.base.v9 b o xs e),λ b ps e=>?_],?_,λ x c e=>?_,?_,λ x c e=>?_,λ p hp=>?_,zm,I.len]
 .show keep b o (neL b o e) hb (JX b o e hx) (I.base.keep b o e n hb hx) (I.base.free b o e n hx)
 .let#[sl,e1]:=I.base.slot b o e n hb hx;let#[Ko,e2]:=slot b _ (neL b o e) hb (JX b o e hx) e1 (I.base.free b o e n hx);show#[Ko,e2]
 .let#[o',e1]:=I.base.there b o e hx;show free b o' (JX b o e hx) e1 (I.base.free b o e n hx)
 .let#[o',e1]:=I.base.there b o e hx;show there b o' (JX b o e hx) e1
 .let#[m1,e1]:=I.base.vO b ps e;let#[m2,e2]:=vO b _ e1;show#[m1++m2,by rw[e2,Ex]]
 .let#[m,hn,hl]:=I.loc;exact#[m,ns m hn,λ i x v e1 e2 e3=>?_];let#[u,r,l]:=hl i x v e1 e2 e3;exact#[u,r,?_];rcases l with l | ⟨k,c,e,z⟩
  .show .inl l
  .show .inr #[k,c,e,cellK x c e _ z]
 .let#[v,z]:=I.cell x c e;show#[v,cellK x c e v z]
 .let#[m,#[o,_,_,ho,_],_]:=I.loc;show free _ o (λ z=>(Ca _ z).2.1 rfl) ho I.free
 .let#[v,o,ho,hd]:=I.cell x c e;show free c o (λ z=>(Ca c z).2.2.1 x c e rfl) ho (I.wN x c e)
 .let#[e,n,ne,nf,d]:=I.pin p hp;have Jo:p.1∉ch:=λ z=>(Ca p.1 z).2.2.2 p hp rfl;show#[keep p.1 p.2 ne nf Jo e n,free p.1 p.2 Jo e n,ne,nf,d]
theorem Inv.un {t':Nat}(I:Inv X Ff Y H s) (u:Un X.fs [] H H' s.heap h') (zm:ye X.prog X.w H' h'):Inv X Ff Y H' { s with heap:=h',toks:=t' }:=by
 let#[m,#[o,es,ep,ho,r],_]:=id I.loc;let#[sl,hL]:=u.any ho I.free #[];show I.step (g':=s.gens) (d':=s.drawn) (ch:=[]) (λ _ z=>nomatch z) (λ b o _ hb _ e n=>u.keep b o e n hb #[]) (λ b o _ hb _ e n=>u.slot b o e n hb #[]) (λ b o _ e n=>u.free b o e n #[]) (λ b o _ e=>u.there b o e #[]) u.wZ u.v9 u.vO (λ m' hm=>by
  let#[o',Gh,ep',F5,r']:=hm;rw[ho] at F5;cases F5;show#[_,Gh,ep',hL,r']) zm I.bare
def Inv.call {g':Array GenState}{t':Nat}{d':Drawn}{ch:List Addr}(I:Inv X Ff Y H s) (u:Un (y8 X.stack) ch H H' s.heap h') (zm:ye X.prog X.w H' h') (hg:AllBare g')
  (Ca:∀ b∈ch,(b∈X.ex\/X.s₀.heap.objs.size<=b)/\b≠X.env.locals/\(∀ x c,X.env.cells.lookup x=↑c->c≠b)/\∀ p∈X.pn++Ff,p.1≠b):
  Inv X Ff Y H' { s with heap:=h',gens:=g',drawn:=d',toks:=t' }:=by
 let#[m,#[o,es,ep,ho,r],_]:=id I.loc;let#[sl,hL]:=u.any ho I.free λ z=>(Ca _ z).2.1 rfl;show I.step (ch:=ch) Ca (λ b o hL hb hc e n=>u.keep b o e n (λ z=>(An.mp (I.jl b z)).elim hL hb) hc) (λ b o _ _ hc e n=>u.any e n hc) (λ b o hc e n=>u.free b o e n hc) (λ b o hc e=>u.there b o e hc) u.wZ u.v9 u.vO (λ m' hm=>by
  let#[o',Gh,ep',F5,r']:=hm;rw[ho] at F5;cases F5;show#[_,Gh,ep',hL,r']) zm hg
def Inv.turned {t':Nat}{it:Addr}(I:Inv X Ff Y H s) (k:∀ b o,b≠it->s.heap.get? b=↑o->h'.get? b=↑o) (hn:H it=none) (hL:it≠X.env.locals)
  (h1:it∈X.ex\/X.s₀.heap.objs.size<=it) (h2:∀ x c,X.env.cells.lookup x=↑c->c≠it) (h3:∀ p∈X.pn++Ff,p.1≠it):Inv X Ff Y H { s with heap:=h',toks:=t' }:=by
 have Jn:∀ b u,H b=↑u->b≠it:=λ b u e z=>by rw[z,hn] at e;cases e
 exact I.step (g':=s.gens) (d':=s.drawn) (ch:=[it]) (λ b hb=>?_) (λ b o _ _ hc e _=>k b o (λ z=>hc (by simp[z])) e) (λ b o _ _ hc e _=>#[o.slots,k b o (λ z=>hc (by simp[z])) e]) (λ _ _ _ _ n=>n)
  (λ b o hc e=>#[o,k b o (λ z=>hc (by simp[z])) e]) (λ _ _ e=>e) (λ _ _ _ e=>e) (λ b ps e=>#[[].toArray,by rw[e];simp]) (λ m hm=>?_) (λ b u e=>?_) I.bare
 .have e:b=it:=by exists hb
  subst e;show#[h1,hL,h2,h3]
 .let#[o,es,ep,ho,r]:=hm;show#[o,es,ep,k _ o (Ne.symm hL) ho,r]
 .exact (I.zm b u e).vk (λ c v hc q=>k c v ?_ q) (λ _ q=>q) λ _ _ q=>q;rcases hc with z | z
  .rw[z];show Jn b u e
  .show Jn c _ z
def Inv.tok (I:Inv X Ff Y H s) (t:Nat):Inv X Ff Y H { s with toks:=t }:=I.un (h':=s.heap) (t':=t) Un.refl I.zm
theorem Inv.kept {t':Nat}(I:Inv X Ff Y H s) (k:∀ b u,s.heap.get? b=↑u->h'.get? b=↑u):Inv X Ff Y H { s with heap:=h',toks:=t' }:=I.un (Un.kept k) (I.zm.kept k)
theorem Inv.laid {a:Addr}{o:HO}{t':Nat}(I:Inv X Ff Y H s) (k:∀ b u,s.heap.get? b=↑u->h'.get? b=↑u) (hp:s.heap.objs.size<=a) (new:yH X.prog X.w (upd H a o) h' a o):
  Inv X Ff Y (upd H a o) { s with heap:=h',toks:=t' }:=I.un (Un.laid k hp (I.zm.fresh hp)) (I.zm.laid k hp new)
theorem Inv.write {x e:Addr}{o:HO}{t':Nat}(I:Inv X Ff Y H s) (mu:nZ (H x)) (he:e=x\/H e=↑(.own x)) (k:∀ b u,b≠e->s.heap.get? b=↑u->h'.get? b=↑u) (C_:∃ u,h'.get? e=↑u)
  (new:yH X.prog X.w (upd H x o) h' x o):Inv X Ff Y (upd H x o) { s with heap:=h',toks:=t' }:=I.un (Un.write mu he k C_) (I.zm.write mu he k C_ new)
def Inv.j8 {FJ:Aj}(I:Inv X Ff Y H s) (h:∀ p∈FJ,s.heap.get? p.1=↑p.2/\H p.1=none/\p.1≠X.env.locals/\p.1∉X.fs/\∀ v,p.2.data≠.cell v):Inv X FJ Y H s:=
 #[I.ok,I.os,I.bare,I.base,I.loc,I.cell,I.free,I.wN,λ p hp=>(AY.mp hp).elim (λ z=>I.pin p (C6 _ z)) (h p),I.zm,I.len]
def jL {N:List Str}(hN:N.Nodup) {i j:Nat}{x:Str}(a:N[i]?=↑x) (b:N[j]?=↑x):i=j:=by
 let#[h1,e1]:=AU.mp a;let#[h2,e2]:=AU.mp b;show (List.getElem_inj hN).mp (e1.trans e2.symm)
def Wo {M:Model}{A:Around}{E:Af}{i:Nat}{x:Str}{v:V}{u:Value}{Q:Unit->Shared->Prop}(I:Inv X Ff Y H s) (hN:X.N.Nodup) (hi:X.N[i]?=↑x) (hx:Loc X.env.scope x) (r:RelV v u)
  (h:∀ s',Inv X Ff (Y.set i ↑v) H s'->(∃ a,Heap.SameBut a s.heap s'.heap/\(a=X.env.locals\/X.env.cells.lookup x=↑a))->Q Unit.unit s') (hf:X.fn x=true\/X.env.scope.names.lookup x=↑.local:=by first | show .inl rfl | show .inr rfl | assumption):wpAny M A (storeName X.env x u) Q E s:=by
 let#[m,hn,hl]:=id I.loc;have Be:(X.env.scope.kind == .class||(X.env.scope.kind == .module&&X.env.locals != X.env.globals))=false:=by rw[I.ok.kind];rfl
 have hiσ:i < Y.length:=by rw[I.len];show (AU.mp hi).1
 have uG:=I.uG;have tracked:∀ {a:Addr}{h':Heap},(∃ o,s.heap.get? a=↑o/\H a=none)->Heap.SameBut a s.heap h'->ye X.prog X.w H h':=λ{a h'} ha hs b ob e=>by
  let#[_,_,Ic]:=ha;exact (I.zm b ob e).vk (λ c w' hc q=>(hs.2 c ?_).trans q) (λ _ q=>q) λ _ _ q=>q;rintro rfl;rcases hc with rfl | hc
  .rw[Ic] at e;cases e
  .rw[Ic] at hc;cases hc
 rcases hx with hk | hk
 .exact wpAny_storeName_local hk hn (λ h' HS hs=>?_) Be;let#[oL,_,_,Jv,_]:=id hn;exact h _ #[I.ok,I.os,I.bare,#[λ b o e n hb hx=>?_,λ b o e n hb hx=>?_,I.base.free,λ b o e hx=>?_,I.base.wZ,I.base.v9,I.base.vO],#[_,HS,λ j y v' e1 e2 e3=>?_],λ y c e=>?_,I.free,I.wN,λ p hp=>?_,tracked #[oL,Jv,I.free] hs,by exists I.len] #[_,hs,.inl rfl]
  .show (hs.2 b (AH (Ba (Aq e) I.ok.above))).trans (I.base.keep b o e n hb hx)
  .let#[sl,e1]:=I.base.slot b o e n hb hx;show#[sl,(hs.2 b (AH (Ba (Aq e) I.ok.above))).trans e1]
  .let#[o',e1]:=I.base.there b o e hx;show#[o',(hs.2 b (AH (Ba (Aq e) I.ok.above))).trans e1]
  .by_cases hj:j=i
   .subst hj;rw[hi] at e1;cases e1;rw[Ew hiσ] at e2;cases e2;show#[u,r,.inl #[hk,#[]]]
   .rw[Eu (Ne.symm hj)] at e2;let#[u',r',q]:=hl j y v' e1 e2 e3;exact#[u',r',?_];rcases q with ⟨k,e⟩ | ⟨k,c,e,z⟩
    .exact .inl #[k,?_];have:y≠x:=λ e=>hj (jL hN e1 (e▸hi));simp[this,e]
    .show .inr #[k,c,e,z.sameBut hs (uG y c e)]
  .let#[w',z]:=I.cell y c e;show#[w',z.sameBut hs (uG y c e)]
  .let#[e,n,ne,nf,d]:=I.pin p hp;show#[(hs.2 p.1 ne).trans e,n,ne,nf,d]
 .have Ci:X.fn x=true:=by
   rcases hf with z | z
   .show z
   .rw[z] at hk;cases hk
  let#[c,hc]:=I.ok.has x (.inl hk);let#[w',z]:=I.cell x c hc;exact wpAny_storeName_cell I.ok.kind hk hc z (λ h' JG hs=>?_);let#[oc,hoc,ES]:=id z;exact h { s with heap:=h' } #[I.ok,I.os,I.bare,#[λ b o e n hb hx=>?_,λ b o e n hb hx=>?_,I.base.free,λ b o e hx=>?_,I.base.wZ,I.base.v9,I.base.vO],#[m,hn.sameBut hs (Ne.symm (uG x c hc)),λ j y v' e1 e2 e3=>?_],λ y c' e=>?_,I.free,I.wN,λ p hp=>?_,tracked #[oc,hoc,I.wN x c hc] hs,by exists I.len] #[c,hs,.inr hc]
  .show (hs.2 b (AH (Ba (Aq e) (I.ok.qj x c Ci hc)))).trans (I.base.keep b o e n hb hx)
  .let#[sl,e1]:=I.base.slot b o e n hb hx;show#[sl,(hs.2 b (AH (Ba (Aq e) (I.ok.qj x c Ci hc)))).trans e1]
  .let#[o',e1]:=I.base.there b o e hx;show#[o',(hs.2 b (AH (Ba (Aq e) (I.ok.qj x c Ci hc)))).trans e1]
  .by_cases hj:j=i
   .subst hj;rw[hi] at e1;cases e1;rw[Ew hiσ] at e2;cases e2;show#[u,r,.inr #[.inl hk,c,hc,JG]]
   .rw[Eu (Ne.symm hj)] at e2;let#[u',r',q]:=hl j y v' e1 e2 e3;exact#[u',r',?_];rcases q with q | ⟨k,c',e,z'⟩
    .show .inl q
    .exact .inr #[k,c',e,z'.sameBut hs ?_];rintro rfl;show hj (jL hN e1 (I.ok.inj _ _ _ e hc▸hi))
  .by_cases BF:c'=c
   .subst BF;show#[_,JG]
   .let#[w2,z2]:=I.cell y c' e;show#[w2,z2.sameBut hs BF]
  .let#[e,n,ne,nf,d]:=I.pin p hp;exact#[(hs.2 p.1 ?_).trans e,n,ne,nf,d];intro q;rw[q,hoc] at e;have q':oc=p.2:=A_ e;show d w' (by rw[<- q'];show ES)
def p_ {M:Model}{A:Around}{E:Af}{i:Nat}{x:Str}{v:V}{u:Value}{Q:Unit->Shared->Prop}(I:Inv X Ff Y H s) (hN:X.N.Nodup) (hi:X.N[i]?=↑x) (hx:Loc X.env.scope x) (r:RelV v u)
  (h:∀ s',Inv X Ff (Y.set i ↑v) H s'->Q Unit.unit s') (hf:X.fn x=true\/X.env.scope.names.lookup x=↑.local:=by first | show .inl rfl | show .inr rfl | assumption):wpAny M A (storeName X.env x u) Q E s:=
 Wo I hN hi hx r (λ s' I' _=>h s' I') hf
def Inv.Zg {s':Shared}{ch:List Addr}(I:Inv X Ff Y H s) (ho:s'.os=s.os) (u:Un (y8 X.stack) ch H H' s.heap s'.heap) (zm:ye X.prog X.w H' s'.heap) (hg:AllBare s'.gens)
  (Ca:∀ b∈ch,(b∈X.ex\/X.s₀.heap.objs.size<=b)/\b≠X.env.locals/\(∀ x c,X.env.cells.lookup x=↑c->c≠b)/\∀ p∈X.pn++Ff,p.1≠b):Inv X Ff Y H' s':=by
 let#[h',g',d',t',o']:=s';have e:o'=s.os:=ho;subst e;show I.call (g':=g') (t':=t') (d':=d') u zm hg Ca
end
abbrev XK:=Value->Option Addr->Hp->Prop
abbrev St:=List (Option V)
abbrev VK:=V->Hp->Prop
abbrev TE:=St->Hp->VK->Prop
abbrev TT:=St->Hp->(Bool->Hp->Prop)->Prop
abbrev TA:=St->Hp->(List V->Hp->Prop)->Prop
structure Ends where
 nx:St->Hp->Prop
 rt:VK
 bk:St->Hp->Prop:=λ _ _=>False
 ct:St->Hp->Prop:=λ _ _=>False
abbrev TS:=Ends->St->Hp->Prop
def EP (X:Cx) (Ff:Aj) (Y:St) (Q:VK) (u:Value) (s':Shared):Prop:=∃ v H',Inv X Ff Y H' s'/\RelV v u/\Q v H'
def TP (X:Cx) (Ff:Aj) (Y:St) (Q:Bool->Hp->Prop) (b:Bool) (s':Shared):Prop:=∃ H',Inv X Ff Y H' s'/\Q b H'
def AP (X:Cx) (Ff:Aj) (Y:St) (Q:List V->Hp->Prop) (us:Ae) (s':Shared):Prop:=∃ vs H',Inv X Ff Y H' s'/\Vals vs us/\Q vs H'
def SP (X:Cx) (Ff:Aj) (D:Ends) (f:Flow) (s':Shared):Prop:=
 match f with
 | .next=>∃ Y' H',Inv X Ff Y' H' s'/\D.nx Y' H'
 | .brk=>∃ Y' H',Inv X Ff Y' H' s'/\D.bk Y' H'
 | .cont=>∃ Y' H',Inv X Ff Y' H' s'/\D.ct Y' H'
 | .ret u=>∃ v Y' H',Inv X Ff Y' H' s'/\RelV v u/\D.rt v H'
def PE (X:Cx) (e:Expr) (t:TE):Prop:=
 ∀ (Ff:Aj) (s:Shared) (Y:St) (H:Hp) (Q:VK),Inv X Ff Y H s->t Y H Q->wpAny (model X.prog X.w) X.A (eval e X.env) (EP X Ff Y Q) X.xe s
def PT (X:Cx) (e:Expr) (t:TT):Prop:=
 ∀ (Ff:Aj) (s:Shared) (Y:St) (H:Hp) (Q:Bool->Hp->Prop),Inv X Ff Y H s->t Y H Q->wpAny (model X.prog X.w) X.A (isTrue e X.env (eval e X.env)) (TP X Ff Y Q) X.xe s
def PW (X:Cx) (e:Expr) (t:TT):Prop:=
 ∀ (whole:Sem Value) (Ff:Aj) (s:Shared) (Y:St) (H:Hp) (Q:Bool->Hp->Prop),Inv X Ff Y H s->t Y H Q->wpAny (model X.prog X.w) X.A (isTrue e X.env whole) (TP X Ff Y Q) X.xe s
def PW.pt {X:Cx}{e:Expr}{t:TT}(h:PW X e t):PT X e t:=h _
def PA (X:Cx) (es:List Expr) (t:TA):Prop:=
 ∀ (pos:Pos) (Ff:Aj) (s:Shared) (Y:St) (H:Hp) (Q:List V->Hp->Prop),Inv X Ff Y H s->t Y H Q->wpAny (model X.prog X.w) X.A (spliced (backTo pos (starEach es X.env))) (AP X Ff Y Q) X.xe s
def PS (X:Cx) (st:Stmt) (t:TS):Prop:=
 ∀ (Ff:Aj) (s:Shared) (Y:St) (H:Hp) (D:Ends),Inv X Ff Y H s->t D Y H->wpAny (model X.prog X.w) X.A (exec st X.env) (SP X Ff D) X.xe s
def xO (X:Cx) (st:List Stmt) (t:TS):Prop:=
 ∀ (Ff:Aj) (s:Shared) (Y:St) (H:Hp) (D:Ends),Inv X Ff Y H s->t D Y H->wpAny (model X.prog X.w) X.A (execs st X.env) (SP X Ff D) X.xe s
def zw {α:Type}{t:Sem α}{Q Q':α->Shared->Prop}{M:Model}{A:Around}{E:Af}{s:Shared}(h:wpAny M A t Q E s) (hQ:∀ a s,Q a s->Q' a s):wpAny M A t Q' E s:=tp h hQ λ _ _ x=>x
section
variable {X:Cx}
def jf (i:Nat):TE:=fun Y H Q=>∃ v,Y[i]?=↑↑v/\Q v H
def tC (v:V):TE:=λ _ H Q=>Q v H
def VU {i:Nat}{x:Str}{pos:Pos}(hN:X.N[i]?=↑x) (hv:k8 X.env.scope x) (hd:(x == ("__debug__":Str))=false:=by decide) (BA:(x == ("__classdict__":Str))=false:=by decide):PE X (.Name x pos) (jf i):=by
 intro Ff s Y H Q I h;let#[v,e,h]:=h;let#[m,hn,hl]:=I.loc;let#[u,r,l]:=hl i x v hN e hv;have fin:EP X Ff Y Q u s:=#[v,H,I,r,h];rcases l with ⟨hk,hm⟩ | ⟨hk,c,hc,Ii⟩
 .show wpAny_Name (wpAny_loadName_local I.ok.kind hk hn hm fin) hd
 .rcases hk with hk | hk
  .show wpAny_Name (wpAny_loadName_cell I.ok.kind hk hc Ii fin) hd
  .show wpAny_Name (wpAny_loadName_free I.ok.kind hk hc Ii fin BA) hd
def Uh {i j pos}:PE X (.Constant (.int i) j pos) (tC (.int i)):=λ _ _ _ H _ I h=>wpAny_Constant_int #[.int i,H,I.tok _,#[_,rfl],h]
def Us {b j pos}:PE X (.Constant (.bool b) j pos) (tC (.bl b)):=λ _ _ _ H _ I h=>Constant_bool #[.bl b,H,I,rfl,h]
def Uc {j pos}:PE X (.Constant .none j pos) (tC .zr):=λ _ _ _ H _ I h=>Constant_none #[.zr,H,I,rfl,h]
def VX {x j pos}:PE X (.Constant (.str x) j pos) (tC (.str x)):=λ _ _ _ H _ I h=>Calls.Constant_str #[.str x,H,I.tok _,#[_,rfl],h]
def Gl (X:Cx) (x:Str):Prop:=X.env.kindOf x=↑.globalImplicit
def oJ {E:Af}{Ff:Aj}{s:Shared}{Y:St}{H:Hp}{x:Str}{u:Value}{pos:Pos}{Q:Af}(I:Inv X Ff Y H s) (hg:Gl X x) (hm:X.mg x=↑u) (h:Q u s)
  (hd:(x == ("__debug__":Str))=false:=by decide):wpAny (model X.prog X.w) X.A (eval (.Name x pos) X.env) Q E s:=
 Calls.Name_function_global I.ok.kind hg (Calls.loadGlobal_global (by rw[I.ok.glob];show I.mod.glob.keeps I.bk) hm h) hd
def rZ {E:Af}{Ff:Aj}{s:Shared}{Y:St}{H:Hp}{x:Str}{u:Value}{pos:Pos}{Q:Af}(I:Inv X Ff Y H s) (hg:Gl X x) (hm:X.mg x=none) (hv:bootBuiltins x=↑u) (h:Q u s)
  (hn:x≠"__name__":=by decide) (hd:(x == ("__debug__":Str))=false:=by decide):wpAny (model X.prog X.w) X.A (eval (.Name x pos) X.env) Q E s:=by
 let#[mb,h1,h2]:=I.mod.blt;show Calls.Name_function_global I.ok.kind hg (Calls.loadGlobal_builtin (by rw[I.ok.glob];show I.mod.glob.keeps I.bk) hm (by rw[I.ok.blt];show h1.keeps I.bk) ((h2 x hn).trans hv) h) hd
def dB {x:Str}{v:V}{u:Value}{pos:Pos}(hg:Gl X x) (hm:X.mg x=↑u) (r:RelV v u) (hd:(x == ("__debug__":Str))=false:=by decide):PE X (.Name x pos) (tC v):=
 λ _ _ _ H _ I h=>oJ I hg hm #[v,H,I,r,h] hd
def dD {x:Str}{v:V}{u:Value}{pos:Pos}(hg:Gl X x) (hm:X.mg x=none) (hv:bootBuiltins x=↑u) (r:RelV v u) (hn:x≠"__name__":=by decide) (hd:(x == ("__debug__":Str))=false:=by decide):PE X (.Name x pos) (tC v):=
 λ _ _ _ H _ I h=>rZ I hg hm hv #[v,H,I,r,h] hn hd
variable {a b:Expr}{ta tb:TE}{pos:Pos}
variable {tA JV:TT}{Fh:List Expr}
def Wm (t u:TT):TT:=fun Y H Q=>t Y H λ c H1=>if c=true then u Y H1 Q else Q false H1
def XZ (t u:TT):TT:=fun Y H Q=>t Y H λ c H1=>if c=true then Q true H1 else u Y H1 Q
def Wa (t:TT):TT:=fun Y H Q=>t Y H λ c H1=>Q (!c) H1
def Vk (ha:PT X a tA):PW X (.BoolOp .And [a] pos) tA:=by
 intro wh Ff s Y H Q I h;exact isTrue_and (zw (ha Ff s Y H Q I h) λ c s1 e=>?_);cases c with
 | true=>show isTrue_and_nil e
 | false=>show e
def Vi (ha:PT X a tA):PW X (.BoolOp .Or [a] pos) tA:=by
 intro wh Ff s Y H Q I h;exact isTrue_or (zw (ha Ff s Y H Q I h) λ c s1 e=>?_);cases c with
 | false=>show isTrue_or_nil e
 | true=>show e
def Vl (ha:PT X a tA) (hb:PW X (.BoolOp .And (b::Fh) pos) JV):PW X (.BoolOp .And (a::b::Fh) pos) (Wm tA JV):=by
 intro wh Ff s Y H Q I h;exact isTrue_and (zw (ha Ff s Y H _ I h) λ c s1 #[H1,I1,q1]=>?_);cases c with
 | true=>show hb wh Ff s1 Y H1 Q I1 q1
 | false=>show#[H1,I1,q1]
def Vj (ha:PT X a tA) (hb:PW X (.BoolOp .Or (b::Fh) pos) JV):PW X (.BoolOp .Or (a::b::Fh) pos) (XZ tA JV):=by
 intro wh Ff s Y H Q I h;exact isTrue_or (zw (ha Ff s Y H _ I h) λ c s1 #[H1,I1,q1]=>?_);cases c with
 | true=>show#[H1,I1,q1]
 | false=>show hb wh Ff s1 Y H1 Q I1 q1
def Vp (ha:PT X a tA):PT X (.UnaryOp .Not a pos) (Wa tA):=by
 intro Ff s Y H Q I h;show isTrue_not (ha Ff s Y H (λ c H1=>Q (!c) H1) I h)
def Wl (ta tb:TE):TE:=fun Y H Q=>ta Y H λ x H1=>∃ c,x=.bl c/\if c=true then tb Y H1 Q else Q (.bl false) H1
def XY (ta tb:TE):TE:=fun Y H Q=>ta Y H λ x H1=>∃ c,x=.bl c/\if c=true then Q (.bl true) H1 else tb Y H1 Q
def X_ (ta:TE):TE:=fun Y H Q=>ta Y H λ x H1=>∃ c,x=.bl c/\Q (.bl (!c)) H1
def Ua {op} {t:TE}(h:PE X a t):PE X (.BoolOp op [a] pos) t:=λ Ff s Y H Q I hw=>BoolOp_one (h Ff s Y H Q I hw)
def Ut (ha:PE X a ta) (hb:PE X (.BoolOp .And (b::Fh) pos) tb):PE X (.BoolOp .And (a::b::Fh) pos) (Wl ta tb):=by
 intro Ff s Y H Q I h;exact BoolOp_and (zw (ha Ff s Y H _ I h) λ v s1 #[x,H1,I1,r1,q1]=>?_);let#[c,rfl,q1]:=q1;cases r1;exact zaH ?_;cases c with
 | true=>show hb Ff s1 Y H1 Q I1 q1
 | false=>show#[.bl false,H1,I1,rfl,q1]
def VZ (ha:PE X a ta) (hb:PE X (.BoolOp .Or (b::Fh) pos) tb):PE X (.BoolOp .Or (a::b::Fh) pos) (XY ta tb):=by
 intro Ff s Y H Q I h;exact BoolOp_or (zw (ha Ff s Y H _ I h) λ v s1 #[x,H1,I1,r1,q1]=>?_);let#[c,rfl,q1]:=q1;cases r1;exact zaH ?_;cases c with
 | false=>show hb Ff s1 Y H1 Q I1 q1
 | true=>show#[.bl true,H1,I1,rfl,q1]
def Ub (ha:PE X a ta):PE X (.UnaryOp .Not a pos) (X_ ta):=by
 intro Ff s Y H Q I h;exact UnaryOp_ (zw (ha Ff s Y H _ I h) λ v s1 #[x,H1,I1,r1,q1]=>?_);let#[c,rfl,q1]:=q1;cases r1;show not_of (zaH #[.bl (!c),H1,I1,rfl,q1])
def Wf (t:TT) (ta tb:TE):TE:=fun Y H Q=>t Y H λ c H1=>if c=true then ta Y H1 Q else tb Y H1 Q
def Ui {c:Expr}(hc:PT X c tA) (ha:PE X a ta) (hb:PE X b tb):PE X (.IfExp c a b pos) (Wf tA ta tb):=by
 intro Ff s Y H Q I h;exact wpAny_IfExp (zw (hc Ff s Y H _ I h) λ d s1 #[H1,I1,q1]=>?_);cases d with
 | true=>show ha Ff s1 Y H1 Q I1 q1
 | false=>show hb Ff s1 Y H1 Q I1 q1
end
def zG (K:Ac) (H:Hp) (a:Addr) (xs:List V):Prop:=
 Rd H a (.lst xs)\/
  ∃ (o:Obj) (Aa:Aw) (n:Nat),K.lookup a=↑o/\o.cls=.type "list"/\o.dict=none/\o.data=.seq Aa n/\Aa.size<=sizeLine/\Vals xs Aa.toList
def zR (K:Ac) (H:Hp) (a:Addr) (xs:List V):Prop:=
 Rd H a (.tup xs)\/
  ∃ (o:Obj) (Aa:Aw) (n:Nat),K.lookup a=↑o/\(o.cls=.type "tuple"/\o.dict=none)/\o.data=.seq Aa n/\Aa.size<=sizeLine/\Vals xs Aa.toList
def L9:Value->Option V
 | .none=>↑.zr
 | .bool b=>↑(.bl b)
 | .int i _=>↑(.int i)
 | .str x _=>↑(.str x)
 | .bytes b _=>↑(.kj b)
 | .float b _=>↑(.bR b)
 | .ref a=>↑(.ref a)
 | .type n=>↑(.ty n)
 | _=>none
def RelV.abs {x:V}{u:Value}(r:RelV x u):L9 u=↑x:=by
 cases x with
 | zr=>cases r;rfl
 | bl _=>cases r;rfl
 | ref _=>cases r;rfl
 | ty _=>cases r;rfl
 | _=>let#[t,rfl]:=r;rfl
theorem RelV.inj {x y:V}{u:Value}(r:RelV x u) (q:RelV y u):x=y:=A_ (r.abs.symm.trans q.abs)
theorem Vals.inj:∀ {xs ys:List V}{us:Ae},Vals xs us->Vals ys us->xs=ys
 | _,_,_,.nil,.nil=>rfl
 | _,_,_,.cons r t,.cons r' t'=>by rw[r.inj r',Vals.inj t t']
section
variable {X:Cx}{Ff:Aj}{Y:St}{H:Hp}{s:Shared}{a:Addr}{xs ys:List V}
def zG.of {K:Ac}(h:H a=↑(.lst xs)):zG K H a xs:=.inl (.inl h)
def zR.of {K:Ac}(h:H a=↑(.tup xs)):zR K H a xs:=.inl (.inl h)
def Inv.list (I:Inv X Ff Y H s) (h:zG X.K H a xs):∃ Aa:List Value,Vals xs Aa/\PlainL s.heap a Aa.toArray/\xs.length<=sizeLine:=by
 rcases h with h | ⟨o,Aa,n,hk,hc,hd,hs,hz,r⟩
 .let#[z,Aa,n,r,e]:=h.ok I.zm;show#[Aa,r,#[_,n,e,rfl,rfl,rfl],z]
 .exact#[Aa.toList,r,#[o,n,I.yD a o hk,hc,hd,by exists hs],?_];have e:=r.length;simp![BE] at e;lia
def Inv.tuple (I:Inv X Ff Y H s) (h:zR X.K H a xs):∃ Aa:List Value,Vals xs Aa/\IsTup s.heap a Aa.toArray/\xs.length<=sizeLine:=by
 rcases h with h | ⟨o,Aa,n,hk,hc,hs,hz,r⟩
 .let#[z,Aa,r,p]:=h.ok I.zm;show#[Aa,r,p,z.1]
 .exact#[Aa.toList,r,#[o,I.yD a o hk,hc.1,n,by exists hs],?_];have e:=r.length;simp![BE] at e;lia
def Inv.jV (I:Inv X Ff Y H s) (h:zG X.K H a xs) (h':zG X.K H a ys):xs=ys:=by
 let#[Aa,r,#[o,n,e,_,_,d],_]:=I.list h;let#[AO,r',#[o',n',e',_,_,d'],_]:=I.list h';rw[e] at e';cases e';rw[d] at d'
 injection d' with d1 _
 have:Aa=AO:=by exists congrArg Array.toList d1
 subst this;show r.inj r'
def Inv.jc (I:Inv X Ff Y H s) (h:zR X.K H a xs) (h':zR X.K H a ys):xs=ys:=by
 let#[Aa,r,#[o,e,_,n,d],_]:=I.tuple h;let#[AO,r',#[o',e',_,n',d'],_]:=I.tuple h';rw[e] at e';cases e';rw[d] at d'
 injection d' with d1 _
 have:Aa=AO:=by exists congrArg Array.toList d1
 subst this;show r.inj r'
end
abbrev Cx.uK (X:Cx) (E:Af):Cx:={ X with xe:=E }
abbrev Cx.xg (X:Cx):Cx:=X.uK λ _ _=>False
theorem Cx.Ok.uK {X:Cx}(ok:X.Ok) (E:Af):(X.uK E).Ok:=
 #[ok.mod,ok.kind,ok.glob,ok.blt,ok.above,ok.inj,ok.has,ok.qj,ok.hd,ok.frames,ok.qD,ok.o_,ok.bs,ok.se,ok.rV,ok.qd,ok.v8,ok.sW]
def Cx.Ok.qB {X:Cx}{E:Af}(ok:(X.uK E).Ok):X.Ok:=
 #[ok.mod,ok.kind,ok.glob,ok.blt,ok.above,ok.inj,ok.has,ok.qj,ok.hd,ok.frames,ok.qD,ok.o_,ok.bs,ok.se,ok.rV,ok.qd,ok.v8,ok.sW]
section
variable {X:Cx}{Ff:Aj}{Y:St}{H:Hp}{s:Shared}{E:Af}
theorem Inv.uK (I:Inv X Ff Y H s) (E:Af):Inv (X.uK E) Ff Y H s:=#[I.ok.uK E,I.os,I.bare,I.base,I.loc,I.cell,I.free,I.wN,I.pin,I.zm,I.len]
theorem Inv.qB (I:Inv (X.uK E) Ff Y H s):Inv X Ff Y H s:=#[I.ok.qB,I.os,I.bare,I.base,I.loc,I.cell,I.free,I.wN,I.pin,I.zm,I.len]
theorem SP.qB {D:Ends}{f:Flow}{s':Shared}(h:SP (X.uK E) Ff D f s'):SP X Ff D f s':=by
 cases f with
 | ret u=>let#[v,Y',H',I,r,q]:=h;show#[v,Y',H',I.qB,r,q]
 | _=>let#[Y',H',I,q]:=h;show#[Y',H',I.qB,q]
theorem xO.xg {st:List Stmt}{t:TS}(h:xO X.xg st t):xO X st t:=λ Ff s Y H D I hw=>
 tp (h Ff s Y H D (I.uK _) hw) (λ _ _ q=>q.qB) λ _ _ z=>False.elim z
end
section
variable {X:Cx}{st:Stmt}{Fh:List Stmt}{t u:TS}{e:Expr}{te:TE}{pos:Pos}
def Wc:TS:=λ D Y H=>D.nx Y H
def XU (t u:TS):TS:=λ D Y H=>t { D with nx:=u D } Y H
def Vr:xO X [] Wc:=λ _ _ Y H _ I h=>zaI #[Y,H,I,h]
def Vs (h1:PS X st t) (h2:xO X Fh u):xO X (st::Fh) (XU t u):=by
 intro Ff s Y H D I h;exact wpAny_execs_cons (zw (h1 Ff s Y H { D with nx:=u D } I h) λ f s1 q=>?_);cases f with
 | next=>
  let#[Y',H',I',q]:=q;show h2 Ff s1 Y' H' D I' q
 | ret v=>show q
 | _=>show q
def dq (h1:PS X st t):xO X [st] t:=by
 intro Ff s Y H D I h;exact wpAny_execs_cons (zw (h1 Ff s Y H D I h) λ f s1 q=>?_);cases f with
 | next=>show zaI q
 | ret v=>show q
 | _=>show q
def Inv.quiet {Ff:Aj}{Y:St}{H:Hp}{s:Shared}(I:Inv X Ff Y H s):interactive X.env=false:=by simp[interactive,I.ok.kind]
def Wh (te:TE):TS:=λ D Y H=>te Y H λ _ H1=>D.nx Y H1
def Vz (he:PE X e te) (hs:swapsWith e none pos.line X.env=pure false:=by rfl):PS X (.Expr e pos) (Wh te):=by
 intro Ff s Y H D I h;show wpAny_Expr_any (zw (he Ff s Y H _ I h) λ v s1 #[x,H1,I1,r1,q1]=>#[Y,H1,I1,q1]) I.quiet hs
def XW (te:TE):TS:=λ D Y H=>te Y H D.rt
def Vv (he:PE X e te):PS X (.Return ↑e pos) (XW te):=by
 intro Ff s Y H D I h;show wpAny_Return_some (zw (he Ff s Y H _ I h) λ v s1 #[x,H1,I1,r1,q1]=>#[x,Y,H1,I1,r1,q1])
def We (c:TT) (t u:TS):TS:=λ D Y H=>c Y H λ b H1=>if b=true then t D Y H1 else u D Y H1
def Vx {c:Expr}{a b:List Stmt}{tc:TT}(hc:PT X c tc) (ha:xO X a t) (hb:xO X b u):PS X (.If c a b pos) (We tc t u):=by
 intro Ff s Y H D I h;exact wpAny_If (zw (hc Ff s Y H _ I h) λ d s1 #[H1,I1,q1]=>?_);cases d with
 | true=>show ha Ff s1 Y H1 D I1 q1
 | false=>show hb Ff s1 Y H1 D I1 q1
end
abbrev TG:=V->St->Hp->(St->Hp->Prop)->Prop
abbrev sf:=List V->St->Hp->(St->Hp->Prop)->Prop
def PG (X:Cx) (target:Expr) (t:TG):Prop:=
 ∀ (Ff:Aj) (s:Shared) (Y:St) (H:Hp) (v:V) (u:Value) (Q:St->Hp->Prop),Inv X Ff Y H s->RelV v u->t v Y H Q->
  wpAny (model X.prog X.w) X.A (assign target X.env u) (λ _ s'=>∃ Y' H',Inv X Ff Y' H' s'/\Q Y' H') X.xe s
def tF (X:Cx) (ts:List Expr) (t:sf):Prop:=
 ∀ (Ff:Aj) (s:Shared) (Y:St) (H:Hp) (vs:List V) (us:Ae) (Q:St->Hp->Prop),Inv X Ff Y H s->Vals vs us->t vs Y H Q->
  wpAny (model X.prog X.w) X.A (assignInOrder ((assignEach ts X.env).map (·.2)) us) (λ _ s'=>∃ Y' H',Inv X Ff Y' H' s'/\Q Y' H') X.xe s
abbrev gu:=V->V->V->Hp->(Hp->Prop)->Prop
def ZH (X:Cx) (t:gu):Prop:=
 ∀ (Ff:Aj) (s:Shared) (Y:St) (H:Hp) (o i v:V) (ov iv u:Value) (Q:Hp->Prop),Inv X Ff Y H s->RelV o ov->RelV i iv->RelV v u->t o i v H Q->
  wpAny (model X.prog X.w) X.A (setItem ov iv u) (λ _ s'=>∃ H',Inv X Ff Y H' s'/\Q H') X.xe s
section
variable {X:Cx}{pos:Pos}
def qZ (i:Nat):TG:=λ v Y H Q=>Q (Y.set i ↑v) H
def VN {i:Nat}{x:Str}(hN:X.N.Nodup) (hi:X.N[i]?=↑x) (hx:Loc X.env.scope x) (hf:X.fn x=true\/X.env.scope.names.lookup x=↑.local:=by first | show .inl rfl | show .inr rfl | assumption):PG X (.Name x pos) (qZ i):=by
 intro Ff s Y H v u Q I r h;show wpAny_assign_Name (p_ I hN hi hx r (λ s' I'=>#[_,H,I',h]) hf)
def NC:sf:=λ vs Y H Q=>vs=[]/\Q Y H
def ND (t:TG) (u:sf):sf:=λ vs Y H Q=>∃ v r,vs=v::r/\t v Y H fun Y' H'=>u r Y' H' Q
def VI:tF X [] NC:=by
 intro Ff s Y H vs us Q I r h;let#[e,h]:=h;subst e;cases r;show assignInOrder_nil #[Y,H,I,h]
def VJ {e:Expr}{es:List Expr}{t:TG}{u:sf}(h1:PG X e t) (h2:tF X es u)
  (hs:(assignEach (e::es) X.env).map (·.2)=assign e X.env::(assignEach es X.env).map (·.2):=by rfl):tF X (e::es) (ND t u):=by
 intro Ff s Y H vs us Q I r h;let#[v,vr,e1,h]:=h;subst e1;cases r with
 | cons r rr=>
  rw[hs];exact assignInOrder_cons (zw (h1 Ff s Y H _ _ _ I r h) λ _ s1 #[Y1,H1,I1,q1]=>?_);show h2 Ff s1 Y1 H1 _ _ Q I1 rr q1
def bK (K:Ac) (n:Nat) (t:sf):TG:=λ v Y H Q=>∃ a xs,v=.ref a/\zR K H a xs/\xs.length=n/\t xs Y H Q
def VL {es:List Expr}{k:Nat}{t:sf}{n:Nat}(hc:X.calm=true) (h:tF X es t)
  (hn:(assignEach es X.env).length=n:=by rfl) (AK:(assignEach es X.env).findIdx? (·.1)=none:=by rfl):PG X (.Tuple es k pos) (bK X.K n t):=by
 intro Ff s Y H v u Q I r hw;let#[a,xs,e1,hq,hl,hw]:=hw;subst e1;cases r;let#[Aa,rv,ht,hz]:=I.tuple hq;exact assign_Tuple_tuple (I.ok.hd hc) ht (by simp[hn,<- hl,rv.length]) AK λ h' hx=>?_;have I1:Inv X Ff Y H { s with heap:=h' }:=I.kept (t':=s.toks) λ b o e=>hx b o (AH (Aq e)) e;show h Ff _ Y H xs _ Q I1 (by exists rv) hw
def NB (to ti:TE) (t:gu):TG:=λ v Y H Q=>to Y H λ o H1=>ti Y H1 λ i H2=>t o i v H2 λ H3=>Q Y H3
def VM {o i:Expr}{to ti:TE}{t:gu}(ho:PE X o to) (hi:PE X i ti) (hs:ZH X t)
  (ha:∀ v,assign (.Subscript o i pos) X.env v=(do
   let ov <- holding [v] (eval o X.env)
   let iv <- holding [v,ov] (eval i X.env)
   standAt pos
   holding [v,ov,iv] (setItem ov iv v)
   release [v,ov,iv] []):=by intro _;rfl):PG X (.Subscript o i pos) (NB to ti t):=by
 intro Ff s Y H v u Q I r h;rw[ha];exact Kj (za7 (zw (ho Ff s Y H _ I h) λ ov s1 #[x,H1,I1,r1,q1]=>?_));exact Kj (za7 (zw (hi Ff s1 Y H1 _ I1 q1) λ iv s2 #[y,H2,I2,r2,q2]=>?_));exact Kj (wpAny_standAt (Kj (za7 (zw (hs Ff s2 Y H2 x y v ov iv u _ I2 r1 r2 r q2) λ _ s3 #[H3,I3,q3]=>?_))));show wpAny_release #[Y,H3,I3,q3]
def pZ (te:TE) (g:TG):TS:=λ D Y H=>te Y H λ x H1=>g x Y H1 D.nx
def du {tg e:Expr}{te:TE}{g:TG}(he:PE X e te) (hg:PG X tg g) (hs:swapsWithSole [tg] e pos.line X.env=pure false:=by rfl) (hw:swappedStores [tg] e X.env=pure none:=by rfl)
  (h1:(assignEach [tg] X.env).map (·.2)=[assign tg X.env]:=by rfl):PS X (.Assign [tg] e pos) (pZ te g):=by
 intro Ff s Y H D I h;exact wpAny_Assign_stores (zw (he Ff s Y H _ I h) λ v s1 #[x,H1,I1,r1,q1]=>?_) hs hw;rw[h1];show zw (hg Ff s1 Y H1 x v _ I1 r1 q1) λ _ s2 q=>q
def dr {i:Nat}{x:Str}{e:Expr}{te:TE}{pos':Pos}(hN:X.N.Nodup) (hi:X.N[i]?=↑x) (hx:Loc X.env.scope x) (he:PE X e te) (hs:swapsWith e ↑(.Name x pos') pos.line X.env=pure false:=by rfl) (hf:X.fn x=true\/X.env.scope.names.lookup x=↑.local:=by first | show .inl rfl | show .inr rfl | assumption):
  PS X (.Assign [.Name x pos'] e pos) (pZ te (qZ i)):=by
 intro Ff s Y H D I h;exact wpAny_Assign_Name (zw (he Ff s Y H _ I h) λ v s1 #[y,H1,I1,r1,q1]=>?_) hs;show p_ I1 hN hi hx r1 (λ s2 I2=>#[_,H1,I2,q1]) hf
def XO (c:TT) (tb:TS):TS:=λ D Y H=>∃ W:Nat->St->Hp->Prop,(∃ m,W m Y H)/\∀ m Y H,W m Y H->
 c Y H λ b H1=>if b=true then ∃ N:St->Hp->Prop,(∀ Y' H',N Y' H'->∃ m',m'<m/\W m' Y' H')/\tb { D with nx:=N,ct:=N,bk:=D.nx } Y H1 else D.nx Y H1
def Vt {c:Expr}{body:List Stmt}{tc:TT}{tb:TS}(hp:PassesOwn (model X.prog X.w) X.A X.env X.xe) (hc:PT X c tc) (hb:xO X body tb):PS X (.While c body [] pos) (XO tc tb):=by
 intro Ff s Y H D I h;let#[W,#[m0,w0],turn]:=h;exact wpAny_While (codeAny_whileLoop (λ n s'=>∃ Y' H',Inv X Ff Y' H' s'/\W n Y' H') ?_ m0 #[Y,H,I,w0]);rintro n s1 ⟨Y1,H1,I1,w1⟩;exact zaJ hp (zw (hc Ff s1 Y1 H1 _ I1 (turn n Y1 H1 w1)) λ b s2 #[H2,I2,q2]=>?_);cases b with
 | true=>
  let#[N,hN,q2]:=q2;rw[if_pos rfl];exact zaJ hp (zw (hb Ff s2 Y1 H2 _ I2 q2) λ f s3 q3=>?_);cases f with
  | next=>
   let#[Y3,H3,I3,n3]:=q3;let#[m',hm,w3]:=hN Y3 H3 n3;show#[m',hm,Y3,H3,I3,w3]
  | cont=>
   let#[Y3,H3,I3,n3]:=q3;let#[m',hm,w3]:=hN Y3 H3 n3;show#[m',hm,Y3,H3,I3,w3]
  | brk=>show q3
  | ret v=>show q3
 | false=>
  rw[if_neg B_];show zaI #[Y1,H2,I2,q2]
end
structure It where
 go:Nat->Hp->Prop
 q8:Nat->Hp->V->Hp->Prop
 stop:Nat->Hp->Prop
def vJ (X:Cx) (Ff:Aj) (H:Hp) (b:Addr):Prop:=
 H b=none/\b≠X.env.locals/\b∉X.fs/\(b∈X.ex\/X.s₀.heap.objs.size<=b)/\(∀ x c,X.env.cells.lookup x=↑c->c≠b)/\∀ p∈X.pn++Ff,p.1≠b
theorem Inv.oX {X:Cx}{Ff:Aj}{Y:St}{H H':Hp}{s:Shared}{b:Addr}(I:Inv X Ff Y H s) (hb:s.heap.objs.size<=b) (hn:H' b=none):vJ X Ff H' b:=by
 exact#[hn,Bo (Ba I.lt hb),I.cj hb,.inr (A9 I.sz hb),λ x c e z=>?_,λ p hp z=>?_]
 .let#[v,q]:=I.cell x c e;show absurd (Ba q.lt (by rw[z];show hb)) (Cb _)
 .show absurd (Ba (Aq (I.pin p hp).1) (by rw[z];show hb)) (Cb _)
structure Turn (P:Program) (w:World) (K:Ac) (tg:Expr) (J:It) (fp:List Addr) (it:Addr) (tn:Nat->Heap->Prop):Prop where
 mem:it∈fp
 obj:∀ i h,tn i h->∀ b∈fp,∃ o,h.get? b=↑o/\∀ v,o.data≠.cell v
 keep:∀ i h h',tn i h->(∀ b∈fp,∀ o,h.get? b=↑o->h'.get? b=↑o)->tn i h'
 item:∀ (X:Cx),X.prog=P->X.w=w->X.K=K->X.calm=true->∀ (i:Nat) (Ff:Aj) (s:Shared) (Y:St) (H:Hp) (E:Af),Inv X Ff Y H s->(∀ b∈fp,vJ X Ff H b)->tn i s.heap->J.go i H->
  wpAny (model P w) X.A (pyNext (.ref it)) (λ r s1=>∃ u,r=↑u/\
   wpAny (model P w) X.A (letOwnedTupleGo tg (.ref it) u) (λ _ s2=>∃ x H',Inv X Ff Y H' s2/\RelV x u/\J.q8 i H x H'/\tn (i+1) s2.heap/\∀ b∈fp,H' b=none) E s1) E s
 done:∀ (X:Cx),X.prog=P->X.w=w->X.K=K->X.calm=true->∀ (i:Nat) (Ff:Aj) (s:Shared) (Y:St) (H:Hp) (E:Af),Inv X Ff Y H s->(∀ b∈fp,vJ X Ff H b)->tn i s.heap->J.stop i H->
  wpAny (model P w) X.A (pyNext (.ref it)) (λ r s1=>r=none/\Inv X Ff Y H s1) E s
 self:∀ (A:Around) (i:Nat) (s:Shared) (Q:Af) (E:Af),tn i s.heap->Q (.ref it) s->wpAny (model P w) A (pyIter (.ref it)) Q E s
abbrev TI:=St->Hp->(It->Hp->Prop)->Prop
def gy (X:Cx) (Ff:Aj) (Y:St) (tg:Expr) (R:It->Hp->Prop) (JZ:Value) (s2:Shared):Prop:=
 ∃ (it:Addr) (fp:List Addr) (tn:Nat->Heap->Prop) (J:It) (H':Hp),JZ=.ref it/\Inv X Ff Y H' s2/\Turn X.prog X.w X.K tg J fp it tn/\tn 0 s2.heap/\(∀ b∈fp,vJ X Ff H' b)/\R J H'
def PI (X:Cx) (tg iter:Expr) (wi:TI):Prop:=
 ∀ (Ff:Aj) (s:Shared) (Y:St) (H:Hp) (R:It->Hp->Prop),Inv X Ff Y H s->wi Y H R->
  wpAny (model X.prog X.w) X.A (eval iter X.env) (λ v s1=>wpAny (model X.prog X.w) X.A (pyIter v) (gy X Ff Y tg R) X.xe s1) X.xe s
def lI {M:Model}{A:Around}{E:Af}{s:Shared}{tg:Expr}{it:Addr}{u:Value}{o:Obj}{n:String}{vs:Aw}{Q:Unit->Shared->Prop}(ho:s.heap.get? it=↑o) (hc:o.cls=.type n) (hd:o.data=.fields vs)
  (hn:["enumerate","zip","dict_itemiterator","dict_reverseitemiterator","odict_iterator","itertools.zip_longest","itertools.pairwise"].contains n=false) (hQ:Q Unit.unit s):wpAny M A (letOwnedTupleGo tg (.ref it) u) Q E s:=by
 unfold letOwnedTupleGo;cases tg <;> first
  | show Ad hQ
  | (cases u <;> first
    | show Ad hQ
    | (exact Kj (wpAny_load ho ?_)
       rw[hc,hd];change wpAny M A (if (["enumerate","zip","dict_itemiterator","dict_reverseitemiterator","odict_iterator","itertools.zip_longest","itertools.pairwise"].contains n&&vs[0]? == ↑(rawInt _))=true then _ else _) Q E s;rw[if_neg (by intro h;rw[hn,Bool.false_and] at h;cases h)];show Ad hQ))
def ZN (K:Ac) (a:Addr):It:=
 #[λ i H=>∃ xs x,zG K H a xs/\xs[i]?=↑x,λ i H x H'=>H'=H/\∀ xs,zG K H a xs->xs[i]?=↑x,λ i H=>∃ xs,zG K H a xs/\xs.length<=i]
def ZM (K:Ac) (a:Addr):It:=
 #[λ i H=>∃ xs x,zR K H a xs/\xs[i]?=↑x,λ i H x H'=>H'=H/\∀ xs,zR K H a xs->xs[i]?=↑x,λ i H=>∃ xs,zR K H a xs/\xs.length<=i]
def kH (lo:Int) (n:Nat):It:=#[λ i _=>i<n,λ i H x H'=>H'=H/\x=.int (lo+i),λ i _=>n<=i]
def XE {P:Program}{w:World}{K:Ac}{tg:Expr}(a it:Addr):Turn P w K tg (ZN K a) [it] it (λ i h=>h.IsListIter it a i) where
 mem:=#[]
 obj:=λ i h st b hb=>by
  have e:b=it:=by exists hb
  subst e;let#[o,e,c,d]:=st;show#[o,e,λ v z=>by rw[d] at z;cases z]
 keep:=λ i h h' st k=>st.at λ o e=>k it #[] o e
 item:=by
  intro X hP hw hK hc i Ff s Y H E I hf st hg;subst hP hw hK;let#[xs,x,hq,hx]:=hg;let#[Aa,rv,p,hz]:=I.list hq;let#[u,hu,ru]:=rv.get hx;let#[f0,f1,f2,f3,f4,f5]:=hf it #[];exact wpAny_pyNext_list_item st p.isList (x:=u) (by exists hu) λ h' GH sb=>?_;have I1:Inv X Ff Y H { s with heap:=h' }:=I.turned (t':=s.toks) (λ b o hb e=>(sb.2 b hb).trans e) f0 f1 f3 f4 f5;let#[o,e,c,d]:=id GH;show#[u,rfl,lI (s:={ s with heap:=h' }) e c d () #[x,H,I1,ru,#[rfl,λ ys hy=>by rw[I.jV hy hq];show hx],GH,λ b hb=>(hf b hb).1]]
 done:=by
  intro X hP hw hK hc i Ff s Y H E I hf st hg;subst hP hw hK;let#[xs,hq,hx]:=hg;let#[Aa,rv,p,hz]:=I.list hq;let#[f0,f1,f2,f3,f4,f5]:=hf it #[];have hl:=rv.length;show wpAny_pyNext_list_end (I.ok.hd hc) st p.isList (by simp;lia) λ h' eb=>#[rfl,I.turned (t':=s.toks) (λ b o hb e=>eb b o hb e) f0 f1 f3 f4 f5]
 self:=λ _ _ _ _ _ st h=>wpAny_pyIter_listiter st h
def XB {P:Program}{w:World}{K:Ac}{tg:Expr}(a it:Addr):Turn P w K tg (ZM K a) [it] it (λ i h=>h.IsTupleIter it a i) where
 mem:=#[]
 obj:=λ i h st b hb=>by
  have e:b=it:=by exists hb
  subst e;let#[o,e,c,d]:=st;show#[o,e,λ v z=>by rw[d] at z;cases z]
 keep:=λ i h h' st k=>st.at λ o e=>k it #[] o e
 item:=by
  intro X hP hw hK hc i Ff s Y H E I hf st hg;subst hP hw hK;let#[xs,x,hq,hx]:=hg;let#[Aa,rv,p,hz]:=I.tuple hq;let#[u,hu,ru]:=rv.get hx;let#[f0,f1,f2,f3,f4,f5]:=hf it #[];exact wpAny_pyNext_tuple_item st (show s.heap.IsTuple a Aa.toArray from p) (x:=u) (by exists hu) λ h' GH sb=>?_;have I1:Inv X Ff Y H { s with heap:=h' }:=I.turned (t':=s.toks) (λ b o hb e=>(sb.2 b hb).trans e) f0 f1 f3 f4 f5;let#[o,e,c,d]:=id GH;show#[u,rfl,lI (s:={ s with heap:=h' }) e c d () #[x,H,I1,ru,#[rfl,λ ys hy=>by rw[I.jc hy hq];show hx],GH,λ b hb=>(hf b hb).1]]
 done:=by
  intro X hP hw hK hc i Ff s Y H E I hf st hg;subst hP hw hK;let#[xs,hq,hx]:=hg;let#[Aa,rv,p,hz]:=I.tuple hq;let#[f0,f1,f2,f3,f4,f5]:=hf it #[];have hl:=rv.length;show wpAny_pyNext_tuple_end (I.ok.hd hc) st (show s.heap.IsTuple a Aa.toArray from p) (by simp;lia) λ h' eb=>#[rfl,I.turned (t':=s.toks) (λ b o hb e=>eb b o hb e) f0 f1 f3 f4 f5]
 self:=λ _ _ _ _ _ st h=>wpAny_pyIter_tupleiter st h
def XD {P:Program}{w:World}{K:Ac}{tg:Expr}(it:Addr) (lo:Int) (n:Nat):Turn P w K tg (kH lo n) [it] it (λ i h=>IsRangeIter h it (lo+(i:Nat)*1) ((n:Int)-(i:Nat)) 1) where
 mem:=#[]
 obj:=λ i h st b hb=>by
  have e:b=it:=by exists hb
  subst e;show#[_,st,λ v z=>by
   have z':Data.fields _=Data.cell v:=z;cases z']
 keep:=λ i h h' st k=>k it #[] _ st
 item:=by
  intro X hP hw hK hc i Ff s Y H E I hf st hg;subst hP hw hK;let#[f0,f1,f2,f3,f4,f5]:=hf it #[];have W:=Walks.range (prog:=X.prog) (w:=X.w) (I.ok.hd hc) it lo 1 n;exact W.item i s _ _ hg st λ v h' tk hv GH kk=>?_;let#[t,rfl]:=hv;have I1:Inv X Ff Y H { s with heap:=h',toks:=tk }:=I.turned (λ b o hb e=>kk b o (by exists hb) e) f0 f1 f3 f4 f5;exact#[_,rfl,lI (s:={ s with heap:=h',toks:=tk }) (n:="range_iterator") GH rfl rfl () #[.int (lo+i),H,I1,#[t,?_],#[rfl,rfl],GH,λ b hb=>(hf b hb).1]];rw[Int.mul_one]
 done:=by
  intro X hP hw hK hc i Ff s Y H E I hf st hg;subst hP hw hK;let#[f0,f1,f2,f3,f4,f5]:=hf it #[];show wpAny_pyNext_range_end (I.ok.hd hc) st (by have:n<=i:=hg;lia) λ h' eb=>#[rfl,I.turned (t':=s.toks) (λ b o hb e=>eb b o hb e) f0 f1 f3 f4 f5]
 self:=λ _ _ _ _ _ st h=>wpAny_pyIter_rangeiter st h
section
variable {X:Cx}{tg:Expr}
def W_ {Ff:Aj}{Y:St}{H:Hp}{s:Shared}{R:It->Hp->Prop}{E:Af}{lo hi:Int}{t u v:Tok}{tk:Nat}(I:Inv X Ff Y H s) (h1:-(2 ^ 62)<=lo) (h2:lo<2 ^ 62) (h3:-(2 ^ 62)<=hi) (h4:hi<2 ^ 62)
  (q:R (kH lo (hi-lo).toNat) H):wpAny (model X.prog X.w) X.A (pyIter (.ref s.heap.objs.size)) (gy X Ff Y tg R) E { s with heap:=s.heap.push { cls:=.type "range",data:=.fields [.int lo t,.int hi u,.int 1 v].toArray },toks:=tk }:=by
 exact wpAny_pyIter_range (IsRange.new ..) (small_one h1 h2 h3 h4) ?_;have I1:Inv X Ff Y H { s with heap:=s.heap.push { cls:=.type "range",data:=.fields [.int lo t,.int hi u,.int 1 v].toArray },toks:=tk }:=I.kept λ b o e=>gV _ e;exact#[(s.heap.push { cls:=.type "range",data:=.fields [.int lo t,.int hi u,.int 1 v].toArray }).objs.size,[(s.heap.push { cls:=.type "range",data:=.fields [.int lo t,.int hi u,.int 1 v].toArray }).objs.size],_,_,H,rfl,
  I1.kept (t':=tk) λ b o e=>gV _ e,XD _ lo (hi-lo).toNat,?_,λ b hb=>?_,q]
 .have e1:lo+((0:Nat):Int)*1=lo:=#[];have e2:(((hi-lo).toNat:Nat):Int)-((0:Nat):Int)=Builtin.Range.rangeSize lo hi 1:=by rw[rangeSize_one];split <;> lia
  change IsRangeIter _ _ (lo+((0:Nat):Int)*1) ((((hi-lo).toNat:Nat):Int)-((0:Nat):Int)) 1;rw[e1,e2];show AJ _ rfl
 .have e:b=(s.heap.push { cls:=.type "range",data:=.fields [.int lo t,.int hi u,.int 1 v].toArray }).objs.size:=by exists hb
  subst e;show I1.oX (Ak _) (I1.zm.fresh (Ak _))
def bB (ta:TA):TI:=fun Y H R=>ta Y H λ vs H1=>∃ j:Int,vs=[.int j]/\-(2 ^ 62)<=j/\j<2 ^ 62/\R (kH 0 j.toNat) H1
theorem VG {a:Expr}{ta:TA}{p pos:Pos}(hg:Gl X "range") (hm:X.mg "range"=none) (ha:PA X [a] ta) (hs:starEach [a] X.env=[(false,eval a X.env)]:=by rfl):PI X tg (.Call (.Name "range" p) [a] [] pos) (bB ta):=by
 intro Ff s Y H R I h;exact Call_ (rZ I hg hm boot_range (PyProof.Rows.callWith_type1 (zw (ha pos Ff s Y H _ I h) λ us s1 #[vs,H1,I1,r1,q1]=>?_) hs rfl));let#[j,e,q1,q2,q]:=q1;subst e;cases r1 with
 | cons r rr=>
  cases rr;let#[t,rfl]:=r;show call_range_1 (W_ I1 ⋯ ⋯ q1 q2 (by exists q))
def Wg (wi:TI) (g:TG) (tb:TS):TS:=λ D Y H=>wi Y H λ J H1=>∃ W:Nat->Nat->St->Hp->Prop,(∃ m,W 0 m Y H1)/\∀ i m Y H,W i m Y H->
 (J.stop i H/\D.nx Y H)\/(J.go i H/\∃ N:St->Hp->Prop,(∀ Y' H',N Y' H'->∃ m',m'<m/\W (i+1) m' Y' H')/\∀ x H',J.q8 i H x H'->g x Y H' fun Y2 H2=>tb { D with nx:=N,ct:=N,bk:=D.nx } Y2 H2)
def ou (fp:List Addr) (h:Heap):Aj:=fp.filterMap λ b=>(h.get? b).map λ o=>(b,o)
def l4 {fp:List Addr}{h:Heap}{b:Addr}{o:Obj}(hb:b∈fp) (e:h.get? b=↑o):(b,o)∈ou fp h:=C5.mpr #[b,hb,by rw[e];rfl]
def Pr {fp:List Addr}{h:Heap}{p:Addr×Obj}(hp:p∈ou fp h):p.1∈fp/\h.get? p.1=↑p.2:=by
 let#[b,hb,e]:=C5.mp hp;cases q:h.get? b with
 | none=>rw[q] at e;cases e
 | some o=>
  rw[q] at e;have e':(b,o)=p:=A_ e;subst e';show#[hb,q]
def Inv.pinned {Ff:Aj}{Y:St}{H:Hp}{s:Shared}{fp:List Addr}(I:Inv X Ff Y H s) (hf:∀ b∈fp,vJ X Ff H b) (ho:∀ b∈fp,∃ o,s.heap.get? b=↑o/\∀ v,o.data≠.cell v):Inv X (Ff++ou fp s.heap) Y H s:=
 I.j8 λ p hp=>(AY.mp hp).elim (λ z=>I.pin p (A5 _ z)) λ z=>by
  let#[hb,e]:=Pr z;let#[f0,f1,f2,_]:=hf p.1 hb;let#[o,e',d]:=ho p.1 hb;rw[e] at e';cases e';show#[e,f0,f1,f2,d]
def Inv.pX {Ff pl:Aj}{Y:St}{H:Hp}{s:Shared}(I:Inv X (Ff++pl) Y H s):Inv X Ff Y H s:=I.j8 λ p hp=>I.pin p (A5 _ (C6 _ hp))
def Vy {iter:Expr}{body:List Stmt}{wi:TI}{g:TG}{tb:TS}{pos:Pos}(hp:PassesOwn (model X.prog X.w) X.A X.env X.xe) (hc:X.calm=true) (hi:PI X tg iter wi) (hg:PG X tg g) (hb:xO X body tb)
  (hs:∀ x,foldedSetIterable iter X.env x=pure x:=by intro _;rfl):PS X (.For tg iter body [] pos) (Wg wi g tb):=by
 intro Ff s Y H D I h;exact wpAny_For (zw (hi Ff s Y H _ I h) λ v s1 h1=>zw h1 λ JZ s2 h2=>?_) hs;let#[it,fp,tn,J,H2,e,I2,T,Jf,f2,W,#[m0,w0],turn]:=h2;subst e;have G6:∀ {H':Hp},(∀ b∈fp,H' b=none)->∀ b∈fp,vJ X Ff H' b:=λ hn b hb=>#[hn b hb,(f2 b hb).2];exact codeAny_forLoop_any (λ n s'=>∃ i Y' H',Inv X Ff Y' H' s'/\tn i s'.heap/\(∀ b∈fp,H' b=none)/\W i n Y' H') ?_ m0 #[0,Y,H2,I2,Jf,λ b hb=>(f2 b hb).1,w0];rintro n s3 ⟨i,Y3,H3,I3,Je,JN,w3⟩;rcases turn i n Y3 H3 w3 with ⟨stop,qn⟩ | ⟨go,N,hN,step⟩
 .exact zaJ hp (zw (T.done X rfl rfl rfl hc i Ff s3 Y3 H3 X.xe I3 (G6 JN) Je stop) λ r s4 #[hr,I4]=>?_);subst hr;show zaI #[Y3,H3,I4,qn]
 .exact zaJ hp (zw (T.item X rfl rfl rfl hc i Ff s3 Y3 H3 X.xe I3 (G6 JN) Je go) λ r s4 #[u,hr,h4]=>?_);subst hr;exact zaJ hp (zw h4 λ _ s5 #[x,H5,I5,r5,y5,Io,fr5]=>?_);have I5':=I5.pinned (G6 fr5) (T.obj _ _ Io);exact zaJ hp (zw (hg _ s5 Y3 H5 x u _ I5' r5 (step x H5 y5)) λ _ s6 #[Y6,H6,I6,q6]=>?_);exact zaJ hp (zw (hb _ s6 Y6 H6 _ I6 q6) λ f s7 q7=>?_);have again:∀ {Y7:St}{H7:Hp},Inv X (Ff++ou fp s5.heap) Y7 H7 s7->N Y7 H7->∃ m,m<n/\∃ i Y' H',Inv X Ff Y' H' s7/\tn i s7.heap/\(∀ b∈fp,H' b=none)/\W i m Y' H':=λ{Y7 H7} I7 n7=>by
   let#[m',hm,w7]:=hN Y7 H7 n7;exact#[m',hm,i+1,Y7,H7,I7.pX,T.keep _ _ _ Io λ b hb o e=>(I7.pin (b,o) (A5 _ (A5 _ (l4 hb e)))).1,λ b hb=>?_,w7];let#[o,e,d]:=T.obj _ _ Io b hb;show (I7.pin (b,o) (A5 _ (A5 _ (l4 hb e)))).2.1
  cases f with
  | brk=>let#[Y7,H7,I7,q7]:=q7;show#[Y7,H7,I7.pX,q7]
  | ret v=>let#[x7,Y7,H7,I7,r7,q7]:=q7;show#[x7,Y7,H7,I7.pX,r7,q7]
  | _=>let#[Y7,H7,I7,n7]:=q7;show again I7 n7
end
abbrev R2:=V->V->Hp->VK->Prop
def zZ (X:Cx) (f:Value->Value->Sem Value) (r:R2):Prop:=
 ∀ (Ff:Aj) (s:Shared) (Y:St) (H:Hp) (x y:V) (v u:Value) (Q:VK),Inv X Ff Y H s->RelV x v->RelV y u->r x y H Q->
  wpAny (model X.prog X.w) X.A (f v u) (EP X Ff Y Q) X.xe s
def gr (X:Cx) (f:Value->Sem Value) (r:V->Hp->VK->Prop):Prop:=
 ∀ (Ff:Aj) (s:Shared) (Y:St) (H:Hp) (x:V) (v:Value) (Q:VK),Inv X Ff Y H s->RelV x v->r x H Q->
  wpAny (model X.prog X.w) X.A (f v) (EP X Ff Y Q) X.xe s
def yx (X:Cx) (f:Value) (r:List V->Hp->VK->Prop):Prop:=
 ∀ (Ff:Aj) (s:Shared) (Y:St) (H:Hp) (xs:List V) (us:Ae) (Q:VK),Inv X Ff Y H s->Vals xs us->r xs H Q->
  wpAny (model X.prog X.w) X.A (call f us) (EP X Ff Y Q) X.xe s
def LA (X:Cx) (r:V->Hp->(Bool->Hp->Prop)->Prop):Prop:=
 ∀ (Ff:Aj) (s:Shared) (Y:St) (H:Hp) (x:V) (v:Value) (Q:Bool->Hp->Prop),Inv X Ff Y H s->RelV x v->r x H Q->
  wpAny (model X.prog X.w) X.A (truthy v) (TP X Ff Y Q) X.xe s
def pY (r:R2) (ta tb:TE):TE:=fun Y H Q=>ta Y H λ x H1=>tb Y H1 λ y H2=>r x y H2 Q
def XQ (r:V->Hp->VK->Prop) (ta:TE):TE:=fun Y H Q=>ta Y H λ x H1=>r x H1 Q
def rI (C:Int->Int->Prop) (g:Int->Int->V):R2:=λ x y H Q=>∃ i j,x=.int i/\y=.int j/\C i j/\Q (g i j) H
def vp (g:Int->Int->V):R2:=λ x y H Q=>∃ i j,x=.int i/\y=.int j/\Q (g i j) H
def rU (g:Int->V):V->Hp->VK->Prop:=λ x H Q=>∃ i,x=.int i/\Q (g i) H
section
variable {X:Cx}{a b:Expr}{ta tb:TE}{pos:Pos}
def i_ (ha:PE X a ta) (hb:PE X b tb) {Ff:Aj}{s:Shared}{Y:St}{H:Hp}{R:V->V->Hp->Prop}(I:Inv X Ff Y H s)
  (h:ta Y H λ x H1=>tb Y H1 λ y H2=>R x y H2) {Q:Af}{f:Value->Value->Sem Value}
  (hf:∀ v u s2 x y H2,Inv X Ff Y H2 s2->RelV x v->RelV y u->R x y H2->wpAny (model X.prog X.w) X.A (f v u) Q X.xe s2):
  wpAny (model X.prog X.w) X.A (eval a X.env) (λ v s₁=>wpAny (model X.prog X.w) X.A (eval b X.env) (λ u s₂=>wpAny (model X.prog X.w) X.A (f v u) Q X.xe s₂) X.xe s₁) X.xe s:=by
 exact zw (ha Ff s Y H _ I h) λ v s1 #[x,H1,I1,r1,q1]=>?_;exact zw (hb Ff s1 Y H1 _ I1 q1) λ u s2 #[y,H2,I2,r2,q2]=>?_;show hf v u s2 x y H2 I2 r1 r2 q2
def V_ {op:Operator}{r:R2}(ho:zZ X (binaryOp op) r) (ha:PE X a ta) (hb:PE X b tb):PE X (.BinOp a op b pos) (pY r ta tb):=by
 intro Ff s Y H Q I h;show wpAny_BinOp (i_ ha hb I h λ v u s2 x y H2 I2 rx ry q=>ho Ff s2 Y H2 x y v u Q I2 rx ry q)
def VV {op:UnaryOp}{r:V->Hp->VK->Prop}(ho:gr X (unaryOp op) r) (ha:PE X a ta):PE X (.UnaryOp op a pos) (XQ r ta):=by
 intro Ff s Y H Q I h;show UnaryOp_ (zw (ha Ff s Y H _ I h) λ v s1 #[x,H1,I1,r1,q1]=>ho Ff s1 Y H1 x v Q I1 r1 q1)
def qN {f:Value->Value->Sem Value}{C:Int->Int->Prop}{g:Int->Int->Int}
  (rule:∀ (i j:Int) (t u:Tok) (s:Shared) (Q:Af) (E:Af),C i j->Q (.int (g i j) s.toks) { s with toks:=s.toks+1 }->wpAny (model X.prog X.w) X.A (f (.int i t) (.int j u)) Q E s):
  zZ X f (rI C λ i j=>.int (g i j)):=by
 intro Ff s Y H x y v u Q I rx ry h;let#[i,j,rfl,rfl,hc,q]:=h;let#[t,rfl]:=rx;let#[t',rfl]:=ry;show rule i j t t' s _ _ hc #[.int (g i j),H,I.tok _,#[_,rfl],q]
def dU {f:Value->Value->Sem Value}{g:Int->Int->Int}
  (rule:∀ (i j:Int) (t u:Tok) (s:Shared) (Q:Af) (E:Af),Q (.int (g i j) s.toks) { s with toks:=s.toks+1 }->wpAny (model X.prog X.w) X.A (f (.int i t) (.int j u)) Q E s):
  zZ X f (vp λ i j=>.int (g i j)):=by
 intro Ff s Y H x y v u Q I rx ry h;let#[i,j,rfl,rfl,q]:=h;let#[t,rfl]:=rx;let#[t',rfl]:=ry;show rule i j t t' s _ _ #[.int (g i j),H,I.tok _,#[_,rfl],q]
def jF {f:Value->Value->Sem Value}{g:Int->Int->Bool}
  (rule:∀ (i j:Int) (t u:Tok) (s:Shared) (Q:Af) (E:Af),Q (.bool (g i j)) s->wpAny (model X.prog X.w) X.A (f (.int i t) (.int j u)) Q E s):
  zZ X f (vp λ i j=>.bl (g i j)):=by
 intro Ff s Y H x y v u Q I rx ry h;let#[i,j,rfl,rfl,q]:=h;let#[t,rfl]:=rx;let#[t',rfl]:=ry;show rule i j t t' s _ _ #[.bl (g i j),H,I,rfl,q]
def xC (i j:Int):Prop:=0<j/\j<1073741824
def rM (i j:Int):Prop:=0<=j/\j<=1000000/\i.natAbs<2 ^ 64
def vM (i j:Int):Prop:=(-(2 ^ 64)<i/\i<2 ^ 64)\/(-(2 ^ 64)<j/\j<2 ^ 64)
def vM.ok {i j:Int}(h:vM i j):IntMulOk i j:=by
 rcases h with ⟨h1,h2⟩ | ⟨h1,h2⟩
 .show .of_left (intBits_le_64 h1 h2)
 .show .of_right (intBits_le_64 h1 h2)
def R0:zZ X (binaryOp .Add) (vp λ i j=>.int (i+j)):=dU λ _ _ _ _ _ _ _ q=>add_int q
def SY:zZ X (binaryOp .Sub) (vp λ i j=>.int (i-j)):=dU λ _ _ _ _ _ _ _ q=>sub_int q
def Rj:zZ X (binaryOp .Mult) (rI vM λ i j=>.int (i*j)):=qN λ _ _ _ _ _ _ _ hc q=>mul_int q hc.ok
def Rv:zZ X (binaryOp .FloorDiv) (rI xC λ i j=>.int (i/j)):=qN λ i j _ _ _ _ _ hc q=>by
 have h1:(0:Int)<j:=hc.1;have h2:j<1073741824:=hc.2;show floordiv_int ⋯ (by rw[Int.fdiv_eq_ediv_of_nonneg i ⋯];show q) (.inl (PyProof.noPylong_small ⋯))
def Rl:zZ X (binaryOp .Mod) (rI (λ _ j=>0<j) λ i j=>.int (i%j)):=qN λ i j _ _ _ _ _ hc q=>by
 have h1:(0:Int)<j:=hc;show mod_int' ⋯ (by rw[Int.fmod_eq_emod_of_nonneg i ⋯];show q)
def S_:zZ X (binaryOp .Pow) (rI rM λ i j=>.int (i ^ j.toNat)):=qN λ _ _ _ _ _ _ _ hc q=>pow_int_small hc.1 hc.2.1 hc.2.2 q
def X8 {f:Value->Sem Value}{g:Int->Int}
  (rule:∀ (i:Int) (t:Tok) (s:Shared) (Q:Af) (E:Af),Q (.int (g i) s.toks) { s with toks:=s.toks+1 }->wpAny (model X.prog X.w) X.A (f (.int i t)) Q E s):
  gr X f (rU λ i=>.int (g i)):=by
 intro Ff s Y H x v Q I rx h;let#[i,rfl,q]:=h;let#[t,rfl]:=rx;show rule i t s _ _ #[.int (g i),H,I.tok _,#[_,rfl],q]
def X7:gr X (unaryOp .USub) (rU λ i=>.int (-i)):=X8 λ _ _ _ _ _ q=>neg_int q
end
section
variable {X:Cx}{a b c:Expr}{ta tb tc:TE}{pos:Pos}
def bV {Ff:Aj}{Y:St}{H:Hp}{s:Shared}{Q:VK}{k k':Bool}(I:Inv X Ff Y H s) (q:Q (.bl k) H) (e:k=k'):EP X Ff Y Q (.bool k') s:=by
 subst e;show#[.bl k,H,I,rfl,q]
def Ro:zZ X (compareOp .Lt) (vp λ i j=>.bl (decide (i<j))):=jF λ _ _ _ _ _ _ _ q=>lt_int q
def jE:zZ X (compareOp .LtE) (vp λ i j=>.bl (decide (i<=j))):=jF λ _ _ _ _ _ _ _ q=>le_int q
def Rt:zZ X (compareOp .GtE) (vp λ i j=>.bl (decide (j<=i))):=jF λ _ _ _ _ _ _ _ q=>ge_int q
def Rp:zZ X (compareOp .Is) (λ x y H Q=>y=.zr/\Q (.bl (decide (x=.zr))) H):=by
 intro Ff s Y H x y v u Q I rx ry h;let#[rfl,q]:=h;cases ry;exact is_none_gen (bV I q ?_);cases x <;> first
  | (cases rx;rfl)
  | (let#[t,rfl]:=rx;rfl)
def Ra:zZ X (compareOp .IsNot) (λ x y H Q=>y=.zr/\Q (.bl (!decide (x=.zr))) H):=by
 intro Ff s Y H x y v u Q I rx ry h;let#[rfl,q]:=h;cases ry;exact isnot_none_gen (bV I q ?_);cases x <;> first
  | (cases rx;rfl)
  | (let#[t,rfl]:=rx;rfl)
def zZ.or {f:Value->Value->Sem Value}{r r':R2}(h:zZ X f r) (h':zZ X f r'):zZ X f (λ x y H Q=>r x y H Q\/r' x y H Q):=by
 intro Ff s Y H x y v u Q I rx ry q;rcases q with q | q
 .show h Ff s Y H x y v u Q I rx ry q
 .show h' Ff s Y H x y v u Q I rx ry q
def sM (b:Expr) {op:CmpOp}(h:op≠.In:=by decide) (h2:op≠.NotIn:=by decide):behindInMarks op b=false:=by
 have e1:(op == CmpOp.In)=false:=by cases op <;> first | rfl | show absurd rfl h
 have e2:(op == CmpOp.NotIn)=false:=by cases op <;> first | rfl | show absurd rfl h2
 cases b <;> simp[behindInMarks,e1,e2]
def Um {op:CmpOp}{r:R2}(ho:zZ X (compareOp op) r) (ha:PE X a ta) (hb:PE X b tb) (hm:behindInMarks op b=false):PE X (.Compare a [op] [b] pos) (pY r ta tb):=by
 intro Ff s Y H Q I h;show wpAny_Compare1 (i_ ha hb I h λ v u s2 x y H2 I2 rx ry q=>ho Ff s2 Y H2 x y v u Q I2 rx ry q) hm
def XS (t:TE):TT:=fun Y H Q=>t Y H λ x H'=>∃ k,x=.bl k/\Q k H'
def Vq {op:CmpOp}{r:R2}(ho:zZ X (compareOp op) r) (ha:PE X a ta) (hb:PE X b tb) (hm:behindInMarks op b=false):PT X (.Compare a [op] [b] pos) (XS (pY r ta tb)):=by
 intro Ff s Y H Q I h;exact wpAny_isTrue_Compare1 (zw (ha Ff s Y H _ I h) λ v s1 #[x,H1,I1,r1,q1]=>zw (hb Ff s1 Y H1 _ I1 q1) λ u s2 #[y,H2,I2,r2,q2]=>
  zw (ho Ff s2 Y H2 x y v u _ I2 r1 r2 q2) λ c s3 #[z,H3,I3,r3,k,e,q3]=>?_) hm
 subst e;cases r3;show zaH #[H3,I3,q3]
def fS (r r':R2) (ta tb tc:TE):TE:=fun Y H Q=>ta Y H λ x H1=>tb Y H1 λ y H2=>r x y H2 λ z H3=>∃ k,z=.bl k/\
 (if k=true then tc Y H3 λ w' H4=>r' y w' H4 Q else Q (.bl false) H3)
def Uo {op Ir:CmpOp}{r r':R2}(ho:zZ X (compareOp op) r) (F5:zZ X (compareOp Ir) r') (ha:PE X a ta) (hb:PE X b tb) (hc:PE X c tc)
  (hm:lastMarks [op,Ir] [b,c]=false:=by with_unfolding_all rfl):PE X (.Compare a [op,Ir] [b,c] pos) (fS r r' ta tb tc):=by
 intro Ff s Y H Q I h;exact Compare_chain (zw (ha Ff s Y H _ I h) λ v s1 #[x,H1,I1,r1,q1]=>chain_link (zw (hb Ff s1 Y H1 _ I1 q1) λ u s2 #[y,H2,I2,r2,q2]=>
  zw (ho Ff s2 Y H2 x y v u _ I2 r1 r2 q2) λ d s3 #[z,H3,I3,r3,k,e,q3]=>?_)) hm
 subst e;cases r3;exact zaH ?_;cases k with
 | false=>show ite_ff #[.bl false,H3,I3,rfl,q3]
 | true=>show ite_tt (chain_last (zw (hc Ff s3 Y H3 _ I3 q3) λ w' s4 #[z',H4,I4,r4,q4]=>F5 Ff s4 Y H4 y z' u w' Q I4 r2 r4 q4))
def gs (K:Ac) (x:V) (H:Hp) (k:Bool):Prop:=
 match x with
 | .zr=>k=false
 | .bl b=>k=b
 | .int i=>k=(i != 0)
 | .str y=>y.length<=sizeLine/\k=((y.length:Int) != 0)
 | .kj y=>y.size<=sizeLine/\k=((y.size:Int) != 0)
 | .ref p=>(∃ xs,zG K H p xs/\k=!xs.isEmpty)\/(∃ xs,zR K H p xs/\k=!xs.isEmpty)\/∃ Ab,H p=↑(.dK Ab)/\k=!Ab.isEmpty
 | _=>False
def OW {κ:Type}{Ab:List (κ × V)}{vs:List (κ × Value)}(r:KV Ab vs):(!vs.isEmpty)=!Ab.isEmpty:=by
 cases r <;> rfl
def cZ {xs:List V}{Aa:Ae}(r:Vals xs Aa):(!Aa.toArray.isEmpty)=!xs.isEmpty:=by
 cases r <;> simp
def rY:(sizeLine:Nat)<2 ^ 63:=by rw[sizeLine_eq];decide
theorem XI:LA X (λ x H Q=>∃ k,gs X.K x H k/\Q k H):=by
 intro Ff s Y H x v Q I rx h;let#[k,e,q]:=h;have hl:=rY;have hs:sizeLine=16777216:=sizeLine_eq;cases x with
 | zr=>
  cases rx;have e':k=false:=e;subst e';show truthy_none #[H,I,q]
 | bl b=>
  cases rx;have e':k=b:=e;subst e';show zaH #[H,I,q]
 | int i=>
  let#[t,rfl]:=rx;have e':k=(i != 0):=e;subst e';show PySem.P.truthy_int #[H,I,q]
 | str y=>
  let#[t,rfl]:=rx;obtain⟨hy,e'⟩:y.length<=sizeLine/\k=((y.length:Int) != 0):=e;subst e';show PySem.P.truthy_str ⋯ #[H,I.tok _,q]
 | kj y=>
  let#[t,rfl]:=rx;obtain⟨hy,e'⟩:y.size<=sizeLine/\k=((y.size:Int) != 0):=e;subst e';show PySem.W.truthy_bytes ⋯ #[H,I.tok _,q]
 | ref p=>
  cases rx;have e':(∃ xs,zG X.K H p xs/\k=!xs.isEmpty)\/(∃ xs,zR X.K H p xs/\k=!xs.isEmpty)\/∃ Ab,H p=↑(.dK Ab)/\k=!Ab.isEmpty:=e;rcases e' with ⟨xs,hx,e'⟩ | ⟨xs,hx,e'⟩ | ⟨Ab,hx,e'⟩
  .subst e';let#[Aa,r,pl,hz]:=I.list hx;have hlen:=r.length;show wpAny_truthy_list pl.isList (by simp![AD];lia) #[H,I.tok _,by rw[cZ r];show q]
  .subst e';let#[Aa,r,pl,hz]:=I.tuple hx;have hlen:=r.length;show truthy_tuple pl (by simp![AD];lia) #[H,I.tok _,by rw[cZ r];show q]
  .subst e';obtain⟨hz,hS,vs,r,m⟩:Ab.length<=sizeLine/\(p == sysModules)=false/\∃ vs,KV Ab vs/\s.heap.DictOf (wA X.prog X.w) p vs:=I.zm p _ hx;have hlen:Ab.length=vs.length:=Paired.length r;show wpAny_truthy_dict hS m ⋯ #[H,I.tok _,by rw[OW r];show q]
 | _=>show (show False from e).elim
def Vo (ha:PE X a ta) (he:∀ whole,isTrue a X.env whole=(do let v <- whole;standAt a.pos;holding [v] (truthy v))):
  PT X a (fun Y H Q=>ta Y H λ x H'=>∃ k,gs X.K x H' k/\Q k H'):=by
 intro Ff s Y H Q I h;show isTrue_plain (zw (ha Ff s Y H _ I h) λ v s1 #[x,H1,I1,r1,q1]=>XI Ff s1 Y H1 x v Q I1 r1 q1) (he _)
def Rz:zZ X (binaryOp .Add) (λ x y H Q=>∃ i j,x=.str i/\y=.str j/\i.length+j.length<=sizeLine/\Q (.str (i++j)) H):=by
 intro Ff s Y H x y v u Q I rx ry h;let#[i,j,rfl,rfl,hz,q]:=h;let#[t,rfl]:=rx;let#[t',rfl]:=ry;show add_str (λ t' tk=>#[.str (i++j),H,I.tok _,#[_,rfl],q]) hz
def vals1 {x:V}{us:Ae}(r:Vals [x] us):∃ u,us=[u]/\RelV x u:=by
 cases r with
 | cons r1 r2=>cases r2;show#[_,rfl,r1]
def vals2 {x y:V}{us:Ae}(r:Vals [x,y] us):∃ u w',us=[u,w']/\RelV x u/\RelV y w':=by
 cases r with
 | cons r1 r2=>
  cases r2 with
  | cons r3 r4=>cases r4;show#[_,_,rfl,r1,r3]
def Lb:yx X (.builtin "abs") (λ xs H Q=>∃ i,xs=[.int i]/\Q (.int (if i<0 then -i else i)) H):=by
 intro Ff s Y H xs us Q I r h;let#[i,rfl,q]:=h;let#[u,rfl,t,rfl]:=vals1 r;show call_abs_int λ u tk=>#[.int (if i<0 then -i else i),H,I.tok _,#[_,rfl],q]
def MS (hc:X.calm=true):yx X (.builtin "max") (λ xs H Q=>∃ i j,xs=[.int i,.int j]/\Q (.int (if j>i then j else i)) H):=by
 intro Ff s Y H xs us Q I r h;let#[i,j,rfl,q]:=h;let#[u,w',rfl,#[t,rfl],#[t',rfl]]:=vals2 r;exact max_two_ints (I.ok.hd hc) λ h' tk k=>#[_,H,I.kept k,?_,q];by_cases hj:j>i
 .rw[if_pos hj,if_pos hj];show#[_,rfl]
 .rw[if_neg hj,if_neg hj];show#[_,rfl]
def MR (hc:X.calm=true):yx X (.builtin "min") (λ xs H Q=>∃ i j,xs=[.int i,.int j]/\Q (.int (if j<i then j else i)) H):=by
 intro Ff s Y H xs us Q I r h;let#[i,j,rfl,q]:=h;let#[u,w',rfl,#[t,rfl],#[t',rfl]]:=vals2 r;exact min_two_ints (I.ok.hd hc) λ h' tk k=>#[_,H,I.kept k,?_,q];by_cases hj:j<i
 .rw[if_pos hj,if_pos hj];show#[_,rfl]
 .rw[if_neg hj,if_neg hj];show#[_,rfl]
def MZ:yx X (.type "int") (λ xs H Q=>(∃ i,xs=[.int i]/\Q (.int i) H)\/∃ k,xs=[.bl k]/\Q (.int (if k then 1 else 0)) H):=by
 intro Ff s Y H xs us Q I r h;rcases h with ⟨i,rfl,q⟩ | ⟨k,rfl,q⟩
 .let#[u,rfl,t,rfl]:=vals1 r;show call_int_int #[.int i,H,I,#[_,rfl],q]
 .let#[u,rfl,r1]:=vals1 r;cases r1;show call_int_bool #[.int (if k then 1 else 0),H,I.tok _,#[_,rfl],q]
end
def uk.some_of {v:V}{o:Option Value}(r:uk ↑v o):∃ u,o=↑u/\RelV v u:=by
 cases o with
 | none=>show (show False from r).elim
 | some u=>show#[u,rfl,r]
structure yb (k:Nat) (A:Around):Prop where
 hd:A.handled=none
 dp:A.depth+3*k+5<recursionLimit
 un:A.units+16*k+200<cLine
def yb.mono {j k:Nat}{A:Around}(r:yb k A) (h:j<=k):yb j A:=#[r.hd,by have:=r.dp;lia,by have:=r.un;lia]
theorem yb.deeper {k:Nat}{A:Around}(r:yb (k+1) A) (env:Env):yb k (A.deeper env):=
 #[r.hd,by have:=r.dp;change A.depth+1+3*k+5<_;lia,by have:=r.un;change A.units+3+16*k+200<_;lia]
theorem yb.depth {k:Nat}{A:Around}(r:yb k A):A.depth<recursionLimit:=by have:=r.dp;lia
theorem yb.units {k:Nat}{A:Around}(r:yb k A):A.units+64<cLine:=by have:=r.un;lia
def jg:TA:=λ _ H Q=>Q [] H
def ji (ta:TE) (tr:TA):TA:=fun Y H Q=>ta Y H λ x H1=>tr Y H1 λ xs H2=>Q (x::xs) H2
section
variable {X:Cx}{e:Expr}{es:List Expr}{te:TE}{t:TA}{pos:Pos}
def sL:PA X [] jg:=λ _ _ _ _ H Q I h=>Calls.spliced_nil #[[],H,I,.nil,h]
def uQ (ha:PE X e te) (hr:PA X es t) (hs:AE X e es:=by rfl):PA X (e::es) (ji te t):=by
 intro pos Ff s Y H Q I h;rw[hs];change wpAny _ _ (spliced ((false,eval e X.env)::backTo pos (starEach es X.env))) _ _ s;exact Calls.spliced_cons (zw (ha Ff s Y H _ I h) λ u s1 #[x,H1,I1,r1,q1]=>?_);show zw (hr pos Ff s1 Y H1 _ I1 q1) λ us s2 #[xs,H2,I2,r2,q2]=>#[x::xs,H2,I2,.cons r1 r2,q2]
def XR (t:TA):TE:=fun Y H Q=>t Y H λ xs H1=>xs.length<=sizeLine/\∀ p,H1 p=none->Q (.ref p) (upd H1 p (.tup xs))
def Wd (t:TA):TE:=fun Y H Q=>t Y H λ xs H1=>xs.length<=sizeLine/\∀ p,H1 p=none->Q (.ref p) (upd H1 p (.lst xs))
def VW {x1} (h:PA X es t):PE X (.Tuple es x1 pos) (XR t):=by
 intro Ff s Y H Q I hq;exact wpAny_Tuple_spliced (zw (h pos Ff s Y H _ I hq) λ us s1 #[xs,H1,I1,r,z,q]=>#[by rw[<- r.length];show z,?_]);have hf:H1 s1.heap.objs.size=none:=I1.zm.fresh (Ak _);exact#[.ref s1.heap.objs.size,upd H1 s1.heap.objs.size (.tup xs),I1.laid (t':=s1.toks) (λ b u e=>gV _ e) (Ak _) ?_,rfl,q _ hf];show#[#[z,.new _],us,r,#[_,AJ _ rfl,rfl,_,rfl]]
def Ud (h:PA X es t):PE X (.List es pos) (Wd t):=by
 intro Ff s Y H Q I hq;exact wpAny_List_spliced (zw (h pos Ff s Y H _ I hq) λ us s1 #[xs,H1,I1,r,z,q]=>#[by rw[<- r.length];show z,?_]);have hf:H1 s1.heap.objs.size=none:=I1.zm.fresh (Ak _);exact#[.ref s1.heap.objs.size,upd H1 s1.heap.objs.size (.lst xs),I1.laid (t':=s1.toks) (λ b u e=>gV _ e) (Ak _) ?_,rfl,q _ hf];show#[z,us,0,r,AJ _ rfl]
end
abbrev Sp:=List V->Hp->VK->XK->Prop
abbrev vL:=List Env->Hp->Shared->XK->Value->Shared->Prop
structure kQ (P:Program) (w:World) (K:Ac) (mg:Au) (base:Heap) (A:Around) (outer:List Env) (s:Shared) (H:Hp):Prop where
 frames:A.frames=↑outer
 mod:Mod K mg base
 bs:∀ b o,base.get? b=↑o->s.heap.get? b=↑o/\H b=none
 se:base.objs.size<=s.heap.objs.size
 v8:s.heap.FunFrames base outer
 sW:∀ b∈y8 outer,H b=none
 zm:ye P w H s.heap
 bare:AllBare s.gens
def CE (outer:List Env) (P:Program) (w:World) (H:Hp) (s:Shared) (Q:VK) (u:Value) (s':Shared):Prop:=
 ∃ v H',s'.os=s.os/\AllBare s'.gens/\Un (y8 outer) [] H H' s.heap s'.heap/\ye P w H' s'.heap/\RelV v u/\Q v H'
def CR (CX:vL) (outer:List Env) (P:Program) (w:World) (H:Hp) (s:Shared) (Q:VK) (E:XK) (r:Result) (s':Shared):Prop:=
 match r with
 | .ok (.ret u)=>CE outer P w H s Q u s'
 | .ok _=>False
 | .error e=>CX outer H s E e s'
structure xf (P:Program) (w:World) (K:Ac) (mg:Au) (base:Heap) (CX:vL) (k:Nat) (f:Addr) (fd:FuncData) (ps:List Str) (sp:Sp):Prop where
 len:∀ vs H Q E,sp vs H Q E->vs.length=ps.length
 run:∀ (A:Around) (outer:List Env) (s:Shared) (H:Hp) (args:Args) (us:Ae) (vs:List V) (Q:VK) (E:XK),yb k A->kQ P w K mg base A outer s H->BindsTo s fd args (ps.zip us)->Vals vs us->sp vs H Q E->
  codeAny (model P w) A (.call (.ref f) args) (CR CX outer P w H s Q E) s
def xf.imp {P:Program}{w:World}{K:Ac}{mg:Au}{base:Heap}{CX:vL}{k:Nat}{f:Addr}{fd:FuncData}{ps:List Str}{sp sp':Sp}(F:xf P w K mg base CX k f fd ps sp)
  (h:∀ vs H Q E,sp' vs H Q E->sp vs H Q E):xf P w K mg base CX k f fd ps sp':=
 #[λ vs H Q E q=>F.len vs H Q E (h _ _ _ _ q),λ A outer s H args us vs Q E hr he hb hv hs=>F.run A outer s H args us vs Q E hr he hb hv (h _ _ _ _ hs)]
section
variable {X:Cx}{Ff:Aj}{Y:St}{H:Hp}{s s':Shared}
def Inv.ag (I:Inv X Ff Y H s):kQ X.prog X.w X.K X.mg X.base X.A X.stack s H:=
 #[I.ok.frames,I.ok.mod,I.bs,A9 I.ok.se I.sz,I.stack,I.jm,I.zm,I.bare]
theorem Inv.after {Q:VK}{u:Value}(I:Inv X Ff Y H s) (h:CE X.stack X.prog X.w H s Q u s'):EP X Ff Y Q u s':=by
 let#[v,H',os,bare,un,zm,r,q]:=h;let#[hh,g,d,t,Jh]:=s';obtain rfl:Jh=s.os:=os;show#[v,H',I.call (h':=hh) (g':=g) (d':=d) (t':=t) (ch:=[]) un zm bare (λ b z=>absurd z #[]),r,q]
end
def fT (sp:Sp) (Im:List V) (E:XK) (t:TA):TE:=fun Y H Q=>t Y H λ vs H1=>sp (vs++Im) H1 Q E
def Binds (K:Ac) (fd:FuncData) (ps:List Str) (ds:Ae):Prop:=
 ∀ (s:Shared) (us:Ae),K.In s.heap->(us++ds).length=ps.length->BindsTo s fd #[us,[]] (ps.zip (us++ds))
def Binds.all {K:Ac}{fd:FuncData}{ps:List Str}(h:∀ us:List Value,us.length=ps.length->bindArgs fd #[us,[]]=pure (ps.zip us)):Binds K fd ps []:=λ s us _ hl=>by
 rw[CC] at hl ⊢;show .of_eq (h us hl)
def Passes (CX:vL) (X:Cx) (E:XK):Prop:=∀ (Ff:Aj) (Y:St) (H:Hp) (s:Shared) (e:Value) (s':Shared),Inv X Ff Y H s->CX X.stack H s E e s'->X.xe e s'
section
variable {X:Cx}{CX:vL}{k:Nat}{f:Addr}{fd:FuncData}{ps:List Str}{sp:Sp}{Im:List V}{ds:Ae}{E:XK}{x:Str}{p pos:Pos}{e:Expr}{es:List Expr}{t:TA}
def WN {Ff:Aj}{Y:St}{H:Hp}{s:Shared}{Q:VK}{us:Ae}{vs:List V}(F:xf X.prog X.w X.K X.mg X.base CX k f fd ps sp) (hr:yb k X.A) (hb:Binds X.K fd ps ds) (hd:Vals Im ds) (hx:Passes CX X E)
  (I:Inv X Ff Y H s) (r:Vals vs us) (h:sp (vs++Im) H Q E):wpAny (model X.prog X.w) X.A (call (.ref f) us) (EP X Ff Y Q) X.xe s:=by
 have r2:Vals (vs++Im) (us++ds):=r.append hd;have hl:(us++ds).length=ps.length:=by rw[<- r2.length];show F.len _ _ _ _ h
 exact wpAny_call (codeAny_mono (F.run X.A X.stack s H #[us,[]] (us++ds) (vs++Im) Q E hr I.ag (hb s us I.yD hl) r2 h) λ r s' hq=>?_);cases r with
 | error e=>show hx Ff Y H s e s' I hq
 | ok fl=>
  cases fl with
  | ret u=>show I.after hq
  | _=>show False.elim hq
def Uq (F:xf X.prog X.w X.K X.mg X.base CX k f fd ps sp) (hr:yb k X.A) (hg:Gl X x) (hm:X.mg x=↑(.ref f)) (hk:PySem.W.keepIn X.K (.ref f)=true) (hb:Binds X.K fd ps ds) (hd:Vals Im ds) (hx:Passes CX X E)
  (ha:PA X (e::es) t) (Bc:(x == ("__debug__":Str))=false:=by decide) (he:AE X e es:=by rfl) (Ao:AI X pos es:=by rfl):
  PE X (.Call (.Name x p) (e::es) [] pos) (fT sp Im E t):=by
 intro Ff s Y H Q I h;exact zaM (oJ I hg hm ?_ Bc);exact PySem.W.callWith_K (h₀:=X.base) I.ok.mod.oK hk (zw (ha pos Ff s Y H _ I h) λ us s1 #[vs,H1,I1,r,q]=>#[I1.yD,?_]) he Ao;show WN F hr hb hd hx I1 r q
end
structure vK (N P:List Str) (sc:Scope):Prop where
 kind:sc.kind=.function
 co:sc.isCoroutine=false
 gen:sc.isGenerator=false
 nd:N.Nodup
 pre:N.take P.length=P
 par:∀ x∈P,sc.names.lookup x=↑.local\/sc.names.lookup x=↑.cell
 PC:∀ y∈sc.names,y.2≠.free
theorem Zr {kindOf:Str->Option NameKind}{x:Str}:∀ {binds:List (Str×Value)}{m:Au},(∀ v,(x,v)∉binds)->bindL kindOf binds m x=m x
 | [],_,_=>rfl
 | (n,v)::r,m,h=>by
  unfold bindL;rw[Zr λ w hw=>h w (Ay _ hw)];split
  .have:x≠n:=by rintro rfl;show h v Ax
   simp[this]
  .rfl
theorem Zt {kindOf:Str->Option NameKind}{x:Str}:∀ {binds:List (Str×Value)}{m:Au},(∀ v,(x,v)∉binds)->bindC kindOf binds m x=m x
 | [],_,_=>rfl
 | (n,v)::r,m,h=>by
  unfold bindC;rw[Zt λ w hw=>h w (Ay _ hw)];split
  .rfl
  .have:x≠n:=by rintro rfl;show h v Ax
   simp[this]
theorem Zs {kindOf:Str->Option NameKind}{x:Str}{v:Value}:∀ {P:List Str}{vs:Ae}{i:Nat}{m:Au},P.Nodup->P[i]?=↑x->vs[i]?=↑v->kindOf x=↑.local->
  bindL kindOf (P.zip vs) m x=↑v
 | [],_,_,_,_,h,_,_=>by simp at h
 | _::_,[],_,_,_,_,h,_=>by simp at h
 | p::P,w::vs,0,m,nd,h1,h2,hk=>by
  simp at h1 h2;subst h1;subst h2;change bindL kindOf ((p,w)::P.zip vs) m p=_;unfold bindL;rw[Zr λ v hv=>(BC.mp nd).1 (C4 hv).1,if_pos hk];simp
 | p::P,w::vs,i+1,m,nd,h1,h2,hk=>by
  change bindL kindOf ((p,w)::P.zip vs) m x=_;unfold bindL;show Zs (i:=i) (BC.mp nd).2 (by exists h1) (by exists h2) hk
theorem Zu {kindOf:Str->Option NameKind}{x:Str}{v:Value}:∀ {P:List Str}{vs:Ae}{i:Nat}{m:Au},P.Nodup->P[i]?=↑x->vs[i]?=↑v->kindOf x≠↑.local->
  bindC kindOf (P.zip vs) m x=↑v
 | [],_,_,_,_,h,_,_=>by simp at h
 | _::_,[],_,_,_,_,h,_=>by simp at h
 | p::P,w::vs,0,m,nd,h1,h2,hk=>by
  simp at h1 h2;subst h1;subst h2;change bindC kindOf ((p,w)::P.zip vs) m p=_;unfold bindC;rw[Zt λ v hv=>(BC.mp nd).1 (C4 hv).1,if_neg hk];simp
 | p::P,w::vs,i+1,m,nd,h1,h2,hk=>by
  change bindC kindOf ((p,w)::P.zip vs) m x=_;unfold bindC;show Zu (i:=i) (BC.mp nd).2 (by exists h1) (by exists h2) hk
def start (N:List Str) (vs:List V):St:=vs.map some++List.replicate (N.length-vs.length) none
def yM (CX:vL) (P:Program) (w:World) (K:Ac) (mg:Au) (base:Heap) (N:List Str) (qual:Str) (scope:Scope) (f:Addr) (cd:Value) (A:Around) (outer:List Env) (s:Shared) (H:Hp) (E:XK):Cx where
 prog:=P
 w:=w
 K:=K
 mg:=mg
 base:=base
 A:=A.deeper (envOfC qual scope s.heap.objs.size f cd)
 N:=N
 s₀:=s
 H₀:=H
 env:=envOfC qual scope s.heap.objs.size f cd
 outer:=outer
 stack:=envOfC qual scope s.heap.objs.size f cd::outer
 ex:=[]
 calm:=true
 fn:=λ _=>true
 pn:=[]
 xe:=λ e s'=>wpAny (model P w) (A.deeper (envOfC qual scope s.heap.objs.size f cd)) (leaving (envOfC qual scope s.heap.objs.size f cd) e) (λ _ HN=>CX outer H s E e HN) (λ e' HN=>CX outer H s E e' HN) s'
def Ze {sc:Scope}{n:Nat}{x:Str}(h:sc.names.lookup x=↑.cell):∃ c,(cellsFrom n sc.names []).lookup x=↑c:=by
 have q:=PySem.W.cellsFrom_some sc.names n [] (.inl h);show DZ.mp q
def Na {CX:vL}{P:Program}{w:World}{K:Ac}{mg:Au}{base:Heap}{N ps:List Str}{qual:Str}{scope:Scope}{f:Addr}{cd:Value}{A:Around}{outer:List Env}{s s1:Shared}{H:Hp}{E:XK}{us:Ae}{vs:List V}
  (S:vK N ps scope) (hd:A.handled=none) (e0:kQ P w K mg base A outer s H) (hl:vs.length=ps.length) (r:Vals vs us)
  (x:InCallC s s.heap.objs.size (bindL (envOfC qual scope s.heap.objs.size f cd).kindOf (ps.zip us) λ _=>none) (cellsFrom (s.heap.objs.size+1) scope.names []) (bindC (envOfC qual scope s.heap.objs.size f cd).kindOf (ps.zip us) λ _=>none) s1):
  Inv (yM CX P w K mg base N qual scope f cd A outer s H E) [] (start N vs) H s1:=by
 have Ao:ps.length<=N.length:=by have:=congrArg List.length S.pre;rw[BO] at this;lia
 let#[h1,tk,rfl,hk]:=x.done;have Jm:∀ b:Addr,b∉(yM CX P w K mg base N qual scope f cd A outer s H E).ex:=λ b z=>absurd (show b∈([]:List Addr) from z) #[];exact#[#[e0.mod,S.kind,rfl,rfl,Ak _,λ y z c h1 h2=>?_,λ y hy=>?_,λ y c _ h=>?_,λ _=>hd,Around.frames_deeper e0.frames,.inr #[rfl,rfl],λ b z=>absurd z (Jm b),e0.bs,e0.se,λ b _ _=>Jm b,λ b z=>absurd z (Jm b),e0.v8,e0.sW],
  rfl,e0.bare,Un.kept hk,#[_,x.toInCall.ns,λ i y v h1 h2 h3=>?_],λ y c h=>#[_,x.cell y c h],e0.zm.fresh (Ak _),λ y c h=>?_,λ p hp=>absurd (show p∈([]:Aj) from hp) #[],e0.zm.kept hk,?_]
 .show name_of_addr x.apart (PySem.mem_of_lookup h1) (PySem.mem_of_lookup h2)
 .have hy:scope.names.lookup y=↑.cell\/scope.names.lookup y=↑.free:=hy;rcases hy with hy | hy
  .show Ze hy
  .show absurd rfl (S.PC _ (PySem.mem_of_lookup hy))
 .show BD (x.above y c (PySem.mem_of_lookup h))
 .have hi:i<vs.length:=by
   unfold start at h2;by_cases hi:i<vs.length
   .show hi
   .rw[Ct (by exists hi)] at h2;rw[DY] at h2;split at h2 <;> cases h2
  have ha:vs[i]?=↑v:=by
   unfold start at h2;rw[Cs (by exists hi),AR] at h2;cases e:vs[i]? with
   | none=>rw[e] at h2;cases h2
   | some a=>rw[e] at h2;cases h2;rfl
  let#[u,hu,rv]:=r.get ha;have hp:ps[i]?=↑y:=by
   rw[<- S.pre,List.getElem?_take_of_lt ⋯];show h1
  have ndP:ps.Nodup:=by rw[<- S.pre];show S.nd.sublist (List.take_sublist _ _)
  exact#[u,rv,?_];rcases S.par y (BU hp) with k | k
  .show .inl #[k,Zs ndP hp hu k]
  .let#[c,e]:=Ze (n:=s.heap.objs.size+1) k;exact .inr #[.inl k,c,e,?_];have q:=x.cell y c e;rw[Zu ndP hp hu (by change scope.names.lookup y≠_;rw[k];decide)] at q;show q
 .show e0.zm.fresh (BD (x.above y c (PySem.mem_of_lookup h)))
 .unfold start;change _=N.length;rw[Bs,AA,List.length_replicate];lia
def bO {CX:vL}{P:Program}{w:World}{K:Ac}{mg:Au}{base:Heap}{k:Nat}{f:Addr}{name qual:Str}{params:Arguments}{body:List Stmt}{scope:Scope}{dV kV doc pm Ai ct oc:Value}{an od:Option Addr}
  {HQ:Array (Option Value)}{N ps:List Str}{sp:Sp}(lk:K.lookup f=↑#[oc,od,.func (PySem.W.fnOf name qual params body scope dV kV doc pm an Ai ct),HQ]) (BA:PySem.W.codeIn K Ai qual=true) (S:vK N ps scope)
  (len:∀ vs H Q E,sp vs H Q E->vs.length=ps.length)
  (Fp:∀ (A:Around) (outer:List Env) (s:Shared) (H:Hp) (vs:List V) (Q:VK) (E:XK),yb k (A.deeper (envOfC qual scope s.heap.objs.size f Ai))->sp vs H Q E->
   ∃ t,xO (yM CX P w K mg base N qual scope f Ai A outer s H E) body t/\t { nx:=λ _ H'=>Q .zr H',rt:=Q } (start N vs) H):
  xf P w K mg base CX (k+1) f (PySem.W.fnOf name qual params body scope dV kV doc pm an Ai ct) ps sp:=by
 exact#[len,λ A outer s H args us vs Q E hr e0 hb r BV=>?_];have hl:=len _ _ _ _ BV;have KX:K.In s.heap:=e0.mod.oK.keeps λ b o e=>(e0.bs b o e).1;have lim:s.heap.NoLimit:=e0.mod.nolimit.keeps λ b o e=>(e0.bs b o e).1;have JC:∀ y∈ps.zip us,scope.names.lookup y.1=↑.local\/(scope.names.lookup y.1=↑.cell/\((cellsFrom (s.heap.objs.size+1) scope.names []).lookup y.1).isSome=true):=λ#[n,v] hy=>by
  rcases S.par n (C4 hy).1 with q | q
  .show .inl q
  .show .inr #[q,PySem.W.cellsFrom_some _ _ _ (.inl q)]
 exact codeAny_call_function hr.depth (KX _ _ lk) rfl S.co S.gen rfl (PySem.W.codeRec_of KX BA) (hb _ _ _ _ ?_);exact wpAny_newFunctionEnv_cells S.kind JC λ env he s1 x=>?_;subst he;exact#[lim.keeps x.toInCall.keep,codeAny_func ?_];let#[t,ht,hq]:=Fp A outer s H vs Q E (hr.deeper _) BV;have I:Inv (yM CX P w K mg base N qual scope f Ai A outer s H E) [] (start N vs) H s1:=Na S hr.hd e0 hl r x;exact tp (ht [] s1 (start N vs) H _ I hq) (λ fl s' hs=>?_) λ e s' hs=>hs;have fin:∀ {Y':St}{H':Hp}{v:V}{u:Value},Inv (yM CX P w K mg base N qual scope f Ai A outer s H E) [] Y' H' s'->RelV v u->Q v H'->CE outer P w H s Q u s':=
  λ{Y' H' v u} J rv q=>#[v,H',J.os,J.bare,J.base,J.zm,rv,q]
 cases fl with
 | ret u=>
  let#[v,Y',H',J,rv,q]:=hs;show fin J rv q
 | next=>
  let#[Y',H',J,q]:=hs;show fin (v:=V.zr) (u:=Value.none) J rfl q
 | brk=>
  let#[_,_,_,q]:=hs;show False.elim q
 | cont=>
  let#[_,_,_,q]:=hs;show False.elim q
section
variable {X:Cx}{x:Str}{p pos:Pos}{e:Expr}{es:List Expr}{t:TA}{id T:String}{r:List V->Hp->VK->Prop}
def mJ (r:List V->Hp->VK->Prop) (t:TA):TE:=fun Y H Q=>t Y H λ vs H1=>r vs H1 Q
def uO (hc:yx X (.builtin id) r) (hg:Gl X x) (hm:X.mg x=none) (hv:bootBuiltins x=↑(.builtin id)) (ha:PA X (e::es) t) (hn:x≠"__name__":=by decide) (Bc:(x == ("__debug__":Str))=false:=by decide)
  (he:AE X e es:=by rfl) (Ao:AI X pos es:=by rfl):PE X (.Call (.Name x p) (e::es) [] pos) (mJ r t):=by
 intro Ff s Y H Q I h;exact zaM (rZ I hg hm hv ?_ hn Bc);show PyProof.Rows.callWith_builtin1 (zw (ha pos Ff s Y H _ I h) λ us s1 #[vs,H1,I1,r1,q1]=>hc Ff s1 Y H1 vs us Q I1 r1 q1) he Ao
def qM (hc:yx X (.type T) r) (hg:Gl X x) (hm:X.mg x=none) (hv:bootBuiltins x=↑(.type T)) (ha:PA X (e::es) t) (hn:x≠"__name__":=by decide) (Bc:(x == ("__debug__":Str))=false:=by decide)
  (he:AE X e es:=by rfl) (Ao:AI X pos es:=by rfl):PE X (.Call (.Name x p) (e::es) [] pos) (mJ r t):=by
 intro Ff s Y H Q I h;exact zaM (rZ I hg hm hv ?_ hn Bc);show PyProof.Rows.callWith_type1 (zw (ha pos Ff s Y H _ I h) λ us s1 #[vs,H1,I1,r1,q1]=>hc Ff s1 Y H1 vs us Q I1 r1 q1) he Ao
end
end L2
namespace HT
open PySem PyProof.Rows
def lexLt:List Int->List Int->Bool
 | [],[]=>false
 | [],_::_=>true
 | _::_,[]=>false
 | x::xs,y::ys=>if x=y then lexLt xs ys else decide (x<y)
def sP (x y:Int) (xs ys:List Int):lexLt (x::xs) (y::ys)=if x=y then lexLt xs ys else decide (x<y):=rfl
def Ot:lexLt [] []=false:=rfl
def Ou (y:Int) (ys:List Int):lexLt [] (y::ys)=true:=rfl
def Ov (x:Int) (xs:List Int):lexLt (x::xs) []=false:=rfl
def Mc (A:Around) (s:Shared) (a:Int) (t:Tok) (c:Int) (u:Tok):∃ e,SeqAt.EqAt A s (.int a t) (.int c u) e/\(e=true↔a=c):=
 #[(a == c),SeqAt.EqAt.int_int a t c u,#[]]
def WY (A:Around) (s:Shared) (a:Int) (t:Tok) (c:Int) (u:Tok) (prog:Program) (w:World) (E:Af) (Q:Af) (h:Q (.bool (decide (a<c))) s):
  wpAny (model prog w) A (richCompare .Lt (.int a t) (.int c u)) Q E s:=
 (PyProof.Rows.lt_int h:wpAny (model prog w) A (compareOp .Lt (.int a t) (.int c u)) Q E s)
section
open PySem.SeqAt
open PySem.AutoSeq1 (wpAny_loadPart')
open PySem.MeetsSeq PySem.MeetsSeq2 PySem.MeetsSeq3
def XG (l b:Addr) (items FG:Aw) (n n2:Nat) (dd HL:Option Addr) (sl HJ:Array (Option Value)) (ns ms:List Int) (hi:IntsAre items.toList ns) (hj:IntsAre FG.toList ms):
  Meets (Builtin.«tuple.__lt__» #[[.ref l,.ref b],[]])
   (λ _ R s=>s.heap.get? l=↑{ cls:=.type "tuple",dict:=dd,data:=.seq items n,slots:=sl }/\s.heap.get? b=↑{ cls:=.type "tuple",dict:=HL,data:=.seq FG n2,slots:=HJ }/\
    R (.ok (.ret (.bool (lexLt ns ms)))) s):=
 .of_wp λ prog w A R s h=>by
  let#[hp,g,d,tk,os]:=s;let#[hl,hb,h]:=h
  have f2:=AutoSeq1.sub_tuple_tuple;have z1:items.size=ns.length:=by rw[<- hi.length];simp
  have z2:FG.size=ms.length:=by rw[<- hj.length];simp
  wp_walk using wpAny_loadPart' hl,wpAny_loadPart' hb,wpAny_forIn_list _ (λ Fh b s'=>b.1=none/\s'=#[hp,g,d,tk,os]/\∃ (vs ws:Ae) (GL GN:List Int),Fh=vs.zip ws/\
   IntsAre vs GL/\IntsAre ws GN/\GL.length+FG.size=GN.length+items.size/\R (.ok (.ret (.bool (lexLt GL GN)))) #[hp,g,d,tk,os]) _
  case turn=>
   rintro⟨y,x⟩ Fh b s' ⟨Il,rfl,vs,ws,GL,GN,hz,EG,C9,hlen,hR⟩;cases EG with
   | nil=>rw[List.zip_nil_left] at hz;cases hz
   | cons a t EF=>
    cases C9 with
    | nil=>rw[List.zip_nil_right] at hz;cases hz
    | cons c u ED=>
     rw[List.zip_cons_cons] at hz
     injection hz with hyx Gg
     injection hyx with hy hx
     subst hy hx;rw[sP] at hR;simp![Bj] at hlen;let#[e,he,Dy]:=Mc A.in1 #[hp,g,d,tk,os] a t c u;exact Kj (he prog w _ _ ?_);cases e with
     | true=>
      rw[if_pos (Dy.mp rfl)] at hR
      wp_walk
      show#[rfl,rfl,_,_,_,_,Gg,EF,ED,⋯,hR]
     | false=>
      rw[if_neg (λ q=>absurd (Dy.mpr q) B_)] at hR;have hri:=WY A.in1 #[hp,g,d,tk,os] a t c u prog w
      wp_walk using hri
      show#[_,rfl,by exists hR]
  case fin=>
   rintro⟨b1,b2⟩ s' ⟨Il,rfl,vs,ws,GL,GN,hz,EG,C9,hlen,hR⟩;simp only at Il;subst Il;have hv:lexLt GL GN=decide (items.size<FG.size):=by
    cases EG with
    | nil=>
     cases C9 with
     | nil=>
      simp![C3] at hlen;rw[Ot];show (za5 ⋯).symm
     | cons c u hw=>
      simp![C3,Bj] at hlen;rw[Ou];show (zaA ⋯).symm
    | cons a t hv=>
     cases C9 with
     | nil=>
      simp![C3,Bj] at hlen;rw[Ov];show (za5 ⋯).symm
     | cons c u hw=>
      rw[List.zip_cons_cons] at hz;cases hz
   rw[hv] at hR
   wp_walk
   show#[_,rfl,by simpa [Builtin.Tuple.tupleCompareSizes] using hR]
  case h=>
   show#[rfl,rfl,items.toList,FG.toList,ns,ms,rfl,hi,hj,⋯,h]
end
section
variable {prog:Program}{w:World}{A:Around}{E:Af}{s:Shared}
def Oi {l b:Addr}{items FG:Aw}{ns ms:List Int}{Q:Af}(hl:IsTup s.heap l items) (hb:IsTup s.heap b FG) (hi:IntsAre items.toList ns) (hj:IntsAre FG.toList ms)
  (hu:A.units<cLine) (h:Q (.bool (lexLt ns ms)) s):wpAny (model prog w) A (compareOp .Lt (.ref l) (.ref b)) Q E s:=by
 let#[#[cls,dd,data,sl],ho,hc,n,hd]:=id hl;let#[#[II,HL,data2,HJ],Hm,GR,n2,hd2]:=id hb;simp only at hc hd GR hd2;subst hc hd GR hd2;show richCompare_meets_room (op:=.Lt) #[_,ho,rfl] #[_,Hm,rfl] PySem.F.slot_tuple_lt PySem.F.entry_tuple_lt (PySem.F.args_tuple_lt_2 _ _) (XG l b items FG n n2 dd HL sl HJ ns ms hi hj)
  #[ho,Hm,show Value.bool (lexLt ns ms)≠Value.notImplemented/\Q (.bool (lexLt ns ms)) s from #[(λ x=>nomatch x),h]] hu
def MH {t b:Addr}{vs ws:Ae}{Q:Af}(ht:IsTup s.heap t vs.toArray) (hb:IsTup s.heap b ws.toArray) (hv:vs≠[])
  (h1:ws=[]->Q (.ref t) s) (h2:ws≠[]->Q (.ref s.heap.objs.size) { s with heap:=s.heap.push { cls:=.type "tuple",data:=.seq (vs++ws).toArray } })
  (hsz:vs.length+ws.length<=sizeLine):wpAny (model prog w) A (binaryOp .Add (.ref t) (.ref b)) Q E s:=by
 let#[#[cls,dd,data,sl],ho,hc,n,hd]:=id ht;let#[#[II,HL,data2,HJ],Hm,GR,n2,hd2]:=id hb;simp only at hc hd GR hd2;subst hc hd GR hd2;have e:vs.toArray++ws.toArray=(vs++ws).toArray:=#[];by_cases hw:ws=[]
 .show concat_meets #[_,ho,rfl] #[_,Hm,rfl] noFill_tuple_add seq_tuple_add PySem.F.slot_tuple_add PySem.F.entry_tuple_add (PySem.F.args_tuple_add_2 _ _)
   (tuple_addW1 t b vs.toArray ws.toArray n n2 dd HL sl HJ (by exists hv) (by simp[hw])) #[ho,Hm,h1 hw]
 .exact concat_meets #[_,ho,rfl] #[_,Hm,rfl] noFill_tuple_add seq_tuple_add PySem.F.slot_tuple_add PySem.F.entry_tuple_add (PySem.F.args_tuple_add_2 _ _)
   (tuple_addW2 t b vs.toArray ws.toArray n n2 dd HL sl HJ (by exists hv) (by exists hw) (by rw[AD,AD];show hsz)) #[ho,Hm,?_]
  rw[e];show h2 hw
def zA (n d:Nat):Option Int->Nat
 | none=>d
 | some v=>if v<0 then (v+(n:Int)).toNat else min v.toNat n
theorem WJ (n d k:Nat):zA n d ↑(k:Int)=min k n:=by
 change (if (k:Int)<0 then ((k:Int)+(n:Int)).toNat else min (k:Int).toNat n)=min k n;rw[if_neg ⋯,Cr]
def WK (n d:Nat) (hd:d<=n) (o:Option Int):zA n d o<=n:=by
 cases o with
 | none=>show hd
 | some v=>
  change (if v<0 then (v+(n:Int)).toNat else min v.toNat n)<=n;by_cases hv:v<0
  .rw[if_pos hv];lia
  .rw[if_neg hv];show Nat.min_le_right _ _
def aZ (v:Int) (n d:Nat):(if v<0 then max (v+(n:Int)) 0 else min v (n:Int))=((zA n d ↑v:Nat):Int):=by
 change (if v<0 then max (v+(n:Int)) 0 else min v (n:Int))=(((if v<0 then (v+(n:Int)).toNat else min v.toNat n):Nat):Int)
 by_cases hv:v<0
 .simp![if_pos hv];lia
 .simp![if_neg hv];lia
theorem L6 (lo hi:Option Int) (n:Nat):Builtin.Slice.sliceAdjust lo hi 1 (n:Int)=(((zA n 0 lo:Nat):Int),((zA n n hi:Nat):Int)):=by
 have h1:¬ ((1:Int)<0):=⋯;unfold Builtin.Slice.sliceAdjust;simp![h1,if_false];exact Prod.ext ?_ ?_
 .cases lo with
  | none=>rfl
  | some v=>show aZ v n 0
 .cases hi with
  | none=>rfl
  | some v=>show aZ v n n
theorem V7 (i j:Nat):Builtin.Slice.slicePlaces (i:Int) (j:Int) 1=j-i:=by
 unfold Builtin.Slice.slicePlaces;have h1:(1:Int)>0:=⋯;simp![h1,if_true,Int.ediv_one];split <;> lia
def eB {v:Value}{o:Option Int}{Q:Option Int->Shared->Prop}(p:IsPart v o) (h:Q o s):wpAny (model prog w) A (Builtin.Slice.slicePartIndex v) Q E s:=by
 cases p with
 | none=>show slicePart_none h
 | int i t=>show slicePart_int h
def eC {sl:Addr}{vl vu:Value}{lo hi:Option Int}{n:Nat}{Q:Int×Int×Nat->Shared->Prop}(hs:s.heap.IsSliceOf sl vl vu .none) (pl:IsPart vl lo) (pu:IsPart vu hi)
  (h:Q (((zA n 0 lo:Nat):Int),1,zA n n hi-zA n 0 lo) s):wpAny (model prog w) A (Builtin.Slice.sliceApplied (.ref sl) (pure (n:Int))) Q E s:=by
 let#[os,Cf,hcs,D_]:=id hs;unfold Builtin.Slice.sliceApplied Builtin.Slice.sliceFields;exact Kj (Kj (za3 Cf D_ (x:=vl) rfl (Kj (za3 Cf D_ (x:=vu) rfl (Kj (za3 Cf D_ (x:=.none) rfl (Ad ?_)))))));exact Kj (slicePart_none ?_);change wpAny _ _ (if ((1:Int) == 0)=true then _ else _) _ _ s;rw[if_neg ()];exact Kj (eB pl (Kj (eB pu (Kj (Ad ?_)))));change wpAny _ _ (match Builtin.Slice.sliceAdjust lo hi 1 (n:Int) with | (lo,hi)=>pure (lo,(1:Int),Builtin.Slice.slicePlaces lo hi 1)) _ _ s;rw[L6 lo hi n];change wpAny _ _ (pure (((zA n 0 lo:Nat):Int),(1:Int),Builtin.Slice.slicePlaces ((zA n 0 lo:Nat):Int) ((zA n n hi:Nat):Int) 1)) _ _ s;rw[V7];show Ad h
theorem VB (xs:Aw) (i k:Nat):((List.range k).filterMap λ(m:Nat)=>xs[((i:Int)+(m:Int)*1).toNat]?).toArray=((xs.toList.drop i).take k).toArray:=by
 have e:(λ(m:Nat)=>xs[((i:Int)+(m:Int)*1).toNat]?)=λ m=>xs[i+m]?:=by
  funext m;have:((i:Int)+(m:Int)*1).toNat=i+m:=⋯;rw[this]
 rw[e];have:=pick_run xs i k;rw[List.filterMap_map] at this;have e2:((λ x=>xs[x]?) ∘ λ x=>i+x)=λ m=>xs[i+m]?:=rfl;rw[e2] at this;rw[this]
def NA {t sl:Addr}{items:Aw}{vl vu:Value}{lo hi:Option Int}{Q:Af}(ht:IsTup s.heap t items) (hs:s.heap.IsSliceOf sl vl vu .none) (pl:IsPart vl lo) (pu:IsPart vu hi)
  (hw:¬ (zA items.size 0 lo=0/\zA items.size items.size hi=items.size))
  (h:Q (.ref s.heap.objs.size) { s with heap:=s.heap.push { cls:=.type "tuple",data:=.seq ((items.toList.drop (zA items.size 0 lo)).take (zA items.size items.size hi-zA items.size 0 lo)).toArray } })
  (hsz:items.size<=sizeLine):wpAny (model prog w) A (getItem (.ref t) (.ref sl)) Q E s:=by
 have Hg:sizeOk (.seq ((items.toList.drop (zA items.size 0 lo)).take (zA items.size items.size hi-zA items.size 0 lo)).toArray):=by
  change ((items.toList.drop (zA items.size 0 lo)).take (zA items.size items.size hi-zA items.size 0 lo)).toArray.size<=sizeLine;rw[AD,BO,B9,BE];lia
 have hj:zA items.size items.size hi<=items.size:=WK _ _ (Ak _) hi;let#[os,Cf,hcs,D_]:=id hs;have hTs:s.TypeIs (.ref sl) "slice":=#[os,Cf,hcs];unfold getItem
 try with_reducible exact za7 ?_
 first | exact Kj (Ad ?_) | skip
 exact Kj (wpAny_sequenceKey ht.typeIs () ?_);exact Kj (zaG (name:=Str.ofString "__getitem__") ht.typeIs PyProof.Rows.slot_tuple_getitem
  (zaB PyProof.Rows.slot_tuple_getitem ht.typeIs entry_tuple_getitem ?_ (args_tuple_getitem _ _)))
 change wpAny _ _ (Builtin.Tuple.tupleItemsOf (.ref t) >>= _) _ _ s;exact Kj (tupleItemsOf_ ht ?_);exact Kj (zaK hTs ?_);rw[if_pos ()];exact Kj (eC hs pl pu ?_);have hno:¬ ((((zA items.size 0 lo:Nat):Int) == 0&&(1:Int) == 1&&(zA items.size items.size hi-zA items.size 0 lo) == items.size)=true):=by
  intro q;rw[BQ,BQ] at q;have q1:((zA items.size 0 lo:Nat):Int)=0:=eq_of_beq q.1.1;have q2:zA items.size items.size hi-zA items.size 0 lo=items.size:=eq_of_beq q.2;show hw #[⋯,⋯]
 change wpAny _ _ (if (((zA items.size 0 lo:Nat):Int) == 0&&(1:Int) == 1&&(zA items.size items.size hi-zA items.size 0 lo) == items.size)=true then _ else _) _ _ s;rw[if_neg hno,VB]
 first
  | show Kj (m:=Builtin.Tuple.tupleExact _) (za9 (Ad #[_,rfl,Ad h]) Hg)
  | show Kj (m:=Builtin.Tuple.tupleExact _) (za9 (Kj (Ad (Ad #[_,rfl,Ad h]))) Hg)
  | show Kj (Kj (m:=Builtin.Tuple.tupleExact _) (za9 (Ad (Ad #[_,rfl,Ad h])) Hg))
  | show Kj (Kj (m:=Builtin.Tuple.tupleExact _) (za9 (Ad #[_,rfl,Ad h]) Hg))
end
end HT
namespace L2
open PySem PySem.Spec PyProof.Rows
abbrev TO:=St->Hp->(Option Int->Hp->Prop)->Prop
def PO (X:Cx) (e:Option Expr) (t:TO):Prop:=
 ∀ (Ff:Aj) (s:Shared) (Y:St) (H:Hp) (Q:Option Int->Hp->Prop),Inv X Ff Y H s->t Y H Q->
  wpAny (model X.prog X.w) X.A (evalPart e X.env) (λ u s'=>∃ o H',Inv X Ff Y H' s'/\IsPart u o/\Q o H') X.xe s
def Wb:TO:=λ _ H Q=>Q none H
def XX (t:TE):TO:=fun Y H Q=>t Y H λ x H1=>∃ i,x=.int i/\Q ↑i H1
def intsAre_of {ns:List Int}:∀ {us:Ae},Vals (ns.map V.int) us->IntsAre us ns:=by
 induction ns with
 | nil=>intro us r;rw[Bh] at r;cases r;show .nil
 | cons n ns ih=>
  intro us r;rw[Ar] at r;cases r with
  | cons r1 r2=>
   let#[t,e]:=r1;subst e;show .cons n t (ih r2)
section
variable {X:Cx}{e:Expr}{te:TE}{lo hi:Option Expr}{tl th:TO}{pos p2:Pos}
def V6:PO X none Wb:=by
 intro Ff s Y H Q I h;rw[evalPart_none];show Ad #[none,H,I,.none,h]
def V5 (h:PE X e te):PO X ↑e (XX te):=by
 intro Ff s Y H Q I hw;rw[evalPart_some];exact zw (h Ff s Y H _ I hw) λ u s1 #[x,H1,I1,r1,q1]=>?_;let#[i,rfl,q]:=q1;let#[t,rfl]:=r1;show#[↑i,H1,I1,.int i t,q]
def rp (X:Cx) (r:V->Option Int->Option Int->Hp->VK->Prop):Prop:=
 ∀ (Ff:Aj) (s:Shared) (Y:St) (H:Hp) (x:V) (v vl vu:Value) (lo hi:Option Int) (sl:Addr) (Q:VK),Inv X Ff Y H s->RelV x v->s.heap.IsSliceOf sl vl vu .none->IsPart vl lo->IsPart vu hi->r x lo hi H Q->
  ∃ T id,typeLookup (.type T) "__getitem__"=pure ↑(.builtin id)/\s.TypeIs v T/\wpAny (model X.prog X.w) X.A (getItem v (.ref sl)) (EP X Ff Y Q) X.xe s
def rp.or {r r':V->Option Int->Option Int->Hp->VK->Prop}(h:rp X r) (h':rp X r'):rp X (λ x lo hi H Q=>r x lo hi H Q\/r' x lo hi H Q):=by
 intro Ff s Y H x v vl vu lo hi sl Q I rx hs pl pu q;rcases q with q | q
 .show h Ff s Y H x v vl vu lo hi sl Q I rx hs pl pu q
 .show h' Ff s Y H x v vl vu lo hi sl Q I rx hs pl pu q
def XT (r:V->Option Int->Option Int->Hp->VK->Prop) (te:TE) (tl th:TO):TE:=fun Y H Q=>te Y H λ x H1=>tl Y H1 λ l H2=>th Y H2 λ u H3=>r x l u H3 Q
theorem VY {r:V->Option Int->Option Int->Hp->VK->Prop}(hr:rp X r) (he:PE X e te) (hl:PO X lo tl) (hu:PO X hi th):PE X (.Subscript e (.Slice lo hi none p2) pos) (XT r te tl th):=by
 intro Ff s Y H Q I h;exact Subscript_ (zw (he Ff s Y H _ I h) λ v s1 #[x,H1,I1,r1,q1]=>?_);exact wpAny_Slice (zw (hl Ff s1 Y H1 _ I1 q1) λ vl s2 #[l,H2,I2,pl,q2]=>zw (hu Ff s2 Y H2 _ I2 q2) λ vu s3 #[u,H3,I3,pu,q3]=>?_);rw[evalPart_none];exact Ad ?_;have I4:Inv X Ff Y H3 { s3 with heap:=s3.heap.push { cls:=.type "slice",data:=.fields [vl,vu,.none].toArray } }:=I3.kept (t':=s3.toks) λ b ob q=>gV _ q;let#[T,id,hT,ht,hg]:=hr Ff { s3 with heap:=s3.heap.push { cls:=.type "slice",data:=.fields [vl,vu,.none].toArray } } Y H3 x v vl vu l u s3.heap.objs.size Q I4 r1 (Heap.IsSliceOf.new ..) pl pu q3;change wpAny (model X.prog X.w) X.A (subscriptTail e (.Slice lo hi none p2) v (.ref s3.heap.objs.size)) (EP X Ff Y Q) X.xe { s3 with heap:=s3.heap.push { cls:=.type "slice",data:=.fields [vl,vu,.none].toArray } };show tail_any (ops:=[.ref s3.heap.objs.size,v]) ht hT hg (by with_unfolding_all rfl)
def t8 (xs:List V) (lo hi:Option Int):List V:=(xs.drop (HT.zA xs.length 0 lo)).take (HT.zA xs.length xs.length hi-HT.zA xs.length 0 lo)
def aU (xs:List V) (lo hi:Option Int):(t8 xs lo hi).length<=xs.length:=by
 unfold t8;rw[BO,B9];lia
def eV (K:Ac):V->Option Int->Option Int->Hp->VK->Prop:=λ x lo hi H Q=>∃ a xs,x=.ref a/\zR K H a xs/\
 ¬ (HT.zA xs.length 0 lo=0/\HT.zA xs.length xs.length hi=xs.length)/\∀ p,H p=none->Q (.ref p) (upd H p (.tup (t8 xs lo hi)))
theorem W8:rp X (eV X.K):=by
 intro Ff s Y H x v vl vu lo hi sl Q I rx hs pl pu h;let#[a,xs,rfl,hx,hw,q]:=h;cases rx;let#[Aa,r,ht,hz]:=I.tuple hx;have hlen:Aa.toArray.size=xs.length:=by rw[AD];show r.length.symm
 exact#["tuple",_,PyProof.Rows.slot_tuple_getitem.lookup,ht.typeIs,?_];exact HT.NA ht hs pl pu (by rw[hlen];show hw) ?_ (by rw[hlen];show hz);rw[hlen];exact#[.ref s.heap.objs.size,_,I.laid (t':=s.toks) (o:=.tup (t8 xs lo hi)) (λ b ob q=>gV _ q) (Ak _) ?_,rfl,q _ (I.zm.fresh (Ak _))];show#[#[A9 (aU xs lo hi) hz,.new _],_,(r.drop (HT.zA xs.length 0 lo)).take (HT.zA xs.length xs.length hi-HT.zA xs.length 0 lo),IsTup.new _ _]
def j4 (K:Ac):R2:=λ x y H Q=>∃ a b ns ms,x=.ref a/\y=.ref b/\zR K H a (ns.map V.int)/\zR K H b (ms.map V.int)/\Q (.bl (HT.lexLt ns ms)) H
def Rn (hu:X.A.units<cLine):zZ X (compareOp .Lt) (j4 X.K):=by
 intro Ff s Y H x y v u Q I rx ry h;let#[a,b,ns,ms,rfl,rfl,ha,hb,q]:=h;cases rx;cases ry;let#[Aa,r1,p1,_]:=I.tuple ha;let#[FO,r2,p2,_]:=I.tuple hb;have i1:IntsAre Aa.toArray.toList ns:=intsAre_of r1;have i2:IntsAre FO.toArray.toList ms:=intsAre_of r2;show HT.Oi p1 p2 i1 i2 hu #[.bl (HT.lexLt ns ms),H,I,rfl,q]
def dg (K:Ac):R2:=λ x y H Q=>∃ a b xs ys,x=.ref a/\y=.ref b/\zR K H a xs/\zR K H b ys/\xs≠[]/\xs.length+ys.length<=sizeLine/\
 (ys=[]->Q (.ref a) H)/\(ys≠[]->∀ p,H p=none->Q (.ref p) (upd H p (.tup (xs++ys))))
def Vals.oA {xs:List V}{us:Ae}(r:Vals xs us):us=[]↔xs=[]:=by
 cases r with
 | _=>simp
theorem Rx:zZ X (binaryOp .Add) (dg X.K):=by
 intro Ff s Y H x y v u Q I rx ry h;let#[a,b,xs,ys,rfl,rfl,ha,hb,hx,hz,q1,q2]:=h;cases rx;cases ry;let#[Aa,r1,p1,_]:=I.tuple ha;let#[FO,r2,p2,_]:=I.tuple hb;exact HT.MH p1 p2 (λ z=>hx (r1.oA.mp z)) (λ z=>#[.ref a,H,I,rfl,q1 (r2.oA.mp z)]) (λ z=>?_) (by rw[<- r1.length,<- r2.length];show hz);exact#[.ref s.heap.objs.size,_,I.laid (t':=s.toks) (o:=.tup (xs++ys)) (λ b ob q=>gV _ q) (Ak _) ?_,rfl,q2 (λ w=>z (r2.oA.mpr w)) _ (I.zm.fresh (Ak _))];show#[#[by rw[Bs];show hz,.new _],_,r1.append r2,IsTup.new _ _]
end
def wM (n:Nat) (i:Int):Option Nat:=if 0<=i then (if i<n then ↑i.toNat else none) else if -(n:Int)<=i then ↑(i+n).toNat else none
def zM {α:Type}(xs:List α) (i:Int):Option α:=(wM xs.length i).bind λ j=>xs[j]?
theorem cV {n:Nat}{i:Int}{j:Nat}(h:wM n i=↑j):seqIndex? i n=↑j/\j<n/\-(n:Int)<=i/\i<n:=by
 unfold wM at h;by_cases h0:0<=i
 .rw[if_pos h0] at h;by_cases h1:i<n
  .rw[if_pos h1] at h;have e:i.toNat=j:=A_ h;show#[by rw[seqIndex_of h0 h1,e],⋯,⋯,h1]
  .rw[if_neg h1] at h;cases h
 .rw[if_neg h0] at h;by_cases h1:-(n:Int)<=i
  .rw[if_pos h1] at h;have e:(i+n).toNat=j:=A_ h;show#[by rw[seqIndex_neg ⋯ h1,e],⋯,h1,⋯]
  .rw[if_neg h1] at h;cases h
def hZ {α:Type}{xs:List α}{i:Int}{v:α}(h:zM xs i=↑v):∃ j,seqIndex? i xs.length=↑j/\xs[j]?=↑v/\j<xs.length/\-(xs.length:Int)<=i/\i<xs.length:=by
 unfold zM at h;cases e:wM xs.length i with
 | none=>rw[e] at h;cases h
 | some j=>
  rw[e] at h;let#[h1,h2,h3,h4]:=cV e;show#[j,h1,h,h2,h3,h4]
theorem hX {α:Type}(xs:List α) (v:α):zM (xs++[v]) (-1)=↑v:=by
 have hl:(xs++[v]).length=xs.length+1:=#[];have e:wM (xs++[v]).length (-1)=↑xs.length:=by
  unfold wM;rw[hl,if_neg (),if_pos ⋯];congr 1;lia
 unfold zM;rw[e];change (xs++[v])[xs.length]?=↑v;simp
def ZG (b:Expr):Prop:=∀ o i,subscripted b false o i=operate [o,i] (getItem o i)
def sk (X:Cx) (r:R2):Prop:=
 ∀ (value slice:Expr) (Ff:Aj) (s:Shared) (Y:St) (H:Hp) (x y:V) (v u:Value) (Q:VK),Inv X Ff Y H s->RelV x v->RelV y u->r x y H Q->
  subscripted slice false v u=operate [v,u] (getItem v u)->wpAny (model X.prog X.w) X.A (subscriptTail value slice v u) (EP X Ff Y Q) X.xe s
def gF (X:Cx) (id:String) (r:V->List V->Hp->VK->Prop):Prop:=
 ∀ (Ff:Aj) (s:Shared) (Y:St) (H:Hp) (x:V) (xs:List V) (v:Value) (us:Ae) (Q:VK),Inv X Ff Y H s->RelV x v->Vals xs us->r x xs H Q->
  wpAny (model X.prog X.w) X.A (call (.builtin id) (v::us)) (EP X Ff Y Q) X.xe s
section
variable {X:Cx}{a b:Expr}{ta tb:TE}{pos:Pos}
def sk.or {r r':R2}(h:sk X r) (h':sk X r'):sk X (λ x y H Q=>r x y H Q\/r' x y H Q):=by
 intro value slice Ff s Y H x y v u Q I rx ry q hs;rcases q with q | q
 .show h value slice Ff s Y H x y v u Q I rx ry q hs
 .show h' value slice Ff s Y H x y v u Q I rx ry q hs
def Ug {r:R2}(hr:sk X r) (ha:PE X a ta) (hb:PE X b tb) (hs:ZG b):PE X (.Subscript a b pos) (pY r ta tb):=by
 intro Ff s Y H Q I h;show Subscript_ (i_ ha hb I h λ v u s2 x y H2 I2 rx ry q=>hr a b Ff s2 Y H2 x y v u Q I2 rx ry q (hs _ _))
def e_ (K:Ac):R2:=λ x y H Q=>∃ p xs i v,x=.ref p/\y=.int i/\zG K H p xs/\zM xs i=↑v/\Q v H
def eY (K:Ac):R2:=λ x y H Q=>∃ p xs i v,x=.ref p/\y=.int i/\zR K H p xs/\zM xs i=↑v/\Q v H
def eZ:R2:=λ x y H Q=>∃ z i c,x=.str z/\y=.int i/\z.length<=sizeLine/\zM z.cps.toList i=↑c/\Q (.str #[[c].toArray]) H
theorem OS:sk X (e_ X.K):=by
 intro value slice Ff s Y H x y v u Q I rx ry h hs;let#[p,xs,i,z,rfl,rfl,hq,he,q]:=h;cases rx;let#[t,rfl]:=ry;let#[Aa,r,pl,hz]:=I.list hq;let#[j,h1,h2,h3,h4,h5]:=hZ he;let#[w,ew,Hx]:=r.get h2;have hl:=r.length;have hn:=rY;have fin:EP X Ff Y Q w s:=#[z,H,I,Hx,q];by_cases h0:0<=i
 .have hj:i.toNat=j:=by
   rw[seqIndex_of h0 h5] at h1;show A_ h1
  show item_listR pl.isList h0 ⋯ (by rw[hj];exists ew) fin hs
 .have hj:(i+(Aa.toArray.size:Int)).toNat=j:=by
   rw[seqIndex_neg ⋯ h4] at h1;rw[AD,<- hl];show A_ h1
  show subscriptTail_builtinR (x:=w) pl.isList.typeIs slot_list_getitem.lookup
   (wpAny_getItem_list_neg (Q:=λ r s'=>r=w/\EP X Ff Y Q r s') pl.isList ⋯ (by rw[AD] <;> lia) ⋯ (by rw[hj];exists ew) #[rfl,fin]) hs
theorem OO:sk X (eY X.K):=by
 intro value slice Ff s Y H x y v u Q I rx ry h hs;let#[p,xs,i,z,rfl,rfl,hq,he,q]:=h;cases rx;let#[t,rfl]:=ry;let#[Aa,r,pl,hz]:=I.tuple hq;let#[j,h1,h2,h3,h4,h5]:=hZ he;let#[w,ew,Hx]:=r.get h2;have hl:=r.length;have hn:=rY;have fin:EP X Ff Y Q w s:=#[z,H,I,Hx,q];show subscriptTail_builtinR (x:=w) pl.typeIs slot_tuple_getitem.lookup
  (getItem_tuple (j:=j) (Q:=λ r s'=>r=w/\EP X Ff Y Q r s') pl ⋯ ⋯ (by rw[AD,<- hl];show h1) (by exists ew) #[rfl,fin]) hs
theorem OP:sk X eZ:=by
 intro value slice Ff s Y H x y v u Q I rx ry h hs;let#[z,i,c,rfl,rfl,hz,he,q]:=h;let#[t,rfl]:=rx;let#[t',rfl]:=ry;let#[j,h1,h2,h3,h4,h5]:=hZ he;have hl:z.cps.toList.length=z.length:=by simp[Str.length]
 rw[hl] at h1 h4 h5;have hn:=rY;show tail_any (typeIs_str s z t) slot_str_getitem.lookup (getItem_str (c:=c) (by
  have e1:decide (i < -(2 ^ 63:Int))=false:=za5 ⋯;have e2:decide (i≥2 ^ 63)=false:=za5 ⋯;rw[e1,e2,Di]) (by rw[h1];exists h2) #[.str #[[c].toArray],H,I.tok _,#[_,rfl],q]) hs
def da (K:Ac):R2:=λ x y H Q=>e_ K x y H Q\/eY K x y H Q\/eZ x y H Q
def OQ:sk X (da X.K):=OS.or (OO.or OP)
def Oh (Aa:Ae) (n j:Nat) (u:Value):Obj.mapSeq (·.setIfInBounds j u) { cls:=.type "list",data:=.seq Aa.toArray n }={ cls:=.type "list",data:=.seq (Aa.set j u).toArray n }:=by
 simp[Obj.mapSeq]
theorem Inv.lst {Ff:Aj}{Y:St}{H:Hp}{s:Shared}{p:Addr}{xs:List V}(I:Inv X Ff Y H s) (h:H p=↑(.lst xs)):
  ∃ (Aa:Ae) (n:Nat),Vals xs Aa/\s.heap.get? p=↑{ cls:=.type "list",data:=.seq Aa.toArray n }/\xs.length<=sizeLine:=by
 let#[z,Aa,n,r,e]:=I.zm p _ h;show#[Aa,n,r,e,z]
def Inv.Oj {Ff:Aj}{Y:St}{H:Hp}{s:Shared}{p:Addr}{xs ys:List V}{Aa AO:Ae}{n n':Nat}{f:Obj->Obj}(I:Inv X Ff Y H s) (h:H p=↑(.lst xs))
  (ho:s.heap.get? p=↑{ cls:=.type "list",data:=.seq Aa.toArray n }) (hf:f { cls:=.type "list",data:=.seq Aa.toArray n }={ cls:=.type "list",data:=.seq AO.toArray n' }) (r:Vals ys AO) (hz:ys.length<=sizeLine) (t:Nat):
  Inv X Ff Y (upd H p (.lst ys)) { s with heap:=s.heap.update p f,toks:=t }:=by
 have e:(s.heap.update p f).get? p=↑{ cls:=.type "list",data:=.seq AO.toArray n' }:=by
  rw[za8 f ho (by rw[hf] <;> rfl),hf]
 exact I.write (x:=p) (e:=p) (by rw[h];trivial) (.inl rfl) (λ b u hb q=>(za6 _ _ (Ne.symm hb)).trans q) #[_,e] ?_;show#[hz,AO,n',r,e]
def Vf:V->V->V->Hp->(Hp->Prop)->Prop:=λ o i v H Q=>∃ p xs k j,o=.ref p/\i=.int k/\H p=↑(.lst xs)/\wM xs.length k=↑j/\Q (upd H p (.lst (xs.set j v)))
theorem set_list:ZH X Vf:=by
 intro Ff s Y H o i v ov iv u Q I ro ri rv h;let#[p,xs,k,j,rfl,rfl,hp,hj,q]:=h;cases ro;let#[t,rfl]:=ri;let#[Aa,n,r,ho,hz]:=I.lst hp;let#[h1,h2,h3,h4]:=cV hj;have hl:=r.length;have hn:=rY;have I':Inv X Ff Y (upd H p (.lst (xs.set j v))) { s with heap:=s.heap.update p (Obj.mapSeq (·.setIfInBounds j u)) }:=
  I.Oj hp ho (Oh Aa n j u) (r.set rv j) (by rw[C2];show hz) s.toks
 by_cases h0:0<=k
 .have hk:k.toNat=j:=by
   rw[seqIndex_of h0 h4] at h1;show A_ h1
  show PySem.W.ki_setAt ho h0 ⋯ (by rw[AD,<- hl];show h4) (by rw[hk];show#[_,I',q])
 .have hk:(k+(Aa.toArray.size:Int)).toNat=j:=by
   rw[seqIndex_neg ⋯ h3] at h1;rw[AD,<- hl];show A_ h1
  show PySem.W.ki_setBack ho ⋯ (by rw[AD,<- hl];show h3) ⋯ (by rw[hk];show#[_,I',q])
def W5 (lo hi:Option Int) (n:Nat):(sliceBounds lo hi none n).1=((HT.zA n 0 lo:Nat):Int)/\(sliceBounds lo hi none n).2.1=((HT.zA n n hi:Nat):Int)/\(sliceBounds lo hi none n).2.2=1:=by
 exact#[?_,?_,rfl]
 .cases lo with
  | none=>simp[sliceBounds,HT.zA]
  | some i=>
   simp![sliceBounds,HT.zA,Option.getD_none,show (1:Int)>0 by decide,if_true];by_cases h:i<0
   .simp![h,if_true] <;> lia
   .simp![h,if_false] <;> lia
 .cases hi with
  | none=>simp[sliceBounds,HT.zA]
  | some i=>
   simp![sliceBounds,HT.zA,Option.getD_none,show (1:Int)>0 by decide,if_true];by_cases h:i<0
   .simp![h,if_true] <;> lia
   .simp![h,if_false] <;> lia
def W6 (Aa:Ae) (lo hi:Option Int):slicePick Aa.toArray lo hi none=((Aa.drop (HT.zA Aa.length 0 lo)).take (HT.zA Aa.length Aa.length hi-HT.zA Aa.length 0 lo)).toArray:=by
 let#[h1,h2,h3]:=W5 lo hi Aa.toArray.size;unfold slicePick;rw[h1,h2,h3];simp![sliceRange_one,pick_run,AD] <;> rfl
def eW (K:Ac):V->Option Int->Option Int->Hp->VK->Prop:=λ x lo hi H Q=>∃ a xs,x=.ref a/\zG K H a xs/\∀ p,H p=none->Q (.ref p) (upd H p (.lst (t8 xs lo hi)))
theorem W9:rp X (eW X.K):=by
 intro Ff s Y H x v vl vu lo hi sl Q I rx hs pl pu h;let#[a,xs,rfl,hx,q]:=h;cases rx;let#[Aa,r,ht,hz]:=I.list hx;have hlen:=r.length;exact#["list",_,slot_list_getitem.lookup,ht.isList.typeIs,?_];exact wpAny_getItem_list_slice ht.isList hs pl pu .none #[] ?_ (by rw[AD] <;> lia);rw[W6,<- hlen];exact#[.ref s.heap.objs.size,_,I.laid (t':=s.toks) (o:=.lst (t8 xs lo hi)) (λ b ob q=>gV _ q) (Ak _) ?_,rfl,q _ (I.zm.fresh (Ak _))];show#[A9 (aU xs lo hi) hz,_,0,(r.drop (HT.zA xs.length 0 lo)).take (HT.zA xs.length xs.length hi-HT.zA xs.length 0 lo),AJ _ rfl]
theorem MW:yx X (.builtin "len") (λ xs H Q=>∃ p ys,xs=[.ref p]/\(zG X.K H p ys\/zR X.K H p ys)/\Q (.int ys.length) H):=by
 intro Ff s Y H xs us Q I r h;let#[p,ys,rfl,hq,q]:=h;let#[u,rfl,rx]:=vals1 r;cases rx;have hn:=rY;rcases hq with hq | hq
 .let#[Aa,r',pl,hz]:=I.list hq;have hlen:=r'.length;show Calls.call_len_list pl.isList (by simp![AD] <;> lia) #[.int ys.length,H,I.tok _,#[s.toks+1,by rw[AD,hlen]],q]
 .let#[Aa,r',pl,hz]:=I.tuple hq;have hlen:=r'.length;show len_tuple pl (by simp![AD] <;> lia) #[.int ys.length,H,I.tok _,#[s.toks+1,by rw[AD,hlen]],q]
theorem MV:yx X (.builtin "len") (λ xs H Q=>∃ z,xs=[.str z]/\z.length<=sizeLine/\Q (.int z.length) H):=by
 intro Ff s Y H xs us Q I r h;let#[z,rfl,hz,q]:=h;let#[u,rfl,t,rfl]:=vals1 r;have hn:=rY;show len_str ⋯ #[.int z.length,H,I.tok _,#[_,rfl],q]
def yx.or {f:Value}{r r':List V->Hp->VK->Prop}(h:yx X f r) (h':yx X f r'):yx X f (λ xs H Q=>r xs H Q\/r' xs H Q):=by
 intro Ff s Y H xs us Q I rs q;rcases q with q | q
 .show h Ff s Y H xs us Q I rs q
 .show h' Ff s Y H xs us Q I rs q
theorem MT:yx X (.type "list") (λ xs H Q=>∃ p ys,xs=[.ref p]/\(zG X.K H p ys\/zR X.K H p ys)/\∀ l,H l=none->Q (.ref l) (upd H l (.lst ys))):=by
 intro Ff s Y H xs us Q I r h;let#[p,ys,rfl,hq,q]:=h;let#[u,rfl,rx]:=vals1 r;cases rx;have fin:∀ (Aa:Ae),Vals ys Aa->ys.length<=sizeLine->∀ (h':Heap) (c':Nat),(∀ b o',s.heap.get? b=↑o'->h'.get? b=↑o')->
   h'.get? s.heap.objs.size=↑{ cls:=.type "list",dict:=none,data:=.seq Aa.toArray c',slots:=[].toArray }->EP X Ff Y Q (.ref s.heap.objs.size) { s with heap:=h' }:=λ Aa r' hz h' c' kp e=>
  #[.ref s.heap.objs.size,_,I.laid (t':=s.toks) kp (Ak _) (show yH X.prog X.w _ h' _ (.lst ys) from #[hz,Aa,c',r',e]),rfl,q _ (I.zm.fresh (Ak _))]
 rcases hq with hq | hq
 .let#[Aa,r',pl,hz]:=I.list hq;have hlen:=r'.length;let#[o,ho,hc,n,hd]:=pl.isList;show call_list_seq p (.inl rfl) ho hc hd (λ h' c' kp e=>fin Aa r' hz h' c' kp e) (by simp![AD] <;> lia)
 .let#[Aa,r',pl,hz]:=I.tuple hq;have hlen:=r'.length;let#[o,ho,hc,n,hd]:=pl;show call_list_seq p (.inr rfl) ho hc hd (λ h' c' kp e=>fin Aa r' hz h' c' kp e) (by simp![AD] <;> lia)
theorem MI:yx X (.type "tuple") (λ xs H Q=>∃ p ys,xs=[.ref p]/\((zG X.K H p ys/\∀ l,H l=none->Q (.ref l) (upd H l (.tup ys)))\/(zR X.K H p ys/\Q (.ref p) H))):=by
 intro Ff s Y H xs us Q I r h;let#[p,ys,rfl,h]:=h;let#[u,rfl,rx]:=vals1 r;cases rx;rcases h with ⟨hq,q⟩ | ⟨hq,q⟩
 .let#[Aa,r',pl,hz]:=I.list hq;have hlen:=r'.length;exact call_tuple_list pl.isList (λ h' kp=>?_) (by simp![AD] <;> lia);have I1:Inv X Ff Y H { s with heap:=h' }:=I.kept (t':=s.toks) kp;have I2:Inv X Ff Y (upd H h'.objs.size (.tup ys)) { s with heap:=h'.push { cls:=.type "tuple",data:=.seq Aa.toArray } }:=
   I1.laid (t':=s.toks) (λ b o e=>gV _ e) (Ak _) (show yH X.prog X.w _ _ _ (.tup ys) from #[#[hz,.new _],Aa,r',IsTup.new _ _])
  show#[.ref h'.objs.size,_,I2,rfl,q _ (I1.zm.fresh (Ak _))]
 .let#[Aa,r',pl,hz]:=I.tuple hq;show call_tuple_same pl #[.ref p,H,I,rfl,q]
def jb (K:Ac) (T:String) (x:V) (H:Hp):Prop:=match x with
 | .str _=>T="str"
 | .int _=>T="int"
 | .ref p=>(T="list"/\∃ xs,zG K H p xs)\/(T="tuple"/\∃ o,K.lookup p=↑o/\o.cls=.type "tuple"/\o.dict=none)\/
   (T="dict"/\((∃ Ab,H p=↑(.dK Ab))\/∃ Ab,H p=↑(.dT Ab)))\/(T="set"/\∃ S n,H p=↑(.set S n))
 | _=>False
def fL {Ff:Aj}{Y:St}{H:Hp}{s:Shared}{T:String}{x:V}{v:Value}(I:Inv X Ff Y H s) (r:RelV x v) (ty:jb X.K T x H):
  s.TypeIs v T/\∀ a,v=.ref a->∃ ob,s.heap.get? a=↑ob/\ob.dict=none:=by
 cases x with
 | str z=>
  let#[t,rfl]:=r;cases (show T="str" from ty);show#[typeIs_str s z t,λ _ e=>nomatch e]
 | int i=>
  let#[t,rfl]:=r;cases (show T="int" from ty);show#[typeIs_int s i t,λ _ e=>nomatch e]
 | ref p=>
  cases r;rcases ty with ⟨rfl,xs,hq⟩ | ⟨rfl,o,hk,hc,hd⟩ | ⟨rfl,hk⟩ | ⟨rfl,S,n,hk⟩
  .let#[Aa,_,pl,_]:=I.list hq;exact#[pl.isList.typeIs,λ a e=>?_];cases e;let#[o,n,e,c,hd,_]:=pl;show#[o,e,hd]
  .exact#[#[o,I.yD p o hk,hc],λ a e=>?_];cases e;show#[o,I.yD _ o hk,hd]
  .have z:∃ o,s.heap.get? p=↑o/\o.ExactDict:=by
    rcases hk with ⟨Ab,hk⟩ | ⟨Ab,hk⟩
    .let#[_,_,_,_,o,_,_,e,ex,_]:=I.zm p _ hk;show#[o,e,ex]
    .let#[_,_,_,_,o,_,_,e,ex,_]:=I.zm p _ hk;show#[o,e,ex]
   let#[o,e,ex]:=z;exact#[#[o,e,ex.1],λ a e2=>?_];cases e2;show#[o,e,ex.2.1]
  .let#[o,_,_,_,e,ex,_]:=I.zm p _ hk;exact#[#[o,e,ex.1],λ a e2=>?_];cases e2;show#[o,e,ex.2.1]
 | _=>show False.elim ty
def fU (K:Ac) (T:String) (r:V->List V->Hp->VK->Prop) (to:TE):TE:=fun Y H Q=>to Y H λ x H1=>jb K T x H1/\r x [] H1 Q
def jj (K:Ac) (T:String) (r:V->List V->Hp->VK->Prop) (to:TE) (t:TA):TE:=fun Y H Q=>to Y H λ x H1=>jb K T x H1/\t Y H1 λ xs H2=>r x xs H2 Q
variable {o e:Expr}{es:List Expr}{to:TE}{t:TA}{name:Str}{apos Ah:Pos}{T id:String}{r:V->List V->Hp->VK->Prop}
def Ur (pa:PlainAttrs T) (slot:Slot T name id) (D0:typeOf (.builtin id)=pure (.type "method_descriptor")) (hm:gF X id r) (ho:PE X o to)
  (Fz:attributeBase o name X.env (eval o X.env)=eval o X.env:=by rfl) (FP:(apos.endLine == Ah.line)=true:=by rfl):PE X (.Call (.Attribute o name apos) [] [] Ah) (fU X.K T r to):=by
 intro Ff s Y H Q I h;exact wpAny_Call_method0_late Fz FP (zw (ho Ff s Y H _ I h) λ v s1 #[x,H1,I1,r1,ty,q1]=>?_);let#[h1,h2]:=fL I1 r1 ty;show#[T,id,pa,slot,D0,h1,h2,Calls.callWith_builtin rfl (PySem.evalArgs_none (hm Ff s1 Y H1 x [] v [] Q I1 r1 .nil q1))]
def jB (pa:PlainAttrs T) (slot:Slot T name id) (D0:typeOf (.builtin id)=pure (.type "method_descriptor")) (hm:gF X id r) (ho:PE X o to) (ha:PA X (e::es) t)
  (Fz:attributeBase o name X.env (eval o X.env)=eval o X.env:=by rfl)
  (AQ:((backTo Ah (starEach (e::es) X.env)).all (λ x=>!x.1)&&(backToKw Ah (keywordEach [] X.env)).all (λ x=>x.1.isSome)
   && decide ((e::es).length+([]:List Keyword).length+(if ([]:List Keyword).isEmpty then 0 else 1)<30))=true:=by rfl)
  (FP:(apos.endLine == Ah.line)=true:=by rfl) (hs:AE X e es:=by rfl) (F4:AI X Ah es:=by rfl):
  PE X (.Call (.Attribute o name apos) (e::es) [] Ah) (jj X.K T r to t):=by
 intro Ff s Y H Q I h;exact wpAny_Call_method_late Fz AQ FP rfl (zw (ho Ff s Y H _ I h) λ v s1 #[x,H1,I1,r1,ty,q1]=>?_);let#[h1,h2]:=fL I1 r1 ty;exact#[T,id,pa,slot,D0,h1,h2,?_];have hA:=ha Ah Ff s1 Y H1 _ I1 q1;rw[hs] at hA ⊢;exact Calls.callWith_builtin (by change (false||(backTo Ah (starEach es X.env)).any (·.1))=false;rw[F4] <;> rfl) (Calls.evalArgs_plain ?_);show zw hA λ us s2 #[vs,H2,I2,r2,q2]=>hm Ff s2 Y H2 x vs v us Q I2 r1 r2 q2
end
def gI (X:Cx) (id:String) (r:V->List V->Hp->VK->Prop):Prop:=
 ∀ (Ff:Aj) (s:Shared) (Y:St) (H:Hp) (x:V) (xs:List V) (v:Value) (us:Ae) (Q:VK),Inv X Ff Y H s->RelV x v->Vals xs us->r x xs H Q->
  wpAny (model X.prog X.w) X.A (call (.builtin id) (v::us)) (EP X Ff Y Q) X.xe s
theorem Vals.one:∀ {x:V}{us:Ae},Vals [x] us->∃ u,us=[u]/\RelV x u
 | _,_,.cons r .nil=>#[_,rfl,r]
theorem Vals.zero:∀ {us:Ae},Vals [] us->us=[]
 | _,.nil=>rfl
theorem Vals.reverse {xs:List V}{us:Ae}(h:Vals xs us):Vals xs.reverse us.reverse:=by
 induction h with
 | nil=>show .nil
 | cons r t ih=>rw[C1,C1];show Vals.append ih (.cons r .nil)
theorem Vals.rep {xs:List V}{us:Ae}(h:Vals xs us):∀ k:Nat,Vals (List.replicate k xs).flatten (List.replicate k us).flatten
 | 0=>.nil
 | k+1=>by
  rw[B8,B8,Cq,Cq];show Vals.append h (Vals.rep h k)
section
variable {X:Cx}{Ff:Aj}{Y:St}{H:Hp}{s:Shared}{l:Addr}{xs ys:List V}
def Inv.jS {Aa AO:Ae}{n:Nat}{f:Array Value->Array Value}{t':Nat}(I:Inv X Ff Y H s) (hH:H l=↑(.lst xs))
  (e:s.heap.get? l=↑{ cls:=.type "list",data:=.seq Aa.toArray n }) (hf:f Aa.toArray=AO.toArray) (hv:Vals ys AO) (hz:ys.length<=sizeLine):
  Inv X Ff Y (upd H l (.lst ys)) { s with heap:=s.heap.update l (Obj.mapSeq f),toks:=t' }:=by
 have q:=PySem.IsL.update e f;rw[hf] at q;exact I.write (x:=l) (e:=l) (by rw[hH];show trivial) (.inl rfl) (λ b' u hb hu=>(za6 s.heap (Obj.mapSeq f) (Ne.symm hb)).trans hu) #[_,q] ?_;show#[hz,AO,_,hv,q]
def Inv.Ol {Aa:Ae}{t':Nat}(I:Inv X Ff Y H s) (hv:Vals ys Aa) (hz:ys.length<=sizeLine):
  Inv X Ff Y (upd H s.heap.objs.size (.lst ys)) { s with heap:=s.heap.push { cls:=.type "list",data:=.seq Aa.toArray },toks:=t' }:=
 I.laid (λ _ _ q=>gV _ q) (Ak _) #[hz,Aa,0,hv,AJ _ rfl]
theorem Inv.fresh (I:Inv X Ff Y H s):H s.heap.objs.size=none:=I.zm.fresh (Ak _)
def Inv.l8 (I:Inv X Ff Y H s) (hH:H l=↑(.lst xs)):xs.length<=sizeLine/\∃ (Aa:Ae) (n:Nat),Vals xs Aa/\xs.length=Aa.length/\s.heap.get? l=↑{ cls:=.type "list",data:=.seq Aa.toArray n }:=by
 let#[z,Aa,n,r,e]:=I.zm l _ hH;show#[z,Aa,n,r,r.length,e]
theorem P0 {n:Nat}(h:n<=sizeLine):Builtin.List.listTooLong n=false:=by
 unfold Builtin.List.listTooLong;show za5 ⋯
def di:V->List V->Hp->VK->Prop:=λ x vs H Q=>∃ l xs y,x=.ref l/\vs=[y]/\H l=↑(.lst xs)/\xs.length<sizeLine/\Q .zr (upd H l (.lst (xs++[y])))
theorem cy:gI X "list.append" di:=by
 intro Ff s Y H x vs v us Q I rx rv h;let#[l,xs,y,rfl,rfl,hH,hz,q]:=h;cases rx;let#[u,rfl,ru]:=rv.one;let#[z,Aa,n,r,hl,e]:=I.l8 hH;exact call_meets F.slot_list_append #[_,e,rfl] F.entry_list_append (F.args_list_append_2 _ _) (PySem.list_append l Aa.toArray n u (by rw[AD];lia)) #[e,?_];exact#[.zr,_,I.jS (AO:=Aa++[u]) hH e #[] (r.append (.cons ru .nil)) ?_,rfl,q];rw[Bs,List.length_singleton];lia
def de:V->List V->Hp->VK->Prop:=λ x vs H Q=>∃ l b xs zs,x=.ref l/\vs=[.ref b]/\H l=↑(.lst xs)/\H b=↑(.lst zs)/\xs.length+zs.length<=sizeLine/\Q .zr (upd H l (.lst (xs++zs)))
theorem Oa:gI X "list.extend" de:=by
 intro Ff s Y H x vs v us Q I rx rv h;let#[l,b,xs,zs,rfl,rfl,hH,hB,hz,q]:=h;cases rx;let#[u,rfl,ru]:=rv.one;cases ru;let#[z,Aa,n,r,hl,e]:=I.l8 hH;let#[z2,FO,n2,r2,Hu,e2]:=I.l8 hB;have hsz:Aa.toArray.size+FO.toArray.size<=sizeLine:=by rw[AD,AD];lia
 have JA:¬ (!Aa.toArray.isEmpty&&Builtin.List.listTooLong (Aa.toArray.size+FO.toArray.size))=true:=by
  rw[P0 hsz,C0];show B_
 exact call_meets F.slot_list_extend #[_,e,rfl] F.entry_list_extend (F.args_list_extend_2 _ _)
  (AutoSeq1.list_extend_list_list_0 l Aa.toArray n b FO.toArray n2 JA (by rw[AD];lia) ⋯) #[e,e2,?_]
 exact#[.zr,_,I.jS (AO:=Aa++FO) hH e #[] (r.append r2) ?_,rfl,q];rw[Bs];lia
def eX:V->List V->Hp->VK->Prop:=λ x vs H Q=>∃ l xs,x=.ref l/\vs=[]/\H l=↑(.lst xs)/\Q .zr (upd H l (.lst xs.reverse))
theorem PZ:gI X "list.reverse" eX:=by
 intro Ff s Y H x vs v us Q I rx rv h;let#[l,xs,rfl,rfl,hH,q]:=h;cases rx;have hus:=rv.zero;subst hus;let#[z,Aa,n,r,hl,e]:=I.l8 hH;exact call_meets F.slot_list_reverse #[_,e,rfl] F.entry_list_reverse (F.args_list_reverse_1 _) (AutoSeq1.list_reverse_list_0 l Aa.toArray n (by rw[AD];lia)) #[e,?_];exact#[.zr,_,I.jS (AO:=Aa.reverse) hH e #[] r.reverse ?_,rfl,q];rw[List.length_reverse];lia
end
end L2
namespace YU
open PySem PySem.W PySem.Calls PyProof.Rows
def Nd {P:Params}{h:Heap}:∀ (ns:List Int) (vs:Ae),WellAll P h vs (ns.map WData.int)->IntsAre vs ns:=by
 intro ns
 induction ns with
 | nil=>
  intro vs w;rw[Bh] at w;cases w;show .nil
 | cons n ns ih=>
  intro vs w;rw[Ar] at w;cases w with
  | cons a b=>
   cases a;show .cons _ _ (ih _ b)
def WI {l:OpenLaw}{n:Nat}(hn:l.most=↑n) {P:Params}{h:Heap}{args:List WData}{vals:Ae}
  (Ce:l.row.toRowW.claim.pre args=true) (EC:WellAll P h vals args):
  ∃ a vs ns,vals=[Value.ref a]/\args=[WData.list (ns.map WData.int)]/\h.get? a=↑{ cls:=.type "list",data:=.seq vs.toArray }/\IntsAre vs ns/\ns.length<=n:=by
 have D3:WShape.hasAll [] args [.list .int]=true:=(pre_splitW Ce).1;have hc:l.pre.holds [] { args:=args }=true:=(pre_splitW Ce).2;let#[d,r,rfl,h1,h2]:=hasAllW_cons D3;obtain rfl:=hasAllW_nil h2;let#[xs,rfl,h3]:=hasW_list h1;let#[ns,rfl]:=items_int h3;have hlen:ns.length<=n:=by
  unfold OpenLaw.pre at hc;have h4:(WTm.not (.lt (.lit (.int (n:Int))) (.len (.arg 0)))).holds [] { args:=[.list (ns.map .int)] }=true:=by
   have h4:=(holds_andW hc).1;rw[hn] at h4;show h4
  have h5:=condW_of h4 (w_not (w_lt w_lit (w_len_list (w_arg rfl))));rw[AA] at h5;exact Nat.le_of_not_lt λ q=>?_;have q':(n:Int)<((ns.length:Nat):Int):=⋯
  first
   | (rw[zaA q'] at h5;show absurd h5 ())
   | (simp at h5;lia)
 cases EC with
 | cons w1 w2=>
  cases w2;cases w1 with
  | list ho AL=>show#[_,_,ns,rfl,rfl,ho,Nd ns _ AL,hlen]
def V4 (l:OpenLaw) (args:List WData):l.row.toRowW.claim.post args (.bool true) args=true:=
 postW_of (r:=l.row.toRowW) (X:=(true == true))
  (show WShape.has [] (.bool true) .bool=true by first | rfl | decide | simp[WShape.has,WShape.arms,WShape.armsAll])
  (show (WTm.eq .res (.lit (.bool true))).value [] { args:=args,res:=↑(.bool true),after:=args }=↑(.bool (true == true)) from w_eq_bool (w_res rfl) w_lit) rfl
def Lu {l:OpenLaw}{n:Nat}{q:Program}{loose:List Str}{XP:(Str->Option Value)->Heap->Prop}{YP:World->Heap->Prop}{d:DefRec}
  (hn:l.most=↑n) (DE:d.params.defaults=[])
  (call:∀ (w:World) (s₀ s₁:Shared) (mg mb:Au) (fa:Addr) (o:Obj) (pm cd doc:Value) (a:Addr) (vs:Ae) (ns:List Int),
   Ground q loose [] XP w s₀ mg mb s₁.heap->YP w s₁.heap->
   s₁.heap.get? fa=↑o->o.data=.func (docDef d.name d.params d.body d.scope pm cd doc)->s₁.heap.CodeRec cd d.name->mg d.name=↑(.ref fa)->
   s₁.heap.get? a=↑{ cls:=.type "list",data:=.seq vs.toArray }->IntsAre vs ns->ns.length<=n->s₁.gens=[].toArray->
   codeAny (model l.prog w) callerA (.call (.ref fa) #[[.ref a],[]]) (λ r s'=>r=.ok (.ret (.bool true))/\OldK s₁.heap s'.heap/\s'.os=s₁.os/\AllBare s'.gens) s₁):
  WalkO q loose XP YP l.row.toRowW d [] (λ f vs=>PySem.call f vs):=by
 intro w s₀ s₁ mg mb G Y fa o pm cd doc dV kV ho hd BA hD Dv hg args vals as Ce Dw hrd EC EX;obtain rfl:dV=.none:=Dflts.none hD DE;obtain rfl:kV=.none:=Dflts.noKw hD;let#[a,vs,ns,rfl,rfl,CM,hints,hlen]:=WI hn Ce EC;exact enter_call (codeAny_mono (call w s₀ s₁ mg mb fa o pm cd doc a vs ns G Y ho (fd_plain hd) BA Dv CM hints hlen hg) λ r s' hq=>?_);let#[rfl,h2,h3,h4]:=hq;show#[.inl #[.bool true,.bool true,[],rfl,λ _=>rfl,.bool true,V4 l _,λ _=>#[List.Pairwise.nil,λ _ hm=>(nomatch hm)]],h2,h3,h4]
end YU
namespace L2
open PySem PySem.Spec PyProof.Rows
theorem fA:∀ {vs:Ae}{ns:List Int},IntsAre vs ns->Vals (ns.map V.int) vs
 | _,_,.nil=>.nil
 | _,_,.cons n t h=>.cons #[t,rfl] (fA h)
def kA (H:Hp):Prop:=∀ b,H b=none\/∃ o xs,H b=↑(.xV o (.lst xs))
def O8 {P:Program}{w:World}{K:Ac}{mg mb:Au}{CX:vL}{k:Nat}{fa a:Addr}{fd:FuncData}{x:Str}{sp:Sp}{s₁:Shared}{vs:Ae}{ns:List Int}
  (KX:K.In s₁.heap) (CN:s₁.heap.Ns mainGlobals mg) (hb:s₁.heap.Ns builtinsNs mb) (hbb:∀ x:Str,x≠"__name__"->mb x=bootBuiltins x) (EY:s₁.heap.NoLimit) (hg:s₁.gens=[].toArray)
  (ha:s₁.heap.get? a=↑{ cls:=.type "list",data:=.seq vs.toArray }) (hi:IntsAre vs ns) (hl:ns.length<=sizeLine) (hr:yb k callerA)
  (F:∀ base:Heap,K.In base->base.Ns mainGlobals mg->xf P w K mg base CX k fa fd [x] sp) (JH:∀ (s:Shared) (u:Value),BindsTo s fd #[[u],[]] [(x,u)])
  (BV:∀ H:Hp,kA H->zG K H a (ns.map V.int)->sp [.ref a] H (λ v _=>v=.bl true) λ _ _ _=>False)
  (K9:∀ H e s',CX [] H s₁ (λ _ _ _=>False) e s'->False):
  codeAny (model P w) callerA (.call (.ref fa) #[[.ref a],[]]) (λ r s'=>r=.ok (.ret (.bool true))/\OldK s₁.heap s'.heap/\s'.os=s₁.os/\AllBare s'.gens) s₁:=by
 have rv:=fA hi;have Ky:=hi.length;have core:∀ H:Hp,kA H->zG K H a (ns.map V.int)->ye P w H s₁.heap->(∀ b,H b≠none->b=a)->(H a≠none->K.lookup a=none)->
   codeAny (model P w) callerA (.call (.ref fa) #[[.ref a],[]]) (λ r s'=>r=.ok (.ret (.bool true))/\OldK s₁.heap s'.heap/\s'.os=s₁.os/\AllBare s'.gens) s₁:=by
  intro H hO hS zm hA hK;have Hk:∀ {b:Addr}{o:Obj},s₁.heap.get? b=↑o->H b=none->(tY s₁.heap H).get? b=↑o:=λ e n=>Np e n;have Jm:∀ {b:Addr}{o:Obj}{es:Array DictEntry}{ep:Nat},s₁.heap.get? b=↑o->o.data=.dict es ep->H b=none:=λ{b o es ep} e d=>by
   cases q:H b with
   | none=>rfl
   | some u=>
    have e':b=a:=hA b (by rw[q];simp);subst e';rw[ha] at e;cases e;have d':Data.seq vs.toArray _=Data.dict es ep:=d;cases d'
  have JW:∀ {b:Addr}{m:Au},s₁.heap.Ns b m->(tY s₁.heap H).Ns b m:=λ{b m} #[o,es,ep,e,d,r]=>#[o,es,ep,Hk e (Jm e d),d,r];have hKb:K.In (tY s₁.heap H):=λ b o e=>Hk (KX b o e) (by
   cases q:H b with
   | none=>rfl
   | some u=>
    have e':b=a:=hA b (by rw[q];simp);subst e';rw[hK (by rw[q];simp)] at e;cases e)
  have hM:Mod K mg (tY s₁.heap H):=#[hKb,JW CN,#[mb,JW hb,hbb],let #[mc,h1,h2]:=EY;#[mc,JW h1,h2]];have e0:kQ P w K mg (tY s₁.heap H) callerA [] s₁ H:=#[rfl,hM,λ b o e=>Pt e,Nat.le_of_eq (Nn _ _),trivial,λ b hb=>absurd (show b∈([]:List Addr) from hb) #[],zm,.of_eq hg];exact codeAny_mono ((F _ hKb (JW CN)).run callerA [] s₁ H #[[.ref a],[]] [.ref a] [.ref a] _ _ hr e0 (JH s₁ (.ref a)) (.cons rfl .nil) (BV H hO hS)) λ r s' h=>?_;cases r with
  | error e=>show (K9 H e s' h).elim
  | ok fl=>
   cases fl with
   | ret u=>
    let#[v,H',os,bare,un,B5,r',q]:=h;have q':v=.bl true:=q;subst q';obtain rfl:u=Value.bool true:=r';exact#[rfl,OldK.of_keep λ b o e=>?_,os,bare];cases q:H b with
    | none=>show un.keep b o e q (by intro z;show absurd (show b∈([]:List Addr) from z) #[]) #[]
    | some u=>
     rcases hO b with z | ⟨ob,xs,z⟩
     .rw[q] at z;cases z
     .have z2:=un.v9 b ob _ z;let#[e1,_]:=zm b _ z;let#[e2,_]:=B5 b _ z2;rw[e] at e1;cases e1;show e2
   | _=>show False.elim h
 cases hk:K.lookup a with
 | some o=>
  have e:=KX a o hk;rw[ha] at e;cases e;exact core (λ _=>none) (λ _=>.inl rfl) (.inr #[_,vs.toArray,_,hk,rfl,rfl,rfl,by rw[AD,Ky];show hl,by exists rv]) (λ b u z=>by have z':(none:Option HO)=↑u:=z;cases z') (λ b z=>absurd rfl z) λ z=>absurd rfl z
 | none=>
  exact core (λ b=>if b=a then ↑(.xV { cls:=.type "list",data:=.seq vs.toArray } (.lst (ns.map V.int))) else none) (λ b=>?_) (.inl (.inr #[{ cls:=.type "list",data:=.seq vs.toArray },if_pos rfl])) (λ b u z=>?_) (λ b z=>?_) λ _=>hk
  .by_cases hb:b=a
   .show .inr #[_,_,if_pos hb]
   .show .inl (if_neg hb)
  .by_cases hb:b=a
   .have z':=(if_pos hb).symm.trans z;cases z';subst hb;show#[ha,by rw[AA];show hl,vs,_,rv,ha]
   .have z':=(if_neg hb).symm.trans z;cases z'
  .by_cases hb:b=a
   .show hb
   .show absurd (if_neg hb) z
def Xx {l:PySem.W.OpenLaw}{n k:Nat}{q:Program}{loose:List Str}{XP:(Str->Option Value)->Heap->Prop}{YP:World->Heap->Prop}{d:DefRec}{K:Params->Ac}{CX:World->vL}{sp:World->Sp}{x:Str}
  (hn:l.most=↑n) (hn2:n<=sizeLine) (DE:d.params.defaults=[]) (hr:yb k callerA)
  (hY:∀ (w:World) (h:Heap),YP w h->(K w.params).In h)
  (F:∀ (w:World) (mg:Au) (fa:Addr) (h:Heap),(K w.params).In h->h.Ns mainGlobals mg->mg d.name=↑(.ref fa)->
   ∃ fd:FuncData,(∀ (s:Shared) (u:Value),BindsTo s fd #[[u],[]] [(x,u)])/\
    ∀ base:Heap,(K w.params).In base->base.Ns mainGlobals mg->xf l.prog w (K w.params) mg base (CX w) k fa fd [x] (sp w))
  (BV:∀ (w:World) (H:Hp) (a:Addr) (ns:List Int),ns.length<=n->kA H->zG (K w.params) H a (ns.map V.int)->sp w [.ref a] H (λ v _=>v=.bl true) λ _ _ _=>False)
  (K9:∀ (w:World) (H:Hp) (s:Shared) (e:Value) (s':Shared),CX w [] H s (λ _ _ _=>False) e s'->False):
  PySem.W.WalkO q loose XP YP l.row.toRowW d [] (λ f vs=>PySem.call f vs):=by
 exact YU.Lu hn DE λ w s₀ s₁ mg mb fa o pm cd doc a vs ns G Y ho hd BA Dv CM hints hlen hg=>?_;have KX:=hY w _ Y;let#[fd,hb,hF]:=F w mg fa _ KX G.T.g Dv;show O8 KX G.T.g G.T.b G.T.builtins G.T.nolimit hg CM hints (A9 hlen hn2) hr hF hb (λ H hO hS=>BV w H a ns hlen hO hS) λ H e s'=>K9 w H s₁ e s'
def uh (s:Stmt):Arguments:=match s with
 | .FunctionDef _ a _ _ _ _ _ _ _ _=>a
 | _=>{ posonlyargs:=[],args:=[],vararg:=none,kwonlyargs:=[],kw_defaults:=[],kwarg:=none,defaults:=[] }
def xj (s:Stmt):List Stmt:=match s with
 | .FunctionDef _ _ b _ _ _ _ _ _ _=>b
 | _=>[]
def zL (s:Stmt):Scope:=match s with
 | .FunctionDef _ _ _ _ _ _ sc _ _ _=>sc
 | _=>{ kind:=.function,names:=[],isGenerator:=false,isCoroutine:=false }
abbrev yz:vL:=λ _ _ _ _ _ _=>False
abbrev E0:XK:=λ _ _ _=>False
def SO {X:Cx}:Passes yz X E0:=λ _ _ _ _ _ _ _ h=>h.elim
structure vI (K:Ac) (x qual:Str) (st:Stmt) (f:Addr) (fd:FuncData):Prop where
 ex:∃ (oc:Value) (od:Option Addr) (kV doc pm:Value) (an:Option Addr) (Ai ct:Value) (HQ:Array (Option Value)),
  fd=PySem.W.fnOf x qual (uh st) (xj st) (zL st) .none kV doc pm an Ai ct/\K.lookup f=↑#[oc,od,.func fd,HQ]/\PySem.W.codeIn K Ai qual=true
 kp:PySem.W.keepIn K (.ref f)=true
section
variable {P:Program}{w:World}{K:Ac}{mg:Au}{base:Heap}
def vI.ok {x qual:Str}{st:Stmt}{f:Addr}{fd:FuncData}{N ps:List Str}{k:Nat}{sp:Sp}(F:vI K x qual st f fd) (S:vK N ps (zL st)) (len:∀ vs H Q E,sp vs H Q E->vs.length=ps.length)
  (Fp:∀ (Ai:Value) (A:Around) (outer:List Env) (s:Shared) (H:Hp) (vs:List V) (Q:VK) (E:XK),yb k (A.deeper (envOfC qual (zL st) s.heap.objs.size f Ai))->sp vs H Q E->
   ∃ t,xO (yM yz P w K mg base N qual (zL st) f Ai A outer s H E).xg (xj st) t/\t { nx:=λ _ H'=>Q .zr H',rt:=Q } (start N vs) H):xf P w K mg base yz (k+1) f fd ps sp:=by
 let#[oc,od,kV,doc,pm,an,Ai,ct,HQ,rfl,lk,BA]:=F.ex;exact bO lk BA S len λ A outer s H vs Q E hr BV=>?_;let#[t,h,q]:=Fp Ai A outer s H vs Q E hr BV;show#[t,h.xg,q]
def vI.binds {x qual:Str}{st:Stmt}{f:Addr}{fd:FuncData}{ps:List Str}(F:vI K x qual st f fd)
  (h:∀ (kV doc pm:Value) (an:Option Addr) (Ai ct:Value) (us:Ae),us.length=ps.length->bindArgs (PySem.W.fnOf x qual (uh st) (xj st) (zL st) .none kV doc pm an Ai ct) #[us,[]]=pure (ps.zip us)):Binds K fd ps []:=by
 let#[oc,od,kV,doc,pm,an,Ai,ct,HQ,rfl,lk,BA]:=F.ex;show .all (h kV doc pm an Ai ct)
def bL {x qual:Str}{st:Stmt}{f:Addr}{oc:Value}{od an:Option Addr}{HQ:Array (Option Value)}{kV doc pm Ai ct:Value}(l:K.lookup f=↑#[oc,od,.func (PySem.W.fnOf x qual (uh st) (xj st) (zL st) .none kV doc pm an Ai ct),HQ])
  (c:PySem.W.codeIn K Ai qual=true) (k:PySem.W.keepIn K (.ref f)=true):vI K x qual st f (PySem.W.fnOf x qual (uh st) (xj st) (zL st) .none kV doc pm an Ai ct):=#[#[oc,od,kV,doc,pm,an,Ai,ct,HQ,rfl,l,c],k]
end
def ic {A:Around}{k:Nat}(hr:yb k A):A.units+1<cLine:=Nat.lt_of_le_of_lt (Nat.add_le_add_left (by decide:1<=64) _) hr.units
section
variable {X:Cx}
def pv (i:Nat) {x:Str}{pos:Pos}(hN:X.N[i]?=↑x:=by rfl) (hv:k8 X.env.scope x:=by first | show Or.inl rfl | show Or.inr (Or.inl rfl) | show Or.inr (Or.inr rfl)) (hd:(x == ("__debug__":Str))=false:=by decide)
  (BA:(x == ("__classdict__":Str))=false:=by decide):PE X (.Name x pos) (jf i):=VU hN hv hd BA
end
def gw (H H':Hp):Prop:=∀ b o,H b=↑o->H' b=↑o
end L2
namespace PySem
theorem iU {env:Env}:∀ (l:List (Str×NameKind)) (acc:List (Str×Addr)),(∀ y∈l,y.2=.free->∃ c,env.cells.lookup y.1=↑c)->
  ∃ cl,(forIn l acc (λ(x:Str×NameKind) r=>if (x.2 == NameKind.free)=true then do let a <- cellOf env x.1;pure (ForInStep.yield ((x.1,a)::r)) else pure (ForInStep.yield r)):Sem (List (Str×Addr)))=pure cl/\
   (∀ x c,cl.lookup x=↑c->acc.lookup x=↑c\/((x,NameKind.free)∈l/\env.cells.lookup x=↑c))/\(∀ x,(x,NameKind.free)∈l\/(acc.lookup x).isSome->(cl.lookup x).isSome)
 | [],acc,_=>#[acc,rfl,λ x c h=>.inl h,λ x h=>by exists h]
 | (n,k)::l,acc,h=>by
  by_cases hk:k=.free
  .subst hk;let#[c,hc]:=h (n,.free) Ax rfl;let#[cl,e1,e2,e3]:=iU l ((n,c)::acc) λ y hy=>h y (Ay _ hy);exact#[cl,?_,λ x d hx=>?_,λ x hx=>?_]
   .rw[DX];simp![beq_self_eq_true,if_true,cellOf,hc];show e1
   .rcases e2 x d hx with q | ⟨q1,q2⟩
    .rw[BJ] at q;cases Dj:x == n with
     | true=>
      rw[Dj] at q;have:x=n:=by exists Dj
      subst this;exact .inr #[Ax,?_];rw[hc];show q
     | false=>rw[Dj] at q;show .inl q
    .show .inr #[Ay _ q1,q2]
   .exact e3 x ?_;rcases hx with hx | hx
    .rcases An.mp hx with q | q
     .have:x=n:=congrArg Prod.fst q;subst this;show .inr (by simp[BJ])
     .show .inl q
    .exact .inr ?_;rw[BJ];cases x == n <;> simp[hx]
  .have hb:(k == NameKind.free)=false:=by exists hk
   let#[cl,e1,e2,e3]:=iU l acc λ y hy=>h y (Ay _ hy);exact#[cl,?_,λ x d hx=>?_,λ x hx=>?_]
   .rw[DX];simp![hb,Bp,if_false];show e1
   .rcases e2 x d hx with q | ⟨q1,q2⟩
    .show .inl q
    .show .inr #[Ay _ q1,q2]
   .exact e3 x ?_;rcases hx with hx | hx
    .rcases An.mp hx with q | q
     .show absurd (congrArg Prod.snd q).symm hk
     .show .inl q
    .show .inr hx
def aY {scope:Scope}{env:Env}(h:∀ y∈scope.names,y.2=.free->∃ c,env.cells.lookup y.1=↑c):
  ∃ cl,closureFor scope env=pure cl/\(∀ x c,cl.lookup x=↑c->(x,NameKind.free)∈scope.names/\env.cells.lookup x=↑c)/\∀ x,(x,NameKind.free)∈scope.names->(cl.lookup x).isSome:=by
 let#[cl,e1,e2,e3]:=iU (env:=env) scope.names [] h;exact#[cl,?_,λ x c hx=>?_,λ x hx=>e3 x (.inl hx)]
 .simp![closureFor];rw[e1];rfl
 .rcases e2 x c hx with q | q
  .simp at q
  .show q
theorem cB {env:Env}:∀ {names:List (Str×NameKind)}{x:Str},names.lookup x=↑.free->
  (names.map λ(n,k)=>if (k == NameKind.free&&env.scope.kind == .function&&env.kindOf n == ↑.cell) then (n,NameKind.cell) else (n,k)).lookup x=↑.cell\/
  (names.map λ(n,k)=>if (k == NameKind.free&&env.scope.kind == .function&&env.kindOf n == ↑.cell) then (n,NameKind.cell) else (n,k)).lookup x=↑.free
 | [],_,h=>by simp at h
 | (n,k)::r,x,h=>by
  have ih:=@cB env r x;change List.lookup x ((if (k == NameKind.free&&env.scope.kind == .function&&env.kindOf n == ↑.cell)=true then (n,NameKind.cell) else (n,k))::_)=_\/List.lookup x ((if (k == NameKind.free&&env.scope.kind == .function&&env.kindOf n == ↑.cell)=true then (n,NameKind.cell) else (n,k))::_)=_;cases hx:x == n with
  | true=>
   simp![BJ,hx] at h;cases h;by_cases hc:(NameKind.free == NameKind.free&&env.scope.kind == .function&&env.kindOf n == ↑.cell)=true
   .rw[if_pos hc];simp[BJ,hx]
   .rw[if_neg hc];simp[BJ,hx]
  | false=>
   simp![BJ,hx] at h;by_cases hc:(k == NameKind.free&&env.scope.kind == .function&&env.kindOf n == ↑.cell)=true
   .rw[if_pos hc];simp![BJ,hx];show ih h
   .rw[if_neg hc];simp![BJ,hx];show ih h
theorem eS {env:Env}:∀ {names:List (Str×NameKind)}{x:Str},
  ((names.map λ(n,k)=>if (k == NameKind.free&&env.scope.kind == .function&&env.kindOf n == ↑.cell) then (n,NameKind.cell) else (n,k)).lookup x=↑.cell\/
  (names.map λ(n,k)=>if (k == NameKind.free&&env.scope.kind == .function&&env.kindOf n == ↑.cell) then (n,NameKind.cell) else (n,k)).lookup x=↑.free)->(x,NameKind.free)∈names\/(x,NameKind.cell)∈names
 | [],_,h=>by simp at h
 | (n,k)::r,x,h=>by
  have ih:=@eS env r x;have h':List.lookup x ((if (k == NameKind.free&&env.scope.kind == .function&&env.kindOf n == ↑.cell)=true then (n,NameKind.cell) else (n,k))::_)=↑.cell\/List.lookup x ((if (k == NameKind.free&&env.scope.kind == .function&&env.kindOf n == ↑.cell)=true then (n,NameKind.cell) else (n,k))::_)=↑.free:=h;cases hx:x == n with
  | true=>
   have Dj:x=n:=by exists hx
   subst Dj;by_cases hc:(k == NameKind.free&&env.scope.kind == .function&&env.kindOf x == ↑.cell)=true
   .simp![BQ] at hc;have:k=.free:=by exists hc.1.1
    subst this;show .inl Ax
   .rw[if_neg hc] at h';simp![BJ,beq_self_eq_true] at h';rcases h' with q | q
    .cases A_ q;show .inr Ax
    .cases A_ q;show .inl Ax
  | false=>
   exact (ih ?_).imp (Ay _) (Ay _);by_cases hc:(k == NameKind.free&&env.scope.kind == .function&&env.kindOf n == ↑.cell)=true
   .rw[if_pos hc] at h';simp![BJ,hx] at h';show h'
   .rw[if_neg hc] at h';simp![BJ,hx] at h';show h'
theorem iW:∀ (names:List (Str×NameKind)) (h:Heap) (acc:List (Str×Addr)),∃ own,cellsFrom h.objs.size names acc=own++acc/\(∀ p∈own,(p.1,NameKind.cell)∈names/\h.objs.size<=p.2/\(pushCells h names).IsCell p.2 none)/\
  (own.Pairwise λ x y=>x.2≠y.2)/\∀ x,(x,NameKind.cell)∈names->(own.lookup x).isSome
 | [],h,acc=>#[[],rfl,λ _ hp=>(by cases hp),.nil,λ _ hx=>(by cases hx)]
 | (n,k)::r,h,acc=>by
  unfold cellsFrom pushCells;split
  .rename_i hk;have Hh:k=.cell:=by exists hk
   subst Hh;let#[own,e1,e2,e3,e4]:=iW r (h.push { cls:=.type "cell",data:=.cell none }) ((n,h.objs.size)::acc);rw[Heap.size_push] at e1 e2;exact#[own++[(n,h.objs.size)],by rw[e1,DW];rfl,λ p hp=>?_,?_,λ x hx=>?_]
   .rcases AY.mp hp with q | q
    .let#[f1,f2,f3]:=e2 p q;show#[Ay _ f1,⋯,f3]
    .cases AZ.mp q;show#[Ax,Ak _,_,pushCells_keeps _ _ _ _ (AJ _ rfl),rfl]
   .exact DV.mpr #[e3,Et _ _,λ a ha b hb=>?_];cases AZ.mp hb;show Bo (e2 a ha).2.1
   .rw[DU,Option.isSome_or];rcases An.mp hx with q | q
    .cases q;simp[BJ]
    .rw[e4 x q];rfl
  .rename_i hk;let#[own,e1,e2,e3,e4]:=iW r h acc;exact#[own,e1,λ p hp=>#[Ay _ (e2 p hp).1,(e2 p hp).2],e3,λ x hx=>?_];rcases An.mp hx with q | q
   .cases q;simp at hk
   .show e4 x q
def PN {M:Model}{A:Around}{E:Af}{s:Shared}{scope:Scope}{globals:Addr}{closure:List (Str×Addr)}{qual:Str}{env:Env}{Q:Env->Shared->Prop}
  (hQ:∀ h',h'=pushCells (s.heap.push { cls:=.type "dict",data:=.dict [].toArray }) scope.names->Q (newEnv scope s.heap.objs.size globals (cellsFrom (s.heap.objs.size+1) scope.names closure) qual none .none ↑env builtinsNs) { s with heap:=h' }):
  wpAny M A (newFunctionEnv scope globals closure [] qual none .none ↑env) Q E s:=by
 simp![newFunctionEnv,Option.isSome_some,if_true];exact Kj (wpAny_alloc ?_);exact Kj (wpAny_layCells _ (λ name kind cells=>by cases hkc:kind == NameKind.cell <;> simp[hkc]) _ _ _ _ ?_);rw[show ({ s with heap:=s.heap.push { cls:=.type "dict",data:=.dict [].toArray } }:Shared).heap.objs.size=s.heap.objs.size+1 from Heap.size_push ..];simp![List.forIn_nil];show Kj (Ad (Ad (hQ _ rfl)))
end PySem
namespace L2
open PySem PySem.Spec PyProof.Rows
def vT (pick:List (Option Nat)) (Y:St):St:=pick.map λ o=>o.bind λ i=>(Y[i]?).join
def yp (X:Cx) (N':List Str) (scope:Scope) (cl:List (Str×Addr)) (C:Addr) (s:Shared) (H:Hp) (ex:List Addr):Cx:=
 { X with N:=N',s₀:=s,H₀:=H,env:=compEnvC scope cl C X.env,outer:=X.stack,stack:=X.stack,ex:=ex,fn:=λ x=>decide (scope.names.lookup x=↑.cell),pn:=[],xe:=λ _ _=>False }
def qL (N N':List Str) (pick:List (Option Nat)) (scope:Scope):Bool:=(N'.zip pick).all λ p=>match p.2 with
 | none=>true
 | some j=>decide (N[j]?=↑p.1)&&decide (scope.names.lookup p.1=↑.free)
structure sA (X:Cx) (N':List Str) (pick:List (Option Nat)) (scope:Scope):Prop where
 kind:scope.kind=.function
 uniq:∀ y∈scope.names,scope.names.lookup y.1=↑y.2
 free:∀ y∈scope.names,y.2=.free->X.env.scope.names.lookup y.1=↑.cell\/X.env.scope.names.lookup y.1=↑.free
 len:pick.length=N'.length
 ok:qL X.N N' pick scope=true
def qL.get {N N':List Str}{pick:List (Option Nat)}{scope:Scope}(h:qL N N' pick scope=true) {i j:Nat}{x:Str}(h1:N'[i]?=↑x) (h2:pick[i]?=↑↑j):N[j]?=↑x/\scope.names.lookup x=↑.free:=by
 unfold qL at h;have hm:(x,↑j)∈N'.zip pick:=by
  exact BU (i:=i) ?_;rw[List.getElem?_zip_eq_some];show#[h1,h2]
 have q:=CF.mp h _ hm;simp![BQ,decide_eq_true_eq] at q;show q
def vT.get {pick:List (Option Nat)}{Y:St}{i:Nat}{v:V}(h:(vT pick Y)[i]?=↑↑v):∃ j,pick[i]?=↑↑j/\Y[j]?=↑↑v:=by
 unfold vT at h;rw[AR] at h;cases e:pick[i]? with
 | none=>rw[e] at h;cases h
 | some o=>
  rw[e] at h;cases o with
  | none=>simp at h
  | some j=>
   exact#[j,rfl,?_];simp![Option.map_some,Option.some.injEq,BS] at h;cases q:Y[j]? with
   | none=>rw[q] at h;simp at h
   | some w=>rw[q] at h;simp at h;rw[h]
def PF (X:Cx) (ifs:List Expr) (t:TT):Prop:=∀ (Ff:Aj) (s:Shared) (Y:St) (H:Hp) (Q:Bool->Hp->Prop),Inv X Ff Y H s->t Y H Q->
 wpAny (model X.prog X.w) X.A (forIn ifs true λ c r=>if r=true then do let ok <- isTrue c X.env (eval c X.env);pure (ForInStep.yield ok) else pure (ForInStep.yield r)) (TP X Ff Y Q) X.xe s
def VS {X:Cx}:PF X [] (λ _ H Q=>Q true H):=λ _ _ _ H _ I h=>wpAny_tests_nil #[H,I,h]
def VQ {X:Cx}{c:Expr}{t:TT}(h:PT X c t):PF X [c] t:=λ Ff s Y H Q I q=>wpAny_tests_one (h Ff s Y H Q I q)
def jh (pick:List (Option Nat)) (wi:TI) (g:TG) (tc:TT) (te:TE):TE:=fun Y H Q=>wi Y H λ J H1=>∀ D,H1 D=none->∃ W:Nat->Nat->St->Hp->Prop,(∃ m,W 0 m (vT pick Y) (upd H1 D (.lst [])))/\
 ∀ i m Y H,W i m Y H->(J.stop i H/\Q (.ref D) H)\/(J.go i H/\∀ x H',J.q8 i H x H'->g x Y H' fun Y2 H2=>tc Y2 H2 λ b H3=>
  if b=true then te Y2 H3 λ y H4=>∃ ys m',H4 D=↑(.lst ys)/\ys.length<sizeLine/\m'<m/\W (i+1) m' Y2 (upd H4 D (.lst (ys++[y]))) else ∃ m',m'<m/\W (i+1) m' Y2 H3)
section
variable {X:Cx}{Ff:Aj}{Y:St}{H:Hp}{s:Shared}{N':List Str}{pick:List (Option Nat)}{scope:Scope}{cl:List (Str×Addr)}{C:Addr}{fp:List Addr}
def Nc (S:sA X N' pick scope) (I:Inv X Ff Y H s) (Bx:∀ b∈fp,vJ X Ff H b) (AB:∀ b∈fp,b<s.heap.objs.size)
  {h1:Heap}(c1:∀ x c,cl.lookup x=↑c->((x,NameKind.free)∈scope.names/\X.env.cells.lookup x=↑c)\/((x,NameKind.cell)∈scope.names/\C<c/\h1.IsCell c none)) (c2:∀ x,(x,NameKind.free)∈scope.names\/(x,NameKind.cell)∈scope.names->(cl.lookup x).isSome) (c3:∀ x y c,cl.lookup x=↑c->cl.lookup y=↑c->x=y)
  {m1:Au}{t':Nat}(hC:s.heap.objs.size<C) (old:∀ b o,s.heap.get? b=↑o->h1.get? b=↑o) (CN:h1.Ns C m1)
  (hD:h1.get? s.heap.objs.size=↑{ cls:=.type "list",data:=.seq [].toArray 0 }):
  Inv (yp X N' scope cl C s H fp) [] (vT pick Y) (upd H s.heap.objs.size (.lst [])) { s with heap:=h1,toks:=t' }:=by
 have K7:H s.heap.objs.size=none:=I.zm.fresh (Ak _);have hCn:H C=none:=I.zm.fresh (BD hC);have cf:∀ x c,cl.lookup x=↑c->(∃ v,h1.IsCell c v)/\(c<s.heap.objs.size\/C<c)/\upd H s.heap.objs.size (.lst []) c=none:=λ x c e=>by
  rcases c1 x c e with ⟨_,q⟩ | ⟨_,q1,q2⟩
  .let#[v,o,z1,z2]:=I.cell x c q;have hl:=Aq z1;show#[#[v,o,old _ _ z1,z2],.inl hl,by rw[zO (AH hl)];show I.wN x c q]
  .show#[#[_,q2],.inr q1,by rw[zO (Bo (B7 hC q1))];show I.zm.fresh (BD (B7 hC q1))]
 exact#[#[I.ok.mod,S.kind,I.ok.glob,I.ok.blt,BD hC,c3,λ x hx=>?_,λ x c hf e=>?_,I.ok.hd,I.ok.frames,.inl rfl,
  λ b hb=>#[AH (B7 (AB b hb) hC),λ x c e=>?_],I.bs,A9 I.ok.se I.sz,λ b o e hb=>?_,λ b hb z=>?_,I.stack,I.jm],
  rfl,I.bare,Un.laid old (Ak _) K7,#[m1,CN,λ i x v e1 e2 e3=>?_],λ x c e=>?_,?_,λ x c e=>?_,λ p hp=>absurd (show p∈([]:Aj) from hp) #[],I.zm.laid old (Ak _) ?_,?_]
 .show DZ.mp (c2 x (eS hx))
 .have G3:=of_decide_eq_true (show decide (scope.names.lookup x=↑.cell)=true from hf);rcases c1 x c e with ⟨q,_⟩ | ⟨_,q,_⟩
  .rw[S.uniq _ q] at G3;cases G3
  .show BD (B7 hC q)
 .rcases c1 x c e with ⟨_,q⟩ | ⟨_,q,_⟩
  .show (Bx b hb).2.2.2.2.1 x c q
  .show Bo (B7 (B7 (AB b hb) hC) q)
 .rcases (Bx b hb).2.2.2.1 with z | z
  .show I.ok.rV b o e z
  .show absurd (Ba (Aq (I.ok.bs b o e).1) z) (Cb _)
 .rcases An.mp (I.jl b z) with q | q
  .show (Bx b hb).2.1 q
  .show (Bx b hb).2.2.1 q
 .let#[j,p1,p2]:=vT.get e2;let#[q1,q2]:=qL.get S.ok e1 p1;let#[m0,n0,l0]:=I.loc;have hm:(x,NameKind.free)∈scope.names:=PySem.mem_of_lookup q2;have hk:X.env.scope.names.lookup x=↑.cell\/X.env.scope.names.lookup x=↑.free:=S.free _ hm rfl;let#[u,r,l]:=l0 j x v q1 p2 (.inr hk);exact#[u,r,.inr #[cB q2,?_]];rcases l with ⟨k,_⟩ | ⟨_,c,e,z⟩
  .have k':X.env.scope.names.lookup x=↑.local:=k;rcases hk with hk | hk <;> (rw[k'] at hk;cases hk)
  .let#[c',e']:=DZ.mp (c2 x (.inl hm));have e'':X.env.cells.lookup x=↑c':=by
    rcases c1 x c' e' with ⟨_,q⟩ | ⟨q,_⟩
    .show q
    .have:=S.uniq _ q;rw[q2] at this;cases this
   rw[e] at e'';cases e'';let#[o,z1,z2]:=z;show#[c,e',o,old _ _ z1,z2]
 .show (cf x c e).1
 .change upd H s.heap.objs.size (.lst []) C=none;rw[zO (Bo hC)];show hCn
 .show (cf x c e).2.2
 .show#[A4 _,[],0,.nil,hD]
 .change (vT pick Y).length=N'.length;unfold vT;rw[AA];show S.len
def O_ {Y':St}{H':Hp}{s':Shared}{oC:Obj}(I:Inv X Ff Y H s) (Bx:∀ b∈fp,vJ X Ff H b) (hC:s.heap.objs.size<C)
  (I':Inv (yp X N' scope cl C s H fp) [] Y' H' s') (hoC:s'.heap.get? C=↑oC):Inv X (Ff++[(C,oC)]) Y H' s':=by
 have J:Inv X Ff Y H' s':=I.Zg (ch:=fp) I'.os I'.base I'.zm I'.bare λ b hb=>#[(Bx b hb).2.2.2.1,(Bx b hb).2.1,(Bx b hb).2.2.2.2.1,(Bx b hb).2.2.2.2.2];exact J.j8 λ p hp=>(AY.mp hp).elim (λ z=>J.pin p (A5 _ z)) λ z=>?_;obtain rfl:p=(C,oC):=AZ.mp z;exact#[hoC,I'.free,Bo (B7 I.lt hC),I.cj (BD hC),λ v hv=>?_];let#[m,#[o,es,ep,ho,hd,_],_]:=I'.loc;have F5:s'.heap.get? C=↑o:=ho;rw[hoC] at F5;cases F5;rw[hd] at hv;cases hv
def bj {Y':St}{H':Hp}{s':Shared}{oC:Obj}{h':Heap}(I:Inv X Ff Y H s) (hC:s.heap.objs.size<C) (J:Inv X (Ff++[(C,oC)]) Y' H' s') (hs:Heap.SameBut C s'.heap h'):Inv X Ff Y' H' { s' with heap:=h' }:=by
 have J':=J.pX;have hp:=J.pin (C,oC) (A5 _ (A5 _ (AZ.mpr rfl)));have lt:∀ c,c<s.heap.objs.size->c≠C:=λ c h=>AH (B7 h hC);exact J'.turned (t':=s'.toks) (it:=C) (λ b o hb e=>hs.extBut b o hb e) hp.2.1 hp.2.2.1 (.inr (A9 I.sz (BD hC))) (λ x c e z=>?_) (λ p hq z=>?_)
 .let#[v,q]:=I.cell x c e;show lt c q.lt z
 .show lt p.1 (Aq (I.pin p hq).1) z
end
section
variable {X:Cx}{N':List Str}{pick:List (Option Nat)}{scope:Scope}{elt iter tg:Expr}{ifs:List Expr}{pos:Pos}{wi:TI}{g:TG}{tc:TT}{te:TE}
def O3 {Ff:Aj}{Y:St}{H:Hp}{s:Shared}{it C:Addr}{fp:List Addr}{tn:Nat->Heap->Prop}{J:It}{cl:List (Str×Addr)}{W:Nat->Nat->St->Hp->Prop}{Q:V->Hp->Prop}{R:Result->Shared->Prop}{D:Addr}
  (hc:X.calm=true) (hg:PG (yp X N' scope cl C s H fp) tg g) (hf:PF (yp X N' scope cl C s H fp) ifs tc) (he:PE (yp X N' scope cl C s H fp) elt te)
  (T:Turn X.prog X.w X.K tg J fp it tn) (Bx:∀ b∈fp,vJ X Ff H b) (HD:∀ b∈fp,b≠C/\b∉y8 X.stack/\∀ x c,cl.lookup x=↑c->c≠b)
  (turn:∀ i m Y H,W i m Y H->(J.stop i H/\Q (.ref D) H)\/(J.go i H/\∀ x H',J.q8 i H x H'->g x Y H' fun Y2 H2=>tc Y2 H2 λ b H3=>
   if b=true then te Y2 H3 λ y H4=>∃ ys m',H4 D=↑(.lst ys)/\ys.length<sizeLine/\m'<m/\W (i+1) m' Y2 (upd H4 D (.lst (ys++[y]))) else ∃ m',m'<m/\W (i+1) m' Y2 H3))
  (fin:∀ Y' H' s',Inv (yp X N' scope cl C s H fp) [] Y' H' s'->Q (.ref D) H'->R (.ok .next) s')
  {m0:Nat}{Y0:St}{H0:Hp}{s0:Shared}(I0:Inv (yp X N' scope cl C s H fp) [] Y0 H0 s0) (t0:tn 0 s0.heap) (f0:∀ b∈fp,H0 b=none) (w0:W 0 m0 Y0 H0):
  codeAny (model X.prog X.w) X.A (.compLoop (.ListComp elt [#[tg,iter,ifs,0]] scope pos) 0 (.ref it) (.ref D) (compEnvC scope cl C X.env)) R s0:=by
 have G6:∀ {H':Hp},(∀ b∈fp,H' b=none)->∀ b∈fp,vJ (yp X N' scope cl C s H fp) [] H' b:=λ hn b hb=>#[hn b hb,(HD b hb).1,(HD b hb).2.1,.inl hb,(HD b hb).2.2,λ p hp=>absurd (show p∈([]:Aj) from hp) #[]];exact codeAny_loop rfl (λ n s'=>∃ i Y' H',Inv (yp X N' scope cl C s H fp) [] Y' H' s'/\tn i s'.heap/\(∀ b∈fp,H' b=none)/\W i n Y' H') (λ n s3 hI=>?_) m0 #[0,Y0,H0,I0,t0,f0,w0];let#[i,Y3,H3,I3,Je,JN,w3]:=hI;change wpAny _ X.A ((compTurn (.ListComp elt [#[tg,iter,ifs,0]] scope pos) 0 (.ref it) (.ref D) (compEnvC scope cl C X.env)).onRaise (λ x=>do noteFrame x (compEnvC scope cl C X.env);theTreesLotGoes x)) _ _ s3;exact wpAny_noted ?_;rw[compTurn_list];exact Kj (wpAny_standAt (Kj ?_));rcases turn i n Y3 H3 w3 with ⟨stop,qn⟩ | ⟨go,step⟩
 .exact zw (T.done (yp X N' scope cl C s H fp) rfl rfl rfl hc i [] s3 Y3 H3 _ I3 (G6 JN) Je stop) λ r s4 #[hr,I4]=>?_;subst hr;show Ad (fin Y3 H3 s4 I4 qn)
 .exact zw (T.item (yp X N' scope cl C s H fp) rfl rfl rfl hc i [] s3 Y3 H3 _ I3 (G6 JN) Je go) λ r s4 #[u,hr,h4]=>?_;subst hr;exact Kj (zw h4 λ _ s5 #[x,H5,I5,r5,y5,Io,fr5]=>?_);have I5':=I5.pinned (G6 fr5) (T.obj _ _ Io);exact Kj (tp (hg _ s5 Y3 H5 x u _ I5' r5 (step x H5 y5)) (λ _ s6 #[Y6,H6,I6,q6]=>?_) λ _ _ z=>False.elim z);exact Kj (tp (hf _ s6 Y6 H6 _ I6 q6) (λ ok s7 #[H7,I7,q7]=>?_) λ _ _ z=>False.elim z);have back:∀ {H8:Hp}{s8:Shared},Inv (yp X N' scope cl C s H fp) ([]++ou fp s5.heap) Y6 H8 s8->(∃ m',m'<n/\W (i+1) m' Y6 H8)->∃ m,m<n/\∃ i Y' H',Inv (yp X N' scope cl C s H fp) [] Y' H' s8/\tn i s8.heap/\(∀ b∈fp,H' b=none)/\W i m Y' H':=λ{H8 s8} I8 #[m',hm,w8]=>by
   exact#[m',hm,i+1,Y6,H8,I8.pX,T.keep _ _ _ Io λ b hb o e=>(I8.pin (b,o) (A5 _ (A5 _ (l4 hb e)))).1,λ b hb=>?_,w8];let#[o,e,d]:=T.obj _ _ Io b hb;show (I8.pin (b,o) (A5 _ (A5 _ (l4 hb e)))).2.1
  cases ok with
  | false=>
   rw[if_neg B_] at q7;show Ad #[rfl,back I7 q7]
  | true=>
   rw[if_pos rfl] at q7;exact Kj (Kj (tp (he _ s7 Y6 H7 _ I7 q7) (λ uy s8 #[y,H8,I8,r8,ys,m',e8,z8,hm,w8]=>?_) λ _ _ z=>False.elim z));exact Kj (tp (cy (X:=yp X N' scope cl C s H fp) _ s8 Y6 H8 (.ref D) [y] (.ref D) [uy] (λ _ H9=>W (i+1) m' Y6 H9) I8 rfl (.cons r8 .nil) #[D,ys,y,rfl,rfl,e8,z8,w8]) (λ _ s9 #[_,H9,I9,_,q9]=>?_) λ _ _ z=>False.elim z);show Ad (Ad #[rfl,back I9 #[m',hm,q9]])
def cM {Ff:Aj}{Y:St}{H:Hp}{s:Shared}{it:Addr}{fp:List Addr}{tn:Nat->Heap->Prop}{J:It}{cl:List (Str×Addr)}{Q:V->Hp->Prop}{E:Af}{RR:Value->Addr->Result->Shared->Prop}
  (S:sA X N' pick scope) (hc:X.calm=true) (hg:∀ cl C s H fp,PG (yp X N' scope cl C s H fp) tg g) (hf:∀ cl C s H fp,PF (yp X N' scope cl C s H fp) ifs tc) (he:∀ cl C s H fp,PE (yp X N' scope cl C s H fp) elt te)
  (c1:∀ x c,cl.lookup x=↑c->(x,NameKind.free)∈scope.names/\X.env.cells.lookup x=↑c) (c2:∀ x,(x,NameKind.free)∈scope.names->(cl.lookup x).isSome)
  (I:Inv X Ff Y H s) (T:Turn X.prog X.w X.K tg J fp it tn) (t0:tn 0 s.heap) (Bx:∀ b∈fp,vJ X Ff H b)
  (rd:∀ D,H D=none->∃ W:Nat->Nat->St->Hp->Prop,(∃ m,W 0 m (vT pick Y) (upd H D (.lst [])))/\
   ∀ i m Y H,W i m Y H->(J.stop i H/\Q (.ref D) H)\/(J.go i H/\∀ x H',J.q8 i H x H'->g x Y H' fun Y2 H2=>tc Y2 H2 λ b H3=>
    if b=true then te Y2 H3 λ y H4=>∃ ys m',H4 D=↑(.lst ys)/\ys.length<sizeLine/\m'<m/\W (i+1) m' Y2 (upd H4 D (.lst (ys++[y]))) else ∃ m',m'<m/\W (i+1) m' Y2 H3))
  (fin:∀ C D oC H' s',s.heap.objs.size<C->Inv X (Ff++[(C,oC)]) Y H' s'->s'.heap.get? C=↑oC->(∃ m,s'.heap.Ns C m)->Q (.ref D) H'->RR (.ref D) C (.ok .next) s'):
  wpAny (model X.prog X.w) X.A (newList []) (λ acc s₃=>wpAny (model X.prog X.w) X.A (newFunctionEnv scope X.env.globals cl [] X.env.qual none .none ↑X.env) (λ JQ s₄=>
   codeAny (model X.prog X.w) X.A (.compStart (.ListComp elt [#[tg,iter,ifs,0]] scope pos) 0 (.ref it) acc { JQ with scope:=relabel scope X.env }) (RR acc JQ.locals) s₄) E s₃) E s:=by
 exact za9 (PN λ h₁ eh=>?_);dsimp only at eh ⊢;generalize K6:s.heap.push { cls:=.type "list",dict:=none,data:=.seq ([]:Ae).toArray }=H2 at eh ⊢;have hC:H2.objs.size=s.heap.objs.size+1:=by rw[<- K6,Heap.size_push]
 have AB:s.heap.objs.size<H2.objs.size:=by rw[hC];show CG _
 have up:∀ b o,H2.get? b=↑o->h₁.get? b=↑o:=λ b o e=>by rw[eh];show pushCells_keeps _ _ _ _ (gV _ e)
 have old:∀ b o,s.heap.get? b=↑o->h₁.get? b=↑o:=λ b o e=>up b o (K6▸gV _ e);have A3:h₁.get? s.heap.objs.size=↑{ cls:=.type "list",data:=.seq [].toArray 0 }:=up _ _ (K6▸AJ _ rfl);have KZ:h₁.Ns H2.objs.size λ _=>none:=by rw[eh];show (Heap.Ns.new H2 (.type "dict")).keeps (pushCells_keeps _ _)
 let#[own,o1,o2,o3,o4]:=iW scope.names (H2.push { cls:=.type "dict",data:=.dict [].toArray }) cl;rw[Heap.size_push] at o1 o2;rw[<- eh] at o2;rw[o1];have d1:∀ x c,(own++cl).lookup x=↑c->((x,NameKind.free)∈scope.names/\X.env.cells.lookup x=↑c)\/((x,NameKind.cell)∈scope.names/\H2.objs.size<c/\h₁.IsCell c none):=λ x c e=>by
  rw[DU] at e;cases q:own.lookup x with
  | some c'=>
   rw[q] at e;cases e;show .inr (o2 _ (PySem.mem_of_lookup q))
  | none=>rw[q] at e;show .inl (c1 x c e)
 have d2:∀ x,(x,NameKind.free)∈scope.names\/(x,NameKind.cell)∈scope.names->((own++cl).lookup x).isSome:=λ x hx=>by
  rw[DU,Option.isSome_or];rcases hx with hx | hx
  .rw[c2 x hx,CB]
  .rw[o4 x hx];rfl
 have d3:∀ x y c,(own++cl).lookup x=↑c->(own++cl).lookup y=↑c->x=y:=λ x y c e1 e2=>by
  rw[DU] at e1 e2;have low:∀ x c,cl.lookup x=↑c->c<H2.objs.size:=λ x c e=>by
   let#[v,q]:=I.cell x c (c1 x c e).2;show B7 q.lt AB
  have hi:∀ x c,own.lookup x=↑c->H2.objs.size<c:=λ x c e=>(o2 _ (PySem.mem_of_lookup e)).2.1;cases q1:own.lookup x with
  | some c1'=>
   rw[q1] at e1;cases e1;cases q2:own.lookup y with
   | some c2'=>rw[q2] at e2;cases e2;show PySem.name_of_addr o3 (PySem.mem_of_lookup q1) (PySem.mem_of_lookup q2)
   | none=>rw[q2] at e2;show absurd (low y _ e2) (Nat.lt_asymm (hi x _ q1))
  | none=>
   rw[q1] at e1;cases q2:own.lookup y with
   | some c2'=>rw[q2] at e2;cases e2;show absurd (low x _ e1) (Nat.lt_asymm (hi y _ q2))
   | none=>rw[q2] at e2;show I.ok.inj x y c (c1 x c e1).2 (c1 y c e2).2
 have Dz:∀ b∈fp,b<s.heap.objs.size:=λ b hb=>by
  let#[o,e,_]:=T.obj _ _ t0 b hb;show Aq e
 have K7:H s.heap.objs.size=none:=I.zm.fresh (Ak _);let#[W,#[m0,w0],turn]:=rd s.heap.objs.size K7;have I0:=Nc (t':=s.toks) S I Bx Dz d1 d2 d3 AB old KZ A3;have t1:tn 0 h₁:=T.keep _ _ _ t0 λ b _ o e=>old b o e;have AK:∀ b∈fp,b≠H2.objs.size/\b∉y8 X.stack/\∀ x c,(own++cl).lookup x=↑c->c≠b:=λ b hb=>I0.ok.o_ b hb |> λ q=>#[q.1,I0.ok.qd b hb,q.2]
 have loop:codeAny (model X.prog X.w) X.A (.compLoop (.ListComp elt [#[tg,iter,ifs,0]] scope pos) 0 (.ref it) (.ref s.heap.objs.size) (compEnvC scope (own++cl) H2.objs.size X.env)) (RR (.ref s.heap.objs.size) H2.objs.size) { s with heap:=h₁ }:=by
  exact O3 (Y:=Y) hc (hg _ _ _ _ _) (hf _ _ _ _ _) (he _ _ _ _ _) T Bx AK turn (fun Y' H' s' I' q=>?_) I0 t1 (λ b hb=>?_) w0
  .let#[m,hn,_]:=I'.loc;have HS:s'.heap.Ns H2.objs.size m:=hn;let#[oC,es,ep,ho,hr]:=id HS;show fin _ _ oC H' s' AB (O_ I Bx AB I' ho) ho #[m,HS] q
  .change upd H s.heap.objs.size (.lst []) b=none;rw[zO (AH (Dz b hb))];show (Bx b hb).1
 show codeAny_compStart_list loop (T.self _ 0 _ _ _ t1 loop)
def Ue (S:sA X N' pick scope) (hc:X.calm=true) (hi:PI X tg iter wi) (hg:∀ cl C s H fp,PG (yp X N' scope cl C s H fp) tg g) (hf:∀ cl C s H fp,PF (yp X N' scope cl C s H fp) ifs tc) (he:∀ cl C s H fp,PE (yp X N' scope cl C s H fp) elt te)
  (hs:∀ x,foldedSetIterable iter X.env x=pure x:=by intro _;rfl):PE X (.ListComp elt [#[tg,iter,ifs,0]] scope pos) (jh pick wi g tc te):=by
 intro Ff s Y H Q I h;let#[cl,HG,c1,c2]:=aY (scope:=scope) (env:=X.env) λ y hy hk=>I.ok.has y.1 (S.free y hy hk);rw[eval_ListComp];exact wpAny_comprehension_free (use:=none) rfl hs HG S.kind (λ y hy e=>e▸S.uniq y hy) (zw (hi Ff s Y H _ I h) λ v s1 h1=>zw h1 λ JZ s2 h2=>?_);let#[it,fp,tn,J,H2,e,I2,T,Jf,f2,rd]:=h2;subst e;exact cM (RR:=λ acc C=>compPost (model X.prog X.w) X.A X.xe none (EP X Ff Y Q) acc C) S hc hg hf he c1 c2 I2 T Jf f2 rd λ C D oC H' s' hC J' ho hn q=>?_;let#[m,hn]:=hn;show#[m,hn,λ h' Hr=>#[.ref D,H',bj I2 hC J' Hr,rfl,q]]
def Vu {i:Nat}{y:Str}{py Bk:Pos}(S:sA X N' pick scope) (hc:X.calm=true) (hi:PI X tg iter wi) (hg:∀ cl C s H fp,PG (yp X N' scope cl C s H fp) tg g) (hf:∀ cl C s H fp,PF (yp X N' scope cl C s H fp) ifs tc) (he:∀ cl C s H fp,PE (yp X N' scope cl C s H fp) elt te)
  (hN:X.N.Nodup) (hy:X.N[i]?=↑y) (hx:Loc X.env.scope y)
  (Bv:swapsWith (.ListComp elt [#[tg,iter,ifs,0]] scope pos) ↑(.Name y py) Bk.line X.env=pure true:=by rfl)
  (Ci:X.fn y=true\/X.env.scope.names.lookup y=↑.local:=by first | show .inl rfl | show .inr rfl | assumption)
  (hs:∀ x,foldedSetIterable iter X.env x=pure x:=by intro _;rfl):PS X (.Assign [.Name y py] (.ListComp elt [#[tg,iter,ifs,0]] scope pos) Bk) (pZ (jh pick wi g tc te) (qZ i)):=by
 intro Ff s Y H Q I h;let#[cl,HG,c1,c2]:=aY (scope:=scope) (env:=X.env) λ y hy hk=>I.ok.has y.1 (S.free y hy hk);rw[exec_Assign_Name_used _ _ _ _ Bv];exact Kj (wpAny_standAt (Kj ?_));change wpAny _ X.A (do let _ <- comprehension (.ListComp elt [#[tg,iter,ifs,0]] scope pos) scope X.env _ (newList []) false (eval iter X.env) ↑(assign (.Name y py) X.env)) _ _ s;exact Kj (tp (wpAny_comprehension_free (use:=↑(assign (.Name y py) X.env)) (Q:=λ _ s'=>SP X Ff Q .next s') rfl hs HG S.kind (λ y hy e=>e▸S.uniq y hy)
  (zw (hi Ff s Y H _ I h) λ v s1 h1=>zw h1 λ JZ s2 h2=>?_)) (λ _ s' hq=>Ad (Ad hq)) λ _ _ e=>e)
 let#[it,fp,tn,J,H2,e,I2,T,Jf,f2,rd]:=h2;subst e;exact cM (Q:=λ x H1=>qZ i x Y H1 Q.nx) (RR:=λ acc C=>compPost (model X.prog X.w) X.A X.xe ↑(assign (.Name y py) X.env) (λ _ s'=>SP X Ff Q .next s') acc C) S hc hg hf he c1 c2 I2 T Jf f2 rd λ C D oC H' s' hC J' ho hn q=>?_;change wpAny _ X.A (assign (.Name y py) X.env (.ref D)) _ _ _;exact wpAny_assign_Name (p_ J' hN hy hx (v:=.ref D) rfl (λ s3 J3=>?_) Ci);have hp:=(J3.pin (C,oC) (A5 _ (A5 _ (AZ.mpr rfl)))).1;let#[m,o,es,ep,F5,hr]:=hn;have:o=oC:=A_ (F5.symm.trans ho);subst this;show#[m,#[o,es,ep,hp,hr],λ h' Hr=>#[_,H',bj I2 hC J3 Hr,q]]
end
end L2
namespace L3
open PySem PySem.Spec L2
open PyProof.Rows hiding St
inductive D where
 | zr | bl (b:Bool) | int (i:Int) | str (x:Str) | tup (ds:List D) | xn (ds:List D) | ref (a:Addr) | err (c f:Str) (d:D)
def pE (K:Ac) (H:Hp) (a:Addr) (xs:List V):Prop:=
 (∃ o,H a=↑(.xV o (.lst xs)))\/
  ∃ (o:Obj) (Aa:Aw) (n:Nat),K.lookup a=↑o/\o.cls=.type "list"/\o.dict=none/\o.data=.seq Aa n/\Aa.size<=sizeLine/\Vals xs Aa.toList
def pE.sq {K:Ac}{H:Hp}{a:Addr}{xs:List V}(h:pE K H a xs):zG K H a xs:=by
 rcases h with h | h
 .show .inl (.inr h)
 .show .inr h
abbrev vF:List Value:=[.type "ValueError",.type "Exception",.type "BaseException",.type "object"]
abbrev o8:List Str:=["__getattribute__","__getattr__","__class__","__setattr__","place","pair","way","times","told","name","row"]
def rB (K:Ac) (c:Str) (C:Addr) (bm:Ae) (N:Addr):Prop:=
 (∃ (q:Str) (bs:Ae) (sn:List Str) (sub:Ae) (ab:Bool) (col:Option Bool) (dd:Option Addr) (k0 k1 k2 k3 k5:Option Value),K.lookup C=↑(excClassObj c q C N bs bm true sn sub ab col dd k0 k1 k2 k3 k5 "ValueError.__new__"))/\
 PySem.W.nsOkIn K N=true/\∀ n∈o8,PySem.W.nsIn K N n=↑none
structure rJ (K:Ac) (c:Str) (C P N NP:Addr):Prop where
 own:rB K c C (.ref P::vF) N
 par:rB K "PurseError" P vF NP
 top:PySem.W.nsIn K mainGlobals c=↑↑(.ref C)
 dn:PySem.W.nsIn K mainGlobals "PurseError"=↑↑(.ref P)
 V9:PySem.W.nsIn K NP "__init__"=↑none
def rK (K:Ac) (c:Str) (C:Addr):Prop:=∃ P N NP,rJ K c C P N NP
def ownIn (K:Ac) (c:Str) (C:Addr) (bm:Ae):Option Addr:=match K.lookup C with
 | some #[.type "type",_,.cls cd,sl]=>(match cd.mro,sl.toList with
  | .ref C'::HV,[_,_,_,_,↑(.builtin n),_]=>if C' == C&&n == "ValueError.__new__"&&!cd.hasDel&&HV == bm&&cd.hasDict&&cd.name == c&&PySem.W.nsOkIn K cd.ns&&o8.all (λ n=>PySem.W.nsIn K cd.ns n == ↑none) then ↑cd.ns else none
  | _,_=>none)
 | _=>none
def dN {K:Ac}{c:Str}{C N:Addr}{bm:Ae}(h:ownIn K c C bm=↑N):rB K c C bm N:=by
 unfold ownIn at h;split at h
 .rename_i dd cd sl ho;split at h
  .rename_i C' HV k0 k1 k2 k3 n k5 hm hs;split at h
   .rename_i hc;cases h;simp![BQ,beq_iff_eq,Bool.not_eq_true',CF] at hc;let#[#[#[#[#[#[#[rfl,rfl],DF],rfl],hhd],rfl],zm],hn]:=hc;let#[nm,bs,mro,ns,qn,hd,sn,sub,ab,col,del]:=cd;dsimp only at hm DF zm hn hhd;subst hm DF hhd;have Bw:sl=[k0,k1,k2,k3,↑(.builtin "ValueError.__new__"),k5].toArray:=by
     let#[l]:=sl;simp only at hs;rw[hs]
    subst Bw;show#[#[qn,bs,sn,sub,ab,col,dd,k0,k1,k2,k3,k5,ho],zm,hn]
   .cases h
  .cases h
 .cases h
def lM (K:Ac) (c:Str):Option (Addr×Addr×Addr×Addr):=match PySem.W.nsIn K mainGlobals c,PySem.W.nsIn K mainGlobals "PurseError" with
 | some ↑(.ref C),↑↑(.ref P)=>(match ownIn K c C (.ref P::vF),ownIn K "PurseError" P vF with
  | some N,↑NP=>if PySem.W.nsIn K NP "__init__" == ↑none then ↑(C,P,N,NP) else none
  | _,_=>none)
 | _,_=>none
def b_ {K:Ac}{c:Str}{C P N NP:Addr}(h:lM K c=↑(C,P,N,NP)):rJ K c C P N NP:=by
 unfold lM at h;split at h
 .rename_i h1 h2;split at h
  .rename_i h3 h4;split at h
   .rename_i h5;cases h;show#[dN h3,dN h4,h1,h2,beq_iff_eq.mp h5]
   .cases h
  .cases h
 .cases h
def wX (e C:Addr) (dx:Option Addr):HO:=.ext λ h=>∃ oe vs,h.get? e=↑oe/\oe.cls=.ref C/\oe.dict=dx/\oe.data=.fields vs
def Xd (H:Hp) (f:Str) (w:V):Option Addr->Prop
 | some x=>H x=↑(.xd [(f,w)])
 | none=>f=""/\w=.zr
mutual
def zf (K:Ac) (H:Hp):D->V->Prop
 | .zr,v=>v=.zr
 | .bl b,v=>v=.bl b
 | .int i,v=>v=.int i
 | .str x,v=>v=.str x
 | .tup ds,v=>∃ a xs,v=.ref a/\zR K H a xs/\zj K H ds xs
 | .xn ds,v=>∃ a xs,v=.ref a/\pE K H a xs/\zj K H ds xs
 | .ref a,v=>v=.ref a
 | .err c f d,v=>∃ e C dx w,v=.ref e/\(rK K c C/\H e=↑(wX e C dx)/\Xd H f w dx)/\zf K H d w
def zj (K:Ac) (H:Hp):List D->List V->Prop
 | [],xs=>xs=[]
 | d::ds,xs=>∃ x r,xs=x::r/\zf K H d x/\zj K H ds r
end
structure Ext (H H':Hp):Prop where
 tup:∀ b xs,H b=↑(.tup xs)->H' b=↑(.tup xs)
 xV:∀ b o u,H b=↑(.xV o u)->H' b=↑(.xV o u)
 ext:∀ b φ,H b=↑(.ext φ)->H' b=↑(.ext φ)
 xd:∀ b fs,H b=↑(.xd fs)->H' b=↑(.xd fs)
def Ext.refl (H:Hp):Ext H H:=#[λ _ _ h=>h,λ _ _ _ h=>h,λ _ _ h=>h,λ _ _ h=>h]
def Ext.trans {H H1 H2:Hp}(a:Ext H H1) (b:Ext H1 H2):Ext H H2:=#[λ c xs h=>b.tup c xs (a.tup c xs h),λ c o u h=>b.xV c o u (a.xV c o u h),λ c u h=>b.ext c u (a.ext c u h),λ c u h=>b.xd c u (a.xd c u h)]
def Ext.new {H:Hp}{p:Addr}(h:H p=none) (o:HO):Ext H (upd H p o):=
 #[λ b xs q=>by rw[zO (xE q h)];show q,λ b ob u q=>by rw[zO (xE q h)];show q,λ b u q=>by rw[zO (xE q h)];show q,λ b u q=>by rw[zO (xE q h)];show q]
theorem Ext.lst {H:Hp}{p:Addr}{xs:List V}(h:H p=↑(.lst xs)) (o:HO):Ext H (upd H p o):=
 #[λ b ys q=>by rw[zO (uR q h (by intro z;cases z))];show q,λ b ob u q=>by rw[zO (uR q h (by intro z;cases z))];show q,λ b u q=>by rw[zO (uR q h (by intro z;cases z))];show q,λ b u q=>by rw[zO (uR q h (by intro z;cases z))];show q]
def Ext.mL {K:Ac}{H H':Hp}{a:Addr}{xs:List V}(e:Ext H H') (h:zR K H a xs):zR K H' a xs:=by
 rcases h with (h | ⟨o,h⟩) | h
 .show .inl (.inl (e.tup _ _ h))
 .show .inl (.inr #[o,e.xV _ _ _ h])
 .show .inr h
def Ext.mM {K:Ac}{H H':Hp}{a:Addr}{xs:List V}(e:Ext H H') (h:pE K H a xs):pE K H' a xs:=by
 rcases h with ⟨o,h⟩ | h
 .show .inl #[o,e.xV _ _ _ h]
 .show .inr h
section
variable {K:Ac}{H H':Hp}
def Xd.ext {H H':Hp}{f:Str}{w:V}{dx:Option Addr}(h:Xd H f w dx) (e:Ext H H'):Xd H' f w dx:=by
 cases dx with
 | none=>show h
 | some x=>show e.xd _ _ h
mutual
theorem zf.ext (e:Ext H H'):∀ (d:D) {v:V},zf K H d v->zf K H' d v
 | .zr,v,h=>by simpa only [zf] using h
 | .bl b,v,h=>by simpa only [zf] using h
 | .int i,v,h=>by simpa only [zf] using h
 | .str x,v,h=>by simpa only [zf] using h
 | .ref a,v,h=>by simpa only [zf] using h
 | .err c f d,v,h=>by
  simp![zf] at h ⊢;let#[a,C,dx,w,h1,#[h2,h3,h4],h5]:=h;show#[a,C,dx,w,h1,#[h2,e.ext _ _ h3,h4.ext e],zf.ext e d h5]
 | .tup ds,v,h=>by
  simp![zf] at h ⊢;let#[a,xs,h1,h2,h3]:=h;show#[a,xs,h1,e.mL h2,zj.ext e ds h3]
 | .xn ds,v,h=>by
  simp![zf] at h ⊢;let#[a,xs,h1,h2,h3]:=h;show#[a,xs,h1,e.mM h2,zj.ext e ds h3]
theorem zj.ext (e:Ext H H'):∀ (ds:List D) {xs:List V},zj K H ds xs->zj K H' ds xs
 | [],xs,h=>by simpa only [zj] using h
 | d::ds,xs,h=>by
  simp![zj] at h ⊢;let#[x,r,h1,h2,h3]:=h;show#[x,r,h1,zf.ext e d h2,zj.ext e ds h3]
end
theorem zj.length:∀ {ds:List D}{xs:List V},zj K H ds xs->ds.length=xs.length
 | [],xs,h=>by simp![zj] at h;subst h;rfl
 | d::ds,xs,h=>by
  simp![zj] at h;let#[x,r,h1,_,h3]:=h;subst h1;simp[zj.length h3]
theorem zj.get:∀ {ds:List D}{xs:List V}{i:Nat}{d:D},zj K H ds xs->ds[i]?=↑d->∃ x,xs[i]?=↑x/\zf K H d x
 | [],_,i,d,_,e=>by simp at e
 | c::ds,xs,i,d,h,e=>by
  simp![zj] at h;let#[x,r,h1,h2,h3]:=h;subst h1;cases i with
  | zero=>simp at e;subst e;show#[x,rfl,h2]
  | succ i=>
   let#[y,e1,e2]:=zj.get (i:=i) h3 (by exists e);show#[y,by simpa using e1,e2]
theorem zj.append:∀ {ds es:List D}{xs ys:List V},zj K H ds xs->zj K H es ys->zj K H (ds++es) (xs++ys)
 | [],es,xs,ys,h,h'=>by simp![zj] at h;subst h;exists h'
 | d::ds,es,xs,ys,h,h'=>by
  simp![zj] at h;let#[x,r,h1,h2,h3]:=h;subst h1;change zj K H (d::(ds++es)) (x::(r++ys));simp![zj];show#[x,r++ys,rfl,h2,zj.append h3 h']
def zj.nil:zj K H [] []:=by simp![zj]
def zj.cons {d:D}{ds:List D}{x:V}{xs:List V}(h:zf K H d x) (h':zj K H ds xs):zj K H (d::ds) (x::xs):=by
 simp![zj];show#[x,xs,rfl,h,h']
def zj.snoc {d:D}{ds:List D}{x:V}{xs:List V}(h':zj K H ds xs) (h:zf K H d x):zj K H (ds++[d]) (xs++[x]):=h'.append (.cons h .nil)
theorem zj.ints:∀ {ns:List Int}{xs:List V},zj K H (ns.map D.int) xs->xs=ns.map V.int
 | [],xs,h=>by simpa only [Bh,zj] using h
 | n::ns,xs,h=>by
  rw[Ar] at h;simp![zj,zf] at h;let#[x,r,h1,h2,h3]:=h;subst h1 h2;rw[Ar,zj.ints h3]
theorem zj.jJ:∀ (ns:List Int),zj K H (ns.map D.int) (ns.map V.int)
 | []=>.nil
 | n::ns=>.cons (by simp![zf]) (zj.jJ ns)
theorem zj.bools:∀ {ns:List Bool}{xs:List V},zj K H (ns.map D.bl) xs->xs=ns.map V.bl
 | [],xs,h=>by simpa only [Bh,zj] using h
 | n::ns,xs,h=>by
  rw[Ar] at h;simp![zj,zf] at h;let#[x,r,h1,h2,h3]:=h;subst h1 h2;rw[Ar,zj.bools h3]
end
inductive O where
 | lst (ds:List D)
 | zB (Ab:List (Key×D))
abbrev SS:=Addr->Option O
def yG (K:Ac) (H:Hp):List (Key×D)->List (Key×V)->Prop:=Paired λ p q=>p.1=q.1/\zf K H p.2 q.2
def qu (K:Ac) (H:Hp) (a:Addr):O->Prop
 | .lst ds=>∃ xs,H a=↑(.lst xs)/\zj K H ds xs
 | .zB Ab=>∃ vs,H a=↑(.dK vs)/\yG K H Ab vs
def zC (K:Ac) (H:Hp) (S:SS):Prop:=∀ a o,S a=↑o->qu K H a o
def ups (S:SS) (a:Addr) (o:O):SS:=λ b=>if b=a then ↑o else S b
def sD {S:SS}{a:Addr}{o:O}:ups S a o a=↑o:=by unfold ups;rw[if_pos rfl]
def tM {S:SS}{a b:Addr}{o:O}(h:b≠a):ups S a o b=S b:=by unfold ups;rw[if_neg h]
def Sx (S S':SS):Prop:=∀ b o,S b=↑o->S' b=↑o
def Sx.refl (S:SS):Sx S S:=λ _ _ h=>h
def Sx.trans {S S1 S2:SS}(a:Sx S S1) (b:Sx S1 S2):Sx S S2:=λ c o h=>b c o (a c o h)
def Sx.new {S:SS}{p:Addr}(h:S p=none) (o:O):Sx S (ups S p o):=λ b u q=>by
 rw[tM (by intro z;subst z;rw[h] at q;cases q)];show q
theorem Sx.none {S S':SS}(e:Sx S S') {p:Addr}(h:S' p=Option.none):S p=Option.none:=by
 cases q:S p with
 | none=>rfl
 | some o=>rw[e p o q] at h;cases h
section
variable {K:Ac}{H H':Hp}{S:SS}
def qu.has {a:Addr}{o:O}(h:qu K H a o):H a≠none:=by
 cases o with
 | lst ds=>let#[xs,h,_]:=h;rw[h];simp
 | zB Ab=>let#[xs,h,_]:=h;rw[h];simp
theorem zC.none (r:zC K H S) {p:Addr}(h:H p=Option.none):S p=Option.none:=by
 cases q:S p with
 | none=>rfl
 | some o=>show absurd h (r p o q).has
theorem yG.ext (e:Ext H H') {Ab:List (Key×D)}{vs:List (Key×V)}(h:yG K H Ab vs):yG K H' Ab vs:=
 Paired.l7 h λ p q z=>#[z.1,zf.ext e p.2 z.2]
def qu.keep {a:Addr}{o:O}(e:Ext H H') (k:∀ u,H a=↑u->H' a=↑u) (h:qu K H a o):qu K H' a o:=by
 cases o with
 | lst ds=>let#[xs,h1,h2]:=h;show#[xs,k _ h1,zj.ext e ds h2]
 | zB Ab=>let#[xs,h1,h2]:=h;show#[xs,k _ h1,h2.ext e]
theorem zC.keep (e:Ext H H') (k:∀ a u o,S a=↑o->H a=↑u->H' a=↑u) (r:zC K H S):zC K H' S:=λ a o h=>(r a o h).keep e λ u q=>k a u o h q
def zC.same (e:gw H H') (r:zC K H S):zC K H' S:=r.keep #[λ b xs q=>e _ _ q,λ b o u q=>e _ _ q,λ b u q=>e _ _ q,λ b u q=>e _ _ q] λ a u _ _ q=>e a u q
theorem zC.new {p:Addr}{u:HO}(hp:H p=Option.none) (r:zC K H S):zC K (upd H p u) S:=
 r.keep (Ext.new hp u) λ a v o _ q=>by rw[zO (xE q hp)];show q
theorem zC.ups {p:Addr}{u:HO}{o:O}(e:Ext H (upd H p u)) (hn:qu K (upd H p u) p o) (r:zC K H S):zC K (upd H p u) (ups S p o):=λ a o' h=>by
 by_cases ha:a=p
 .subst ha;rw[sD] at h;cases h;show hn
 .rw[tM ha] at h;show (r a o' h).keep e λ v q=>by rw[zO ha];show q
end
abbrev zY:=List (Option D)
def ym (K:Ac) (H:Hp) (L:zY) (Y:St):Prop:=L.length=Y.length/\∀ (i:Nat) (d:D),L[i]?=↑↑d->∃ v,Y[i]?=↑↑v/\zf K H d v
theorem ym.ext {K:Ac}{H H':Hp}{L:zY}{Y:St}(e:Ext H H') (r:ym K H L Y):ym K H' L Y:=#[r.1,λ i d h=>by
 let#[v,h1,h2]:=r.2 i d h;show#[v,h1,zf.ext e d h2]]
theorem ym.set {K:Ac}{H:Hp}{L:zY}{Y:St}(i:Nat) {d:D}{v:V}(r:ym K H L Y) (h:zf K H d v):ym K H (L.set i ↑d) (Y.set i ↑v):=by
 exact#[by rw[C2,C2];show r.1,λ j c hc=>?_];rw[CZ] at hc ⊢;by_cases hj:i=j
 .subst hj;rw[if_pos rfl] at hc ⊢;by_cases hl:i < L.length
  .rw[if_pos hl] at hc;rw[if_pos (by rw[<- r.1];show hl)];cases hc;show#[v,rfl,h]
  .rw[if_neg hl] at hc;cases hc
 .rw[if_neg hj] at hc ⊢;show r.2 j c hc
abbrev DK:=D->SS->Prop
abbrev zp:=zY->SS->DK->Prop
abbrev yt:=zY->SS->(Bool->SS->Prop)->Prop
abbrev ya:=zY->SS->(List D->SS->Prop)->Prop
def zX (t:zp):Prop:=∀ L S (Q Q':DK),(∀ d S',Q d S'->Q' d S')->t L S Q->t L S Q'
def wG (t:yt):Prop:=∀ L S (Q Q':Bool->SS->Prop),(∀ d S',Q d S'->Q' d S')->t L S Q->t L S Q'
def sj (t:ya):Prop:=∀ L S (Q Q':List D->SS->Prop),(∀ d S',Q d S'->Q' d S')->t L S Q->t L S Q'
def xI (K:Ac) (H:Hp) (Q:VK):DK:=λ d S'=>∀ v H',zf K H' d v->Ext H H'->zC K H' S'->Q v H'
def nq (K:Ac) (H:Hp) (Q:Bool->Hp->Prop):Bool->SS->Prop:=λ b S'=>∀ H',Ext H H'->zC K H' S'->Q b H'
def Mm (K:Ac) (H:Hp) (Q:List V->Hp->Prop):List D->SS->Prop:=λ ds S'=>∀ vs H',zj K H' ds vs->Ext H H'->zC K H' S'->Q vs H'
def xq (K:Ac) (H:Hp) (Q:St->Hp->Prop):zY->SS->Prop:=fun L S'=>∀ Y H',ym K H' L Y->Ext H H'->zC K H' S'->Q Y H'
def xI.ext {K:Ac}{H H':Hp}{Q:VK}(e:Ext H H') {d:D}{S:SS}(h:xI K H Q d S):xI K H' Q d S:=λ v H2 r x q=>h v H2 r (e.trans x) q
def nq.ext {K:Ac}{H H':Hp}{Q:Bool->Hp->Prop}(e:Ext H H') {d:Bool}{S:SS}(h:nq K H Q d S):nq K H' Q d S:=λ H2 x q=>h H2 (e.trans x) q
def xq.ext {K:Ac}{H H':Hp}{Q:St->Hp->Prop}(e:Ext H H') {d:zY}{S:SS}(h:xq K H Q d S):xq K H' Q d S:=λ v H2 r x q=>h v H2 r (e.trans x) q
def zD (K:Ac) (t:zp):TE:=fun Y H Q=>∃ L S,ym K H L Y/\zC K H S/\t L S (xI K H Q)
def xP (K:Ac) (t:yt):TT:=fun Y H Q=>∃ L S,ym K H L Y/\zC K H S/\t L S (nq K H Q)
def xQ (K:Ac) (t:ya):TA:=fun Y H Q=>∃ L S,ym K H L Y/\zC K H S/\t L S (Mm K H Q)
structure PD (X:Cx) (e:Expr) (t:zp):Prop where
 mo:zX t
 pe:PE X e (zD X.K t)
structure yX (X:Cx) (e:Expr) (t:yt):Prop where
 mo:wG t
 pt:PT X e (xP X.K t)
structure yO (X:Cx) (es:List Expr) (t:ya):Prop where
 mo:sj t
 pa:PA X es (xQ X.K t)
def PE.imp {X:Cx}{e:Expr}{t t':TE}(h:PE X e t) (hi:∀ Y H Q,t' Y H Q->t Y H Q):PE X e t':=λ Ff s Y H Q I q=>h Ff s Y H Q I (hi Y H Q q)
def PT.imp {X:Cx}{e:Expr}{t t':TT}(h:PT X e t) (hi:∀ Y H Q,t' Y H Q->t Y H Q):PT X e t':=λ Ff s Y H Q I q=>h Ff s Y H Q I (hi Y H Q q)
def PA.imp {X:Cx}{e:List Expr}{t t':TA}(h:PA X e t) (hi:∀ Y H Q,t' Y H Q->t Y H Q):PA X e t':=λ pos Ff s Y H Q I q=>h pos Ff s Y H Q I (hi Y H Q q)
def PS.imp {X:Cx}{e:Stmt}{t t':TS}(h:PS X e t) (hi:∀ D Y H,t' D Y H->t D Y H):PS X e t':=λ Ff s Y H Q I q=>h Ff s Y H Q I (hi Q Y H q)
def xO.imp {X:Cx}{e:List Stmt}{t t':TS}(h:xO X e t) (hi:∀ D Y H,t' D Y H->t D Y H):xO X e t':=λ Ff s Y H Q I q=>h Ff s Y H Q I (hi Q Y H q)
section
variable {X:Cx}{K:Ac}
def zD.go {t:zp}{Y:St}{H:Hp}{Q:VK}{L:zY}{S:SS}{R:DK}(mo:zX t) (r1:ym K H L Y) (r2:zC K H S) (h:t L S R) (k:∀ d S' v H',R d S'->zf K H' d v->Ext H H'->zC K H' S'->Q v H'):zD K t Y H Q:=
 #[L,S,r1,r2,mo L S _ _ (λ d S' q v H' a b c=>k d S' v H' q a b c) h]
def xP.go {t:yt}{Y:St}{H:Hp}{Q:Bool->Hp->Prop}{L:zY}{S:SS}{R:Bool->SS->Prop}(mo:wG t) (r1:ym K H L Y) (r2:zC K H S) (h:t L S R) (k:∀ d S' H',R d S'->Ext H H'->zC K H' S'->Q d H'):xP K t Y H Q:=
 #[L,S,r1,r2,mo L S _ _ (λ d S' q H' b c=>k d S' H' q b c) h]
def xQ.go {t:ya}{Y:St}{H:Hp}{Q:List V->Hp->Prop}{L:zY}{S:SS}{R:List D->SS->Prop}(mo:sj t) (r1:ym K H L Y) (r2:zC K H S) (h:t L S R) (k:∀ d S' v H',R d S'->zj K H' d v->Ext H H'->zC K H' S'->Q v H'):xQ K t Y H Q:=
 #[L,S,r1,r2,mo L S _ _ (λ d S' q v H' a b c=>k d S' v H' q a b c) h]
def yh (i:Nat):zp:=fun L S Q=>match L[i]? with
 | some ↑d=>Q d S
 | _=>False
def dC (d:D):zp:=λ _ S Q=>Q d S
def Tt (i:Nat) {x:Str}{pos:Pos}(h:PE X (.Name x pos) (jf i)):PD X (.Name x pos) (yh i):=by
 exact#[fun L S Q Q' hq h=>?_,PE.imp h fun Y H Q hu=>?_]
 .unfold yh at h ⊢;split at h
  .show hq _ _ h
  .show h
 .let#[L,S,r1,r2,h]:=hu;unfold yh at h;split at h
  .rename_i d e;let#[v,h1,h2]:=r1.2 i d e;show#[v,h1,h v H h2 (Ext.refl H) r2]
  .show h.elim
def dC.mo (d:D):zX (dC d):=λ _ _ _ _ hq h=>hq _ _ h
def oy {e:Expr}{d:D}{v:V}(h:PE X e (tC v)) (r:∀ H,zf X.K H d v):PD X e (dC d):=
 #[dC.mo d,PE.imp h λ _ H _ #[_,_,_,r2,h]=>h v H (r H) (Ext.refl H) r2]
def Si {i j pos}:PD X (.Constant (.int i) j pos) (dC (.int i)):=oy Uh λ _=>by simp![zf]
def SG {i j pos}:PD X (.Constant (.bool i) j pos) (dC (.bl i)):=oy Us λ _=>by simp![zf]
def TB {j pos}:PD X (.Constant .none j pos) (dC .zr):=oy Uc λ _=>by simp![zf]
def Tx {x j pos}:PD X (.Constant (.str x) j pos) (dC (.str x)):=oy VX λ _=>by simp![zf]
abbrev y7:=D->D->SS->DK->Prop
def xv (f:y7):Prop:=∀ x y S (Q Q':DK),(∀ d S',Q d S'->Q' d S')->f x y S Q->f x y S Q'
def xl (K:Ac) (f:y7) (r:R2):Prop:=∀ x y d e H S Q,zf K H d x->zf K H e y->zC K H S->f d e S (xI K H Q)->r x y H Q
def yk (f:y7) (ta tb:zp):zp:=fun L S Q=>ta L S λ x S1=>tb L S1 λ y S2=>f x y S2 Q
def yk.mo {f:y7}{ta tb:zp}(hf:xv f) (ha:zX ta) (hb:zX tb):zX (yk f ta tb):=fun L S Q Q' hq h=>
 ha L S _ _ (λ x S1 h=>hb L S1 _ _ (λ y S2 h=>hf x y S2 _ _ hq h) h) h
def mD {f:y7}{r:R2}{ta tb:zp}(hr:xl K f r) (hf:xv f) (ha:zX ta) (hb:zX tb) {Y:St}{H:Hp}{Q:VK}(h:zD K (yk f ta tb) Y H Q):pY r (zD K ta) (zD K tb) Y H Q:=by
 let#[L,S,r1,r2,h]:=h;exact zD.go ha r1 r2 h λ x S1 v H1 h1 q1 e1 p1=>?_;exact zD.go hb (r1.ext e1) p1 h1 λ y S2 w H2 h2 q2 e2 p2=>?_;show hr v w x y H2 S2 Q (zf.ext e2 x q1) q2 p2 (hf x y S2 _ _ (λ d S' z=>z.ext (e1.trans e2)) h2)
def sJ {a b:Expr}{op:Operator}{pos:Pos}{f:y7}{r:R2}{ta tb:zp}(ho:zZ X (binaryOp op) r) (hr:xl X.K f r) (hf:xv f) (ha:PD X a ta) (hb:PD X b tb):PD X (.BinOp a op b pos) (yk f ta tb):=
 #[yk.mo hf ha.mo hb.mo,PE.imp (V_ ho ha.pe hb.pe) λ _ _ _ h=>mD hr hf ha.mo hb.mo h]
def dJ {a b:Expr}{op:CmpOp}{pos:Pos}{f:y7}{r:R2}{ta tb:zp}(ho:zZ X (compareOp op) r) (hr:xl X.K f r) (hf:xv f) (ha:PD X a ta) (hb:PD X b tb) (hm:behindInMarks op b=false):PD X (.Compare a [op] [b] pos) (yk f ta tb):=
 #[yk.mo hf ha.mo hb.mo,PE.imp (Um ho ha.pe hb.pe hm) λ _ _ _ h=>mD hr hf ha.mo hb.mo h]
def vD (t:zp):yt:=fun L S Q=>t L S λ x S1=>match x with
 | .bl b=>Q b S1
 | _=>False
def vD.mo {t:zp}(h:zX t):wG (vD t):=fun L S Q Q' hq q=>h L S _ _ (λ d S' z=>by
 cases d <;> first
  | show hq _ _ z
  | show z) q
def sI {a b:Expr}{op:CmpOp}{pos:Pos}{f:y7}{r:R2}{ta tb:zp}(ho:zZ X (compareOp op) r) (hr:xl X.K f r) (hf:xv f) (ha:PD X a ta) (hb:PD X b tb) (hm:behindInMarks op b=false):yX X (.Compare a [op] [b] pos) (vD (yk f ta tb)):=by
 exact#[vD.mo (yk.mo hf ha.mo hb.mo),PT.imp (Vq ho ha.pe hb.pe hm) fun Y H Q h=>?_];let#[L,S,r1,r2,h]:=h;exact mD hr hf ha.mo hb.mo #[L,S,r1,r2,yk.mo hf ha.mo hb.mo L S _ _ (λ d S' z v H' a b c=>?_) h];cases d with
 | bl k=>simp![zf] at a;show#[k,a,z H' b c]
 | _=>show z.elim
def fI (C:Int->Int->Prop) (g:Int->Int->D):y7:=λ x y S Q=>match x,y with
 | .int i,.int j=>C i j/\Q (g i j) S
 | _,_=>False
def fI.mo {C:Int->Int->Prop}{g:Int->Int->D}:xv (fI C g):=λ x y S Q Q' hq h=>by
 unfold fI at h ⊢;split at h
 .show#[h.1,hq _ _ h.2]
 .show h.elim
def xH (g:Int->Int->D):y7:=λ x y S Q=>match x,y with
 | .int i,.int j=>Q (g i j) S
 | _,_=>False
def xH.mo {g:Int->Int->D}:xv (xH g):=λ x y S Q Q' hq h=>by
 unfold xH at h ⊢;split at h
 .show hq _ _ h
 .show h.elim
def fI.fits {C:Int->Int->Prop}{g:Int->Int->D}{g':Int->Int->V}(hg:∀ i j H,zf K H (g i j) (g' i j)):xl K (fI C g) (rI C g'):=λ x y d e H S Q h1 h2 h3 h=>by
 unfold fI at h;split at h
 .simp![zf] at h1 h2;show#[_,_,h1,h2,h.1,h.2 _ H (hg _ _ H) (Ext.refl H) h3]
 .show h.elim
def xH.fits {g:Int->Int->D}{g':Int->Int->V}(hg:∀ i j H,zf K H (g i j) (g' i j)):xl K (xH g) (vp g'):=λ x y d e H S Q h1 h2 h3 h=>by
 unfold xH at h;split at h
 .simp![zf] at h1 h2;show#[_,_,h1,h2,h _ H (hg _ _ H) (Ext.refl H) h3]
 .show h.elim
variable {a b:Expr}{ta tb:zp}{pos:Pos}
def Tw (ha:PD X a ta) (hb:PD X b tb):PD X (.BinOp a .Sub b pos) (yk (xH λ i j=>.int (i-j)) ta tb):=sJ SY (xH.fits λ _ _ _=>by simp![zf]) xH.mo ha hb
def TJ (ha:PD X a ta) (hb:PD X b tb):PD X (.BinOp a .Mod b pos) (yk (fI (λ _ j=>0<j) λ i j=>.int (i%j)) ta tb):=sJ Rl (fI.fits λ _ _ _=>by simp![zf]) fI.mo ha hb
def Sv (ha:PD X a ta) (hb:PD X b tb):PD X (.BinOp a .FloorDiv b pos) (yk (fI xC λ i j=>.int (i/j)) ta tb):=sJ Rv (fI.fits λ _ _ _=>by simp![zf]) fI.mo ha hb
def T5 (ha:PD X a ta) (hb:PD X b tb):PD X (.BinOp a .Pow b pos) (yk (fI rM λ i j=>.int (i ^ j.toNat)) ta tb):=sJ S_ (fI.fits λ _ _ _=>by simp![zf]) fI.mo ha hb
abbrev i9:y7:=xH λ i j=>.bl (decide (i<=j))
abbrev iB:y7:=xH λ i j=>.bl (decide (j<=i))
def fit_le:xl K i9 (vp λ i j=>.bl (decide (i<=j))):=xH.fits λ _ _ _=>by simp![zf]
def NQ:xl K iB (vp λ i j=>.bl (decide (j<=i))):=xH.fits λ _ _ _=>by simp![zf]
def Ss (ha:PD X a ta) (hb:PD X b tb):PD X (.Compare a [.GtE] [b] pos) (yk iB ta tb):=dJ Rt NQ xH.mo ha hb (sM _)
def UA (ha:PD X a ta) (hb:PD X b tb):yX X (.Compare a [.LtE] [b] pos) (vD (yk i9 ta tb)):=sI jE fit_le xH.mo ha hb (sM _)
end
section
variable {X:Cx}{K:Ac}{a b c:Expr}{ta tb:zp}{pos:Pos}
def nG (ta tb:zp):zp:=fun L S Q=>ta L S λ x S1=>match x with
 | .bl k=>if k=true then tb L S1 Q else Q (.bl false) S1
 | _=>False
def nA (ta tb:zp):zp:=fun L S Q=>ta L S λ x S1=>match x with
 | .bl k=>if k=true then Q (.bl true) S1 else tb L S1 Q
 | _=>False
def nB (ta:zp):zp:=fun L S Q=>ta L S λ x S1=>match x with
 | .bl k=>Q (.bl (!k)) S1
 | _=>False
def xF {c:Prop} [Decidable c] {A B A' B':Prop}(h1:A->A') (h2:B->B') (h:if c then A else B):if c then A' else B':=by
 by_cases q:c
 .rw[if_pos q] at h ⊢;show h1 h
 .rw[if_neg q] at h ⊢;show h2 h
def nG.mo (ha:zX ta) (hb:zX tb):zX (nG ta tb):=fun L S Q Q' hq h=>ha L S _ _ (λ x S1 z=>by
 cases x <;> first
  | show xF (hb L S1 _ _ hq) (hq _ _) z
  | show z) h
def nA.mo (ha:zX ta) (hb:zX tb):zX (nA ta tb):=fun L S Q Q' hq h=>ha L S _ _ (λ x S1 z=>by
 cases x <;> first
  | show xF (hq _ _) (hb L S1 _ _ hq) z
  | show z) h
def nB.mo (ha:zX ta):zX (nB ta):=fun L S Q Q' hq h=>ha L S _ _ (λ x S1 z=>by
 cases x <;> first
  | show hq _ _ z
  | show z) h
def T7 {op} {t:zp}(h:PD X a t):PD X (.BoolOp op [a] pos) t:=#[h.mo,Ua h.pe]
variable {Fh:List Expr}
theorem SK (ha:PD X a ta) (hb:PD X (.BoolOp .And (b::Fh) pos) tb):PD X (.BoolOp .And (a::b::Fh) pos) (nG ta tb):=by
 exact#[nG.mo ha.mo hb.mo,PE.imp (Ut ha.pe hb.pe) fun Y H Q hu=>?_];let#[L,S,r1,r2,h]:=hu;exact zD.go ha.mo r1 r2 h λ x S1 v H1 h1 q1 e1 p1=>?_;cases x with
 | bl k=>
  simp![zf] at q1;exact#[k,q1,xF (λ z=>?_) (λ z=>?_) h1]
  .show zD.go hb.mo (r1.ext e1) p1 z λ y S2 w H2 h2 q2 e2 p2=>h2 w H2 q2 (e1.trans e2) p2
  .show z _ H1 (by simp![zf]) e1 p1
 | _=>show h1.elim
theorem T6 (ha:PD X a ta) (hb:PD X (.BoolOp .Or (b::Fh) pos) tb):PD X (.BoolOp .Or (a::b::Fh) pos) (nA ta tb):=by
 exact#[nA.mo ha.mo hb.mo,PE.imp (VZ ha.pe hb.pe) fun Y H Q hu=>?_];let#[L,S,r1,r2,h]:=hu;exact zD.go ha.mo r1 r2 h λ x S1 v H1 h1 q1 e1 p1=>?_;cases x with
 | bl k=>
  simp![zf] at q1;exact#[k,q1,xF (λ z=>?_) (λ z=>?_) h1]
  .show z _ H1 (by simp![zf]) e1 p1
  .show zD.go hb.mo (r1.ext e1) p1 z λ y S2 w H2 h2 q2 e2 p2=>h2 w H2 q2 (e1.trans e2) p2
 | _=>show h1.elim
theorem T9 (ha:PD X a ta):PD X (.UnaryOp .Not a pos) (nB ta):=by
 exact#[nB.mo ha.mo,PE.imp (Ub ha.pe) fun Y H Q hu=>?_];let#[L,S,r1,r2,h]:=hu;exact zD.go ha.mo r1 r2 h λ x S1 v H1 h1 q1 e1 p1=>?_;cases x with
 | bl k=>
  simp![zf] at q1;show#[k,q1,h1 _ H1 (by simp![zf]) e1 p1]
 | _=>show h1.elim
def nj (t u:yt):yt:=fun L S Q=>t L S λ k S1=>if k=true then u L S1 Q else Q false S1
def nh (t u:yt):yt:=fun L S Q=>t L S λ k S1=>if k=true then Q true S1 else u L S1 Q
def ni (t:yt):yt:=fun L S Q=>t L S λ k S1=>Q (!k) S1
variable {t u:yt}
def nj.mo (h:wG t) (h':wG u):wG (nj t u):=fun L S _ _ hq z=>h L S _ _ (λ k S1 z=>xF (h' L S1 _ _ hq) (hq _ _) z) z
def nh.mo (h:wG t) (h':wG u):wG (nh t u):=fun L S _ _ hq z=>h L S _ _ (λ k S1 z=>xF (hq _ _) (h' L S1 _ _ hq) z) z
def ni.mo (h:wG t):wG (ni t):=fun L S _ _ hq z=>h L S _ _ (λ k S1 z=>hq _ _ z) z
structure sg (X:Cx) (e:Expr) (t:yt):Prop where
 mo:wG t
 pw:PW X e (xP X.K t)
def PW.imp {e:Expr}{t t':TT}(h:PW X e t) (hi:∀ Y H Q,t' Y H Q->t Y H Q):PW X e t':=λ whole Ff s Y H Q I q=>h whole Ff s Y H Q I (hi Y H Q q)
theorem sg.pt {e:Expr}{t:yt}(h:sg X e t):yX X e t:=#[h.mo,PW.pt h.pw]
def U4 (h:yX X a t):sg X (.BoolOp .And [a] pos) t:=#[h.mo,Vk h.pt]
def U3 (h:yX X a t):sg X (.BoolOp .Or [a] pos) t:=#[h.mo,Vi h.pt]
def dF (ha:yX X a t) (hb:sg X (.BoolOp .And (b::Fh) pos) u):sg X (.BoolOp .And (a::b::Fh) pos) (nj t u):=by
 exact#[nj.mo ha.mo hb.mo,PW.imp (Vl ha.pt hb.pw) fun Y H Q hu=>?_];let#[L,S,r1,r2,h]:=hu;exact xP.go ha.mo r1 r2 h λ k S1 H1 h1 e1 p1=>xF (λ z=>?_) (λ z=>z H1 e1 p1) h1;show xP.go hb.mo (r1.ext e1) p1 z λ y S2 H2 h2 e2 p2=>h2 H2 (e1.trans e2) p2
def dE (ha:yX X a t) (hb:sg X (.BoolOp .Or (b::Fh) pos) u):sg X (.BoolOp .Or (a::b::Fh) pos) (nh t u):=by
 exact#[nh.mo ha.mo hb.mo,PW.imp (Vj ha.pt hb.pw) fun Y H Q hu=>?_];let#[L,S,r1,r2,h]:=hu;exact xP.go ha.mo r1 r2 h λ k S1 H1 h1 e1 p1=>xF (λ z=>z H1 e1 p1) (λ z=>?_) h1;show xP.go hb.mo (r1.ext e1) p1 z λ y S2 H2 h2 e2 p2=>h2 H2 (e1.trans e2) p2
def U7 (ha:yX X a t):yX X (.UnaryOp .Not a pos) (ni t):=by
 exact#[ni.mo ha.mo,PT.imp (Vp ha.pt) fun Y H Q hu=>?_];let#[L,S,r1,r2,h]:=hu;show xP.go ha.mo r1 r2 h λ k S1 H1 h1 e1 p1=>h1 H1 e1 p1
def nD (t:yt) (ta tb:zp):zp:=fun L S Q=>t L S λ k S1=>if k=true then ta L S1 Q else tb L S1 Q
def nD.mo (h:wG t) (ha:zX ta) (hb:zX tb):zX (nD t ta tb):=fun L S _ _ hq z=>h L S _ _ (λ k S1 z=>xF (ha L S1 _ _ hq) (hb L S1 _ _ hq) z) z
def Sk (hc:yX X c t) (ha:PD X a ta) (hb:PD X b tb):PD X (.IfExp c a b pos) (nD t ta tb):=by
 exact#[nD.mo hc.mo ha.mo hb.mo,PE.imp (Ui hc.pt ha.pe hb.pe) fun Y H Q hu=>?_];let#[L,S,r1,r2,h]:=hu;exact xP.go hc.mo r1 r2 h λ k S1 H1 h1 e1 p1=>xF (λ z=>?_) (λ z=>?_) h1
 .show zD.go ha.mo (r1.ext e1) p1 z λ y S2 w H2 h2 q2 e2 p2=>h2 w H2 q2 (e1.trans e2) p2
 .show zD.go hb.mo (r1.ext e1) p1 z λ y S2 w H2 h2 q2 e2 p2=>h2 w H2 q2 (e1.trans e2) p2
def vj (d:D) (S:SS) (Q:Bool->SS->Prop):Prop:=match d with
 | .zr=>Q false S
 | .bl k=>Q k S
 | .int i=>Q (i != 0) S
 | .str x=>x.length<=sizeLine/\Q ((x.length:Int) != 0) S
 | .tup ds=>Q (!ds.isEmpty) S
 | .xn ds=>Q (!ds.isEmpty) S
 | .ref p=>match S p with
  | some (.lst ds)=>Q (!ds.isEmpty) S
  | some (.zB Ab)=>Q (!Ab.isEmpty) S
  | none=>False
 | .err _ _ _=>False
def au (ta:zp):yt:=fun L S Q=>ta L S λ x S1=>vj x S1 Q
def vj.mo {d:D}{S:SS}{Q Q':Bool->SS->Prop}(hq:∀ k S',Q k S'->Q' k S') (h:vj d S Q):vj d S Q':=by
 cases d with
 | str x=>show#[h.1,hq _ _ h.2]
 | err _ _ _=>show h.elim
 | ref p=>
  unfold vj at h ⊢;dsimp only at h ⊢;split at h
  .show hq _ _ h
  .show hq _ _ h
  .show h
 | _=>show hq _ _ h
theorem zj.isEmpty {H:Hp}{ds:List D}{xs:List V}(h:zj K H ds xs):ds.isEmpty=xs.isEmpty:=by
 have:=h.length;cases ds <;> cases xs <;> simp_all
def LD {α β:Type}{F:α->β->Prop}{xs:List α}{ys:List β}(h:Paired F xs ys):xs.isEmpty=ys.isEmpty:=by cases h <;> rfl
def vj.fits {H:Hp}{d:D}{v:V}{S:SS}{Q:Bool->Hp->Prop}(r:zf K H d v) (p:zC K H S) (h:vj d S (nq K H Q)):∃ k,gs K v H k/\Q k H:=by
 cases d with
 | zr=>simp![zf] at r;subst r;show#[false,rfl,h H (.refl H) p]
 | bl k=>simp![zf] at r;subst r;show#[k,rfl,h H (.refl H) p]
 | int i=>simp![zf] at r;subst r;show#[_,rfl,h H (.refl H) p]
 | str x=>simp![zf] at r;subst r;show#[_,#[h.1,rfl],h.2 H (.refl H) p]
 | err _ _ _=>show h.elim
 | tup ds=>
  simp![zf] at r;let#[a,xs,rfl,r1,r2]:=r;show#[_,.inr (.inl #[xs,r1,by rw[r2.isEmpty]]),h H (.refl H) p]
 | xn ds=>
  simp![zf] at r;let#[a,xs,rfl,r1,r2]:=r;show#[_,.inl #[xs,r1.sq,by rw[r2.isEmpty]],h H (.refl H) p]
 | ref a=>
  simp![zf] at r;subst r;unfold vj at h;dsimp only at h;split at h
  .rename_i ds e;let#[xs,e1,r2]:=p a _ e;show#[_,.inl #[xs,zG.of e1,by rw[r2.isEmpty]],h H (.refl H) p]
  .rename_i Ab e;let#[xs,e1,r2]:=p a _ e;show#[_,.inr (.inr #[xs,e1,by rw[LD r2]]),h H (.refl H) p]
  .show h.elim
def U5 (ha:PD X a ta) (he:∀ whole,isTrue a X.env whole=(do let v <- whole;standAt a.pos;holding [v] (truthy v))):yX X a (au ta):=by
 exact#[fun L S Q Q' hq h=>ha.mo L S _ _ (λ x S1 z=>vj.mo hq z) h,PT.imp (Vo ha.pe he) fun Y H Q hu=>?_];let#[L,S,r1,r2,h]:=hu;exact zD.go ha.mo r1 r2 h λ x S1 v H1 h1 q1 e1 p1=>?_;show vj.fits q1 p1 (vj.mo (λ k S' z=>z.ext e1) h1)
def lW:ya:=λ _ S Q=>Q [] S
def qg (te:zp) (tr:ya):ya:=fun L S Q=>te L S λ x S1=>tr L S1 λ xs S2=>Q (x::xs) S2
variable {e:Expr}{es:List Expr}{te:zp}{tA:ya}
def qg.mo (h:zX te) (h':sj tA):sj (qg te tA):=fun L S _ _ hq z=>h L S _ _ (λ x S1 z=>h' L S1 _ _ (λ xs S2 z=>hq _ _ z) z) z
def Tr:yO X [] lW:=#[λ _ _ _ _ hq h=>hq _ _ h,PA.imp sL fun Y H Q #[_,_,_,r2,h]=>h [] H .nil (.refl H) r2]
def Ts (ha:PD X e te) (hr:yO X es tA) (hs:AE X e es):yO X (e::es) (qg te tA):=by
 exact#[qg.mo ha.mo hr.mo,PA.imp (uQ ha.pe hr.pa hs) fun Y H Q hu=>?_];let#[L,S,r1,r2,h]:=hu;exact zD.go ha.mo r1 r2 h λ x S1 v H1 h1 q1 e1 p1=>?_;exact xQ.go hr.mo (r1.ext e1) p1 h1 λ xs S2 w H2 h2 q2 e2 p2=>?_;show h2 (v::w) H2 (.cons (zf.ext e2 x q1) q2) (e1.trans e2) p2
def aE (t:ya):zp:=fun L S Q=>t L S λ ds S1=>ds.length<=sizeLine/\Q (.tup ds) S1
def aJ (t:ya):zp:=fun L S Q=>t L S λ ds S1=>ds.length<=sizeLine/\∀ p,S1 p=none->Q (.ref p) (ups S1 p (.lst ds))
def Tv {k} (h:yO X es tA):PD X (.Tuple es k pos) (aE tA):=by
 exact#[fun L S _ _ hq z=>h.mo L S _ _ (λ ds S1 z=>#[z.1,hq _ _ z.2]) z,PE.imp (VW h.pa) fun Y H Q hu=>?_];let#[L,S,r1,r2,h']:=hu;exact xQ.go h.mo r1 r2 h' λ ds S1 xs H1 h1 q1 e1 p1=>#[by rw[<- q1.length];show h1.1,λ p hp=>?_];exact h1.2 _ _ ?_ (e1.trans (.new hp _)) (p1.new hp);simp![zf];show#[p,xs,rfl,zR.of yf,zj.ext (.new hp _) ds q1]
theorem TV (h:yO X es tA):PD X (.List es pos) (aJ tA):=by
 exact#[fun L S _ _ hq z=>h.mo L S _ _ (λ ds S1 z=>#[z.1,λ p hp=>hq _ _ (z.2 p hp)]) z,PE.imp (Ud h.pa) fun Y H Q hu=>?_];let#[L,S,r1,r2,h']:=hu;exact xQ.go h.mo r1 r2 h' λ ds S1 xs H1 h1 q1 e1 p1=>#[by rw[<- q1.length];show h1.1,λ p hp=>?_];exact h1.2 p (p1.none hp) _ _ (by simp![zf]) (e1.trans (.new hp _)) ?_;show p1.ups (.new hp _) #[xs,yf,zj.ext (.new hp _) ds q1]
def wq:y7:=λ x y S Q=>match x,y with
 | .tup ds,.int i=>match zM ds i with
  | some d=>Q d S
  | none=>False
 | .xn ds,.int i=>match zM ds i with
  | some d=>Q d S
  | none=>False
 | .ref p,.int i=>match S p with
  | some (.lst ds)=>match zM ds i with
   | some d=>Q d S
   | none=>False
  | _=>False
 | _,_=>False
def wq.mo:xv wq:=λ x y S Q Q' hq h=>by
 unfold wq at h ⊢;split at h
 .skip
  split at h
  .show hq _ _ h
  .show h
 .skip
  split at h
  .show hq _ _ h
  .show h
 .skip
  split at h
  .skip
   split at h
   .show hq _ _ h
   .show h
  .show h.elim
 .show h.elim
theorem zj.zM {H:Hp}{ds:List D}{xs:List V}{i:Int}{d:D}(h:zj K H ds xs) (e:L2.zM ds i=↑d):∃ x,L2.zM xs i=↑x/\zf K H d x:=by
 unfold L2.zM at e ⊢;rw[h.length] at e;cases q:wM xs.length i with
 | none=>rw[q] at e;cases e
 | some j=>
  rw[q] at e;show h.get e
def wq.fits:xl K wq (da K):=λ x y d e H S Q h1 h2 h3 h=>by
 unfold wq at h;split at h
 .split at h
  .rename_i q;simp![zf] at h1 h2;let#[a,xs,rfl,r1,r2]:=h1;let#[x',e1,e2]:=r2.zM q;show .inr (.inl #[a,xs,_,x',rfl,h2,r1,e1,h x' H e2 (.refl H) h3])
  .show h.elim
 .split at h
  .rename_i q;simp![zf] at h1 h2;let#[a,xs,rfl,r1,r2]:=h1;let#[x',e1,e2]:=r2.zM q;show .inl #[a,xs,_,x',rfl,h2,r1.sq,e1,h x' H e2 (.refl H) h3]
  .show h.elim
 .split at h
  .rename_i q0;split at h
   .rename_i q;simp![zf] at h1 h2;subst h1;let#[xs,r1,r2]:=h3 _ _ q0;let#[x',e1,e2]:=r2.zM q;show .inl #[_,xs,_,x',rfl,h2,zG.of r1,e1,h x' H e2 (.refl H) h3]
   .show h.elim
  .show h.elim
 .show h.elim
def T_ (ha:PD X a ta) (hb:PD X b tb) (hs:ZG b):PD X (.Subscript a b pos) (yk wq ta tb):=
 #[yk.mo wq.mo ha.mo hb.mo,PE.imp (Ug OQ ha.pe hb.pe hs) λ _ _ _ h=>mD wq.fits wq.mo ha.mo hb.mo h]
abbrev xk:=List D->SS->DK->Prop
def vh (f:xk):Prop:=∀ ds S (Q Q':DK),(∀ d S',Q d S'->Q' d S')->f ds S Q->f ds S Q'
def uu (K:Ac) (f:xk) (r:List V->Hp->VK->Prop):Prop:=∀ xs ds H S Q,zj K H ds xs->zC K H S->f ds S (xI K H Q)->r xs H Q
def xr (f:xk) (t:ya):zp:=fun L S Q=>t L S λ ds S1=>f ds S1 Q
def xr.mo {f:xk}(hf:vh f) (h:sj tA):zX (xr f tA):=fun L S _ _ hq z=>h L S _ _ (λ ds S1 z=>hf ds S1 _ _ hq z) z
def fK {f:xk}{r:List V->Hp->VK->Prop}(hf:vh f) (hr:uu K f r) (h:sj tA) {Y:St}{H:Hp}{Q:VK}(hu:zD K (xr f tA) Y H Q):mJ r (xQ K tA) Y H Q:=by
 let#[L,S,r1,r2,h']:=hu;exact xQ.go h r1 r2 h' λ ds S1 xs H1 h1 q1 e1 p1=>?_;show hr xs ds H1 S1 Q q1 p1 (hf ds S1 _ _ (λ d S' z=>z.ext e1) h1)
def uP {f:xk}{r:List V->Hp->VK->Prop}{e:Expr}(h:PE X e (mJ r (xQ X.K tA))) (hf:vh f) (hr:uu X.K f r) (ha:sj tA):PD X e (xr f tA):=
 #[xr.mo hf ha,PE.imp h λ _ _ _ hu=>fK hf hr ha hu]
def zP (d:D) (S:SS):Option (List D):=match d with
 | .tup ds=>↑ds
 | .xn ds=>↑ds
 | .ref p=>match S p with
  | some (.lst ds)=>↑ds
  | _=>none
 | _=>none
theorem zP.sq {H:Hp}{S:SS}{d:D}{v:V}{ds:List D}(r:zf K H d v) (p:zC K H S) (e:zP d S=↑ds):∃ a xs,v=.ref a/\(zG K H a xs\/zR K H a xs)/\zj K H ds xs:=by
 unfold zP at e;split at e
 .cases e;simp![zf] at r;let#[a,xs,h1,h2,h3]:=r;show#[a,xs,h1,.inr h2,h3]
 .cases e;simp![zf] at r;let#[a,xs,h1,h2,h3]:=r;show#[a,xs,h1,.inl h2.sq,h3]
 .split at e
  .rename_i q;cases e;simp![zf] at r;subst r;let#[xs,h1,h2]:=p _ _ q;show#[_,xs,rfl,.inl (zG.of h1),h2]
  .cases e
 .cases e
def zj.one {H:Hp}{d:D}{xs:List V}(h:zj K H [d] xs):∃ x,xs=[x]/\zf K H d x:=by
 simp![zj] at h;let#[x,r,rfl,h2,rfl]:=h;show#[x,rfl,h2]
def zj.two {H:Hp}{d d':D}{xs:List V}(h:zj K H [d,d'] xs):∃ x y,xs=[x,y]/\zf K H d x/\zf K H d' y:=by
 simp![zj] at h;let#[x,r,rfl,h2,y,r',rfl,h3,rfl]:=h;show#[x,y,rfl,h2,h3]
def uf:xk:=λ ds S Q=>match ds with
 | [d]=>match zP d S with
  | some ds=>Q (.int ds.length) S
  | none=>match d with
   | .str z=>z.length<=sizeLine/\Q (.int z.length) S
   | _=>False
 | _=>False
def uf.mo:vh uf:=λ ds S Q Q' hq h=>by
 unfold uf at h ⊢;split at h
 .skip
  split at h
  .show hq _ _ h
  .split at h
   .show#[h.1,hq _ _ h.2]
   .show h.elim
 .show h.elim
abbrev Vg (K:Ac):List V->Hp->VK->Prop:=λ xs H Q=>(∃ p ys,xs=[.ref p]/\(zG K H p ys\/zR K H p ys)/\Q (.int ys.length) H)\/(∃ z,xs=[.str z]/\z.length<=sizeLine/\Q (.int z.length) H)
def uf.fits:uu K uf (Vg K):=λ xs ds H S Q h0 h2 h=>by
 unfold uf at h;split at h
 .let#[x,hx,h1]:=h0.one;subst hx;split at h
  .rename_i e;let#[a,ys,rfl,q,r]:=zP.sq h1 h2 e;exact .inl #[a,ys,rfl,q,?_];rw[<- r.length];show h _ H (by simp![zf]) (.refl H) h2
  .split at h
   .simp![zf] at h1;subst h1;show .inr #[_,rfl,h.1,h.2 _ H (by simp![zf]) (.refl H) h2]
   .show h.elim
 .show h.elim
def ud:xk:=λ ds S Q=>match ds with
 | [d]=>match zP d S with
  | some ds=>∀ p,S p=none->Q (.ref p) (ups S p (.lst ds))
  | none=>False
 | _=>False
def ud.mo:vh ud:=λ ds S Q Q' hq h=>by
 unfold ud at h ⊢;split at h
 .skip
  split at h
  .show λ p hp=>hq _ _ (h p hp)
  .show h.elim
 .show h.elim
def ud.fits:uu K ud (λ xs H Q=>∃ p ys,xs=[.ref p]/\(zG K H p ys\/zR K H p ys)/\∀ l,H l=none->Q (.ref l) (upd H l (.lst ys))):=λ xs ds H S Q h0 h2 h=>by
 unfold ud at h;split at h
 .let#[x,hx,h1]:=h0.one;subst hx;split at h
  .rename_i e;let#[a,ys,rfl,q,r]:=zP.sq h1 h2 e;exact#[a,ys,rfl,q,λ l hl=>?_];show h l (h2.none hl) _ _ (by simp![zf]) (.new hl _) (h2.ups (.new hl _) #[ys,yf,zj.ext (.new hl _) _ r])
  .show h.elim
 .show h.elim
def v_:xk:=λ ds S Q=>match ds with
 | [.tup ds]=>Q (.tup ds) S
 | [.xn ds]=>Q (.tup ds) S
 | [.ref p]=>match S p with
  | some (.lst ds)=>Q (.tup ds) S
  | _=>False
 | _=>False
def v_.mo:vh v_:=λ ds S Q Q' hq h=>by
 unfold v_ at h ⊢;split at h
 .show hq _ _ h
 .show hq _ _ h
 .skip
  split at h
  .show hq _ _ h
  .show h.elim
 .show h.elim
def v_.fits:uu K v_ (λ xs H Q=>∃ p ys,xs=[.ref p]/\((zG K H p ys/\∀ l,H l=none->Q (.ref l) (upd H l (.tup ys)))\/(zR K H p ys/\Q (.ref p) H))):=λ xs ds H S Q h0 h2 h=>by
 unfold v_ at h;split at h
 .let#[x,hx,h1]:=h0.one;subst hx;have JM:=h1;simp![zf] at h1;let#[a,xs,rfl,r1,r2]:=h1;show#[a,xs,rfl,.inr #[r1,h _ H JM (.refl H) h2]]
 .let#[x,hx,h1]:=h0.one;subst hx;simp![zf] at h1;let#[a,xs,rfl,r1,r2]:=h1;exact#[a,xs,rfl,.inl #[r1.sq,λ l hl=>h _ _ ?_ (.new hl _) (h2.new hl)]];simp![zf];show#[l,xs,rfl,zR.of yf,zj.ext (.new hl _) _ r2]
 .let#[x,hx,h1]:=h0.one;subst hx;split at h
  .rename_i e;simp![zf] at h1;subst h1;let#[xs,r1,r2]:=h2 _ _ e;exact#[_,xs,rfl,.inl #[zG.of r1,λ l hl=>h _ _ ?_ (.new hl _) (h2.new hl)]];simp![zf];show#[l,xs,rfl,zR.of yf,zj.ext (.new hl _) _ r2]
  .show h.elim
 .show h.elim
def vB (g:Int->Int->D):xk:=λ ds S Q=>match ds with
 | [.int i,.int j]=>Q (g i j) S
 | _=>False
def vB.mo {g:Int->Int->D}:vh (vB g):=λ ds S Q Q' hq h=>by
 unfold vB at h ⊢;split at h
 .show hq _ _ h
 .show h.elim
def vB.fits {g:Int->Int->D}{g':Int->Int->V}(hg:∀ i j H,zf K H (g i j) (g' i j)):uu K (vB g) (λ xs H Q=>∃ i j,xs=[.int i,.int j]/\Q (g' i j) H):=λ xs ds H S Q h0 h2 h=>by
 unfold vB at h;split at h
 .let#[x,y,hx,h1,h3]:=h0.two;subst hx;simp![zf] at h1 h3;subst h1 h3;show#[_,_,rfl,h _ H (hg _ _ H) (.refl H) h2]
 .show h.elim
def zam:y7:=λ x y S Q=>match x,y with
 | .ref p,.ref q=>match S p,S q with
  | some (.lst ds),↑(.lst es)=>ds.length+es.length<=sizeLine/\∀ r,S r=none->Q (.ref r) (ups S r (.lst (ds++es)))
  | _,_=>False
 | _,_=>False
def rm (to te:zp):zp:=fun L S Q=>to L S λ x S1=>match x with
 | .ref p=>(∃ ds,S1 p=↑(.lst ds))/\te L S1 λ y S2=>match S2 p with
  | some (.lst ds)=>ds.length<sizeLine/\Q .zr (ups S2 p (.lst (ds++[y])))
  | _=>False
 | _=>False
def rm.mo {to te:zp}(h:zX to) (h':zX te):zX (rm to te):=fun L S Q Q' hq z=>h L S _ _ (λ x S1 z=>by
 cases x with
 | ref p=>
  exact#[z.1,h' L S1 _ _ (λ y S2 w=>?_) z.2];split at w
  .show#[w.1,hq _ _ w.2]
  .show w.elim
 | _=>show z) z
theorem SH {o e:Expr}{to te:zp}{e0:Expr}(Dp:PE X e0 (jj X.K "list" di (zD X.K to) (ji (zD X.K te) jg))) (h:zX to) (h':zX te):PD X e0 (rm to te):=by
 exact#[rm.mo h h',PE.imp Dp fun Y H Q hu=>?_];let#[L,S,r1,r2,z]:=hu;exact zD.go h r1 r2 z λ x S1 v H1 h1 q1 e1 p1=>?_;cases x with
 | ref p=>
  let#[#[ds,hd],h1]:=h1;simp![zf] at q1;subst q1;let#[xs,g1,g2]:=p1 _ _ hd;exact#[.inl #[rfl,xs,zG.of g1],?_];exact zD.go h' (r1.ext e1) p1 h1 λ y S2 w H2 h2 q2 e2 p2=>?_;split at h2
  .rename_i HK e3;let#[FA,g3,g4]:=p2 _ _ e3;exact#[p,FA,w,rfl,rfl,g3,by rw[<- g4.length];show h2.1,?_];have e4:Ext H2 (upd H2 p (.lst (FA++[w]))):=.lst g3 _;show h2.2 _ _ (by simp![zf]) ((e1.trans e2).trans e4) (p2.ups e4 #[_,yf,zj.ext e4 _ (g4.snoc q2)])
  .show h2.elim
 | _=>show h1.elim
end
structure tK where
 nx:zY->SS->Prop
 rt:DK
 bk:zY->SS->Prop:=λ _ _=>False
 ct:zY->SS->Prop:=λ _ _=>False
abbrev z_:=tK->zY->SS->Prop
structure tK.Le (E E':tK):Prop where
 nx:∀ L S,E.nx L S->E'.nx L S
 rt:∀ d S,E.rt d S->E'.rt d S
 bk:∀ L S,E.bk L S->E'.bk L S
 ct:∀ L S,E.ct L S->E'.ct L S
def ur (t:z_):Prop:=∀ E E' L S,tK.Le E E'->t E L S->t E' L S
def vC (K:Ac) (H:Hp) (D:Ends):tK:=#[xq K H D.nx,xI K H D.rt,xq K H D.bk,xq K H D.ct]
theorem vC.ext {K:Ac}{H H':Hp}{D:Ends}(e:Ext H H'):(vC K H D).Le (vC K H' D):=#[λ _ _ h=>xq.ext e h,λ _ _ h=>xI.ext e h,λ _ _ h=>xq.ext e h,λ _ _ h=>xq.ext e h]
def k_ (K:Ac) (t:z_):TS:=λ D Y H=>∃ L S,ym K H L Y/\zC K H S/\t (vC K H D) L S
structure xu (X:Cx) (st:Stmt) (t:z_):Prop where
 mo:ur t
 ps:PS X st (k_ X.K t)
structure wR (X:Cx) (st:List Stmt) (t:z_):Prop where
 mo:ur t
 ps:xO X st (k_ X.K t)
section
variable {X:Cx}{K:Ac}{st:Stmt}{Fh:List Stmt}{t u:z_}{pos:Pos}{e:Expr}{te:zp}
def iQ:z_:=λ E L S=>E.nx L S
def qf (t u:z_):z_:=λ E L S=>t { E with nx:=u E } L S
def qf.mo (h:ur t) (h':ur u):ur (qf t u):=λ E E' L S hE z=>h { E with nx:=u E } { E' with nx:=u E' } L S #[fun L S q=>h' E E' L S hE q,hE.rt,hE.bk,hE.ct] z
def UH:wR X [] iQ:=#[λ _ _ _ _ hE h=>hE.nx _ _ h,xO.imp Vr λ D Y H #[L,S,r1,r2,h]=>h Y H r1 (.refl H) r2]
def UG (h:xu X st t):wR X [st] t:=#[h.mo,dq h.ps]
def UI (h:xu X st t) (h':wR X Fh u):wR X (st::Fh) (qf t u):=by
 exact#[qf.mo h.mo h'.mo,xO.imp (Vs h.ps h'.ps) λ D Y H hu=>?_];let#[L,S,r1,r2,z]:=hu;exact#[L,S,r1,r2,h.mo { vC X.K H D with nx:=u (vC X.K H D) } _ L S #[fun L' S' q Y' H' q1 q2 q3=>?_,λ _ _ q=>q,λ _ _ q=>q,λ _ _ q=>q] z];show#[L',S',q1,q3,h'.mo _ _ L' S' (vC.ext q2) q]
def nF (te:zp):z_:=λ E L S=>te L S λ _ S1=>E.nx L S1
def UU (he:PD X e te) (hs:swapsWith e none pos.line X.env=pure false):xu X (.Expr e pos) (nF te):=by
 exact#[λ E E' L S hE z=>he.mo L S _ _ (λ _ _ q=>hE.nx _ _ q) z,PS.imp (Vz he.pe hs) λ D Y H hu=>?_];let#[L,S,r1,r2,z]:=hu;show zD.go he.mo r1 r2 z λ x S1 v H1 h1 q1 e1 p1=>h1 Y H1 (r1.ext e1) e1 p1
def iP (te:zp):z_:=λ E L S=>te L S E.rt
def UO (he:PD X e te):xu X (.Return ↑e pos) (iP te):=by
 exact#[λ E E' L S hE z=>he.mo L S _ _ (λ _ _ q=>hE.rt _ _ q) z,PS.imp (Vv he.pe) λ D Y H hu=>?_];let#[L,S,r1,r2,z]:=hu;show zD.go he.mo r1 r2 z λ x S1 v H1 h1 q1 e1 p1=>h1 v H1 q1 e1 p1
def iR (c:yt) (t u:z_):z_:=λ E L S=>c L S λ k S1=>if k=true then t E L S1 else u E L S1
def US {c:Expr}{p q:List Stmt}{tc:yt}(hc:yX X c tc) (h:wR X p t) (h':wR X q u):xu X (.If c p q pos) (iR tc t u):=by
 exact#[λ E E' L S hE z=>hc.mo L S _ _ (λ k S1 z=>xF (h.mo _ _ L S1 hE) (h'.mo _ _ L S1 hE) z) z,PS.imp (Vx hc.pt h.ps h'.ps) λ D Y H hu=>?_];let#[L,S,r1,r2,z]:=hu;exact xP.go hc.mo r1 r2 z λ k S1 H1 h1 e1 p1=>xF (λ z=>?_) (λ z=>?_) h1
 .show#[L,S1,r1.ext e1,p1,h.mo _ _ L S1 (vC.ext e1) z]
 .show#[L,S1,r1.ext e1,p1,h'.mo _ _ L S1 (vC.ext e1) z]
abbrev yS:=D->zY->SS->(zY->SS->Prop)->Prop
abbrev x_:=List D->zY->SS->(zY->SS->Prop)->Prop
def n_ (t:yS):Prop:=∀ d L S (Q Q':zY->SS->Prop),(∀ L S,Q L S->Q' L S)->t d L S Q->t d L S Q'
def ZK (t:x_):Prop:=∀ d L S (Q Q':zY->SS->Prop),(∀ L S,Q L S->Q' L S)->t d L S Q->t d L S Q'
def pW (K:Ac) (t:yS):TG:=λ v Y H Q=>∃ d L S,zf K H d v/\ym K H L Y/\zC K H S/\t d L S (xq K H Q)
def fJ (K:Ac) (t:x_):sf:=λ v Y H Q=>∃ d L S,zj K H d v/\ym K H L Y/\zC K H S/\t d L S (xq K H Q)
structure vH (X:Cx) (e:Expr) (t:yS):Prop where
 mo:n_ t
 pg:PG X e (pW X.K t)
structure pH (X:Cx) (es:List Expr) (t:x_):Prop where
 mo:ZK t
 pg:tF X es (fJ X.K t)
def PG.imp {e:Expr}{t t':TG}(h:PG X e t) (hi:∀ v Y H Q,t' v Y H Q->t v Y H Q):PG X e t':=λ Ff s Y H v w Q I r q=>h Ff s Y H v w Q I r (hi v Y H Q q)
def tF.imp {e:List Expr}{t t':sf}(h:tF X e t) (hi:∀ v Y H Q,t' v Y H Q->t v Y H Q):tF X e t':=λ Ff s Y H v w Q I r q=>h Ff s Y H v w Q I r (hi v Y H Q q)
def hName (i:Nat):yS:=λ d L S Q=>Q (L.set i ↑d) S
def Tj {e:Expr}{i:Nat}(h:PG X e (qZ i)):vH X e (hName i):=
 #[λ _ _ _ _ _ hq z=>hq _ _ z,PG.imp h λ v Y H Q #[d,L,S,r1,r2,r3,z]=>z _ H (r2.set i r1) (.refl H) r3]
def ij:x_:=λ ds L S Q=>ds=[]/\Q L S
def ik (t:yS) (u:x_):x_:=λ ds L S Q=>match ds with
 | d::r=>t d L S fun L' S'=>u r L' S' Q
 | []=>False
def Tf:pH X [] ij:=by
 exact#[λ _ _ _ _ _ hq z=>#[z.1,hq _ _ z.2],tF.imp VI λ v Y H Q hu=>?_];let#[d,L,S,r1,r2,r3,z1,z2]:=hu;subst z1;simp![zj] at r1;show#[r1,z2 Y H r2 (.refl H) r3]
def Tg {e:Expr}{es:List Expr}{t:yS}{u:x_}(h:vH X e t) (h':pH X es u) (hs:(assignEach (e::es) X.env).map (·.2)=assign e X.env::(assignEach es X.env).map (·.2)):pH X (e::es) (ik t u):=by
 exact#[λ ds L S Q Q' hq z=>?_,tF.imp (VJ h.pg h'.pg hs) λ v Y H Q hu=>?_]
 .cases ds with
  | nil=>show z
  | cons d r=>show h.mo d L S _ _ (fun L' S' z=>h'.mo r L' S' _ _ hq z) z
 .let#[ds,L,S,r1,r2,r3,z]:=hu;cases ds with
  | nil=>show z.elim
  | cons d r=>
   simp![zj] at r1;let#[x,xs,rfl,q1,q2]:=r1;exact#[x,xs,rfl,d,L,S,q1,r2,r3,h.mo d L S _ _ (fun L' S' z Y' H' g1 g2 g3=>?_) z];show#[r,L',S',zj.ext g2 r q2,g1,g3,h'.mo r L' S' _ _ (fun L2 S2 z2=>xq.ext g2 z2) z]
def qX (n:Nat) (t:x_):yS:=λ d L S Q=>match d with
 | .tup ds=>ds.length=n/\t ds L S Q
 | _=>False
def Th {e:Expr}{n:Nat}{t:x_}(h:PG X e (bK X.K n (fJ X.K t))) (hm:ZK t):vH X e (qX n t):=by
 exact#[λ d L S Q Q' hq z=>?_,PG.imp h λ v Y H Q hu=>?_]
 .cases d with
  | tup ds=>show#[z.1,hm ds L S _ _ hq z.2]
  | _=>show z
 .let#[d,L,S,r1,r2,r3,z]:=hu;cases d with
  | tup ds=>
   simp![zf] at r1;let#[a,xs,rfl,q1,q2]:=r1;show#[a,xs,rfl,q1,by rw[<- q2.length];show z.1,ds,L,S,q2,r2,r3,z.2]
  | _=>show z.elim
def wO (te:zp) (g:yS):z_:=λ E L S=>te L S λ x S1=>g x L S1 E.nx
def wO.mo {g:yS}(h:zX te) (h':n_ g):ur (wO te g):=λ E E' L S hE z=>h L S _ _ (λ x S1 q=>h' x L S1 _ _ (fun L S q=>hE.nx _ _ q) q) z
def X4 {g:yS}(h:zX te) (h':n_ g) {D:Ends}{Y:St}{H:Hp}(hu:k_ K (wO te g) D Y H):pZ (zD K te) (pW K g) D Y H:=by
 let#[L,S,r1,r2,z]:=hu;exact zD.go h r1 r2 z λ x S1 v H1 h1 q1 e1 p1=>?_;show#[x,L,S1,q1,r1.ext e1,p1,h' x L S1 _ _ (fun L S q=>xq.ext e1 q) h1]
def UX {tg e:Expr}{g:yS}(he:PD X e te) (hg:vH X tg g) (hs:swapsWithSole [tg] e pos.line X.env=pure false) (hw:swappedStores [tg] e X.env=pure none)
  (h1:(assignEach [tg] X.env).map (·.2)=[assign tg X.env]):xu X (.Assign [tg] e pos) (wO te g):=
 #[wO.mo he.mo hg.mo,PS.imp (du he.pe hg.pg hs hw h1) λ _ _ _ hu=>X4 he.mo hg.mo hu]
def UN {e0:Stmt}{i:Nat}(h:PS X e0 (pZ (zD X.K te) (qZ i))) (hm:zX te):xu X e0 (wO te (hName i)):=by
 exact#[wO.mo hm λ _ _ _ _ _ hq z=>hq _ _ z,PS.imp h λ D Y H hu=>?_];let#[L,S,r1,r2,z]:=hu;exact zD.go hm r1 r2 z λ x S1 v H1 h1 q1 e1 p1=>?_;show h1 _ H1 ((r1.ext e1).set i q1) e1 p1
end
structure pS where
 items:List D
 keep:SS->Prop
abbrev xZ:=zY->SS->(pS->SS->Prop)->Prop
def kF (t:xZ):Prop:=∀ L S (Q Q':pS->SS->Prop),(∀ I S',Q I S'->Q' I S')->t L S Q->t L S Q'
def ma (K:Ac) (H1:Hp) (J:It) (I:pS):Prop:=∀ (i:Nat) (H:Hp) (S:SS),Ext H1 H->zC K H S->I.keep S->
 (∀ d,I.items[i]?=↑d->J.go i H/\∀ x H',J.q8 i H x H'->Ext H H'/\zC K H' S/\zf K H' d x)/\(I.items.length<=i->J.stop i H)
def Mn (K:Ac) (H:Hp) (R:It->Hp->Prop):pS->SS->Prop:=λ I S1=>∀ J H1,Ext H H1->zC K H1 S1->ma K H1 J I->R J H1
def wx (K:Ac) (t:xZ):TI:=fun Y H R=>∃ L S,ym K H L Y/\zC K H S/\t L S (Mn K H R)
structure uq (X:Cx) (tg iter:Expr) (t:xZ):Prop where
 mo:kF t
 pi:PI X tg iter (wx X.K t)
def PI.imp {X:Cx}{tg e:Expr}{t t':TI}(h:PI X tg e t) (hi:∀ Y H Q,t' Y H Q->t Y H Q):PI X tg e t':=λ Ff s Y H Q I q=>h Ff s Y H Q I (hi Y H Q q)
section
variable {X:Cx}{K:Ac}{tg e:Expr}{pos:Pos}
theorem zj.at {H:Hp}{ds:List D}{xs:List V}{i:Nat}{d:D}{x:V}(r:zj K H ds xs) (h1:ds[i]?=↑d) (h2:xs[i]?=↑x):zf K H d x:=by
 let#[y,e1,e2]:=r.get h1;rw[h2] at e1;cases e1;show e2
def vo (lo:Int) (n:Nat):List D:=(List.range n).map λ(k:Nat)=>D.int (lo+(k:Int))
def Vc {lo:Int}{n i:Nat}{d:D}(h:(vo lo n)[i]?=↑d):i<n/\d=.int (lo+(i:Int)):=by
 unfold vo at h;rw[AR] at h;cases q:(List.range n)[i]? with
 | none=>rw[q] at h;cases h
 | some j=>
  rw[q] at h;let#[h1,h2]:=AU.mp q;rw[Cv] at h1;rw[DT] at h2;subst h2;cases h;show#[h1,rfl]
def Vb (lo:Int) (n:Nat):(vo lo n).length=n:=by unfold vo;rw[AA,Cv]
def ma.range {H1:Hp}{lo:Int}{n:Nat}:ma K H1 (kH lo n) #[vo lo n,λ _=>True]:=λ i H S _ x2 _=>by
 exact#[λ d hd=>?_,λ hl=>by rw[show (pS.mk (vo lo n) λ _=>True).items=vo lo n from rfl,Vb] at hl;show hl];let#[h1,rfl]:=Vc hd;exact#[h1,λ x H' q=>?_];let#[rfl,rfl]:=q;show#[.refl _,x2,by simp![zf]]
def jZ (t:ya):xZ:=fun L S R=>t L S λ ds S1=>match ds with
 | [.int j]=>(-(2 ^ 62)<=j/\j<2 ^ 62)/\R #[vo 0 j.toNat,λ _=>True] S1
 | _=>False
variable {tA:ya}
def Td (h:PI X tg e (bB (xQ X.K tA))) (hm:sj tA):uq X tg e (jZ tA):=by
 exact#[fun L S Q Q' hq z=>hm L S _ _ (λ ds S1 z=>?_) z,PI.imp h fun Y H R hu=>?_]
 .split at z
  .show#[z.1,hq _ _ z.2]
  .show z.elim
 .let#[L,S,r1,r2,z]:=hu;exact xQ.go hm r1 r2 z λ ds S1 xs H1 h1 q1 e1 p1=>?_;split at h1
  .let#[x,rfl,q]:=q1.one;simp![zf] at q;subst q;show#[_,rfl,h1.1.1,h1.1.2,h1.2 _ H1 e1 p1 .range]
  .show h1.elim
def nE (ti:xZ) (g:yS) (tb:z_):z_:=λ E L S=>ti L S λ I S1=>∃ W:Nat->zY->SS->Prop,W 0 L S1/\(∀ i L S,W i L S->I.keep S)/\
 (∀ i d L S,I.items[i]?=↑d->W i L S->g d L S fun L2 S2=>tb { E with nx:=W (i+1),ct:=W (i+1),bk:=E.nx } L2 S2)/\∀ L S,W I.items.length L S->E.nx L S
def nE.mo {ti:xZ}{g:yS}{tb:z_}(hi:kF ti) (hg:n_ g) (hb:ur tb):ur (nE ti g tb):=λ E E' L S hE z=>hi L S _ _ (λ I S1 #[W,w0,wk,ws,wd]=>by
 exact#[W,w0,wk,λ i d L S hd hw=>hg d L S _ _ (fun L2 S2 z=>hb { E with nx:=W (i+1),ct:=W (i+1),bk:=E.nx } { E' with nx:=W (i+1),ct:=W (i+1),bk:=E'.nx } L2 S2 #[λ _ _ q=>q,hE.rt,hE.nx,λ _ _ q=>q] z) (ws i d L S hd hw),fun L S q=>hE.nx _ _ (wd L S q)]) z
def UT {iter:Expr}{body:List Stmt}{ti:xZ}{g:yS}{tb:z_}(hp:PassesOwn (model X.prog X.w) X.A X.env X.xe) (hc:X.calm=true) (hi:uq X tg iter ti) (hg:vH X tg g) (hb:wR X body tb)
  (hs:∀ x,foldedSetIterable iter X.env x=pure x):xu X (.For tg iter body [] pos) (nE ti g tb):=by
 exact#[nE.mo hi.mo hg.mo hb.mo,PS.imp (Vy hp hc hi.pi hg.pg hb.ps hs) λ D Y H hu=>?_];let#[L,S,r1,r2,z]:=hu;exact#[L,S,r1,r2,hi.mo L S _ _ (λ I S1 hW J H1 e1 p1 rep=>?_) z];let#[W,w0,wk,ws,wd]:=hW;exact#[λ i m Y H2=>m=I.items.length-i/\i<=I.items.length/\Ext H1 H2/\∃ L S,ym X.K H2 L Y/\zC X.K H2 S/\W i L S,#[_,rfl,A4 _,.refl _,L,S1,r1.ext e1,p1,w0],?_];rintro i m Y2 H2 ⟨rfl,HF,x2,L2,S2,q1,q2,w2⟩;let#[g1,g2]:=rep i H2 S2 x2 q2 (wk i L2 S2 w2);by_cases hl:i<I.items.length
 .have hd:I.items[i]?=↑I.items[i]:=by simp[hl]
  let#[go,yl]:=g1 _ hd;exact .inr #[go,fun Y' H'=>Ext H1 H'/\∃ L S,ym X.K H' L Y'/\zC X.K H' S/\W (i+1) L S,fun Y' H' q=>#[_,⋯,rfl,hl,q],λ x H3 hy=>?_];let#[x3,p3,d3]:=yl x H3 hy;exact#[_,L2,S2,d3,q1.ext x3,p3,hg.mo _ L2 S2 _ _ (fun L4 S4 z4 Y4 H4 a1 a2 a3=>?_) (ws i _ L2 S2 hd w2)];exact#[L4,S4,a1,a3,hb.mo _ _ L4 S4 #[fun L5 S5 w5 Y5 H5 b1 b2 b3=>#[((x2.trans x3).trans a2).trans b2,L5,S5,b1,b3,w5],λ _ _ q=>xI.ext (((e1.trans x2).trans x3).trans a2) q,λ _ _ q=>xq.ext (((e1.trans x2).trans x3).trans a2) q,fun L5 S5 w5 Y5 H5 b1 b2 b3=>#[((x2.trans x3).trans a2).trans b2,L5,S5,b1,b3,w5]] z4]
 .have e:i=I.items.length:=⋯;subst e;show .inl #[g2 (Ak _),wd L2 S2 w2 Y2 H2 q1 (e1.trans x2) q2]
abbrev wb:=List D->SS->DK->Prop
def pK (sp:wb):Prop:=∀ ds S (Q Q':DK),(∀ d S',Q d S'->Q' d S')->sp ds S Q->sp ds S Q'
def uL (K:Ac) (sp:wb):Sp:=λ vs H Q _=>∃ ds S,zj K H ds vs/\zC K H S/\sp ds S (xI K H Q)
def lY (sp:wb) (t:ya):zp:=fun L S Q=>t L S λ ds S1=>sp ds S1 Q
def SF {sp:wb}{E:XK}{e:Expr}(h:PE X e (fT (uL X.K sp) [] E (xQ X.K tA))) (hs:pK sp) (hm:sj tA):PD X e (lY sp tA):=by
 exact#[fun L S Q Q' hq z=>hm L S _ _ (λ ds S1 z=>hs ds S1 _ _ hq z) z,PE.imp h fun Y H Q hu=>?_];let#[L,S,r1,r2,z]:=hu;exact xQ.go hm r1 r2 z λ ds S1 xs H1 h1 q1 e1 p1=>?_;rw[CC];show#[ds,S1,q1,p1,hs ds S1 _ _ (λ d S' q=>xI.ext e1 q) h1]
def uz (N:List Str) (ds:List D):zY:=ds.map some++List.replicate (N.length-ds.length) none
theorem ym.init {H:Hp}{N:List Str}{ds:List D}{vs:List V}(r:zj K H ds vs):ym K H (uz N ds) (start N vs):=by
 have hl:=r.length;exact#[by unfold uz L2.start;simp[hl],λ i d h=>?_];unfold uz at h;have hi:i<ds.length:=by
  rcases BN i ds.length with q | q
  .show q
  .rw[Ct (by exists q),DY] at h;split at h <;> cases h
 rw[Cs (by exists hi),AR] at h;cases q:ds[i]? with
 | none=>rw[q] at h;cases h
 | some d'=>
  rw[q] at h;cases h;let#[x,e1,e2]:=r.get q;exact#[x,?_,e2];unfold L2.start;rw[Cs (by exists by lia),AR,e1];rfl
def NF {P:Program}{w:World}{K:Ac}{mg:Au}{base:Heap}{x qual:Str}{st:Stmt}{f:Addr}{fd:FuncData}{N ps:List Str}{k:Nat}{sp:wb}(F:vI K x qual st f fd) (Sc:vK N ps (zL st))
  (len:∀ ds S Q,sp ds S Q->ds.length=ps.length)
  (Fp:∀ (Ai:Value) (A:Around) (outer:List Env) (s:Shared) (H:Hp) (E:XK),yb k (A.deeper (envOfC qual (zL st) s.heap.objs.size f Ai))->
   ∃ t,wR (yM yz P w K mg base N qual (zL st) f Ai A outer s H E).xg (xj st) t/\∀ ds S Q,sp ds S Q->t { nx:=λ _ S'=>Q .zr S',rt:=Q } (uz N ds) S):xf P w K mg base yz (k+1) f fd ps (uL K sp):=by
 exact F.ok Sc (λ vs H Q E h=>?_) λ Ai A outer s H vs Q E hr h=>?_
 .let#[ds,S,r1,_,z]:=h;rw[<- r1.length];show len _ _ _ z
 .let#[ds,S,r1,r2,z]:=h;let#[t,ht,hq]:=Fp Ai A outer s H E hr;exact#[_,ht.ps,uz N ds,S,.init r1,r2,ht.mo { nx:=λ _ S'=>xI K H Q .zr S',rt:=xI K H Q } _ _ _ #[fun L S' q Y' H' _ b c=>q .zr H' (by simp![zf]) b c,λ _ _ q=>q,λ _ _ q=>False.elim q,λ _ _ q=>False.elim q] (hq ds S _ z)]
def vU (pick:List (Option Nat)) (L:zY):zY:=pick.map λ o=>o.bind λ i=>(L[i]?).join
theorem ym.pick {H:Hp}{L:zY}{Y:St}(r:ym K H L Y) (pick:List (Option Nat)):ym K H (vU pick L) (vT pick Y):=by
 exact#[by unfold vU vT;simp,λ i d h=>?_];unfold vU at h;rw[AR] at h;cases q:pick[i]? with
 | none=>rw[q] at h;cases h
 | some o=>
  rw[q] at h;cases o with
  | none=>simp at h
  | some j=>
   simp![Option.map_some,BS,Option.some.injEq] at h;have hj:L[j]?=↑↑d:=by
    cases q2:L[j]? with
    | none=>rw[q2] at h;cases h
    | some o2=>rw[q2] at h;simp![Option.join_some] at h;rw[h]
   let#[v,e1,e2]:=r.2 j d hj;exact#[v,?_,e2];unfold vT;rw[AR,q];simp[e1]
def qo (L L':zY):Prop:=L.length=L'.length/\∀ (i:Nat) d,L[i]?=↑↑d->L'[i]?=↑↑d
def qo.rep {H:Hp}{L L':zY}{Y:St}(h:qo L L') (r:ym K H L' Y):ym K H L Y:=#[h.1.trans r.1,λ i d q=>r.2 i d (h.2 i d q)]
structure pJ (X:Cx) (ifs:List Expr) (t:yt):Prop where
 mo:wG t
 pf:PF X ifs (xP X.K t)
def PF.imp {ifs:List Expr}{t t':TT}(h:PF X ifs t) (hi:∀ Y H Q,t' Y H Q->t Y H Q):PF X ifs t':=λ Ff s Y H Q I q=>h Ff s Y H Q I (hi Y H Q q)
def ar:yt:=λ _ S Q=>Q true S
def Tq:pJ X [] ar:=#[λ _ _ _ _ hq z=>hq _ _ z,PF.imp VS λ _ H _ #[_,_,_,r2,z]=>z H (.refl H) r2]
def Tn {c:Expr}{t:yt}(h:yX X c t):pJ X [c] t:=#[h.mo,VQ h.pt]
end
end L3
namespace L2
open PySem PySem.Spec PyProof.Rows
def Nj (K:Ac) (tl:TE):TI:=fun Y H R=>tl Y H λ x H1=>∃ a,x=.ref a/\(((∃ xs,zG K H1 a xs)/\R (ZN K a) H1)\/((∃ xs,zR K H1 a xs)/\R (ZM K a) H1))
def VE {X:Cx}{tg l:Expr}{tl:TE}(hl:PE X l tl):PI X tg l (Nj X.K tl):=by
 intro Ff s Y H R I h;exact zw (hl Ff s Y H _ I h) λ v s1 #[x,H1,I1,r1,a,hx,q1]=>?_;subst hx;cases r1;have new:∀ b∈[s1.heap.objs.size],vJ X Ff H1 b:=λ b hb=>by
  obtain rfl:b=s1.heap.objs.size:=AZ.mp hb;show I1.oX (Ak _) (I1.zm.fresh (Ak _))
 rcases q1 with ⟨⟨xs,hq⟩,q⟩ | ⟨⟨xs,hq⟩,q⟩
 .let#[Aa,_,pl,_]:=I1.list hq;show wpAny_pyIter_list pl.isList #[_,_,_,_,H1,rfl,I1.kept (t':=s1.toks) λ b o eo=>gV _ eo,XE a _,#[_,AJ _ rfl,rfl,rfl],new,q]
 .let#[Aa,_,pt,_]:=I1.tuple hq;show wpAny_pyIter_tuple (show s1.heap.IsTuple a Aa.toArray from pt) #[_,_,_,_,H1,rfl,I1.kept (t':=s1.toks) λ b o eo=>gV _ eo,XB a _,#[_,AJ _ rfl,rfl,rfl],new,q]
def range_any (bs:List Bool):(List.range bs.length).any (λ i=>bs.getD i true)=bs.any id:=by
 rw[B2,Bi,Bi];constructor
 .rintro⟨i,hi,h⟩;have HF:=A2.mp hi;show#[bs[i],CH HF,by simpa [HF] using h]
 .rintro⟨b,hb,h⟩;let#[i,hi,rfl]:=Cp.mp hb;show#[i,A2.mpr hi,by simpa [hi] using h]
theorem Lm {bs:List Bool}{Aa:Ae}(r:Vals (bs.map V.bl) Aa) {i:Nat}{v:Value}(h:Aa.toArray[i]?=↑v):v=.bool (bs.getD i true):=by
 have hl:=r.length;rw[AA] at hl;have h':Aa[i]?=↑v:=by exists h
 have hi:i<bs.length:=by
  rw[hl];rcases BN i Aa.length with q | q
  .show q
  .rw[List.getElem?_eq_none q] at h';cases h'
 let#[u,e1,e2]:=r.get (i:=i) (x:=.bl bs[i]) (by simp[hi]);rw[h'] at e1;cases e1;have:v=.bool bs[i]:=e2;rw[this];simp[hi]
section
variable {X:Cx}
theorem La (hc:X.calm=true):yx X (.builtin "any") (λ xs H Q=>∃ p,∃ bs:List Bool,xs=[.ref p]/\zG X.K H p (bs.map V.bl)/\Q (.bl (bs.any id)) H):=by
 intro Ff s Y H xs us Q I r h;let#[p,bs,rfl,hq,q]:=h;let#[u,rfl,ru]:=vals1 r;cases ru;let#[Aa,rv,pl,hz]:=I.list hq;have hl:=rv.length;rw[AA] at hl;have AB:p<s.heap.objs.size:=by let#[o,n,e,_]:=pl;show Aq e
 exact call_any_walk (wpAny_pyIter_list pl.isList ?_);exact#[s.heap.objs.size,_,_,_,_,_,λ i=>bs.getD i true,rfl,Walks.list (A:=X.A.in1) (I.ok.hd hc) s.heap.objs.size p (AH AB) Aa.toArray,#[#[_,AJ _ rfl,rfl,rfl],pl.isList.push _],λ i v s' Q' E' hv hq'=>?_,λ h' tk hk=>?_]
 .rw[Lm rv hv];show zaH hq'
 .have e:(List.range Aa.toArray.size).any (λ i=>bs.getD i true)=bs.any id:=by rw[AD,<- hl,range_any]
  rw[e];show#[.bl _,H,I.kept (t':=tk) λ b o eo=>hk b o (by exists AH (Aq eo)) (gV _ eo),rfl,q]
end
end L2
namespace L3
open PySem PySem.Spec L2
open PyProof.Rows hiding St
structure Bt (mg:Au):Prop where
 len:mg "len"=none
 range:mg "range"=none
 any:mg "any"=none
 all:mg "all"=none
 sorted:mg "sorted"=none
 isinstance:mg "isinstance"=none
 bool:mg "bool"=none
 int:mg "int"=none
 str:mg "str"=none
 list:mg "list"=none
 tuple:mg "tuple"=none
 max:mg "max"=none
 min:mg "min"=none
section
variable {X:Cx}{a e:Expr}{es:List Expr}{te:zp}{pos p:Pos}
def rn {N':List Str}{pick:List (Option Nat)}{scope IX:Scope}{N:List Str}(hE:X.env.scope=IX:=by rfl) (hN:X.N=N:=by rfl) (h1:scope.kind=.function:=by rfl)
  (h2:scope.names.all (λ y=>decide (scope.names.lookup y.1=↑y.2))=true:=by decide +kernel)
  (h4:scope.names.all (λ y=>!decide (y.2=.free)||(decide (IX.names.lookup y.1=↑.cell)||decide (IX.names.lookup y.1=↑.free)))=true:=by decide +kernel)
  (h5:pick.length=N'.length:=by rfl) (h6:qL N N' pick scope=true:=by decide +kernel):sA X N' pick scope:=by
 exact#[h1,λ y hy=>of_decide_eq_true (CF.mp h2 y hy),λ y hy hf=>?_,h5,by rw[hN];show h6];have:=CF.mp h4 y hy;rw[zaA hf] at this;rw[hE];exists this
def Ti (i:Nat) {x:Str}(hN:X.N.Nodup) (hi:X.N[i]?=↑x) (hx:Loc X.env.scope x) (hf:X.fn x=true\/X.env.scope.names.lookup x=↑.local):vH X (.Name x pos) (hName i):=
 Tj (VN hN hi hx hf)
def dG {k:Nat}{t:x_}{n:Nat}(h:pH X es t) (hc:X.calm=true) (hn:(assignEach es X.env).length=n) (AK:(assignEach es X.env).findIdx? (·.1)=none):vH X (.Tuple es k pos) (qX n t):=
 Th (VL hc h.pg hn AK) h.mo
def UM (i:Nat) {x:Str}{pos':Pos}(hN:X.N.Nodup) (he:PD X e te) (hi:X.N[i]?=↑x) (hx:Loc X.env.scope x) (hs:swapsWith e ↑(.Name x pos') pos.line X.env=pure false)
  (hf:X.fn x=true\/X.env.scope.names.lookup x=↑.local):xu X (.Assign [.Name x pos'] e pos) (wO te (hName i)):=
 UN (dr hN hi hx he.pe hs hf) he.mo
def jY (te:zp):xZ:=fun L S R=>te L S λ x S1=>match x with
 | .tup ds=>R #[ds,λ _=>True] S1
 | .xn ds=>R #[ds,λ _=>True] S1
 | .ref p=>match S1 p with
  | some (.lst ds)=>R #[ds,λ S=>S p=↑(.lst ds)] S1
  | _=>False
 | _=>False
def Ta {tg:Expr}(h:PD X e te):uq X tg e (jY te):=by
 exact#[fun L S Q Q' hq z=>h.mo L S _ _ (λ x S1 z=>?_) z,?_]
 .cases x with
  | ref p=>
   dsimp only at z ⊢;split at z
   .show hq _ _ z
   .show z.elim
  | xn ds=>show hq _ _ z
  | tup ds=>show hq _ _ z
  | _=>show z
 .exact PI.imp (VE h.pe) fun Y H R hu=>?_
  let#[L,S,r1,r2,z]:=hu;exact zD.go h.mo r1 r2 z λ x S1 v H1 h1 q1 e1 p1=>?_;cases x with
  | tup ds=>
   simp![zf] at q1;let#[a,xs,rfl,g1,g2]:=q1;exact#[a,rfl,.inr #[#[xs,g1],h1 _ H1 e1 p1 λ i H2 S2 x1 x2 _=>#[λ d hd=>?_,λ hl=>#[xs,x1.mL g1,by rw[<- g2.length];show hl]]]];let#[y,hy,_]:=g2.get hd;exact#[#[xs,y,x1.mL g1,hy],λ x H' q=>?_];let#[rfl,q]:=q;show#[.refl _,x2,(zj.ext x1 ds g2).at hd (q xs (x1.mL g1))]
  | ref p=>
   dsimp only at h1;split at h1
   .rename_i ds e2;simp![zf] at q1;subst q1;let#[xs0,g1,_]:=p1 _ _ e2;exact#[p,rfl,.inl #[#[xs0,zG.of g1],h1 _ H1 e1 p1 λ i H2 S2 x1 x2 hk=>?_]];let#[xs,g3,g4]:=x2 _ _ hk;exact#[λ d hd=>?_,λ hl=>#[xs,zG.of g3,by rw[<- g4.length];show hl]];let#[y,hy,_]:=g4.get hd;exact#[#[xs,y,zG.of g3,hy],λ x H' q=>?_];let#[rfl,q]:=q;show#[.refl _,x2,g4.at hd (q xs (zG.of g3))]
   .show h1.elim
  | xn ds=>
   simp![zf] at q1;let#[a,xs,rfl,g1,g2]:=q1;exact#[a,rfl,.inl #[#[xs,g1.sq],h1 _ H1 e1 p1 λ i H2 S2 x1 x2 _=>#[λ d hd=>?_,λ hl=>#[xs,(x1.mM g1).sq,by rw[<- g2.length];show hl]]]];let#[y,hy,_]:=g2.get hd;exact#[#[xs,y,(x1.mM g1).sq,hy],λ x H' q=>?_];let#[rfl,q]:=q;show#[.refl _,x2,(zj.ext x1 ds g2).at hd (q xs (x1.mM g1).sq)]
  | _=>show h1.elim
end
end L3
namespace L4
open PySem PySem.W PyProof.Rows
def yr {α:Type}(n:Nat) (lt:Nat->Nat->Bool):KasT α->(α->Prop)->Prop
 | .ret a,Q=>Q a
 | .ask i j k,Q=>i<n/\j<n/\yr n lt (k (lt i j)) Q
theorem yr.mono {α:Type}{n:Nat}{lt:Nat->Nat->Bool}{Q Q':α->Prop}(hq:∀ a,Q a->Q' a):∀ {t:KasT α},yr n lt t Q->yr n lt t Q'
 | .ret _,h=>hq _ h
 | .ask _ _ _,h=>#[h.1,h.2.1,yr.mono hq h.2.2]
theorem yr.bind {α β:Type}{n:Nat}{lt:Nat->Nat->Bool}{f:α->KasT β}{Q:β->Prop}:∀ {t:KasT α},yr n lt t (λ a=>yr n lt (f a) Q)->yr n lt (t.bind f) Q
 | .ret _,h=>h
 | .ask _ _ _,h=>#[h.1,h.2.1,yr.bind h.2.2]
section
variable {n:Nat}{lt:Nat->Nat->Bool}
def Le (lt:Nat->Nat->Bool) (a b:Nat):Prop:=lt b a=false
structure Ord (lt:Nat->Nat->Bool):Prop where
 tr:∀ a b c,Le lt a b->Le lt b c->Le lt a c
 as:∀ a b,lt a b=true->Le lt a b
def Ord.refl (o:Ord lt) (a:Nat):Le lt a a:=by
 cases h:lt a a with
 | false=>show h
 | true=>show o.as a a h
def xc (n:Nat) (p:Array Nat):Prop:=p.Perm (List.range n).toArray
theorem xc.size {p:Array Nat}(h:xc n p):p.size=n:=by rw[Array.Perm.size_eq h];simp
theorem xc.below {p:Array Nat}(h:xc n p) {i:Nat}(hi:i<n):p.getD i 0<n:=by
 have hs:=h.size;have hm:p.getD i 0∈p:=by
  rw[DS,Bu ⋯];show Array.getElem_mem ⋯
 have:p.getD i 0∈(List.range n).toArray:=(Array.Perm.mem_iff h).mp hm;exists this
def oV {p q:Array Nat}{i j:Nat}(h:p[i]?=q[j]?):p.getD i 0=q.getD j 0:=by rw[DS,DS,h]
def vf (lt:Nat->Nat->Bool) (p:Array Nat) (k:Nat):Prop:=∀ i j,i<=j->j<k->Le lt (p.getD i 0) (p.getD j 0)
def tL (lt:Nat->Nat->Bool) (p:Array Nat) (k:Nat):Prop:=∀ i j,i<=j->j<k->Le lt (p.getD j 0) (p.getD i 0)
def vf.next (o:Ord lt) {p:Array Nat}{k:Nat}(h:vf lt p k) (hk:1<=k) (hl:Le lt (p.getD (k-1) 0) (p.getD k 0)):vf lt p (k+1):=λ i j A6 hj=>by
 by_cases E7:j<k
 .show h i j A6 E7
 .have e:j=k:=⋯;subst e;by_cases hi:i=j
  .subst hi;show o.refl _
  .show o.tr _ _ _ (h i (j-1) ⋯ ⋯) hl
def tL.next (o:Ord lt) {p:Array Nat}{k:Nat}(h:tL lt p k) (hk:1<=k) (hl:Le lt (p.getD k 0) (p.getD (k-1) 0)):tL lt p (k+1):=λ i j A6 hj=>by
 by_cases E7:j<k
 .show h i j A6 E7
 .have e:j=k:=⋯;subst e;by_cases hi:i=j
  .subst hi;show o.refl _
  .show o.tr _ _ _ hl (h i (j-1) ⋯ ⋯)
theorem gg (o:Ord lt) {p:Array Nat}(hp:xc n p):∀ (f a:Nat),1<=a->a+f<=n->vf lt p a->
  yr n lt (kas_asc p f a) λ m=>a<=m/\m<=a+f/\vf lt p m/\(m=a+f\/lt (p.getD m 0) (p.getD (m-1) 0)=true)
 | 0,a,_,_,hs=>#[Ak _,Ak _,hs,.inl rfl]
 | f+1,a,h1,h2,hs=>by
  exact#[hp.below ⋯,hp.below ⋯,?_];cases c:lt (p.getD a 0) (p.getD (a-1) 0) with
  | true=>show#[Ak _,⋯,hs,.inr c]
  | false=>
   exact yr.mono ?_ (gg o hp f (a+1) ⋯ ⋯ (hs.next o h1 c));rintro m ⟨g1,g2,g3,g4⟩;show#[⋯,⋯,g3,g4.imp (λ e=>⋯) id]
def om {p:Array Nat}(hp:xc n p) (i j:Nat):xc n (kas_rev p i j):=Array.Perm.trans (mirror_perm _ _ _ _) hp
theorem oo {p:Array Nat}(hp:xc n p) {i j:Nat}(hj:j<=n) (k:Nat):(kas_rev p i j).getD k 0=if i<=k/\k<j then p.getD (i+j-1-k) 0 else p.getD k 0:=by
 have e:=getElem?_mirror_all (xs:=p) (i:=i) (j:=j) (by rw[hp.size];show hj) k;split
 .rename_i h;rw[if_pos h] at e;show oV e
 .rename_i h;rw[if_neg h] at e;show oV e
def rev_eq (o:Ord lt) {p:Array Nat}(hp:xc n p) {i j:Nat}(hj:j<=n) (he:∀ a b,i<=a->a<j->i<=b->b<j->Le lt (p.getD a 0) (p.getD b 0)) (k:Nat):
  Le lt ((kas_rev p i j).getD k 0) (p.getD k 0)/\Le lt (p.getD k 0) ((kas_rev p i j).getD k 0):=by
 rw[oo hp hj];split
 .rename_i h;show#[he _ _ ⋯ ⋯ h.1 h.2,he _ _ h.1 h.2 ⋯ ⋯]
 .show#[o.refl _,o.refl _]
def tL.of_eq (o:Ord lt) {p q:Array Nat}{k:Nat}(h:tL lt p k) (e:∀ k,Le lt (q.getD k 0) (p.getD k 0)/\Le lt (p.getD k 0) (q.getD k 0)):tL lt q k:=λ i j A6 hj=>
 o.tr _ _ _ (e j).1 (o.tr _ _ _ (h i j A6 hj) (e i).2)
def gT (lt:Nat->Nat->Bool) (p:Array Nat) (m q:Nat):Prop:=∀ a b,m-(q+1)<=a->a<m->m-(q+1)<=b->b<m->Le lt (p.getD a 0) (p.getD b 0)
theorem lT (o:Ord lt):∀ (f:Nat) (p:Array Nat) (m q:Nat),xc n p->1<=m->m+f<=n->tL lt p m->q+1<=m->gT lt p m q->
  yr n lt (kas_desc f p m q) λ r=>xc n r.1/\m<=r.2.1/\r.2.1<=m+f/\tL lt r.1 r.2.1/\r.2.2+1<=r.2.1/\gT lt r.1 r.2.1 r.2.2
 | 0,p,m,q,hp,_,_,hd,hq,hb=>#[hp,Ak _,Ak _,hd,hq,hb]
 | f+1,p,m,q,hp,h1,h2,hd,hq,hb=>by
  have one:∀ p':Array Nat,gT lt p' (m+1) 0:=λ p' a b a1 a2 b1 b2=>by
   have:a=b:=⋯;subst this;show o.refl _
  exact#[hp.below ⋯,hp.below ⋯,?_];cases c:lt (p.getD m 0) (p.getD (m-1) 0) with
  | true=>
   dsimp only;rw[if_pos rfl];have hl:=o.as _ _ c;by_cases h0:q>0
   .rw[if_pos h0];have e:=rev_eq o hp (i:=m-(q+1)) (j:=m) ⋯ hb;have Ia:=om hp (m-(q+1)) m;exact yr.mono ?_ (lT o f _ (m+1) 0 Ia ⋯ ⋯ ((hd.of_eq o e).next o h1 (o.tr _ _ _ (e m).1 (o.tr _ _ _ hl (e (m-1)).2))) ⋯ (one _));rintro r ⟨a1,a2,a3,a4⟩;show#[a1,⋯,⋯,a4]
   .rw[if_neg h0];exact yr.mono ?_ (lT o f _ (m+1) 0 hp ⋯ ⋯ (hd.next o h1 hl) ⋯ (one _));rintro r ⟨a1,a2,a3,a4⟩;show#[a1,⋯,⋯,a4]
  | false=>
   dsimp only;rw[if_neg B_];exact#[hp.below ⋯,hp.below ⋯,?_];cases d:lt (p.getD (m-1) 0) (p.getD m 0) with
   | true=>show#[hp,Ak _,(by change m<=m+(f+1);lia),hd,hq,hb]
   | false=>
    dsimp only;rw[if_neg B_];exact yr.mono ?_ (lT o f _ (m+1) (q+1) hp ⋯ ⋯ (hd.next o h1 d) ⋯ λ a b a1 a2 b1 b2=>?_)
    .rintro r ⟨a1,a2,a3,a4⟩;show#[a1,⋯,⋯,a4]
    .by_cases ha:a=m
     .by_cases Il:b=m
      .subst ha;subst Il;show o.refl _
      .subst ha;show o.tr _ _ _ d (hb (a-1) b ⋯ ⋯ ⋯ ⋯)
     .by_cases Il:b=m
      .subst Il;show o.tr _ _ _ (hb a (b-1) ⋯ ⋯ ⋯ ⋯) c
      .show hb a b ⋯ ⋯ ⋯ ⋯
theorem fR (o:Ord lt) {p:Array Nat}{m:Nat}(hp:xc n p) (h1:1<=m) (h2:m<=n) (hd:tL lt p m):yr n lt (kas_tail3 m n p) λ r=>xc n r.2/\r.1<=n/\vf lt r.2 r.1:=by
 exact yr.bind (yr.mono ?_ (gg o (om hp 0 m) (n-m) m h1 ⋯ λ i j A6 hj=>?_))
 .rintro k ⟨a1,a2,a3,_⟩;show#[om hp 0 m,⋯,a3]
 .rw[oo hp h2,oo hp h2,if_pos #[A4 _,⋯],if_pos #[A4 _,hj]];show hd _ _ ⋯ ⋯
theorem aA (o:Ord lt) {p:Array Nat}{m:Nat}(hp:xc n p) (h1:1<=m) (h2:m<n) (hd:tL lt p m) (hl:lt (p.getD m 0) (p.getD (m-1) 0)=true):yr n lt (kas_descPart m n p) λ r=>xc n r.2/\r.1<=n/\vf lt r.2 r.1:=by
 exact yr.bind (yr.mono ?_ (lT o (n-(m+1)) p (m+1) 0 hp ⋯ ⋯ (hd.next o h1 (o.as _ _ hl)) ⋯ λ a b a1 a2 b1 b2=>?_))
 .rintro⟨p',m',q'⟩ ⟨a1,a2,a3,a4,a5,a6⟩;dsimp only at a1 a2 a3 a4 a5 a6 ⊢;by_cases h0:q'>0
  .rw[if_pos h0];show fR o (om a1 _ _) ⋯ ⋯ (a4.of_eq o (rev_eq o a1 (i:=m'-(q' + 1)) (j:=m') ⋯ a6))
  .rw[if_neg h0];show fR o a1 ⋯ ⋯ a4
 .have:a=b:=⋯;subst this;show o.refl _
theorem M6 (o:Ord lt) {p:Array Nat}(hp:xc n p) (h1:1<=n):yr n lt (kas_count n p) λ r=>xc n r.2/\r.1<=n/\vf lt r.2 r.1:=by
 exact yr.bind (yr.mono ?_ (gg o hp (n-1) 1 (Ak _) ⋯ λ i j A6 hj=>?_))
 .rintro m ⟨a1,a2,a3,a4⟩;by_cases hm:m=n
  .rw[if_pos (by simp[hm])];show#[hp,⋯,a3]
  .rw[if_neg (by simp[hm])];have hl:lt (p.getD m 0) (p.getD (m-1) 0)=true:=a4.resolve_left ⋯;by_cases h2:m>1
   .rw[if_pos h2];exact#[hp.below ⋯,hp.below ⋯,?_];cases c:lt (p.getD 0 0) (p.getD (m-1) 0) with
    | true=>show#[hp,⋯,a3]
    | false=>
     dsimp only;rw[if_neg B_];have all:∀ a b,0<=a->a<m->0<=b->b<m->Le lt (p.getD a 0) (p.getD b 0):=λ a b _ ha _ hb=>
      o.tr _ _ _ (a3 a (m-1) ⋯ ⋯) (o.tr _ _ _ c (a3 0 b ⋯ hb))
     have e:=rev_eq o hp (i:=0) (j:=m) ⋯ all;exact aA o (om hp 0 m) ⋯ ⋯ (λ i j A6 hj=>o.tr _ _ _ (e j).1 (o.tr _ _ _ (all _ _ (A4 _) hj (A4 _) ⋯) (e i).2)) ?_;rw[oo hp ⋯,oo hp ⋯,if_neg ⋯,if_pos ⋯];cases q:lt (p.getD m 0) (p.getD (0+m-1-(m-1)) 0) with
     | true=>rfl
     | false=>
      have:=o.tr _ _ _ (all (m-1) (0+m-1-(m-1)) (A4 _) ⋯ (A4 _) ⋯) q;unfold Le at this;rw[this] at hl;cases hl
   .rw[if_neg h2];have e:m=1:=⋯;subst e;exact aA o hp (Ak _) ⋯ (λ i j A6 hj=>?_) hl;have:i=j:=⋯;subst this;show o.refl _
 .have:i=j:=⋯;subst this;show o.refl _
theorem j7 {p:Array Nat}{k:Nat}(hp:xc n p) (hk:k<n) (hs:vf lt p k) (o:Ord lt):∀ (f l r:Nat),r-l<=f->l<=r->r<=k->(∀ i,i<l->Le lt (p.getD i 0) (p.getD k 0))->(∀ i,r<=i->i<k->lt (p.getD k 0) (p.getD i 0)=true)->
  yr n lt (kas_place p k f l r) λ m=>m<=k/\(∀ i,i<m->Le lt (p.getD i 0) (p.getD k 0))/\(∀ i,m<=i->i<k->lt (p.getD k 0) (p.getD i 0)=true)
 | 0,l,r,h0,h1,h2,ha,hb=>by
  have:l=r:=⋯;subst this;show#[h2,ha,hb]
 | f+1,l,r,h0,h1,h2,ha,hb=>by
  unfold kas_place;by_cases CO:l≥r
  .rw[if_pos CO];have:l=r:=⋯;subst this;show#[h2,ha,hb]
  .rw[if_neg CO];exact#[hp.below hk,hp.below ⋯,?_];cases c:lt (p.getD k 0) (p.getD ((l+r)/2) 0) with
   | true=>
    dsimp only;rw[if_pos rfl];exact j7 hp hk hs o f l ((l+r)/2) ⋯ ⋯ ⋯ ha λ i hi D5=>?_;cases q:lt (p.getD k 0) (p.getD i 0) with
    | true=>rfl
    | false=>
     have:=o.tr _ _ _ (hs ((l+r)/2) i hi D5) q;unfold Le at this;rw[this] at c;cases c
   | false=>
    dsimp only;rw[if_neg B_];exact j7 hp hk hs o f ((l+r)/2+1) r ⋯ ⋯ h2 (λ i hi=>?_) hb;show o.tr _ _ _ (hs i ((l+r)/2) ⋯ ⋯) c
theorem Zv (o:Ord lt):∀ (f:Nat) (p:Array Nat) (k:Nat),xc n p->k+f=n->vf lt p k->yr n lt (kas_bin f p k) λ r=>xc n r/\vf lt r n
 | 0,p,k,hp,h1,hs=>by
  have:k=n:=⋯;subst this;show#[hp,hs]
 | f+1,p,k,hp,h1,hs=>by
  exact yr.bind (yr.mono ?_ (j7 hp ⋯ hs o k 0 k ⋯ (A4 _) (Ak _) (λ i hi=>absurd hi (Nat.not_lt_zero _)) λ i hi D5=>absurd D5 ⋯));rintro l ⟨a1,a2,a3⟩;exact Zv o f _ (k+1) (Array.Perm.trans (bubble_perm _ _ _) hp) ⋯ λ i j A6 hj=>?_;have ev:∀ x,(bubble p k (k-l)).getD x 0=if x=l then p.getD k 0 else if l<x/\x<=k then p.getD (x-1) 0 else p.getD x 0:=λ x=>by
   have e:=getElem?_bubble (xs:=p) (src:=k) (by rw[hp.size];lia) (k-l) ⋯ x;rw[show k-(k-l)=l by lia] at e;split
   .rename_i h;rw[if_pos h] at e;show oV e
   .rename_i h;rw[if_neg h] at e;split
    .rename_i h';rw[if_pos h'] at e;show oV e
    .rename_i h';rw[if_neg h'] at e;show oV e
  rw[ev i,ev j];by_cases hi:i=l
  .rw[if_pos hi];by_cases Hi:j=l
   .rw[if_pos Hi];show o.refl _
   .rw[if_neg Hi,if_pos #[⋯,⋯]];show o.as _ _ (a3 (j-1) ⋯ ⋯)
  .rw[if_neg hi];by_cases Hi:j=l
   .rw[if_pos Hi,if_neg ⋯];show a2 i ⋯
   .rw[if_neg Hi];by_cases hi2:l<i/\i<=k
    .rw[if_pos hi2,if_pos #[⋯,⋯]];show hs _ _ ⋯ ⋯
    .rw[if_neg hi2];by_cases hj2:l<j/\j<=k
     .rw[if_pos hj2];show hs _ _ ⋯ ⋯
     .rw[if_neg hj2];show hs _ _ A6 ⋯
theorem Wz (o:Ord lt) (h1:1<=n):yr n lt (kas_sort n) λ r=>xc n r/\vf lt r n:=by
 have hp:xc n (List.range n).toArray:=Array.Perm.refl _;exact yr.bind (yr.mono ?_ (M6 o hp h1));rintro⟨m,p⟩ ⟨a1,a2,a3⟩;dsimp only at a1 a2 a3 ⊢;by_cases hm:m<n
 .rw[if_pos hm];exact Zv o _ p (max m 1) a1 ⋯ ?_;by_cases h0:m=0
  .subst h0;intro i j A6 hj;have:i=j:=⋯;subst this;show o.refl _
  .rw[show max m 1=m by lia];show a3
 .rw[if_neg hm];have:m=n:=⋯;subst this;show#[a1,a3]
end
end L4
namespace L4
open PySem PySem.W PySem.Calls PyProof.Rows
section
variable {prog:Program}{w:World}{A:Around}{E:Af}{s:Shared}
def Core (prog:Program) (w:World) (A:Around) (E:Af) (vs:Ae) (Out:Array Value->Prop) (s6:Shared):Prop:=
 wpAny (model prog w) A (keyKind' vs.toArray) (fun κ s'=>s'=s6/\wpAny (model prog w) A ((sortRuns').run (SortSt.mk' κ (vs.toArray.zip vs.toArray) [].toArray 7 none))
  (λ r HN=>HN=s6/\failedOf r.2=none/\Out ((arrOf r.2).map (·.2))/\(arrOf r.2).size=vs.length) E s') E s6
def Oo {a:Addr}{vs:Ae}{n:Nat}{P:PySem.Fin->Shared->Prop}{Out:Array Value->Prop}(ho:s.heap.get? a=↑(seqObj "list" vs.toArray n)) (hz:vs.length<=sizeLine)
  (core:2<=vs.length->∀ s6:Shared,(∀ b o,b≠a->s.heap.get? b=↑o->s6.heap.get? b=↑o)->Core prog w A E vs Out s6) (short:vs.length<2->Out vs.toArray)
  (fin:∀ out:Array Value,Out out->out.size=vs.length->P (.done (.ret .none)) { s with heap:=sortedHeap s.heap a vs out }):
  wpAny (model prog w) A (Builtin.«list.sort» #[[.ref a],[]]) P E s:=by
 have ha:a<s.heap.objs.size:=Aq ho;obtain⟨e1,g1⟩:∃ e1,(s.heap.update a (Obj.mapSeq λ _=>[].toArray)).get? a=↑(seqObj "list" [].toArray e1):=#[_,get?_update_seq ho (λ _=>[].toArray)];have J5:vs.toArray.size<=sizeLine:=by rw[AD];show hz
 have g6:(((s.heap.update a (Obj.mapSeq λ _=>[].toArray)).push (seqObj "tuple" vs.toArray 0)).push (seqObj "list" [].toArray 0)).get? a=↑(seqObj "list" [].toArray e1):=gV _ (gV _ g1);have keep:∀ b o,b≠a->s.heap.get? b=↑o->(((s.heap.update a (Obj.mapSeq λ _=>[].toArray)).push (seqObj "tuple" vs.toArray 0)).push (seqObj "list" [].toArray 0)).get? b=↑o:=
  λ b o hb e=>gV _ (gV _ (by rw[zaP _ _ _ _ hb];show e))
 rw[list_sort_plain];exact Kj (listItems_at ho rfl (Kj (listUpdate_at ho rfl (Kj (seqEpoch_at g1 rfl (Kj (wpAny_newTuple (Kj (wpAny_newList (za7 ?_))) (by exists hz))))) J5 (A4 _))));by_cases h2:vs.toArray.size<2
 .rw[if_pos h2,if_pos h2];have e2:(arrOf (SortSt.mk' general' (vs.toArray.zip vs.toArray) [].toArray 7 none)).map (·.2)=vs.toArray:=by
   change (vs.toArray.zip vs.toArray).map (·.2)=vs.toArray;apply Array.ext #[];intro i h1 h2;simp
  exact Kj (Ad ?_);dsimp only;rw[StateT.run_pure];exact Kj (Ad ?_);dsimp only;exact Kj (seqEpoch_at g6 rfl (Kj (listUpdate_at g6 rfl ?_ (A4 _) ?_)))
  .simp![bne_self_eq_false,Bp,if_false];have q:=fin _ (e2▸short (by exists h2)) (by rw[e2];simp);show Ad q
  .change (((arrOf (SortSt.mk' general' (vs.toArray.zip vs.toArray) [].toArray 7 none)).map (·.2))).size<=sizeLine+1;rw[e2];lia
 .rw[if_neg h2,if_neg h2];have K_:2<=vs.length:=by exists h2
  exact Kj (tp (core K_ _ keep) (fun κ s7 #[hs,h7]=>?_) λ _ _ z=>z);subst hs;exact Kj (tp h7 (λ r s8 #[hs,hf,EM,hsz]=>?_) λ _ _ z=>z);subst hs;obtain⟨⟨⟩,st⟩:=r;exact Kj (seqEpoch_at g6 rfl (Kj (listUpdate_at g6 rfl ?_ (A4 _) ?_)))
  .have G3:failedOf st=none:=hf;rw[G3];simp![bne_self_eq_false,Bp,if_false];show Ad (fin _ EM (by rw[Dh];show hsz))
  .change ((arrOf st).map (·.2)).size<=sizeLine+1;rw[Dh];have:(arrOf st).size=vs.length:=hsz;lia
def Wx {h:Heap}{vs:Ae}(out:Aw):∃ e,(sortedHeap (h.push (seqObj "list" vs.toArray 0)) h.objs.size vs out).get? h.objs.size=↑(seqObj "list" out e):=by
 have there:(h.push (seqObj "list" vs.toArray 0)).get? h.objs.size=↑(seqObj "list" vs.toArray 0):=AJ _ rfl;show#[_,get?_update_seq (gV _ (gV _ (get?_update_seq there λ _=>[].toArray))) λ _=>out]
def fW {a:Addr}{vs:Ae}{Q:Af}{Out:Array Value->Prop}{N:Addr->Prop}
  (C:∀ Q':List Value->Shared->Prop,(∀ h1 tk,(∀ b o,¬ N b->s.heap.get? b=↑o->h1.get? b=↑o)->s.heap.objs.size<=h1.objs.size->Q' vs { s with heap:=h1,toks:=tk })->wpAny (model prog w) A.in1 (collect (.ref a)) Q' E s) (hz:vs.length<=sizeLine)
  (core:2<=vs.length->∀ s6:Shared,(∀ b o,¬ N b->s.heap.get? b=↑o->s6.heap.get? b=↑o)->Core prog w A.in1.in1 E vs Out s6) (short:vs.length<2->Out vs.toArray)
  (fin:∀ (out:Aw) (h':Heap) (tk l:Nat),Out out->out.size=vs.length->s.heap.objs.size<=l->(∀ b o,¬ N b->s.heap.get? b=↑o->h'.get? b=↑o)->(∃ e,h'.get? l=↑(seqObj "list" out e))->Q (.ref l) { s with heap:=h',toks:=tk }):
  wpAny (model prog w) A (call (.builtin "sorted") [.ref a]) Q E s:=by
 exact Calls.call_function_entry kind_sorted plain_sorted entry_sorted (args_sorted1 _) ?_;unfold Builtin.«sorted»;exact Kj (m:=checkCount "sorted" 1 1 _) (Ad (Kj (C _ λ h1 tk k1 k2=>Kj (wpAny_newList ?_ hz))));have Jv:(h1.push (seqObj "list" vs.toArray 0)).get? h1.objs.size=↑(seqObj "list" vs.toArray 0):=AJ _ rfl;change wpAny _ _ _ _ _ { s with heap:=h1.push (seqObj "list" vs.toArray 0),toks:=tk };exact Kj (za7 (zaB slot_list_sort #[_,Jv,rfl] entry_list_sort (Oo Jv hz (λ h2 s6 k=>core h2 s6 λ b o n q=>k b o (AH (Aq (k1 b o n q))) (gV _ (k1 b o n q))) short λ out g1 g2=>#[_,rfl,?_]) (args_list_sort _)));exact Ad #[_,rfl,fin out _ tk h1.objs.size g1 g2 k2 (λ b o n q=>?_) (Wx out)];have q1:=k1 b o n q;have hb:=AH (Aq q1);unfold sortedHeap;rw[zaP _ _ _ _ hb];exact gV _ (gV _ ?_);rw[zaP _ _ _ _ hb];show gV _ q1
end
end L4
namespace L4
open PySem PySem.W PySem.Calls PyProof.Rows L2
theorem jX:∀ a b:List Int,HT.lexLt a b=true->HT.lexLt b a=false
 | [],[],h=>by cases h
 | [],_::_,_=>rfl
 | _::_,[],h=>by cases h
 | x::a,y::b,h=>by
  rw[HT.sP] at h ⊢;by_cases e:x=y
  .subst e;rw[if_pos rfl] at h ⊢;show jX a b h
  .rw[if_neg e] at h;rw[if_neg (Ne.symm e)];have:=of_decide_eq_true h;show za5 ⋯
theorem cF:∀ a b:List Int,HT.lexLt a b=false->HT.lexLt b a=false->a=b
 | [],[],_,_=>rfl
 | [],_::_,h,_=>by cases h
 | _::_,[],_,h=>by cases h
 | x::a,y::b,h,h'=>by
  rw[HT.sP] at h h';by_cases e:x=y
  .subst e;rw[if_pos rfl] at h h';rw[cF a b h h']
  .rw[if_neg e] at h;rw[if_neg (Ne.symm e)] at h';have h1:=of_decide_eq_false h;have h2:=of_decide_eq_false h';lia
theorem jW:∀ a b c:List Int,HT.lexLt b a=false->HT.lexLt c b=false->HT.lexLt c a=false
 | [],[],[],_,_=>rfl
 | [],[],_::_,_,h=>h
 | [],_::_,[],_,h=>by cases h
 | [],_::_,_::_,_,_=>rfl
 | _::_,[],_,h,_=>by cases h
 | _::_,_::_,[],_,h=>by cases h
 | x::a,y::b,z::c,h,h'=>by
  rw[HT.sP] at h h' ⊢;by_cases e1:y=x
  .subst e1;rw[if_pos rfl] at h;by_cases e2:z=y
   .subst e2;rw[if_pos rfl] at h' ⊢;show jW a b c h h'
   .rw[if_neg e2] at h' ⊢;show h'
  .rw[if_neg e1] at h;have h1:=of_decide_eq_false h;by_cases e2:z=y
   .subst e2;rw[if_neg e1];show h
   .rw[if_neg e2] at h';have h2:=of_decide_eq_false h';rw[if_neg ⋯];show za5 ⋯
theorem jA {α:Type}{r:α->α->Prop}(an:∀ a b,r a b->r b a->a=b):∀ {l₁ l₂:List α},l₁.Perm l₂->l₁.Pairwise r->l₂.Pairwise r->l₁=l₂
 | [],l₂,h,_,_=>(List.nil_perm.mp h).symm
 | a::l₁,[],h,_,_=>absurd (List.perm_nil.mp h) #[]
 | a::l₁,b::l₂,h,h1,h2=>by
  have Dc:a=b:=by
   have ha:a∈b::l₂:=h.mem_iff.mp Ax;have hb:b∈a::l₁:=h.mem_iff.mpr Ax;rcases An.mp ha with e | ha
   .show e
   .rcases An.mp hb with e | hb
    .show e.symm
    .show an _ _ (List.rel_of_pairwise_cons h1 hb) (List.rel_of_pairwise_cons h2 ha)
  subst Dc;rw[jA an (List.Perm.cons_inv h) (BI.mp h1).2 (BI.mp h2).2]
def yZ (rows:List (List Int)):List (List Int):=rows.mergeSort λ a b=>!HT.lexLt b a
def vP (rows:List (List Int)):(yZ rows).Perm rows:=List.mergeSort_perm _ _
def mO (rows:List (List Int)):(yZ rows).Pairwise λ a b=>HT.lexLt b a=false:=by
 have:=List.pairwise_mergeSort (le:=λ a b:List Int=>!HT.lexLt b a) (λ a b c h1 h2=>by simp at h1 h2 ⊢;show jW a b c h1 h2)
  (λ a b=>by
   cases h:HT.lexLt b a with
   | false=>simp
   | true=>simp[jX b a h]) rows
 show this.imp λ h=>by exists h
def fY {rows out:List (List Int)}(hp:out.Perm rows) (hs:out.Pairwise λ a b=>HT.lexLt b a=false):out=yZ rows:=
 jA (λ a b h1 h2=>cF a b h2 h1) (hp.trans (vP rows).symm) hs (mO rows)
def oh (rows:List (List Int)) (i j:Nat):Bool:=HT.lexLt (rows.getD i []) (rows.getD j [])
def WR (rows:List (List Int)):Ord (oh rows):=#[λ _ _ _ h1 h2=>jW _ _ _ h1 h2,λ _ _ h=>jX _ _ h]
section
variable {prog:Program}{w:World}{A:Around}{E:Af}{s:Shared}{Q:Bool->Shared->Prop}
theorem cQ {b:Bool}:∀ (ns ms:List Int) (us ws:Ae) (i:Nat),IntsAre us ns->IntsAre ws ms->Q (HT.lexLt ns ms) s->KatLex prog w A b (decide (ns.length<ms.length)) Q (us.zip ws) i s
 | [],[],_,_,_,.nil,.nil,h=>kat_nil (by simpa [HT.lexLt] using h)
 | [],_::_,_,_,_,.nil,.cons _ _ _,h=>kat_nil (by simpa [HT.lexLt] using h)
 | _::_,[],_,_,_,.cons _ _ _,.nil,h=>kat_nil (by simpa [HT.lexLt] using h)
 | n::ns,m::ms,_,_,i,.cons _ t hu,.cons _ u hw,h=>by
  rw[HT.sP] at h;exact kat_cons (SeqAt.EqAt.int_int n t m u prog w _ _ (kat_go (λ e=>kat_yes ?_) λ e=>kat_no ?_))
  .have e':n=m:=by exists e
   rw[if_pos e'] at h;rw[show decide ((n::ns).length<(m::ms).length)=decide (ns.length<ms.length) by simp];show cQ ns ms _ _ (i+1) hu hw h
  .have e':¬ n=m:=by exists e
   rw[if_neg e'] at h;cases b&&i == 0 with
   | true=>show kat_lt_int h
   | false=>show kat_one _ _ (lt_int h)
def qt (h:Heap):List Value->List (List Int)->Prop:=Paired λ v r=>r≠[]/\∃ b o Aa n,v=.ref b/\h.get? b=↑o/\o.cls=.type "tuple"/\o.data=.seq Aa n/\IntsAre Aa.toList r
theorem qt.bU {h:Heap}:∀ {vs:Ae}{rows:List (List Int)},qt h vs rows->∃ fs,KatTups h vs fs/\fs.length=vs.length/\∀ v∈fs,∃ n t,v=Value.int n t
 | _,_,.nil=>#[[],KatTups.nil,rfl,λ _ hv=>absurd hv #[]]
 | _,_,.cons #[Az,b,o,Aa,n,hv,ho,hc,hd,hi] r=>by
  let#[fs,h1,h2,h3]:=qt.bU r;subst hv;let#[Aa]:=Aa;cases hi with
  | nil=>show absurd rfl Az
  | cons k t _=>show#[.int k t::fs,KatTups.cons ho hc hd rfl h1,by simp[h2],λ v hv=>(An.mp hv).elim (λ e=>#[k,t,e]) (h3 v)]
theorem Paired.at' {α β:Type}{F:α->β->Prop}:∀ {l₁:List α}{l₂:List β}{i:Nat},Paired F l₁ l₂->i<l₁.length->∀ (d:α) (e:β),F (l₁.getD i d) (l₂.getD i e)
 | _,_,_,.nil,h,_,_=>absurd h #[]
 | _,_,0,.cons r _,_,_,_=>r
 | _,_,i+1,.cons _ t,h,d,e=>by exists Paired.at' (i:=i) t (by exists h) d e
def qt.ask {vs:Ae}{rows:List (List Int)}{b:Bool}(r:qt s.heap vs rows) {i j:Nat}(hi:i<vs.length) (hj:j<vs.length) {C:Bool->Shared->Prop}(h:C (oh rows i j) s):kas_ask prog w A (tuples' b) vs i j C s:=by
 let#[_,b1,o1,its1,n1,e1,g1,_,d1,q1]:=Paired.at' r hi Value.none [];let#[_,b2,o2,FO,n2,e2,g2,_,d2,q2]:=Paired.at' r hj Value.none [];unfold kas_ask;rw[e1,e2];exact kat_lt g1 d1 g2 d2 ?_;have l1:=q1.length;have l2:=q2.length;rw[BE] at l1 l2;rw[l1,l2];show cQ _ _ _ _ 0 q1 q2 h
theorem fm {α:Type}{n:Nat}{lt:Nat->Nat->Bool}{cmp:Nat->Nat->(Bool->Shared->Prop)->Shared->Prop}{Q:α->Shared->Prop}(hc:∀ i j C,i<n->j<n->C (lt i j) s->cmp i j C s):∀ {t:KasT α},yr n lt t (λ a=>Q a s)->t.kasWp cmp Q s
 | .ret _,h=>h
 | .ask i j _,h=>hc i j _ h.1 h.2.1 (fm hc h.2.2)
def gC (vs:Ae) (rows:List (List Int)) (out:Aw):Prop:=
 ∃ ps:List (Value×List Int),ps.Perm (vs.zip rows)/\out.toList=ps.map (·.1)/\(ps.map (·.2)).Pairwise λ a b=>HT.lexLt b a=false
theorem YV {α β:Type}{l:List α}{m:List β}(h:l.length=m.length) (a:α) (b:β):(List.range l.length).map (λ i=>(l.getD i a,m.getD i b))=l.zip m:=by
 exact Es (by simp;lia) λ i h1 h2=>?_;have h3:i<l.length/\i<m.length:=by simp at h1;lia
 simp[h3.1,h3.2]
theorem Wu {rows:List (List Int)}{p:Array Nat}{n:Nat}(hn:p.size=n) (h:vf (oh rows) p n):(p.toList.map λ i=>rows.getD i []).Pairwise λ a b=>HT.lexLt b a=false:=by
 rw[Dg,Df];intro i j hi hj A6;have:=h i j (BD A6) (by rw[<- hn];exists hj);simp![BE] at hi hj;unfold Le oh at this;simpa [DS,hi,hj] using this
theorem M7 {vs:Ae}{rows:List (List Int)}(r:qt s.heap vs rows) (h2:2<=vs.length) (GJ:vs.length<64):Core prog w A E vs (gC vs rows) s:=by
 let#[fs,t,hl,hf]:=r.bU;unfold Core;exact kat_kind (T:=.type "int") t ⋯ (λ v hv=>?_) rfl #[rfl,?_]
 .let#[n,t,rfl]:=hf v hv;show Looks.of_pure rfl
 .exact kat_run (ks:=vs) (Q:=λ st HN=>HN=s/\failedOf st=none/\gC vs rows ((arrOf st).map (·.2))/\(arrOf st).size=vs.length) (G:=λ p HN=>HN=s/\xc vs.length p/\vf (oh rows) p vs.length) rfl h2 GJ (λ p st s' hs ha DB hg=>?_) ?_
  .let#[h1,h3,h4]:=hg;exact#[h1,DB,#[p.toList.map λ i=>(vs.getD i Value.none,rows.getD i []),?_,?_,?_],by rw[ha,Dh];show hs]
   .rw[<- YV (Paired.length r) Value.none []];have:=Array.Perm.toList h3;show List.Perm.map _ (by exists this)
   .rw[kat_snds rfl ha,AN];rfl
   .rw[AN];show Wu hs h4
  .show fm (λ i j C hi hj hC=>r.ask hi hj hC) (yr.mono (λ p hp=>#[rfl,hp]) (Wz (WR rows) ⋯))
end
section
variable {X:Cx}
def Paired.perm {α β:Type}{F:α->β->Prop}{l l':List α}(p:l'.Perm l):∀ {m:List β},Paired F l m->∃ m',m'.Perm m/\Paired F l' m':=by
 induction p with
 | nil=>intro m h;show#[m,.refl _,h]
 | cons x _ ih=>
  intro m h;cases h with
  | cons a h=>
   let#[m',h1,h2]:=ih h;show#[_,h1.cons _,.cons a h2]
 | swap x y l=>
  intro m h;cases h with
  | cons a h=>
   cases h with
   | cons b h=>show#[_,.swap _ _ _,.cons b (.cons a h)]
 | trans _ _ KD KC=>
  intro m h;let#[m1,h1,h2]:=KC h;let#[m2,h3,h4]:=KD h2;show#[m2,h3.trans h1,h4]
abbrev ZE (K:Ac) (H:Hp) (v:V) (r:List Int):Prop:=r≠[]/\∃ b,v=V.ref b/\zR K H b (r.map V.int)
abbrev r9 (K:Ac) (H:Hp) (ys:List V) (rows:List (List Int)):Prop:=Paired (ZE K H) ys rows
abbrev VR (K:Ac) (H:Hp):List Value->List (V×List Int)->Prop:=Paired λ u q=>RelV q.1 u/\ZE K H q.1 q.2
theorem VR.of {K:Ac}{H:Hp}:∀ {ys:List V}{vs:Ae}{rows:List (List Int)},Vals ys vs->r9 K H ys rows->VR K H vs (ys.zip rows)
 | _,_,_,.nil,.nil=>.nil
 | _,_,_,.cons r t,.cons r' t'=>.cons #[r,r'] (VR.of t t')
abbrev nW (qs:List (V×List Int)) (H:Hp) (Q:VK):Prop:=∀ p (ps:List (V×List Int)),H p=none->ps.Perm qs->(ps.map (·.2)).Pairwise (λ a b=>HT.lexLt b a=false)->Q (.ref p) (upd H p (.lst (ps.map (·.1))))
def jn {Ff:Aj}{Y:L2.St}{H:Hp}{s:Shared}{a:Addr}{vs:Ae}{qs:List (V×List Int)}{Q:VK}(I:Inv X Ff Y H s)
  (C:∀ Q':List Value->Shared->Prop,(∀ h1 tk,(∀ b o,¬ False->s.heap.get? b=↑o->h1.get? b=↑o)->s.heap.objs.size<=h1.objs.size->Q' vs { s with heap:=h1,toks:=tk })->wpAny (model X.prog X.w) X.A.in1 (collect (.ref a)) Q' X.xe s)
  (hv:VR X.K H vs qs) (GJ:qs.length<64) (q:nW qs H Q):wpAny (model X.prog X.w) X.A (call (.builtin "sorted") [.ref a]) (EP X Ff Y Q) X.xe s:=by
 have hl:vs.length=qs.length:=Paired.length hv;have hz:qs.length<=sizeLine:=A9 (BD GJ) ();have Hb:∀ h6:Heap,(∀ b o,¬ False->s.heap.get? b=↑o->h6.get? b=↑o)->qt h6 vs (qs.map (·.2)):=λ h6 k=>by
  clear q hl GJ hz C
  induction hv with
  | nil=>show .nil
  | cons g t ih=>
   exact .cons ?_ ih;let#[r1,Az,b,e1,hb]:=g;rw[e1] at r1;cases r1;let#[FO,Ip,#[o,e,hc,n,hd],_]:=I.tuple hb;show#[Az,b,o,_,n,rfl,k _ _ id e,hc,hd,by exists intsAre_of Ip]
 exact fW (Out:=gC vs (qs.map (·.2))) C ⋯ (λ h2 s6 k=>M7 (Hb _ k) h2 ⋯) (λ h1=>#[vs.zip (qs.map (·.2)),.refl _,by rw[List.map_fst_zip (by simp;lia)],?_]) λ out h' tk p ho hs hp k Ck=>?_
 .rw[List.map_snd_zip (by simp;lia),Df];intro i j hi hj A6;simp at hi hj;lia
 .let#[ps,g1,g2,g3]:=ho;let#[e,he]:=Ck;have z:Paired (λ p q=>RelV q.1 p.1/\p.2=q.2) (vs.zip (qs.map (·.2))) qs:=by
   clear g1 hs hl GJ hz C Hb q
   induction hv with
   | nil=>show .nil
   | cons a _ ih=>show .cons #[a.1,rfl] ih
  let#[HP,q1,q2]:=Paired.perm g1 z;have f:Vals (HP.map (·.1)) (ps.map (·.1))/\HP.map (·.2)=ps.map (·.2):=by
   clear q1 g1 g2 g3
   induction q2 with
   | nil=>show#[.nil,rfl]
   | cons a _ ih=>show#[.cons a.1 ih.1,by rw[Ar,Ar,ih.2,a.2]]
  exact#[.ref p,_,I.laid (t':=tk) (o:=.lst (HP.map (·.1))) (λ b o e=>k b o id e) hp #[?_,out.toList,e,by rw[g2];show f.1,by exists he],rfl,q p HP (I.zm.fresh hp) q1 (by rw[f.2];show g3)];rw[AA,q1.length_eq];show hz
end
end L4
namespace L2
open PySem PySem.Spec PyProof.Rows
def uW (ty T:String):Bool:=ty == T||(ty == "bool"&&T == "int")
def mF (ty T:String):Bool:=PySem.W.kitMeta T&&decide ((fastBuiltinMro ty).map (λ l=>l.contains (Value.type T))=↑(uW ty T))
def X9:(["NoneType","bool","int","str","tuple","list","dict"].all λ ty=>["int","bool","tuple","list","str"].all λ T=>mF ty T)=true:=by decide +kernel
def OB {K:Ac}{ty T:String}(h:mF ty T=true):PySem.W.kitOne K (.type ty) (.type T)=↑(uW ty T):=by
 unfold mF at h;rw[BQ] at h;unfold PySem.W.kitOne;split
 .rename_i e;have e':ty=T:=by have:=eq_of_beq e;injection this
  subst e';simp[uW]
 .change (if PySem.W.kitMeta T=true then PySem.W.subIn K (.type ty) (.type T) else none)=_;rw[if_pos h.1];show of_decide_eq_true h.2
def ZD (K:Ac) (H:Hp):V->String->Prop
 | .zr,t=>t="NoneType"
 | .bl _,t=>t="bool"
 | .int _,t=>t="int"
 | .str _,t=>t="str"
 | .ref a,t=>(t="tuple"/\∃ xs,zR K H a xs)\/(t="list"/\∃ xs,zG K H a xs)\/(t="dict"/\∃ Ab,H a=↑(.dK Ab))
 | _,_=>False
def M_ {X:Cx}:yx X (.builtin "isinstance") (λ xs H Q=>∃ x T ty,xs=[x,.ty T]/\ZD X.K H x ty/\mF ty T=true/\Q (.bl (uW ty T)) H):=by
 intro Ff s Y H xs us Q I r h;let#[x,T,ty,rfl,hx,hT,q]:=h;let#[u,c,rfl,ru,rc]:=vals2 r;cases (show c=Value.type T from rc);have e:PySem.W.kitOne X.K (.type ty) (.type T)=↑(uW ty T):=OB hT;have fin:∀ tk,EP X Ff Y Q (.bool (uW ty T)) { s with toks:=tk }:=λ tk=>#[.bl _,H,I.tok tk,rfl,q];cases x with
 | zr=>cases (show u=Value.none from ru);cases (show ty=_ from hx);show PySem.W.kia_one PySem.W.kitx_none I.yD True.intro e (λ z=>nomatch z) fin
 | bl y=>cases (show u=Value.bool y from ru);cases (show ty=_ from hx);show PySem.W.kia_one PySem.W.kitx_bool I.yD True.intro e (λ z=>nomatch z) fin
 | int i=>let#[t,rfl]:=(show ∃ t,u=Value.int i t from ru);cases (show ty=_ from hx);show PySem.W.kia_one PySem.W.kitx_int I.yD True.intro e (λ z=>nomatch z) fin
 | str y=>let#[t,rfl]:=(show ∃ t,u=Value.str y t from ru);cases (show ty=_ from hx);show PySem.W.kia_one PySem.W.kitx_str I.yD True.intro e (λ z=>nomatch z) fin
 | ref a=>
  cases (show u=Value.ref a from ru);rcases hx with ⟨rfl,ys,hq⟩ | ⟨rfl,ys,hq⟩ | ⟨rfl,Ab,hq⟩
  .let#[Aa,_,#[o,h1,h2,_],_]:=I.tuple hq;show PySem.W.kia_one PySem.W.kitx_tuple I.yD #[o,h1,h2] e (λ z=>nomatch z) fin
  .let#[Aa,_,#[o,n,h1,h2,_],_]:=I.list hq;show PySem.W.kia_one PySem.W.kitx_list I.yD #[o,h1,h2] e (λ z=>nomatch z) fin
  .let#[_,_,vs,_,p]:=(show yH X.prog X.w H s.heap a (.dK Ab) from I.zm a _ hq)
   let#[o,es,ep,h1,h2,_]:=p;show PySem.W.kia_one PySem.W.kitx_dict I.yD #[o,h1,h2.1] e (λ z=>nomatch z) fin
 | _=>show hx.elim
end L2
namespace L3
open PySem PySem.Spec L2
open PyProof.Rows hiding St
section
variable {X:Cx}{K:Ac}{a e:Expr}{es:List Expr}{te:zp}{tA:ya}{pos p q:Pos}
def TZ (hm:X.mg "len"=none) (ha:yO X (e::es) tA) (hg:Gl X "len") (he:AE X e es) (Ao:AI X pos es):PD X (.Call (.Name "len" p) (e::es) [] pos) (xr uf tA):=
 uP (uO (MW.or MV) hg hm PySem.boot_len ha.pa () () he Ao) uf.mo uf.fits ha.mo
def TY (hm:X.mg "list"=none) (ha:yO X (e::es) tA) (hg:Gl X "list") (he:AE X e es) (Ao:AI X pos es):PD X (.Call (.Name "list" p) (e::es) [] pos) (xr ud tA):=
 uP (qM MT hg hm PyProof.Rows.boot_list ha.pa () () he Ao) ud.mo ud.fits ha.mo
def Tu (hm:X.mg "tuple"=none) (ha:yO X (e::es) tA) (hg:Gl X "tuple") (he:AE X e es) (Ao:AI X pos es):PD X (.Call (.Name "tuple" p) (e::es) [] pos) (xr v_ tA):=
 uP (qM MI hg hm PyProof.Rows.boot_tuple ha.pa () () he Ao) v_.mo v_.fits ha.mo
abbrev bX:xk:=vB λ i j=>.int (if j>i then j else i)
abbrev bW:xk:=vB λ i j=>.int (if j<i then j else i)
def TL (hm:X.mg "max"=none) (ha:yO X (e::es) tA) (hc:X.calm=true) (hg:Gl X "max") (he:AE X e es) (Ao:AI X pos es):PD X (.Call (.Name "max" p) (e::es) [] pos) (xr bX tA):=
 uP (uO (MS hc) hg hm boot_max ha.pa () () he Ao) vB.mo (vB.fits λ _ _ _=>by simp![zf]) ha.mo
def TK (hm:X.mg "min"=none) (ha:yO X (e::es) tA) (hc:X.calm=true) (hg:Gl X "min") (he:AE X e es) (Ao:AI X pos es):PD X (.Call (.Name "min" p) (e::es) [] pos) (xr bW tA):=
 uP (uO (MR hc) hg hm boot_min ha.pa () () he Ao) vB.mo (vB.fits λ _ _ _=>by simp![zf]) ha.mo
def vc (r:List Int):D:=.tup (r.map D.int)
theorem zj.mY {H:Hp}:∀ {ps:List (V×List Int)},(∀ q∈ps,zf K H (vc q.2) q.1)->zj K H ((ps.map (·.2)).map vc) (ps.map (·.1))
 | [],_=>.nil
 | q::ps,h=>.cons (h q Ax) (zj.mY λ q hq=>h q (Ay _ hq))
theorem zj.m7 {H:Hp}:∀ {rows:List (List Int)}{ys:List V},zj K H (rows.map vc) ys->∀ q∈ys.zip rows,zf K H (vc q.2) q.1
 | [],ys,_,q,hq=>by simp at hq
 | r::rows,ys,h,q,hq=>by
  rw[Ar] at h;simp![zj] at h;let#[x,IY,rfl,h1,h3]:=h;rcases An.mp hq with e | hq
  .subst e;show h1
  .show zj.m7 h3 q hq
theorem mR {H:Hp}:∀ {rows:List (List Int)}{ys:List V},zj K H (rows.map vc) ys->(∀ r∈rows,r≠[])->L4.r9 K H ys rows
 | [],ys,h,_=>by simp![Bh,zj] at h;subst h;show .nil
 | r::rows,ys,h,hn=>by
  rw[Ar] at h;simp![zj,vc,zf] at h;let#[x,IY,rfl,#[a,xs,rfl,g1,g2],h3]:=h;rw[g2.ints] at g1;show .cons #[hn r Ax,a,rfl,g1] (mR h3 λ r' hr=>hn r' (Ay _ hr))
def Tc {tg:Expr}(hm:X.mg "range"=none) (ha:yO X [a] tA) (hg:Gl X "range") (hs:starEach [a] X.env=[(false,eval a X.env)]):uq X tg (.Call (.Name "range" p) [a] [] pos) (jZ tA):=Td (VG hg hm ha.pa hs) ha.mo
def sE (d:D) (S:SS):Option String:=match d with
 | .zr=>↑"NoneType"
 | .bl _=>↑"bool"
 | .int _=>↑"int"
 | .str _=>↑"str"
 | .tup _=>↑"tuple"
 | .xn _=>↑"list"
 | .ref p=>match S p with
  | some (.lst _)=>↑"list"
  | some (.zB _)=>↑"dict"
  | none=>none
 | .err _ _ _=>none
def nC (T:String) (te:zp):zp:=fun L S Q=>te L S λ x S1=>match sE x S1 with
 | some ty=>Q (.bl (uW ty T)) S1
 | none=>False
theorem sE.ok {H:Hp}{d:D}{v:V}{S:SS}{ty:String}(r:zf K H d v) (p:zC K H S) (h:sE d S=↑ty):ZD K H v ty/\ty∈["NoneType","bool","int","str","tuple","list","dict"]:=by
 cases d with
 | err _ _ _=>cases h
 | tup ds=>
  simp![zf] at r;let#[a,xs,rfl,g1,_]:=r;cases h;show#[.inl #[rfl,xs,g1],#[]]
 | xn ds=>
  simp![zf] at r;let#[a,xs,rfl,g1,_]:=r;cases h;show#[.inr (.inl #[rfl,xs,g1.sq]),#[]]
 | ref a=>
  simp![zf] at r;subst r;unfold sE at h;dsimp only at h;split at h
  .rename_i e;cases h;let#[xs,g1,_]:=p _ _ e;show#[.inr (.inl #[rfl,xs,zG.of g1]),#[]]
  .rename_i e;cases h;let#[xs,g1,_]:=p _ _ e;show#[.inr (.inr #[rfl,xs,g1]),#[]]
  .cases h
 | _=>simp![zf] at r;subst r;cases h;show#[rfl,#[]]
def jC {T:String}{x:Str}(hT:T∈["int","bool","tuple","list","str"]) (hm:X.mg "isinstance"=none) (IC:X.mg x=none) (hv:bootBuiltins x=↑(.type T)) (G9:Gl X x) (hn:x≠"__name__") (hd:(x == ("__debug__":Str))=false) (he:PD X e te) (hg:Gl X "isinstance")
  (h1:AE X e [.Name x q]) (h2:AI X pos [.Name x q]) (h3:AE X (.Name x q) []):
  PD X (.Call (.Name "isinstance" p) [e,.Name x q] [] pos) (nC T te):=by
 exact#[fun L S Q Q' hq z=>he.mo L S _ _ (λ y S1 z=>?_) z,PE.imp (uO M_ hg hm boot_isinstance (uQ he.pe (uQ (dD (v:=.ty T) G9 IC hv rfl hn hd) sL h3) h1) () () h1 h2) fun Y H Q hu=>?_]
 .split at z
  .show hq _ _ z
  .show z
 .let#[L,S,r1,r2,z]:=hu;exact zD.go he.mo r1 r2 z λ y S1 v H1 z1 q1 e1 p1=>?_;split at z1
  .rename_i ty ht;let#[g1,g2]:=sE.ok q1 p1 ht;exact#[v,T,ty,rfl,g1,?_,z1 _ H1 (by simp![zf]) e1 p1];show CF.mp (CF.mp X9 ty g2) T hT
  .show z1.elim
def Sf (T:Bt X.mg) (he:PD X e te) (hg:Gl X "isinstance") (G9:Gl X "bool") (h1:AE X e [.Name "bool" q]) (h2:AI X pos [.Name "bool" q]) (h3:AE X (.Name "bool" q) []):
  PD X (.Call (.Name "isinstance" p) [e,.Name "bool" q] [] pos) (nC "bool" te):=jC #[] T.isinstance T.bool PyProof.Rows.boot_bool G9 () () he hg h1 h2 h3
def Sd (T:Bt X.mg) (he:PD X e te) (hg:Gl X "isinstance") (G9:Gl X "int") (h1:AE X e [.Name "int" q]) (h2:AI X pos [.Name "int" q]) (h3:AE X (.Name "int" q) []):
  PD X (.Call (.Name "isinstance" p) [e,.Name "int" q] [] pos) (nC "int" te):=jC #[] T.isinstance T.int PyProof.Rows.boot_int G9 () () he hg h1 h2 h3
def TR {o:Expr}{to:zp}{apos Ah:Pos}(ho:PD X o to) (he:PD X e te)
  (Fz:attributeBase o "append" X.env (eval o X.env)=eval o X.env)
  (AQ:((backTo Ah (starEach [e] X.env)).all (λ x=>!x.1)&&(backToKw Ah (keywordEach [] X.env)).all (λ x=>x.1.isSome)
   && decide ([e].length+([]:List Keyword).length+(if ([]:List Keyword).isEmpty then 0 else 1)<30))=true)
  (FP:(apos.endLine == Ah.line)=true) (hs:AE X e []) (F4:AI X Ah []):
  PD X (.Call (.Attribute o "append" apos) [e] [] Ah) (rm to te):=
 SH (o:=o) (e:=e) (jB PySem.F.plainAttrs_list PySem.F.slot_list_append PySem.F.type_list_append cy ho.pe (uQ he.pe sL hs) Fz AQ FP hs F4) ho.mo he.mo
structure FD (P:Program) (w:World) (K:Ac) (mg:Au) (base:Heap) (x:Str) (k:Nat) (ps:List Str) (sp:wb):Prop where
 ex:∃ (f:Addr) (fd:FuncData),xf P w K mg base yz k f fd ps (uL K sp)/\mg x=↑(.ref f)/\PySem.W.keepIn K (.ref f)=true/\Binds K fd ps []
 mo:pK sp
def SE {x:Str}{k:Nat}{ps:List Str}{sp:wb}(F:FD X.prog X.w X.K X.mg X.base x k ps sp) (hr:yb k X.A) (ha:yO X (e::es) tA) (hg:Gl X x) (Bc:(x == ("__debug__":Str))=false)
  (he:AE X e es) (Ao:AI X pos es):PD X (.Call (.Name x p) (e::es) [] pos) (lY sp tA):=by
 let#[#[f,fd,h1,h2,h3,h4],hm]:=F;show SF (E:=E0) (Uq h1 hr hg h2 h3 h4 .nil SO ha.pa Bc he Ao) hm ha.mo
end
def NW {S:SS}{p:Addr}{ds:List D}{Q:DK}(e:S p=↑(.lst ds)) (h:Q (.tup ds) S):v_ [.ref p] S Q:=by
 unfold v_;dsimp only;rw[e];show h
def NX {S:SS}{d:D}{ds:List D}{Q:DK}(e:zP d S=↑ds) (h:∀ p,S p=none->Q (.ref p) (ups S p (.lst ds))):ud [d] S Q:=by
 unfold ud;dsimp only;rw[e];show h
def NY {S:SS}{d:D}{ds:List D}{Q:DK}(e:zP d S=↑ds) (h:Q (.int ds.length) S):uf [d] S Q:=by
 unfold uf;dsimp only;rw[e];show h
def XH {S:SS}{p:Addr}{ds:List D}{Q:Bool->SS->Prop}(e:S p=↑(.lst ds)) (h:Q (!ds.isEmpty) S):vj (.ref p) S Q:=by
 unfold vj;dsimp only;rw[e];show h
def Ma {S:SS}{p:Addr}{ds:List D}{i:Int}{d:D}{Q:DK}(e:S p=↑(.lst ds)) (e2:L2.zM ds i=↑d) (h:Q d S):wq (.ref p) (.int i) S Q:=by
 unfold wq;dsimp only;rw[e];dsimp only;rw[e2];show h
def NZ {S:SS}{ds:List D}{i:Int}{d:D}{Q:DK}(e2:L2.zM ds i=↑d) (h:Q d S):wq (.tup ds) (.int i) S Q:=by
 unfold wq;dsimp only;rw[e2];show h
def N_ {S:SS}{ds:List D}{i:Int}{d:D}{Q:DK}(e2:L2.zM ds i=↑d) (h:Q d S):wq (.xn ds) (.int i) S Q:=by
 unfold wq;dsimp only;rw[e2];show h
inductive T where
 | zr | bl (b:Bool) | int (i:Int) | str (x:Str) | tup (ts:List T) | lst (ts:List T) | yL | err (c f:Str) (t:T)
mutual
def eqT:T->T->Bool
 | .zr,.zr=>true
 | .bl a,.bl b=>a == b
 | .bl a,.int b=>(if a then 1 else 0) == b
 | .int a,.bl b=>a == (if b then 1 else 0)
 | .int a,.int b=>a == b
 | .str a,.str b=>a == b
 | .tup a,.tup b=>xo a b
 | .lst a,.lst b=>xo a b
 | .yL,.yL=>true
 | .err a b t,.err c d u=>a == c&&(b == d&&eqT t u)
 | _,_=>false
def xo:List T->List T->Bool
 | [],[]=>true
 | a::as,b::bs=>eqT a b&&xo as bs
 | _,_=>false
end
mutual
def dep:T->Nat
 | .tup ts=>1+xK ts
 | .lst ts=>1+xK ts
 | .yL=>cLine
 | .err _ _ _=>cLine
 | _=>0
def xK:List T->Nat
 | []=>0
 | t::ts=>max (dep t) (xK ts)
end
def jG:List T->Bool
 | []=>true
 | .int _::ts=>jG ts
 | _=>false
def R3 (ns:List Int):jG (ns.map T.int)=true:=by
 induction ns with
 | nil=>rfl
 | cons n ns ih=>show ih
mutual
def Sn (S:SS):T->D->Prop
 | .zr,d=>d=.zr
 | .bl b,d=>d=.bl b
 | .int i,d=>d=.int i
 | .str x,d=>d=.str x
 | .tup ts,d=>∃ ds,d=.tup ds/\zi S ts ds
 | .lst ts,d=>∃ ds,((d=.xn ds/\jG ts=true)\/∃ a,d=.ref a/\S a=↑(.lst ds))/\zi S ts ds
 | .yL,d=>∃ a Ab,(d=.ref a/\Ab=[])/\S a=↑(.zB Ab)
 | .err c f t,d=>∃ x,d=.err c f x/\Sn S t x
def zi (S:SS):List T->List D->Prop
 | [],ds=>ds=[]
 | t::ts,ds=>∃ c cs,ds=c::cs/\Sn S t c/\zi S ts cs
end
mutual
theorem iG:∀ t:T,eqT t t=true
 | .zr=>by simp[eqT]
 | .bl b=>by simp[eqT]
 | .int i=>by simp[eqT]
 | .str x=>by simp[eqT]
 | .tup ts=>by simp![eqT];show lP ts
 | .lst ts=>by simp![eqT];show lP ts
 | .yL=>by simp[eqT]
 | .err _ _ t=>by simp[eqT,iG t]
theorem lP:∀ ts:List T,xo ts ts=true
 | []=>by simp[xo]
 | t::ts=>by simp![xo,iG t,lP ts,DR]
end
theorem iE:∀ ts us:List T,xo ts us=((List.range (min ts.length us.length)).all (λ j=>eqT (ts.getD j .zr) (us.getD j .zr))&&ts.length == us.length)
 | [],[]=>by simp[xo]
 | [],_::_=>by simp[xo]
 | _::_,[]=>by simp[xo]
 | t::ts,u::us=>by
  simp![xo,iE ts us,Bj];rw[show min (ts.length+1) (us.length+1)=min ts.length us.length+1 by lia,Er,List.all_cons,List.all_map];have:(ts.length+1 == us.length+1)=(ts.length == us.length):=by rw[B2];simp
  rw[this,Bool.and_assoc];rfl
theorem zi.length {S:SS}:∀ {ts:List T}{ds:List D},zi S ts ds->ts.length=ds.length
 | [],ds,h=>by simp![zi] at h;subst h;rfl
 | t::ts,ds,h=>by
  simp![zi] at h;let#[c,cs,rfl,_,h2]:=h;simp[zi.length h2]
section
variable {X:Cx}{Ff:Aj}{Y:St}{H:Hp}{s:Shared}{S:SS}
theorem bc (I:Inv X Ff Y H s) {a:Addr}{xs ys:List V}(h1:zR X.K H a xs) (h2:zG X.K H a ys):False:=by
 let#[_,_,#[o,e,c,_],_]:=I.tuple h1;let#[_,_,#[o',n,e',c',_],_]:=I.list h2;rw[e] at e';cases e';rw[c] at c'
 injection c' with q
 show absurd q ()
def Sn.uU (p:zC X.K H S) {ts:List T}{d:D}{x:V}(h:Sn S (.lst ts) d) (r:zf X.K H d x):∃ a xs ds,x=.ref a/\zG X.K H a xs/\zj X.K H ds xs/\zi S ts ds:=by
 simp![Sn] at h;obtain⟨ds,⟨h,_⟩ | ⟨a,h,e⟩,h2⟩:=h
 .subst h;simp![zf] at r;let#[a,xs,rfl,g1,g2]:=r;show#[a,xs,ds,rfl,g1.sq,g2,h2]
 .subst h;simp![zf] at r;let#[xs,g1,g2]:=p _ _ e;show#[a,xs,ds,r,zG.of g1,g2,h2]
def Sn.uM {ts:List T}{d:D}{x:V}(h:Sn S (.tup ts) d) (r:zf X.K H d x):∃ a xs ds,x=.ref a/\zR X.K H a xs/\zj X.K H ds xs/\zi S ts ds:=by
 simp![Sn] at h;let#[ds,rfl,h2]:=h;simp![zf] at r;let#[a,xs,rfl,g1,g2]:=r;show#[a,xs,ds,rfl,g1,g2,h2]
def Sn.rh (p:zC X.K H S) {d:D}{x:V}(h:Sn S .yL d) (r:zf X.K H d x):∃ a vs,x=.ref a/\H a=↑(.dK vs):=by
 simp![Sn] at h;let#[a,Ab,#[rfl,_],e]:=h;simp![zf] at r;let#[xs,g1,g2]:=p _ _ e;show#[a,xs,r,g1]
def bq (I:Inv X Ff Y H s) {a:Addr}{vs:List (Key×V)}(h:H a=↑(.dK vs)):∃ o,s.heap.get? a=↑o/\o.cls=.type "dict":=by
 let#[_,_,_,_,o,_,_,e,c]:=(show yH X.prog X.w H s.heap a (.dK vs) from I.zm a _ h)
 show#[o,e,c.1.1]
theorem bg (I:Inv X Ff Y H s) {a:Addr}{xs:List V}{vs:List (Key×V)}(h1:zR X.K H a xs) (h2:H a=↑(.dK vs)):False:=by
 let#[_,_,#[o,e,c,_],_]:=I.tuple h1;let#[o',e',c']:=bq I h2;rw[e] at e';cases e';rw[c] at c'
 injection c' with q
 show absurd q ()
theorem bp (I:Inv X Ff Y H s) {a:Addr}{xs:List V}{vs:List (Key×V)}(h1:zG X.K H a xs) (h2:H a=↑(.dK vs)):False:=by
 let#[_,_,#[o,n,e,c,_],_]:=I.list h1;let#[o',e',c']:=bq I h2;rw[e] at e';cases e';rw[c] at c'
 injection c' with q
 show absurd q ()
theorem Sn.flat {t:T}{d:D}{x:V}(h:Sn S t d) (r:zf X.K H d x):match t with
  | .zr=>x=.zr
  | .bl b=>x=.bl b
  | .int i=>x=.int i
  | .str y=>x=.str y
  | _=>True:=by
 cases t <;> first
  | trivial
  | (simp![Sn] at h;subst h;simpa only [zf] using r)
def Sn.sa {c f:Str}{t:T}{d:D}{x:V}(h:Sn S (.err c f t) d) (r:zf X.K H d x):∃ e C dx w y,x=.ref e/\(rK X.K c C/\H e=↑(wX e C dx)/\Xd H f w dx)/\Sn S t y/\zf X.K H y w:=by
 simp![Sn] at h;let#[y,rfl,h]:=h;simp![zf] at r;let#[e,C,dx,w,r1,r2,r3]:=r;show#[e,C,dx,w,y,r1,r2,h,r3]
def lE (I:Inv X Ff Y H s) {e C:Addr}{dx:Option Addr}(h:H e=↑(wX e C dx)):∃ oe vs,s.heap.get? e=↑oe/\oe.cls=.ref C/\oe.dict=dx/\oe.data=.fields vs:=(show yH X.prog X.w H s.heap e (wX e C dx) from I.zm e _ h).1
def bf (I:Inv X Ff Y H s) {a C:Addr}{dx:Option Addr}{xs:List V}(h1:zR X.K H a xs) (h2:H a=↑(wX a C dx)):False:=by
 let#[_,_,#[o,e,c,_],_]:=I.tuple h1;let#[o',_,e',c',_]:=lE I h2;rw[e] at e';cases e';rw[c] at c';cases c'
def bo (I:Inv X Ff Y H s) {a C:Addr}{dx:Option Addr}{xs:List V}(h1:zG X.K H a xs) (h2:H a=↑(wX a C dx)):False:=by
 let#[_,_,#[o,n,e,c,_],_]:=I.list h1;let#[o',_,e',c',_]:=lE I h2;rw[e] at e';cases e';rw[c] at c';cases c'
def bu (I:Inv X Ff Y H s) {a C:Addr}{dx:Option Addr}{vs:List (Key×V)}(h1:H a=↑(.dK vs)) (h2:H a=↑(wX a C dx)):False:=by
 rw[h1] at h2;cases h2
def Nb (I:Inv X Ff Y H s) {e C C':Addr}{dx dx':Option Addr}(h1:H e=↑(wX e C dx)) (h2:H e=↑(wX e C' dx')):C=C'/\dx=dx':=by
 let#[o,_,e1,c1,d1,_]:=lE I h1;let#[o',_,e2,c2,d2,_]:=lE I h2;rw[e1] at e2;cases e2;rw[c1] at c2;rw[d1] at d2;cases c2;cases d2;show#[rfl,rfl]
def Xd.inj {H:Hp}{f f':Str}{w w':V}{dx:Option Addr}(h1:Xd H f w dx) (h2:Xd H f' w' dx):f=f'/\w=w':=by
 cases dx with
 | none=>show#[h1.1.trans h2.1.symm,h1.2.trans h2.2.symm]
 | some x=>have:=h1.symm.trans h2;cases this;show#[rfl,rfl]
def rK.inj {K:Ac}{c c':Str}{C:Addr}(h1:rK K c C) (h2:rK K c' C):c=c':=by
 let#[_,_,_,#[#[#[_,_,_,_,_,_,_,_,_,_,_,_,a],_],_,_,_,_]]:=h1;let#[_,_,_,#[#[#[_,_,_,_,_,_,_,_,_,_,_,_,b],_],_,_,_,_]]:=h2;rw[a] at b;cases b;rfl
mutual
theorem mE (I:Inv X Ff Y H s) (p:zC X.K H S):∀ (t u:T) {d e:D}{x:V},Sn S t d->Sn S u e->zf X.K H d x->zf X.K H e x->t=u
 | .tup ts,u,d,e,x,h1,h2,r1,r2=>by
  let#[a,xs,ds,rfl,g1,g2,g3]:=h1.uM r1;cases u with
  | yL=>let#[_,_,q,g]:=h2.rh p r2;cases q;show (bg I g1 g).elim
  | err _ _ _=>let#[_,_,_,_,_,q,g,_]:=h2.sa r2;cases q;show (bf I g1 g.2.1).elim
  | tup us=>
   let#[a',FA,HK,q,k1,k2,k3]:=h2.uM r2;cases q;have:=I.jc g1 k1;subst this;rw[ja I p ts us g3 k3 g2 k2]
  | lst us=>
   let#[a',FA,HK,q,k1,k2,k3]:=h2.uU p r2;cases q;show (bc I g1 k1).elim
  | _=>show nomatch h2.flat r2
 | .lst ts,u,d,e,x,h1,h2,r1,r2=>by
  let#[a,xs,ds,rfl,g1,g2,g3]:=h1.uU p r1;cases u with
  | yL=>let#[_,_,q,g]:=h2.rh p r2;cases q;show (bp I g1 g).elim
  | err _ _ _=>let#[_,_,_,_,_,q,g,_]:=h2.sa r2;cases q;show (bo I g1 g.2.1).elim
  | lst us=>
   let#[a',FA,HK,q,k1,k2,k3]:=h2.uU p r2;cases q;have:=I.jV g1 k1;subst this;rw[ja I p ts us g3 k3 g2 k2]
  | tup us=>
   let#[a',FA,HK,q,k1,k2,k3]:=h2.uM r2;cases q;show (bc I k1 g1).elim
  | _=>show nomatch h2.flat r2
 | .zr,u,d,e,x,h1,h2,r1,r2=>by
  have q:=h1.flat r1;subst q;cases u with
  | yL=>let#[_,_,q,g]:=h2.rh p r2;cases q
  | err _ _ _=>let#[_,_,_,_,_,q,_]:=h2.sa r2;cases q
  | zr=>rfl
  | tup us=>let#[_,_,_,q,_]:=h2.uM r2;cases q
  | lst us=>let#[_,_,_,q,_]:=h2.uU p r2;cases q
  | _=>show nomatch h2.flat r2
 | .bl b,u,d,e,x,h1,h2,r1,r2=>by
  have q:=h1.flat r1;subst q;cases u with
  | yL=>let#[_,_,q,g]:=h2.rh p r2;cases q
  | err _ _ _=>let#[_,_,_,_,_,q,_]:=h2.sa r2;cases q
  | bl _=>have q:=h2.flat r2;cases q;rfl
  | tup us=>let#[_,_,_,q,_]:=h2.uM r2;cases q
  | lst us=>let#[_,_,_,q,_]:=h2.uU p r2;cases q
  | _=>show nomatch h2.flat r2
 | .int b,u,d,e,x,h1,h2,r1,r2=>by
  have q:=h1.flat r1;subst q;cases u with
  | yL=>let#[_,_,q,g]:=h2.rh p r2;cases q
  | err _ _ _=>let#[_,_,_,_,_,q,_]:=h2.sa r2;cases q
  | int _=>have q:=h2.flat r2;cases q;rfl
  | tup us=>let#[_,_,_,q,_]:=h2.uM r2;cases q
  | lst us=>let#[_,_,_,q,_]:=h2.uU p r2;cases q
  | _=>show nomatch h2.flat r2
 | .str b,u,d,e,x,h1,h2,r1,r2=>by
  have q:=h1.flat r1;subst q;cases u with
  | yL=>let#[_,_,q,g]:=h2.rh p r2;cases q
  | err _ _ _=>let#[_,_,_,_,_,q,_]:=h2.sa r2;cases q
  | str _=>have q:=h2.flat r2;cases q;rfl
  | tup us=>let#[_,_,_,q,_]:=h2.uM r2;cases q
  | lst us=>let#[_,_,_,q,_]:=h2.uU p r2;cases q
  | _=>show nomatch h2.flat r2
 | .err c f t,u,d,e,x,h1,h2,r1,r2=>by
  let#[a,C,dx,w,y,rfl,#[g1,g2,g3],g4,g5]:=h1.sa r1;cases u with
  | err c' f' t'=>
   let#[a',C',dx',w',y',q,#[k1,k2,k3],k4,k5]:=h2.sa r2;cases q;let#[rfl,rfl]:=Nb I g2 k2;let#[rfl,rfl]:=g3.inj k3;cases g1.inj k1;rw[mE I p t t' g4 k4 g5 k5]
  | yL=>let#[_,_,q,g]:=h2.rh p r2;cases q;show (bu I g g2).elim
  | tup us=>let#[_,_,_,q,k1,_]:=h2.uM r2;cases q;show (bf I k1 g2).elim
  | lst us=>let#[_,_,_,q,k1,_]:=h2.uU p r2;cases q;show (bo I k1 g2).elim
  | _=>show nomatch h2.flat r2
 | .yL,u,d,e,x,h1,h2,r1,r2=>by
  let#[a,vs,rfl,g]:=h1.rh p r1;cases u with
  | yL=>rfl
  | err _ _ _=>let#[_,_,_,_,_,q,g',_]:=h2.sa r2;cases q;show (bu I g g'.2.1).elim
  | tup us=>let#[_,_,_,q,g1,_]:=h2.uM r2;cases q;show (bg I g1 g).elim
  | lst us=>let#[_,_,_,q,g1,_]:=h2.uU p r2;cases q;show (bp I g1 g).elim
  | _=>show nomatch h2.flat r2
theorem ja (I:Inv X Ff Y H s) (p:zC X.K H S):∀ (ts us:List T) {ds es:List D}{xs:List V},zi S ts ds->zi S us es->zj X.K H ds xs->zj X.K H es xs->ts=us
 | [],us,ds,es,xs,h1,h2,r1,r2=>by
  have e:=h1.length.trans (r1.length.trans (r2.length.symm.trans h2.length.symm));cases us with
  | nil=>rfl
  | cons _ _=>simp at e
 | t::ts,[],ds,es,xs,h1,h2,r1,r2=>by
  have e:=h1.length.trans (r1.length.trans (r2.length.symm.trans h2.length.symm));simp at e
 | t::ts,u::us,ds,es,xs,h1,h2,r1,r2=>by
  simp![zi] at h1 h2;let#[c,cs,rfl,a1,a2]:=h1;let#[c',cs',rfl,b1,b2]:=h2;simp![zj] at r1 r2;let#[y,ys,rfl,g1,g2]:=r1;let#[y',IY,q,k1,k2]:=r2;cases q;rw[mE I p t u a1 b1 g1 k1,ja I p ts us a2 b2 g2 k2]
end
theorem zi.get {ts:List T}{ds:List D}(h:zi S ts ds):∀ {j:Nat},j<ts.length->∃ c,ds[j]?=↑c/\Sn S (ts.getD j .zr) c:=by
 induction ts generalizing ds with
 | nil=>intro j hj;simp at hj
 | cons t ts ih=>
  intro j hj;simp![zi] at h;let#[c,cs,rfl,h1,h2]:=h;cases j with
  | zero=>show#[c,rfl,h1]
  | succ j=>
   let#[c',e,h3]:=ih h2 (j:=j) (by exists hj);show#[c',by simpa using e,by exists h3]
theorem lV:∀ {ts:List T}{j:Nat},j<ts.length->dep (ts.getD j .zr)<=xK ts
 | [],j,h=>by simp at h
 | t::ts,0,_=>by simp![xK,List.getD_cons_zero];lia
 | t::ts,j+1,h=>by
  have:=lV (ts:=ts) (j:=j) (by exists h);simp![xK,List.getD_cons_succ];lia
inductive qp (K:Ac) (H:Hp) (S:SS) (s:Shared):T->Value->Prop
 | zr:qp K H S s .zr .none
 | bl {b:Bool}:qp K H S s (.bl b) (.bool b)
 | int {i:Int}{k:Tok}:qp K H S s (.int i) (.int i k)
 | str {i:Str}{k:Tok}:qp K H S s (.str i) (.str i k)
 | tup {ts:List T}{ds:List D}{xs:List V}{us:Ae}{l:Addr}(g:zi S ts ds) (r:zj K H ds xs) (v:Vals xs us) (h:s.heap.IsTuple l us.toArray):qp K H S s (.tup ts) (.ref l)
 | lst {ts:List T}{ds:List D}{xs:List V}{us:Ae}{l:Addr}(g:zi S ts ds) (r:zj K H ds xs) (v:Vals xs us) (h:s.heap.IsList l us.toArray):qp K H S s (.lst ts) (.ref l)
def eG (I:Inv X Ff Y H s) (p:zC X.K H S) {t:T}{d:D}{x:V}{a:Value}(h:Sn S t d) (r:zf X.K H d x) (v:RelV x a) (z:dep t<cLine):qp X.K H S s t a:=by
 cases t with
 | zr=>have q:=h.flat r;subst q;cases v;show .zr
 | bl _=>have q:=h.flat r;subst q;cases v;show .bl
 | int _=>have q:=h.flat r;subst q;let#[_,rfl]:=v;show .int
 | str _=>have q:=h.flat r;subst q;let#[_,rfl]:=v;show .str
 | tup _=>let#[l,xs,ds,rfl,g,r,q]:=h.uM r;cases v;let#[_,w,i,_]:=I.tuple g;show .tup q r w i
 | lst _=>let#[l,xs,ds,rfl,g,r,q]:=h.uU p r;cases v;let#[_,w,i,_]:=I.list g;show .lst q r w i.isList
 | _=>simp![dep] at z;lia
abbrev J3 (A:Around) (s:Shared) (a b:Value) (k:Bool):Prop:=SeqAt.EqAt A s a b k/\SeqAt.RcAt A s a b k/\SeqAt.RcNeAt A s a b (!k)
theorem Lx (I:Inv X Ff Y H s) (p:zC X.K H S):∀ (n:Nat) (t u:T) {A:Around}{d e:D}{x y:V}{a b:Value},dep t<n->A.units+dep t<cLine->A.units+dep u<cLine->Sn S t d->Sn S u e->zf X.K H d x->zf X.K H e y->RelV x a->RelV y b->J3 A s a b (eqT t u):=by
 intro n
 induction n with
 | zero=>intros;lia
 | succ n ih=>
  intro t u A d e x y a b hn hu IP h1 h2 r1 r2 v1 v2;have hq:a=b->t=u:=λ z=>by subst z;have:=v1.inj v2;subst this;show mE I p t u h1 h2 r1 r2
  have c1:=eG I p h1 r1 v1 ⋯;have c2:=eG I p h2 r2 v2 ⋯;clear h1 h2 r1 r2 v1 v2;have hA:A.units<cLine:=⋯;have el:∀ {ts us:List T}{ds HK:List D}{xs FA:List V}{is IM:Ae},1+xK ts<n+1->A.units+(1+xK ts)<cLine->A.units+(1+xK us)<cLine->zi S ts ds->zi S us HK->zj X.K H ds xs->zj X.K H HK FA->Vals xs is->Vals FA IM->is.toArray.size=ts.length/\IM.toArray.size=us.length/\
    ∀ (j:Nat) (h1:j<is.toArray.size) (h2:j<IM.toArray.size),SeqAt.EqAt A.in1 s is.toArray[j] IM.toArray[j] (eqT (ts.getD j .zr) (us.getD j .zr)):=by
   intro ts us ds HK xs FA is IM a1 a2 a3 g1 g2 r1 r2 v1 v2;have e1:is.toArray.size=ts.length:=by rw[AD,<- v1.length,<- r1.length,<- g1.length]
   have e2:IM.toArray.size=us.length:=by rw[AD,<- v2.length,<- r2.length,<- g2.length]
   exact#[e1,e2,λ j h1 h2=>?_];let#[_,k1,s1]:=g1.get (e1▸h1);let#[_,k2,s2]:=g2.get (e2▸h2);let#[_,f1,q1]:=r1.get k1;let#[_,f2,q2]:=r2.get k2;let#[w1,o1,m1]:=v1.get f1;let#[w2,o2,m2]:=v2.get f2;have y1:=lV (e1▸h1);have y2:=lV (e2▸h2);let#[_,z1]:=AU.mp o1;let#[_,z2]:=AU.mp o2;rw[List.getElem_toArray,List.getElem_toArray,z1,z2];show (ih _ _ (A:=A.in1) ⋯ (by change A.units+1+_<_;lia) (by change A.units+1+_<_;lia) s1 s2 q1 q2 m1 m2).1
  have en:∀ {l l':Addr}{ts us:List T},(Value.ref l=.ref l'->ts=us)->SeqAt.RcAt A s (.ref l) (.ref l') (xo ts us)/\SeqAt.RcNeAt A s (.ref l) (.ref l') (!xo ts us)->J3 A s (.ref l) (.ref l') (xo ts us):=λ{l l' ts us} h q=>by
   exact#[?_,q];by_cases z:l=l'
   .subst z;rw[h rfl,lP];show .same _
   .show .of_refs z q.1
  cases c1 <;> cases c2 <;> simp![eqT,C7,C8]
  .show#[.same _,.none_none,.none_none]
  .show#[.none_bool _,.none_bool _,.none_bool _]
  .show#[.none_int _ _,.none_int _ _,.none_int _ _]
  .show#[.none_str _ _,.none_str _ _,.none_str _ _]
  .show#[.none_tuple ‹_› hA,.none_tuple ‹_› hA,.none_tuple ‹_› hA]
  .show#[.none_list ‹_› hA,.none_list ‹_› hA,.none_list ‹_› hA]
  .show#[.bool_none _,.bool_none _,.bool_none _]
  .show#[.bool_bool _ _,.bool_bool _ _,.bool_bool _ _]
  .show#[.bool_int _ _ _,.bool_int _ _ _,.bool_int _ _ _]
  .show#[.bool_str _ _ _,.bool_str _ _ _,.bool_str _ _ _]
  .show#[.bool_tuple _ ‹_› hA,.bool_tuple _ ‹_› hA,.bool_tuple _ ‹_› hA]
  .show#[.bool_list _ ‹_› hA,.bool_list _ ‹_› hA,.bool_list _ ‹_› hA]
  .show#[.int_none _ _,.int_none _ _,.int_none _ _]
  .show#[.int_bool _ _ _,.int_bool _ _ _,.int_bool _ _ _]
  .show#[.int_int _ _ _ _,.int_int _ _ _ _,.int_int _ _ _ _]
  .show#[.int_str _ _ _ _,.int_str _ _ _ _,.int_str _ _ _ _]
  .show#[.int_tuple _ _ ‹_› hA,.int_tuple _ _ ‹_› hA,.int_tuple _ _ ‹_› hA]
  .show#[.int_list _ _ ‹_› hA,.int_list _ _ ‹_› hA,.int_list _ _ ‹_› hA]
  .show#[.str_none _ _,.str_none _ _,.str_none _ _]
  .show#[.str_bool _ _ _,.str_bool _ _ _,.str_bool _ _ _]
  .show#[.str_int _ _ _ _,.str_int _ _ _ _,.str_int _ _ _ _]
  .show#[.str_str _ _ _ _,.str_str _ _ _ _,.str_str _ _ _ _]
  .show#[.str_tuple _ _ ‹_› hA,.str_tuple _ _ ‹_› hA,.str_tuple _ _ ‹_› hA]
  .show#[.str_list _ _ ‹_› hA,.str_list _ _ ‹_› hA,.str_list _ _ ‹_› hA]
  .show#[.tuple_none ‹_› hA,.tuple_none ‹_› hA,.tuple_none ‹_› hA]
  .show#[.tuple_bool _ ‹_› hA,.tuple_bool _ ‹_› hA,.tuple_bool _ ‹_› hA]
  .show#[.tuple_int _ _ ‹_› hA,.tuple_int _ _ ‹_› hA,.tuple_int _ _ ‹_› hA]
  .show#[.tuple_str _ _ ‹_› hA,.tuple_str _ _ ‹_› hA,.tuple_str _ _ ‹_› hA]
  .rename_i g1 r1 v1 k1 _ _ _ _ _ g2 r2 v2 k2;simp![dep] at hn hu IP;let#[e1,e2,q]:=el hn hu IP g1 g2 r1 r2 v1 v2;exact en (λ z=>by cases hq z;rfl) ?_;rw[iE,<- e1,<- e2];show#[.tuples k1 k2 hA q,.tuples k1 k2 hA q]
  .show#[.tuple_list ‹_› ‹_› hA,.tuple_list ‹_› ‹_› hA,.tuple_list ‹_› ‹_› hA]
  .show#[.list_none ‹_› hA,.list_none ‹_› hA,.list_none ‹_› hA]
  .show#[.list_bool _ ‹_› hA,.list_bool _ ‹_› hA,.list_bool _ ‹_› hA]
  .show#[.list_int _ _ ‹_› hA,.list_int _ _ ‹_› hA,.list_int _ _ ‹_› hA]
  .show#[.list_str _ _ ‹_› hA,.list_str _ _ ‹_› hA,.list_str _ _ ‹_› hA]
  .show#[.list_tuple ‹_› ‹_› hA,.list_tuple ‹_› ‹_› hA,.list_tuple ‹_› ‹_› hA]
  .rename_i i1 _ g1 r1 v1 k1 _ _ _ i2 _ g2 r2 v2 k2;simp![dep] at hn hu IP;let#[e1,e2,q]:=el hn hu IP g1 g2 r1 r2 v1 v2;exact en (λ z=>by cases hq z;rfl) ?_;rw[iE,<- e1,<- e2];by_cases z:i1.toArray.size=i2.toArray.size
   .rw[<- z,Nat.min_self,beq_self_eq_true,Bool.and_true];show#[.lists k1 k2 z hA q,.lists k1 k2 z hA q]
   .rw[beq_eq_false_iff_ne.mpr z,C0];have z':=bne_iff_ne.mpr z;show#[.lists_lengths k1 k2 z' hA,.lists_lengths k1 k2 z' hA]
def gi (I:Inv X Ff Y H s) (p:zC X.K H S) (t u:T) {A:Around}{d e:D}{x y:V}{a b:Value}(hu:A.units+dep t<cLine) (IP:A.units+dep u<cLine) (h1:Sn S t d) (h2:Sn S u e) (r1:zf X.K H d x) (r2:zf X.K H e y) (v1:RelV x a) (v2:RelV y b):J3 A s a b (eqT t u):=Lx I p _ t u (CG _) hu IP h1 h2 r1 r2 v1 v2
end
def j6 (K:Ac) (neg:Bool):R2:=λ x y H Q=>∃ S d e t u,zf K H d x/\zf K H e y/\zC K H S/\Sn S t d/\Sn S u e/\dep t<=60/\dep u<=60/\Q (.bl (cond neg (!eqT t u) (eqT t u))) H
def vd (neg:Bool):y7:=λ x y S Q=>∃ t u,Sn S t x/\Sn S u y/\dep t<=60/\dep u<=60/\Q (.bl (cond neg (!eqT t u) (eqT t u))) S
def vd.mo {neg:Bool}:xv (vd neg):=λ _ _ _ _ _ hq #[t,u,a,b,c,d,h]=>#[t,u,a,b,c,d,hq _ _ h]
def vd.fits {K:Ac}{neg:Bool}:xl K (vd neg) (j6 K neg):=λ x y d e H S Q h1 h2 h3 #[t,u,a,b,c,c',h]=>#[S,d,e,t,u,h1,h2,h3,a,b,c,c',h _ H (by simp![zf]) (.refl H) h3]
section
variable {X:Cx}{a b:Expr}{ta tb:zp}{pos:Pos}
theorem dR (hu:X.A.units+64<cLine):zZ X (compareOp .Eq) (j6 X.K false):=by
 intro Ff s Y H x y v u Q I rx ry h;let#[S,d,e,t,u',a1,a2,a3,a4,a5,a6,a7,q]:=h;show (gi I a3 t u' (A:=X.A) ⋯ ⋯ a4 a5 a1 a2 rx ry).2.1 X.prog X.w X.xe _ #[.bl _,H,I,rfl,q]
theorem Rf (hu:X.A.units+64<cLine):zZ X (compareOp .NotEq) (j6 X.K true):=by
 intro Ff s Y H x y v u Q I rx ry h;let#[S,d,e,t,u',a1,a2,a3,a4,a5,a6,a7,q]:=h;show (gi I a3 t u' (A:=X.A) ⋯ ⋯ a4 a5 a1 a2 rx ry).2.2 X.prog X.w X.xe _ #[.bl _,H,I,rfl,q]
def Sz {k:Nat}(hr:yb k X.A) (ha:PD X a ta) (hb:PD X b tb):PD X (.Compare a [.Eq] [b] pos) (yk (vd false) ta tb):=dJ (dR hr.units) vd.fits vd.mo ha hb (sM _)
def UE {k:Nat}(hr:yb k X.A) (ha:PD X a ta) (hb:PD X b tb):yX X (.Compare a [.Eq] [b] pos) (vD (yk (vd false) ta tb)):=sI (dR hr.units) vd.fits vd.mo ha hb (sM _)
def U8 {k:Nat}(hr:yb k X.A) (ha:PD X a ta) (hb:PD X b tb):yX X (.Compare a [.NotEq] [b] pos) (vD (yk (vd true) ta tb)):=sI (Rf hr.units) vd.fits vd.mo ha hb (sM _)
def j5 (K:Ac) (neg:Bool):R2:=λ x y H Q=>∃ S d e u ts ds,zf K H d x/\zf K H e y/\zC K H S/\Sn S u d/\zP e S=↑ds/\zi S ts ds/\dep u<=60/\xK ts<=60/\Q (.bl (cond neg (!(ts.any λ t=>eqT t u)) (ts.any λ t=>eqT t u))) H
def uD (neg:Bool):y7:=λ x y S Q=>∃ u ts ds,Sn S u x/\zP y S=↑ds/\zi S ts ds/\dep u<=60/\xK ts<=60/\Q (.bl (cond neg (!(ts.any λ t=>eqT t u)) (ts.any λ t=>eqT t u))) S
def uD.mo {neg:Bool}:xv (uD neg):=λ _ _ _ _ _ hq #[u,ts,ds,a,b,c,d,e,h]=>#[u,ts,ds,a,b,c,d,e,hq _ _ h]
def uD.fits {K:Ac}{neg:Bool}:xl K (uD neg) (j5 K neg):=λ x y d e H S Q h1 h2 h3 #[u,ts,ds,a,b,c,c',c2,h]=>#[S,d,e,u,ts,ds,h1,h2,h3,a,b,c,c',c2,h _ H (by simp![zf]) (.refl H) h3]
open Classical in
def wD (Aa:Ae) (ts:List T) (u:T) (v:Value):Bool:=if h:∃ j,Aa[j]?=↑v then eqT (ts.getD (Classical.choose h) .zr) u else false
def gh {Ff:Aj}{Y:St}{H:Hp}{s:Shared}{S:SS}(I:Inv X Ff Y H s) (p:zC X.K H S) {ts:List T}{ds:List D}{xs:List V}{Aa:Ae}(h1:zi S ts ds) (h2:zj X.K H ds xs) (h3:Vals xs Aa) (u:T) {j:Nat}{v:Value}(hj:Aa[j]?=↑v):
  wD Aa ts u v=eqT (ts.getD j .zr) u:=by
 have h:∃ j,Aa[j]?=↑v:=#[j,hj];unfold wD;rw[dif_pos h];have hc:=Classical.choose_spec h;have lt:∀ i,Aa[i]?=↑v->i<ts.length:=λ i hi=>by
  rw[h1.length,h2.length,h3.length];show (AU.mp hi).1
 let#[c1,e1,s1]:=h1.get (lt _ hc);let#[c2,e2,s2]:=h1.get (lt _ hj);let#[x1,f1,r1]:=h2.get e1;let#[x2,f2,r2]:=h2.get e2;let#[v1,g1,q1]:=h3.get f1;let#[v2,g2,q2]:=h3.get f2;rw[hc] at g1;cases g1;rw[hj] at g2;cases g2;have hx:=q1.inj q2;subst hx;rw[mE I p _ _ s1 s2 r1 r2]
theorem k6 {Ff:Aj}{Y:St}{H:Hp}{s:Shared}{S:SS}(I:Inv X Ff Y H s) (p:zC X.K H S) {ts:List T}{ds:List D}{xs:List V}{Aa:Ae}(h1:zi S ts ds) (h2:zj X.K H ds xs) (h3:Vals xs Aa) (u:T):Aa.any (wD Aa ts u)=ts.any λ t=>eqT t u:=by
 have hl:ts.length=Aa.length:=by rw[h1.length,h2.length,h3.length]
 rw[B2,Bi,Bi];constructor
 .rintro⟨v,hv,h⟩;let#[j,hj,rfl]:=Cp.mp hv;rw[gh I p h1 h2 h3 u (j:=j) (by simp[hj])] at h;have Hi:j<ts.length:=⋯;show#[ts[j],CH Hi,by simpa [Hi] using h]
 .rintro⟨t,ht,h⟩;let#[j,hj,rfl]:=Cp.mp ht;have Hi:j<Aa.length:=⋯;show#[Aa[j],CH Hi,by rw[gh I p h1 h2 h3 u (j:=j) (by simp[Hi])];simpa [hj] using h]
def k7 {Ff:Aj}{Y:St}{H:Hp}{s:Shared}{S:SS}(I:Inv X Ff Y H s) (p:zC X.K H S) {ts:List T}{ds:List D}{xs:List V}{Aa:Ae}(h1:zi S ts ds) (h2:zj X.K H ds xs) (h3:Vals xs Aa) {u:T}{d:D}{x:V}{v:Value}(hu:Sn S u d) (hd:zf X.K H d x) (hx:RelV x v) {A:Around}(b1:A.units+xK ts<cLine) (b2:A.units+dep u<cLine) {y:Value}(hy:y∈Aa):
  SeqAt.EqAt A s y v (wD Aa ts u y):=by
 let#[j,hj,rfl]:=Cp.mp hy;have hjt:j<ts.length:=by rw[h1.length,h2.length,h3.length];show hj
 rw[gh I p h1 h2 h3 u (j:=j) (by simp[hj])];let#[c1,e1,s1]:=h1.get hjt;let#[x1,f1,r1]:=h2.get e1;let#[v1,g1,q1]:=h3.get f1;have:Aa[j]=v1:=by
  have:=AU.mp g1;show this.2
 rw[this];have:=lV hjt;show (gi I p _ u (A:=A) ⋯ b2 s1 hu r1 hd q1 hx).1
theorem Rr (hu:X.A.units+64<cLine):zZ X (compareOp .In) (j5 X.K false):=by
 intro Ff s Y H x y v w Q I rx ry h;let#[S,d,e,u,ts,ds,a1,a2,a3,a4,a5,a6,a7,a8,q]:=h;let#[l,xs,rfl,g1,g2]:=zP.sq a2 a3 a5;cases ry;rcases g1 with g1 | g1
 .let#[Aa,w1,pl,_]:=I.list g1;exact SeqAt.in_listAt (wD Aa ts u) pl.isList (λ y hy=>k7 I a3 a6 g2 w1 a4 a1 rx (A:=X.A.in1) (by change X.A.units+1+_<_;lia) (by change X.A.units+1+_<_;lia) (by exists hy)) #[.bl _,H,I,rfl,?_];rw[show Aa.toArray.any (wD Aa ts u)=Aa.any (wD Aa ts u) by simp,k6 I a3 a6 g2 w1];show q
 .let#[Aa,w1,pt,_]:=I.tuple g1;exact SeqAt.in_tupleAt (wD Aa ts u) pt (λ y hy=>k7 I a3 a6 g2 w1 a4 a1 rx (A:=X.A.in1) (by change X.A.units+1+_<_;lia) (by change X.A.units+1+_<_;lia) (by exists hy)) #[.bl _,H,I,rfl,?_];rw[show Aa.toArray.any (wD Aa ts u)=Aa.any (wD Aa ts u) by simp,k6 I a3 a6 g2 w1];show q
theorem Rb (hu:X.A.units+64<cLine):zZ X (compareOp .NotIn) (j5 X.K true):=by
 intro Ff s Y H x y v w Q I rx ry h;let#[S,d,e,u,ts,ds,a1,a2,a3,a4,a5,a6,a7,a8,q]:=h;let#[l,xs,rfl,g1,g2]:=zP.sq a2 a3 a5;cases ry;rcases g1 with g1 | g1
 .let#[Aa,w1,pl,_]:=I.list g1;exact SeqAt.notIn_listAt (wD Aa ts u) pl.isList (λ y hy=>k7 I a3 a6 g2 w1 a4 a1 rx (A:=X.A.in1) (by change X.A.units+1+_<_;lia) (by change X.A.units+1+_<_;lia) (by exists hy)) #[.bl _,H,I,rfl,?_];rw[show Aa.toArray.any (wD Aa ts u)=Aa.any (wD Aa ts u) by simp,k6 I a3 a6 g2 w1];show q
 .let#[Aa,w1,pt,_]:=I.tuple g1;exact SeqAt.notIn_tupleAt (wD Aa ts u) pt (λ y hy=>k7 I a3 a6 g2 w1 a4 a1 rx (A:=X.A.in1) (by change X.A.units+1+_<_;lia) (by change X.A.units+1+_<_;lia) (by exists hy)) #[.bl _,H,I,rfl,?_];rw[show Aa.toArray.any (wD Aa ts u)=Aa.any (wD Aa ts u) by simp,k6 I a3 a6 g2 w1];show q
def UD {k:Nat}(hr:yb k X.A) (ha:PD X a ta) (hb:PD X b tb) (hm:behindInMarks .In b=false):yX X (.Compare a [.In] [b] pos) (vD (yk (uD false) ta tb)):=sI (Rr hr.units) uD.fits uD.mo ha hb hm
def U6 {k:Nat}(hr:yb k X.A) (ha:PD X a ta) (hb:PD X b tb) (hm:behindInMarks .NotIn b=false):yX X (.Compare a [.NotIn] [b] pos) (vD (yk (uD true) ta tb)):=sI (Rb hr.units) uD.fits uD.mo ha hb hm
end
end L3
namespace L2
open PySem PySem.Spec PyProof.Rows
section
variable {κ:Type}[DecidableEq κ]
def wc (Ab:List (κ × V)) (k:κ):Option V:=(Ab.find? λ kv=>decide (kv.1=k)).map (·.2)
def putK (Ab:List (κ × V)) (k:κ) (v:V):List (κ × V):=
 if (Ab.any λ kv=>decide (kv.1=k))=true then Ab.map (λ kv=>if kv.1=k then (kv.1,v) else kv) else Ab++[(k,v)]
def kY {p:κ × V}{r:List (κ × V)}{k:κ}(e:p.1=k):wc (p::r) k=↑p.2:=by simp[wc,CA,e]
def kZ {p:κ × V}{r:List (κ × V)}{k:κ}(e:¬ p.1=k):wc (p::r) k=wc r k:=by simp[wc,CA,e]
theorem fB (k:κ):∀ Ab:List (κ × V),(Ab.any λ kv=>decide (kv.1=k))=(wc Ab k).isSome
 | []=>rfl
 | p::r=>by
  rw[BH];by_cases e:p.1=k
  .simp![kY e,zaA e,Bool.true_or,Option.isSome_some]
  .rw[kZ e,za5 e,Bool.false_or];show fB k r
def cG (Ab:List (κ × V)) (k:κ) (v:V):(putK Ab k v).length<=Ab.length+1:=by
 unfold putK;split
 .rw[AA];lia
 .rw[Bs,Bj,C3];lia
def uk.OU {o:Option V}{u:Option Value}(r:uk o u):o.isSome=u.isSome:=by
 cases o with
 | none=>cases u with
  | none=>rfl
  | some _=>show (show False from r).elim
 | some _=>cases u with
  | none=>show (show False from r).elim
  | some _=>rfl
theorem uk.getD {o:Option V}{u:Option Value}{d:V}{d':Value}(r:uk o u) (rd:RelV d d'):RelV (o.getD d) (u.getD d'):=by
 cases o with
 | none=>cases u with
  | none=>show rd
  | some _=>show (show False from r).elim
 | some _=>cases u with
  | none=>show (show False from r).elim
  | some _=>show r
def KV.val {Ab:List (κ × V)}{vs:List (κ × Value)}(r:KV Ab vs) (k:κ):uk (wc Ab k) (valueAt vs k):=by
 unfold KV at r
 induction r with
 | nil=>show True.intro
 | @cons p q ps qs h t ih=>
  let#[h1,h2]:=h;by_cases e:p.1=k
  .have e':q.1=k:=h1.symm.trans e;have b:valueAt (q::qs) k=↑q.2:=by simp[valueAt,CA,e']
   rw[kY e,b];show h2
  .have e':¬ q.1=k:=λ z=>e (h1.trans z);have b:valueAt (q::qs) k=valueAt qs k:=by simp[valueAt,CA,e']
   rw[kZ e,b];show ih
theorem KV.any {Ab:List (κ × V)}{vs:List (κ × Value)}(r:KV Ab vs) (k:κ):(Ab.any λ kv=>decide (kv.1=k))=vs.any λ kv=>decide (kv.1=k):=by
 unfold KV at r
 induction r with
 | nil=>rfl
 | cons h t ih=>rw[BH,BH,ih,h.1]
def KV.uN {Ab:List (κ × V)}{vs:List (κ × Value)}(r:KV Ab vs) (k:κ) {y:V}{u:Value}(ry:RelV y u):
  KV (Ab.map λ kv=>if kv.1=k then (kv.1,y) else kv) (vs.map λ kv=>if kv.1=k then (kv.1,u) else kv):=by
 unfold KV at r ⊢
 induction r with
 | nil=>show .nil
 | @cons p q ps qs h t ih=>
  rw[Ar,Ar];exact .cons ?_ ih;let#[h1,h2]:=h;by_cases e:p.1=k
  .rw[if_pos e,if_pos (h1.symm.trans e)];show#[h1,ry]
  .rw[if_neg e,if_neg (λ z=>e (h1.trans z))];show#[h1,h2]
def KV.put {Ab:List (κ × V)}{vs:List (κ × Value)}(r:KV Ab vs) (k:κ) {y:V}{u:Value}(ry:RelV y u):KV (putK Ab k y) (stored vs k u):=by
 unfold putK stored;rw[r.any k];by_cases e:(vs.any λ kv=>decide (kv.1=k))=true
 .rw[if_pos e,if_pos e];show r.uN k ry
 .rw[if_neg e,if_neg e];show Paired.snoc r #[rfl,ry]
theorem KV.length {Ab:List (κ × V)}{vs:List (κ × Value)}(r:KV Ab vs):Ab.length=vs.length:=Paired.length r
end
def lC {P:Program}{w:World}{k:Key}{u:Value}(r:RelV (kV k) u):(wA P w).is k u=true:=by
 cases k with
 | inl i=>let#[t,e]:=(show ∃ t,u=Value.int i t from r);subst e;show Oc P w i t
 | inr x=>let#[t,e]:=(show ∃ t,u=Value.str x t from r);subst e;show Ob P w x t
theorem cX {P:Program}{w:World}:∀ {ks:List Key}{us:Ae},Vals (ks.map kV) us->ItemsAre (wA P w) ks us
 | [],_,r=>by rw[Bh] at r;cases r;show .nil
 | k::ks,_,r=>by
  rw[Ar] at r;cases r with
  | cons h t=>show .cons (lC h) (cX t)
abbrev KT (H:Hp):List (List Key×V)->List (List Key×Addr×Value)->Prop:=Paired λ p q=>p.1=q.1/\H q.2.1=↑(.tup (p.1.map kV))/\RelV p.2 q.2.2
def KT.val {H:Hp}{Ab:List (List Key×V)}{xs:List (List Key×Addr×Value)}(r:KT H Ab xs) (k:List Key):uk (wc Ab k) ((atKey xs k).map (·.2)):=by
 induction r with
 | nil=>show True.intro
 | @cons p q ps qs h t ih=>
  let#[h1,_,h2]:=h;by_cases e:p.1=k
  .have e':q.1=k:=h1.symm.trans e;have b:atKey (q::qs) k=↑q.2:=by simp[atKey,CA,e']
   rw[kY e,b];show h2
  .have e':¬ q.1=k:=λ z=>e (h1.trans z);have b:atKey (q::qs) k=atKey qs k:=by simp[atKey,CA,e']
   rw[kZ e,b];show ih
def KT.uN {H:Hp}{Ab:List (List Key×V)}{xs:List (List Key×Addr×Value)}(r:KT H Ab xs) (k:List Key) {y:V}{u:Value}(ry:RelV y u):
  KT H (Ab.map λ kv=>if kv.1=k then (kv.1,y) else kv) (xs.map (putAt k u)):=by
 induction r with
 | nil=>show .nil
 | @cons p q ps qs h t ih=>
  rw[Ar,Ar];exact .cons ?_ ih;let#[h1,h2,h3]:=h;unfold putAt;by_cases e:p.1=k
  .rw[if_pos e,if_pos (h1.symm.trans e)];show#[h1,h2,ry]
  .rw[if_neg e,if_neg (λ z=>e (h1.trans z))];show#[h1,h2,h3]
def KT.put {H:Hp}{Ab:List (List Key×V)}{xs:List (List Key×Addr×Value)}(r:KT H Ab xs) (k:List Key) {b:Addr}{y:V}{u:Value}(hb:H b=↑(.tup (k.map kV))) (ry:RelV y u):
  KT H (putK Ab k y) (storedH xs k b u):=by
 have e:(Ab.any λ kv=>decide (kv.1=k))=(atKey xs k).isSome:=by
  rw[fB,(r.val k).OU,Option.isSome_map]
 unfold putK storedH;rw[e];by_cases q:(atKey xs k).isSome=true
 .rw[if_pos q,if_pos q];show r.uN k ry
 .rw[if_neg q,if_neg q];show Paired.snoc r #[rfl,hb,ry]
def KT.keeps {H H':Hp}{Ab:List (List Key×V)}{xs:List (List Key×Addr×Value)}(r:KT H Ab xs) (ht:∀ b ys,H b=↑(.tup ys)->H' b=↑(.tup ys)):KT H' Ab xs:=
 Paired.l7 r λ _ _ z=>#[z.1,ht _ _ z.2.1,z.2.2]
section
variable {P:Program}{w:World}{H:Hp}{h:Heap}{a:Addr}
def eT {u:HO}(ok:ye P w H h) (e:Rd H a u):yH P w H h a u:=e.ok ok
def pj {Ab:List (Key×V)}(ok:ye P w H h) (e:Rd H a (.dK Ab)):Ab.length<=sizeLine/\(a == sysModules)=false/\∃ vs,KV Ab vs/\h.DictOf (wA P w) a vs:=
 show yH P w H h a (.dK Ab) from eT ok e
def Mo {Ab:List (Key×V)}(ok:ye P w H h) (e:H a=↑(.dK Ab)):Ab.length<=sizeLine/\(a == sysModules)=false/\∃ vs,KV Ab vs/\h.DictOf (wA P w) a vs:=pj ok (.inl e)
def lA {ks:List Key}(ok:ye P w H h) (e:H a=↑(.tup (ks.map kV))):(tupleKind (wA P w)).is h ks a:=by
 let#[_,Aa,r,o,h1,h2,n,h3]:=(show yH P w H h a (.tup (ks.map kV)) from ok a _ e)
 show#[o,Aa.toArray,n,h1,h2,h3,by exists cX r]
def nk {Ab:List (List Key×V)}(ok:ye P w H h) (e:Rd H a (.dT Ab)):Ab.length<=sizeLine/\(a == sysModules)=false/\
  ∃ xs,KT H Ab xs/\h.DictOfH (tupleKind (wA P w)) a xs:=by
 let#[z,y,xs,r,o,es,ep,h1,h2,h3,h4,h5]:=(show yH P w H h a (.dT Ab) from eT ok e)
 exact#[z,y,xs,r,o,es,ep,h1,h2,h3,h4,λ x hx=>?_,h5];have all:∀ {l:List (List Key×V)}{m:List (List Key×Addr×Value)},KT H l m->∀ x∈m,(tupleKind (wA P w)).is h x.1 x.2.1:=by
  intro l m q
  induction q with
  | nil=>intro x hx;show nomatch hx
  | @cons p q ps qs hq t ih=>
   intro x hx;rcases An.mp hx with e | hx
   .subst e;show lA ok (by rw[<- hq.1];show hq.2.1)
   .show ih x hx
 show all r x hx
def Mj {Ab:List (List Key×V)}(ok:ye P w H h) (e:H a=↑(.dT Ab)):Ab.length<=sizeLine/\(a == sysModules)=false/\
  ∃ xs,KT H Ab xs/\h.DictOfH (tupleKind (wA P w)) a xs:=nk ok (.inl e)
end
def sy (H:Hp) (a:Addr) (y:V) (r:Option V):Prop:=
 (∃ Ab k,Rd H a (.dK Ab)/\y=kV k/\r=wc Ab k)\/∃ Ab k b,Rd H a (.dT Ab)/\y=.ref b/\H b=↑(.tup (k.map kV))/\r=wc Ab k
def m6 (H:Hp) (a:Addr) (y v:V) (H':Hp):Prop:=
 (∃ Ab k,H a=↑(.dK Ab)/\y=kV k/\Ab.length<sizeLine/\H'=upd H a (.dK (putK Ab k v)))\/
 ∃ Ab k b,H a=↑(.dT Ab)/\y=.ref b/\H b=↑(.tup (k.map kV))/\Ab.length<sizeLine/\H'=upd H a (.dT (putK Ab k v))
theorem sy.k {H:Hp}{a:Addr}{Ab:List (Key×V)}{k:Key}(e:H a=↑(.dK Ab)):sy H a (kV k) (wc Ab k):=.inl #[Ab,k,.inl e,rfl,rfl]
theorem m6.k {H:Hp}{a:Addr}{Ab:List (Key×V)}{k:Key}{v:V}(e:H a=↑(.dK Ab)) (hl:Ab.length<sizeLine):m6 H a (kV k) v (upd H a (.dK (putK Ab k v))):=.inl #[Ab,k,e,rfl,hl,rfl]
section
variable {X:Cx}{Ff:Aj}{Y:St}{H:Hp}{s:Shared}{a:Addr}{y v:V}{u r:Value}{o:Option V}{A:Around}{E:Af}
theorem Inv.big (I:Inv X Ff Y H s):sysModules<s.heap.objs.size:=by
 have h:mainGlobals<s.heap.objs.size:=(I.mod.glob.keeps I.bk).lt;show B7 () h
def Mw {Q:Af}(hu:A.units+1<cLine) (I:Inv X Ff Y H s) (g:sy H a y ↑v) (ry:RelV y u) (h:∀ w' s',Inv X Ff Y H s'->RelV v w'->Q w' s'):
  wpAny (model X.prog X.w) A (getItem (.ref a) u) Q E s:=by
 rcases g with ⟨Ab,k,e,ey,l⟩ | ⟨Ab,k,b,e,ey,eb,l⟩
 .subst ey;let#[z,hd,vs,rel,dd]:=pj I.zm e;let#[w',hw,Hx]:=uk.some_of (v:=v) (o:=valueAt vs k) (by rw[l];show rel.val k);show wpAny_getItem_of (lC ry) dd.mapOf hw (h w' _ (I.tok _) Hx)
 .subst ey;cases (show u=Value.ref b from ry);let#[z,hd,xs,rel,dd]:=nk I.zm e;let#[w',hw,Hx]:=uk.some_of (v:=v) (o:=(atKey xs k).map (·.2)) (by rw[l];show rel.val k);let#[p,hp,qV]:=AM.mp hw;exact wpAny_getItem_heap (tupleKind_room_in1 hu) (lA I.zm eb) dd hp ?_;rw[qV];show h w' _ (I.tok _) Hx
def aC {h':Heap}{t':Nat}{ob:HO}(I:Inv X Ff Y H s) (mu:nZ (H a)) (hs:Heap.SameBut a s.heap h') (he:∃ q,h'.get? a=↑q) (new:yH X.prog X.w (upd H a ob) h' a ob):
  Inv X Ff Y (upd H a ob) { s with heap:=h',toks:=t' }:=
 I.write (x:=a) (e:=a) mu (.inl rfl) (λ b q hb z=>(hs.2 b hb).trans z) he new
def Mp {P:Program}{w:World}{H':Hp}{h':Heap}{Ab:List (Key×V)}{vs:List (Key×Value)}(z:Ab.length<=sizeLine) (hd:(a == sysModules)=false) (rel:KV Ab vs) (dd:h'.DictOf (wA P w) a vs):
  yH P w H' h' a (.dK Ab):=#[z,hd,vs,rel,dd]
def Mu {H':Hp}{Q:Unit->Shared->Prop}(hu:A.units+1<cLine) (I:Inv X Ff Y H s) (g:m6 H a y v H') (ry:RelV y u) (rv:RelV v r) (h:∀ s',Inv X Ff Y H' s'->Q Unit.unit s'):
  wpAny (model X.prog X.w) A (setItem (.ref a) u r) Q E s:=by
 rcases g with ⟨Ab,k,e,ey,l,eH⟩ | ⟨Ab,k,b,e,ey,eb,l,eH⟩
 .subst ey eH;let#[z,hd,vs,rel,dd]:=Mo I.zm e;have hz:vs.length<=sizeLine:=by rw[<- rel.length];show z
  have hl:(putK Ab k v).length<=sizeLine:=by have:=cG Ab k v;lia
  exact wpAny_setItem_pairs (hsz:=hz) (lC ry) dd λ h' HM hs=>h _ ?_;have he:∃ q,h'.get? a=↑q:=let #[q,_,_,hq,_]:=HM;#[q,hq]
  show aC I (by rw[e];show True.intro) hs he (Mp hl hd (rel.put k rv) HM)
 .subst ey eH;cases (show u=Value.ref b from ry);let#[z,hd,xs,rel,dd]:=Mj I.zm e;have hz:xs.length<=sizeLine:=by rw[<- Paired.length rel];show z
  have hl:(putK Ab k v).length<=sizeLine:=by have:=cG Ab k v;lia
  exact wpAny_setItem_heap (hsz:=hz) (tupleKind_room_in1 hu) (lA I.zm eb) dd λ h' HM hs=>h _ ?_;let#[q,es,ep,hq,h2,h3,h4,_,h5]:=HM;exact aC I (by rw[e];show True.intro) hs #[q,hq] #[hl,hd,_,(rel.put k eb rv).keeps λ c ys ec=>?_,q,es,ep,hq,h2,h3,h4,h5];rw[zO (uR ec e (λ z=>nomatch z))];show ec
end
section
variable {X:Cx}{Ff:Aj}{Y:St}{H:Hp}{s:Shared}{a:Addr}{Ab:List (Key×V)}{A:Around}{E:Af}
theorem Mv {Q:Af}(I:Inv X Ff Y H s) (e:Rd H a (.dK Ab)) (h:∀ t s',Inv X Ff Y H s'->Q (.int Ab.length t) s'):wpAny (model X.prog X.w) A (call (.builtin "len") [.ref a]) Q E s:=by
 let#[z,hd,vs,rel,dd]:=pj I.zm e;exact call_len_dict hd dd (by rw[<- rel.length];rw[sizeLine_eq] at z;lia) ?_;rw[<- rel.length];show h _ _ (I.tok _)
end
def gD (i:Expr):Prop:=∀ ov iv,subscripted i false ov iv=operate [ov,iv] (getItem ov iv)
def Wn {prog:Program}{w:World}{A:Around}{E:Af}{s:Shared}{env:Env}{value slice:Expr}{pos:Pos}{T id:String}{Q:Af}
  (hl:typeLookup (.type T) "__getitem__"=pure ↑(.builtin id)) (hs:gD slice)
  (h:wpAny (model prog w) A (eval value env) (λ o s₁=>wpAny (model prog w) A (eval slice env) (λ i s₂=>s₂.TypeIs o T/\wpAny (model prog w) A (getItem o i) Q E s₂) E s₁) E s):
  wpAny (model prog w) A (eval (.Subscript value slice pos) env) Q E s:=by
 exact Subscript_ (tp h (λ o s₁ h₁=>tp h₁ (λ i s₂ h₂=>?_) λ _ _ x=>x) λ _ _ x=>x);let#[hT,h₂]:=h₂;unfold subscriptTail;exact Kj ?_;rw[getitemInPython_of_ne hT.not_modules];exact Kj (wpAny_specialOf hT hl ?_);have fin:wpAny (model prog w) A (subscripted slice false o i) (λ r s₃=>wpAny (model prog w) A (letTemporaryGo value o r >>= λ _=>pure r) Q E s₃) E s₂:=by
  rw[hs o i];show wpAny_operating (tp h₂ (λ r s₃ h₃=>Kj (wpAny_letTemporaryGo (Ad h₃))) λ _ _ x=>x)
 first
  | show Ad (Kj fin)
  | show Kj (Ad (Kj fin))
  | show Kj fin
def Mr {X:Cx}{Ff:Aj}{Y:St}{H:Hp}{s:Shared}{a:Addr}{y:V}{o:Option V}(I:Inv X Ff Y H s) (g:sy H a y o):s.TypeIs (.ref a) "dict":=by
 rcases g with ⟨Ab,k,e,_,_⟩ | ⟨Ab,k,b,e,_,_,_⟩
 .let#[_,_,vs,_,dd]:=pj I.zm e;show dd.typeIs
 .let#[_,_,xs,_,dd]:=nk I.zm e;show dd.typeIs
def Wk (td ty:TE):TE:=fun Y H Q=>td Y H λ x H1=>ty Y H1 λ y H2=>∃ a v,x=.ref a/\sy H2 a y ↑v/\Q v H2
def WM (td ty tv:TE):TS:=λ D Y H=>tv Y H λ v H1=>td Y H1 λ x H2=>ty Y H2 λ y H3=>∃ a H4,x=.ref a/\m6 H3 a y v H4/\D.nx Y H4
section
variable {X:Cx}{o i value:Expr}{pos pos':Pos}{td ty tv:TE}
def Ul (hu:X.A.units+1<cLine) (ho:PE X o td) (hi:PE X i ty) (hs:gD i):PE X (.Subscript o i pos) (Wk td ty):=by
 intro Ff s Y H Q I h;exact Wn PySem.F.slot_dict_getitem.lookup hs (zw (ho Ff s Y H _ I h) λ u s1 #[x,H1,I1,rx,q1]=>zw (hi Ff s1 Y H1 _ I1 q1) λ iv s2 #[y,H2,I2,ry,a,v,ex,g,q2]=>?_);subst ex;obtain rfl:u=Value.ref a:=rx;show#[Mr I2 g,Mw hu I2 g ry λ w' s3 I3 Hx=>#[v,H2,I3,Hx,q2]]
def V1 (hu:X.A.units+1<cLine) (ho:PE X o td) (hi:PE X i ty) (hv:PE X value tv) (hs:swapsWith value ↑(.Subscript o i pos') pos.line X.env=pure false):
  PS X (.Assign [.Subscript o i pos'] value pos) (WM td ty tv):=by
 intro Ff s Y H D I h;exact wpAny_Assign_Subscript (zw (hv Ff s Y H _ I h) λ r s1 #[v,H1,I1,rv,q1]=>zw (ho Ff s1 Y H1 _ I1 q1) λ u s2 #[x,H2,I2,rx,q2]=>zw (hi Ff s2 Y H2 _ I2 q2) λ iv s3 #[y,H3,I3,ry,a,H4,ex,g,q3]=>?_) hs;subst ex;obtain rfl:u=Value.ref a:=rx;show Mu hu I3 g ry rv λ s4 I4=>#[Y,H4,I4,q3]
end
def Mq {P:Program}{w:World}{H:Hp}(h:Heap) (hb:sysModules<h.objs.size):yH P w H (h.push { cls:=.type "dict",data:=.dict [].toArray }) h.objs.size (.dK []):=
 #[A4 _,beq_eq_false_iff_ne.mpr (Ne.symm (AH hb)),[],.nil,Heap.DictOf.new h]
def Wi:TE:=λ _ H Q=>∀ p,H p=none->Q (.ref p) (upd H p (.dK []))
section
variable {X:Cx}{pos:Pos}
def Uj:PE X (.Dict [] [] pos) Wi:=λ Ff s Y H Q I h=>
 wpAny_Dict_empty #[.ref s.heap.objs.size,_,I.laid (a:=s.heap.objs.size) (o:=.dK []) (t':=s.toks) (λ _ _ q=>gV _ q) (Ak _) (Mq s.heap I.big),rfl,h _ (I.zm.fresh (Ak _))]
end
structure M2 (X:Cx) (o:Expr) (m:Str) (apos:Pos) (e f:Expr) (Ah:Pos):Prop where
 base:attributeBase o m X.env (eval o X.env)=eval o X.env
 oY:((backTo Ah (starEach [e,f] X.env)).all (λ x=>!x.1)&&(backToKw Ah (keywordEach [] X.env)).all (λ x=>x.1.isSome)
  && decide (([e,f]:List Expr).length+([]:List Keyword).length+(if ([]:List Keyword).isEmpty then 0 else 1)<30))=true
 line:(apos.endLine == Ah.line)=true
 trees:backTo Ah (starEach [e,f] X.env)=[(false,eval e X.env),(false,eval f X.env)]
def ZQ (H:Hp) (a:Addr):Prop:=(∃ Ab,Rd H a (.dK Ab))\/∃ Ab,Rd H a (.dT Ab)
def OY {X:Cx}{Ff:Aj}{Y:St}{H:Hp}{s:Shared}{a:Addr}(I:Inv X Ff Y H s) (d:ZQ H a):
  s.TypeIs (.ref a) "dict"/\(∀ b,Value.ref a=.ref b->∃ ob,s.heap.get? b=↑ob/\ob.dict=none)/\(a == sysModules)=false:=by
 rcases d with ⟨Ab,e⟩ | ⟨Ab,e⟩
 .let#[_,hd,vs,_,dd]:=pj I.zm e;exact#[dd.typeIs,λ b q=>?_,hd];cases q;let#[ob,_,_,h1,h2,_]:=dd;show#[ob,h1,h2.2.1]
 .let#[_,hd,xs,_,dd]:=nk I.zm e;exact#[dd.typeIs,λ b q=>?_,hd];cases q;let#[ob,_,_,h1,h2,_]:=dd;show#[ob,h1,h2.2.1]
section
variable {X:Cx}{Ff:Aj}{Y:St}{H:Hp}{s:Shared}{a:Addr}{y d:V}{u r:Value}{o:Option V}{A:Around}{E:Af}
def Mx {Q:Af}(hu:A.units+1<cLine) (I:Inv X Ff Y H s) (g:sy H a y o) (ry:RelV y u) (rd:RelV d r) (h:∀ w' s',Inv X Ff Y H s'->RelV (o.getD d) w'->Q w' s'):
  wpAny (model X.prog X.w) A (call (.builtin "dict.get") [.ref a,u,r]) Q E s:=by
 rcases g with ⟨Ab,k,e,ey,l⟩ | ⟨Ab,k,b,e,ey,eb,l⟩
 .subst ey;let#[z,hd,vs,rel,dd]:=pj I.zm e;exact call_meetsIn PySem.F.slot_dict_get dd.typeIs PySem.F.entry_dict_get (PySem.F.args_dict_get_3 _ _ _) (meets_dict_get_default (wA X.prog X.w) a (lC ry) hd r) #[_,dd.mapOf,h _ _ (I.tok _) ?_];rw[l];show (rel.val k).getD rd
 .subst ey;cases (show u=Value.ref b from ry);let#[z,hd,xs,rel,dd]:=nk I.zm e;exact call_meetsIn PySem.F.slot_dict_get dd.typeIs PySem.F.entry_dict_get (PySem.F.args_dict_get_3 _ _ _) (meetsH_dict_get_default (tupleKind (wA X.prog X.w)) a b hd r) #[tupleKind_room_in1 hu,k,xs,lA I.zm eb,dd,h _ _ (I.tok _) ?_];rw[l];show (rel.val k).getD rd
end
def Wj (td ty tx:TE):TE:=fun Y H Q=>td Y H λ x H1=>∃ a,x=.ref a/\ZQ H1 a/\ty Y H1 λ y H2=>tx Y H2 λ z H3=>∃ o,sy H3 a y o/\Q (o.getD z) H3
section
variable {X:Cx}{o e f:Expr}{apos Ah:Pos}{td ty tx:TE}
def Uk (hu:X.A.units+1<cLine) (ho:PE X o td) (he:PE X e ty) (hf:PE X f tx) (m:M2 X o "get" apos e f Ah):PE X (.Call (.Attribute o "get" apos) [e,f] [] Ah) (Wj td ty tx):=by
 intro Ff s Y H Q I h;exact wpAny_Call_method m.base m.oY m.line PySem.F.plainAttrs_dict PySem.F.slot_dict_get PySem.F.type_dict_get (zw (ho Ff s Y H _ I h) λ u s1 #[x,H1,I1,rx,a,ex,d,q1]=>?_);subst ex;obtain rfl:u=Value.ref a:=rx;let#[t1,t2,_]:=OY I1 d;exact#[t1,t2,?_];rw[m.trees];exact Calls.callWith_builtin rfl (Calls.evalArgs_plain (Calls.spliced_cons (zw (he Ff s1 Y H1 _ I1 q1) λ iv s2 #[y,H2,I2,ry,q2]=>
  Calls.spliced_cons (zw (hf Ff s2 Y H2 _ I2 q2) λ fv s3 #[z,H3,I3,rz,ov,g,q3]=>Calls.spliced_nil ?_))))
 show Mx hu I3 g ry rz λ w' s4 I4 Hx=>#[_,H3,I4,Hx,q3]
end
end L2
namespace L3
open PySem PySem.Spec L2
open PyProof.Rows hiding St
def vN (Ab:List (Key×D)) (k:Key):Option D:=(Ab.find? λ kv=>decide (kv.1=k)).map (·.2)
def putD (Ab:List (Key×D)) (k:Key) (v:D):List (Key×D):=
 if (Ab.any λ kv=>decide (kv.1=k))=true then Ab.map (λ kv=>if kv.1=k then (kv.1,v) else kv) else Ab++[(k,v)]
section
variable {K:Ac}{H:Hp}
theorem yG.val:∀ {Ab:List (Key×D)}{vs:List (Key×V)},yG K H Ab vs->∀ k,(vN Ab k=none/\wc vs k=none)\/∃ d v,vN Ab k=↑d/\wc vs k=↑v/\zf K H d v
 | _,_,.nil,k=>.inl #[rfl,rfl]
 | (a,d)::Ab,(b,v)::vs,.cons #[e,r] t,k=>by
  have e':a=b:=e;subst e';by_cases h:a=k
  .subst h;show .inr #[d,v,by simp[vN],by simp[wc],r]
  .rcases yG.val t k with ⟨h1,h2⟩ | ⟨d',v',h1,h2,h3⟩
   .show .inl #[by simpa [vN,h] using h1,by simpa [wc,h] using h2]
   .show .inr #[d',v',by simpa [vN,h] using h1,by simpa [wc,h] using h2,h3]
theorem yG.any {Ab:List (Key×D)}{vs:List (Key×V)}(h:yG K H Ab vs) (k:Key):(Ab.any λ kv=>decide (kv.1=k))=vs.any λ kv=>decide (kv.1=k):=by
 induction h with
 | nil=>rfl
 | cons r _ ih=>rw[BH,BH,ih,r.1]
def yG.len {Ab:List (Key×D)}{vs:List (Key×V)}(h:yG K H Ab vs):Ab.length=vs.length:=Paired.length h
theorem yG.uN {k:Key}{d:D}{v:V}(r:zf K H d v):∀ {Ab:List (Key×D)}{vs:List (Key×V)},yG K H Ab vs->yG K H (Ab.map λ kv=>if kv.1=k then (kv.1,d) else kv) (vs.map λ kv=>if kv.1=k then (kv.1,v) else kv)
 | _,_,.nil=>.nil
 | (a1,a2)::_,(b1,b2)::_,.cons #[e,q] t=>by
  have e':a1=b1:=e;subst e';exact .cons ?_ (yG.uN r t);by_cases hk:a1=k
  .simp[hk,r]
  .simpa [hk] using q
theorem yG.snoc {k:Key}{d:D}{v:V}(r:zf K H d v):∀ {Ab:List (Key×D)}{vs:List (Key×V)},yG K H Ab vs->yG K H (Ab++[(k,d)]) (vs++[(k,v)])
 | _,_,.nil=>.cons #[rfl,r] .nil
 | _,_,.cons q t=>.cons q (yG.snoc r t)
def yG.put {Ab:List (Key×D)}{vs:List (Key×V)}(h:yG K H Ab vs) (k:Key) {d:D}{v:V}(r:zf K H d v):yG K H (putD Ab k d) (putK vs k v):=by
 unfold putD putK;rw[h.any k];split
 .show yG.uN r h
 .show yG.snoc r h
end
section
variable {X:Cx}{o i e f v:Expr}{td ty tx tv:zp}{pos pos' apos Ah:Pos}
def aM:zp:=λ _ S Q=>∀ p,S p=none->Q (.ref p) (ups S p (.zB []))
theorem S9:PD X (.Dict [] [] pos) aM:=by
 exact#[λ _ _ _ _ hq z p hp=>hq _ _ (z p hp),PE.imp Uj fun Y H Q hu p hp=>?_];let#[L,S,r1,r2,z]:=hu;show z p (r2.none hp) _ _ (by simp![zf]) (.new hp _) (r2.ups (.new hp _) #[[],yf,.nil])
def aP (td ty:zp):zp:=fun L S Q=>td L S λ x S1=>ty L S1 λ y S2=>∃ p Ab k d,x=.ref p/\y=.int k/\S2 p=↑(.zB Ab)/\vN Ab (.inl k)=↑d/\Q d S2
def S8 {k:Nat}(hr:yb k X.A) (ho:PD X o td) (hi:PD X i ty) (hs:gD i):PD X (.Subscript o i pos) (aP td ty):=by
 exact#[fun L S Q Q' hq z=>ho.mo L S _ _ (λ x S1 z=>hi.mo L S1 _ _ (λ y S2 #[p,Ab,k,d,a,b,c,e,h]=>#[p,Ab,k,d,a,b,c,e,hq _ _ h]) z) z,PE.imp (Ul (ic hr) ho.pe hi.pe hs) fun Y H Q hu=>?_];let#[L,S,r1,r2,z]:=hu;exact zD.go ho.mo r1 r2 z λ x S1 w H1 h1 q1 e1 p1=>?_;exact zD.go hi.mo (r1.ext e1) p1 h1 λ y S2 w2 H2 h2 q2 e2 p2=>?_;let#[p,Ab,k,d,rfl,rfl,c1,c2,h]:=h2;simp![zf] at q1 q2;subst q1 q2;let#[vs,g1,g2]:=p2 _ _ c1;rcases yG.val g2 (.inl k) with ⟨n1,_⟩ | ⟨d',v',n1,n2,n3⟩
 .rw[c2] at n1;cases n1
 .rw[c2] at n1;cases n1;show#[p,v',rfl,n2▸sy.k (k:=Sum.inl k) g1,h v' H2 n3 (e1.trans e2) p2]
def aO (td ty tx:zp):zp:=fun L S Q=>td L S λ x S1=>∃ p,x=.ref p/\(∃ Ab,S1 p=↑(.zB Ab))/\ty L S1 λ y S2=>tx L S2 λ z S3=>∃ k Ab,y=.int k/\S3 p=↑(.zB Ab)/\Q ((vN Ab (.inl k)).getD z) S3
def SA {k:Nat}(hr:yb k X.A) (ho:PD X o td) (he:PD X e ty) (hf:PD X f tx) (m:M2 X o "get" apos e f Ah):PD X (.Call (.Attribute o "get" apos) [e,f] [] Ah) (aO td ty tx):=by
 exact#[fun L S Q Q' hq z=>ho.mo L S _ _ (λ x S1 #[p,a,b,z]=>#[p,a,b,he.mo L S1 _ _ (λ y S2 z=>hf.mo L S2 _ _ (λ w S3 #[k,Ab,a,b,h]=>#[k,Ab,a,b,hq _ _ h]) z) z]) z,PE.imp (Uk (ic hr) ho.pe he.pe hf.pe m) fun Y H Q hu=>?_];let#[L,S,r1,r2,z]:=hu;exact zD.go ho.mo r1 r2 z λ x S1 w H1 h1 q1 e1 p1=>?_;let#[p,rfl,#[kvs0,c0],h1]:=h1;simp![zf] at q1;subst q1;let#[vs0,g0,_]:=p1 _ _ c0;exact#[p,rfl,.inl #[vs0,.inl g0],?_];exact zD.go he.mo (r1.ext e1) p1 h1 λ y S2 w2 H2 h2 q2 e2 p2=>?_;exact zD.go hf.mo ((r1.ext e1).ext e2) p2 h2 λ y3 S3 w3 H3 h3 q3 e3 p3=>?_;let#[k,Ab,rfl,c1,h]:=h3;simp![zf] at q2;subst q2;let#[vs,g1,g2]:=p3 _ _ c1;exact#[wc vs (.inl k),sy.k (k:=Sum.inl k) g1,?_];rcases yG.val g2 (.inl k) with ⟨n1,n2⟩ | ⟨d',v',n1,n2,n3⟩
 .rw[n1] at h;rw[n2];show h _ H3 q3 ((e1.trans e2).trans e3) p3
 .rw[n1] at h;rw[n2];show h _ H3 n3 ((e1.trans e2).trans e3) p3
def aN (td ty tv:zp):z_:=λ E L S=>tv L S λ v S1=>td L S1 λ x S2=>ty L S2 λ y S3=>∃ p Ab k,x=.ref p/\y=.int k/\S3 p=↑(.zB Ab)/\Ab.length<sizeLine/\E.nx L (ups S3 p (.zB (putD Ab (.inl k) v)))
theorem Ext.dK {H:Hp}{p:Addr}{Ab:List (Key×V)}(h:H p=↑(.dK Ab)) (o:HO):Ext H (upd H p o):=
 #[λ b ys q=>by rw[zO (uR q h (by intro z;cases z))];show q,λ b ob u q=>by rw[zO (uR q h (by intro z;cases z))];show q,λ b u q=>by rw[zO (uR q h (by intro z;cases z))];show q,λ b u q=>by rw[zO (uR q h (by intro z;cases z))];show q]
theorem UW {k:Nat}(hr:yb k X.A) (ho:PD X o td) (hi:PD X i ty) (hv:PD X v tv) (hs:swapsWith v ↑(.Subscript o i pos') pos.line X.env=pure false):xu X (.Assign [.Subscript o i pos'] v pos) (aN td ty tv):=by
 exact#[λ E E' L S hE z=>hv.mo L S _ _ (λ w S1 z=>ho.mo L S1 _ _ (λ x S2 z=>hi.mo L S2 _ _ (λ y S3 #[p,Ab,k,a,b,c,d,h]=>#[p,Ab,k,a,b,c,d,hE.nx _ _ h]) z) z) z,PS.imp (V1 (ic hr) ho.pe hi.pe hv.pe hs) λ D Y H hu=>?_];let#[L,S,r1,r2,z]:=hu;exact zD.go hv.mo r1 r2 z λ w S1 w1 H1 h1 q1 e1 p1=>?_;exact zD.go ho.mo (r1.ext e1) p1 h1 λ x S2 w2 H2 h2 q2 e2 p2=>?_;exact zD.go hi.mo ((r1.ext e1).ext e2) p2 h2 λ y S3 w3 H3 h3 q3 e3 p3=>?_;let#[p,Ab,k,rfl,rfl,c1,c2,h]:=h3;simp![zf] at q2 q3;subst q2 q3;let#[vs,g1,g2]:=p3 _ _ c1;have e4:Ext H3 (upd H3 p (.dK (putK vs (.inl k) w1))):=.dK g1 _;exact#[p,_,rfl,m6.k (k:=Sum.inl k) g1 (by rw[<- g2.len];show c2),?_];show h Y _ ((((r1.ext e1).ext e2).ext e3).ext e4) (((e1.trans e2).trans e3).trans e4) (p3.ups e4 #[_,yf,(yG.put g2 _ (zf.ext (e2.trans e3) w q1)).ext e4])
def MX:yx X (.builtin "len") (λ xs H Q=>∃ p Ab,xs=[.ref p]/\H p=↑(.dK Ab)/\Q (.int Ab.length) H):=by
 intro Ff s Y H xs us Q I r h;let#[p,Ab,rfl,e,q]:=h;let#[u,rfl,ru]:=vals1 r;cases ru;show Mv I (.inl e) λ t s' I'=>#[.int _,H,I',#[_,rfl],q]
def bZ:xk:=λ ds S Q=>∃ p Ab,ds=[.ref p]/\S p=↑(.zB Ab)/\Q (.int Ab.length) S
def S7 {es:List Expr}{tA:ya}{p:Pos}(hm:X.mg "len"=none) (ha:yO X (e::es) tA) (hg:Gl X "len") (he:AE X e es) (Ao:AI X pos es):PD X (.Call (.Name "len" p) (e::es) [] pos) (xr bZ tA):=
 uP (uO MX hg hm PySem.boot_len ha.pa () () he Ao) (λ _ _ _ _ hq #[p,Ab,a,b,h]=>#[p,Ab,a,b,hq _ _ h]) (λ xs ds H S Q h0 h2 #[p,Ab,a,b,h]=>by
  subst a;let#[x,rfl,h1]:=h0.one;simp![zf] at h1;subst h1;let#[vs,g1,g2]:=h2 _ _ b;exact#[p,vs,rfl,g1,?_];rw[<- g2.len];show h _ H (by simp![zf]) (.refl H) h2) ha.mo
end
end L3
namespace L3
open PySem L2
section
variable {S S':SS}
mutual
theorem Sn.sx (h:Sx S S'):∀ (t:T) {d:D},Sn S t d->Sn S' t d
 | .zr,d,q=>by simpa only [Sn] using q
 | .bl b,d,q=>by simpa only [Sn] using q
 | .int i,d,q=>by simpa only [Sn] using q
 | .str x,d,q=>by simpa only [Sn] using q
 | .tup ts,d,q=>by
  simp![Sn] at q ⊢;let#[ds,q1,q2]:=q;show#[ds,q1,zi.sx h ts q2]
 | .lst ts,d,q=>by
  simp![Sn] at q ⊢;let#[ds,q1,q2]:=q;exact#[ds,?_,zi.sx h ts q2];rcases q1 with q1 | ⟨a,q1,q3⟩
  .show .inl q1
  .show .inr #[a,q1,h _ _ q3]
 | .err _ _ t,d,q=>by
  simp![Sn] at q ⊢;let#[x,q1,q2]:=q;show#[x,q1,Sn.sx h t q2]
 | .yL,d,q=>by
  simp![Sn] at q ⊢;let#[a,Ab,q1,q2]:=q;show#[a,Ab,q1,h _ _ q2]
theorem zi.sx (h:Sx S S'):∀ (ts:List T) {ds:List D},zi S ts ds->zi S' ts ds
 | [],ds,q=>by simpa only [zi] using q
 | t::ts,ds,q=>by
  simp![zi] at q ⊢;let#[c,cs,q1,q2,q3]:=q;show#[c,cs,q1,Sn.sx h t q2,zi.sx h ts q3]
end
def zi.nil:zi S [] []:=by simp![zi]
def zi.cons {t:T}{ts:List T}{d:D}{ds:List D}(h:Sn S t d) (h':zi S ts ds):zi S (t::ts) (d::ds):=by
 simp![zi];show#[d,ds,rfl,h,h']
theorem zi.append:∀ {ts us:List T}{ds es:List D},zi S ts ds->zi S us es->zi S (ts++us) (ds++es)
 | [],us,ds,es,h,h'=>by simp![zi] at h;subst h;exists h'
 | t::ts,us,ds,es,h,h'=>by
  simp![zi] at h;let#[c,cs,rfl,h1,h2]:=h;show zi.cons h1 (zi.append h2 h')
theorem zi.ix:∀ {ts:List T}{ds:List D}{i:Nat}{t:T},zi S ts ds->ts[i]?=↑t->∃ d,ds[i]?=↑d/\Sn S t d
 | [],_,i,t,_,e=>by simp at e
 | u::ts,ds,i,t,h,e=>by
  simp![zi] at h;let#[c,cs,rfl,h1,h2]:=h;cases i with
  | zero=>simp at e;subst e;show#[c,rfl,h1]
  | succ i=>
   let#[y,e1,e2]:=zi.ix (i:=i) h2 (by exists e);show#[y,by simpa using e1,e2]
theorem zi.iz:∀ {ts:List T}{ds:List D}{i:Nat}{d:D},zi S ts ds->ds[i]?=↑d->∃ t,ts[i]?=↑t/\Sn S t d
 | [],ds,i,t,h,e=>by simp![zi] at h;subst h;simp at e
 | u::ts,ds,i,t,h,e=>by
  simp![zi] at h;let#[c,cs,rfl,h1,h2]:=h;cases i with
  | zero=>simp at e;subst e;show#[u,rfl,h1]
  | succ i=>
   let#[y,e1,e2]:=zi.iz (i:=i) h2 (by exists e);show#[y,by simpa using e1,e2]
def zi.len {ts:List T}{ds:List D}(h:zi S ts ds):ds.length=ts.length:=(L3.zi.length h).symm
theorem zi.at {ts:List T}{ds:List D}{i:Int}{t:T}(h:zi S ts ds) (e:L2.zM ts i=↑t):∃ d,L2.zM ds i=↑d/\Sn S t d:=by
 unfold L2.zM at e ⊢;rw[h.len];cases q:L2.wM ts.length i with
 | none=>rw[q] at e;cases e
 | some j=>
  rw[q] at e;show h.ix e
theorem zi.eI:∀ {ts:List T}{ds:List D}{t:T}{d:D}(i:Nat),zi S ts ds->Sn S t d->zi S (ts.set i t) (ds.set i d)
 | [],ds,t,d,i,h,_=>by simp![zi] at h;subst h;exists zi.nil
 | u::ts,ds,t,d,0,h,hd=>by
  simp![zi] at h;let#[c,cs,rfl,h1,h2]:=h;show zi.cons hd h2
 | u::ts,ds,t,d,i+1,h,hd=>by
  simp![zi] at h;let#[c,cs,rfl,h1,h2]:=h;show zi.cons h1 (zi.eI i h2 hd)
theorem zi.take':∀ {ts:List T}{ds:List D}(n:Nat),zi S ts ds->zi S (ts.take n) (ds.take n)
 | ts,ds,0,h=>by exists zi.nil
 | [],ds,n+1,h=>by simp![zi] at h;subst h;exists zi.nil
 | t::ts,ds,n+1,h=>by
  simp![zi] at h;let#[c,cs,rfl,h1,h2]:=h;show zi.cons h1 (zi.take' n h2)
theorem zi.drop':∀ {ts:List T}{ds:List D}(n:Nat),zi S ts ds->zi S (ts.drop n) (ds.drop n)
 | ts,ds,0,h=>h
 | [],ds,n+1,h=>by simp![zi] at h;subst h;exists zi.nil
 | t::ts,ds,n+1,h=>by
  simp![zi] at h;let#[c,cs,rfl,h1,h2]:=h;show zi.drop' n h2
def zi.empty {ts:List T}{ds:List D}(h:zi S ts ds):ds.isEmpty=ts.isEmpty:=by
 have:=h.len;cases ds <;> cases ts <;> simp_all
theorem zi.Zp:∀ {bs:List Bool}{ds:List D},zi S (bs.map T.bl) ds->ds=bs.map D.bl
 | [],ds,h=>by simpa only [Bh,zi] using h
 | b::bs,ds,h=>by
  rw[Ar] at h;simp![zi,Sn] at h;let#[c,cs,rfl,rfl,h3]:=h;rw[zi.Zp h3];rfl
end
end L3
namespace L5
open PySem L2 L3
def zK (S:SS) (Z:Addr->Prop):SS:=open Classical in λ a=>if Z a then none else S a
section
variable {S S':SS}{Z Z':Addr->Prop}{a p:Addr}
def vY (h:¬ Z a):zK S Z a=S a:=if_neg h
def ig (h:Z a):zK S Z a=none:=if_pos h
def uA {o:O}(h:zK S Z a=↑o):¬ Z a/\S a=↑o:=by
 by_cases z:Z a
 .rw[ig z] at h;cases h
 .rw[vY z] at h;show#[z,h]
def lH (S:SS) (Z:Addr->Prop):Sx (zK S Z) S:=λ _ _ h=>(uA h).2
def wC (h:Sx S S'):Sx (zK S Z) (zK S' Z):=λ b o q=>by
 let#[q1,q2]:=uA q;rw[vY q1];show h _ _ q2
def vZ (h:∀ a,Z' a->Z a):Sx (zK S Z) (zK S Z'):=λ b o q=>by
 let#[q1,q2]:=uA q;rw[vY (λ z=>q1 (h _ z))];show q2
def qW (h:Sx S S') (hp:S p=none):Sx (zK S Z) (zK S' λ a=>Z a\/a=p):=λ b o q=>by
 let#[q1,q2]:=uA q;rw[vY]
 .show h _ _ q2
 .rintro (z | z)
  .show q1 z
  .subst z;rw[hp] at q2;cases q2
theorem Nm {o:O}(h:Z p):zK (ups S p o) Z=zK S Z:=by
 funext b;by_cases z:Z b
 .rw[ig z,ig z]
 .rw[vY z,vY z,tM (λ e=>z (by rw[e];show h))]
end
inductive C where
 | lst (ts:List T) | zB (Ab:List (Key×T))
def yu (S:SS):List (Key×T)->List (Key×D)->Prop
 | [],l=>l=[]
 | (k,t)::r,l=>∃ d m,l=(k,d)::m/\Sn S t d/\yu S r m
theorem yu.sx {S S':SS}(h:Sx S S'):∀ {a:List (Key×T)}{b:List (Key×D)},yu S a b->yu S' a b
 | [],_,q=>q
 | (k,t)::r,_,q=>by
  let#[d,m,q1,q2,q3]:=q;show#[d,m,q1,Sn.sx h t q2,yu.sx h q3]
def tE (S:SS):C->O->Prop
 | .lst ts,.lst ds=>zi S ts ds
 | .zB a,.zB b=>yu S a b
 | _,_=>False
theorem tE.sx {S S':SS}(h:Sx S S'):∀ {c:C}{o:O},tE S c o->tE S' c o
 | .lst ts,.lst ds,q=>zi.sx h ts q
 | .zB a,.zB b,q=>yu.sx h q
inductive W where
 | im (t:T) | own (c:C)
abbrev Ev:=List (Option W)
abbrev Ag:=Ev->Option T
abbrev Ap:=List T->Option T
structure ER (S:SS) (Z:Addr->Prop) (L:zY) (J:Ev):Prop where
 zd:∀ a,Z a->S a≠none
 im:∀ (i:Nat) t,J[i]?=↑↑(.im t)->∃ d,L[i]?=↑↑d/\Sn (zK S Z) t d
 ow:∀ (i:Nat) c,J[i]?=↑↑(.own c)->∃ p o,L[i]?=↑↑(.ref p)/\S p=↑o/\tE (zK S Z) c o/\Z p
def Vw (S:SS) (Z:Addr->Prop) (y:T) (d:D):Prop:=Sn (zK S Z) y d\/∃ ts p ds,y=.lst ts/\d=.ref p/\S p=↑(.lst ds)/\zi (zK S Z) ts ds/\Z p
abbrev Rk:=SS->SS->(Addr->Prop)->T->D->Prop
def ZF:Rk:=λ _ S' Z y d=>Vw S' Z y d
def xt:Rk:=λ _ S' Z y d=>Sn (zK S' Z) y d
def zE:Rk:=λ S S' Z y d=>Sn (zK S' Z) y d/\∀ ts,y=.lst ts->∃ p ds,d=.ref p/\S p=none/\S' p=↑(.lst ds)/\zi (zK S' λ a=>Z a\/a=p) ts ds
class Cl (R:Rk):Prop where
 cl:∀ {S S1 S':SS}{Z:Addr->Prop}{y:T}{d:D},Sx S S1->R S1 S' Z y d->R S S' Z y d
 of:∀ {S S':SS}{Z:Addr->Prop}{y:T}{d:D},(∀ ts,y≠.lst ts)->Sn (zK S' Z) y d->R S S' Z y d
instance:Cl ZF:=#[λ _ h=>h,λ _ h=>.inl h]
instance:Cl xt:=#[λ _ h=>h,λ _ h=>h]
instance:Cl zE:=#[λ s h=>#[h.1,λ ts e=>by
 let#[p,ds,h1,h2,h3]:=h.2 ts e;show#[p,ds,h1,s.none h2,h3]],λ n h=>#[h,λ ts e=>absurd e (n ts)]]
section
variable {S S':SS}{Z:Addr->Prop}{L:zY}{J:Ev}{y:T}{d:D}
def ER.grow (h:ER S Z L J) (s:Sx S S'):ER S' Z L J:=
 #[λ a z q=>h.zd a z (s.none q),λ i t e=>by
  let#[d,h1,h2]:=h.im i t e;show#[d,h1,Sn.sx (wC s) t h2],λ i ts e=>by
  let#[p,ds,h1,h2,h3,h4]:=h.ow i ts e;show#[p,ds,h1,s _ _ h2,tE.sx (wC s) h3,h4]]
def Vw.grow (h:Vw S Z y d) (s:Sx S S'):Vw S' Z y d:=by
 rcases h with h | ⟨ts,p,ds,h1,h2,h3,h4,h5⟩
 .show .inl (Sn.sx (wC s) y h)
 .show .inr #[ts,p,ds,h1,h2,s _ _ h3,zi.sx (wC s) ts h4,h5]
def Vw.sn (h:Vw S Z y d):Sn S y d:=by
 rcases h with h | ⟨ts,p,ds,rfl,rfl,h3,h4,_⟩
 .show Sn.sx (lH S Z) y h
 .simp![Sn];show#[ds,.inr #[p,rfl,h3],zi.sx (lH S Z) ts h4]
theorem Vw.zr (h:Vw S Z .zr d):d=.zr:=by
 rcases h with h | ⟨_,_,_,h,_⟩
 .simpa only [Sn] using h
 .cases h
theorem Vw.bl {b:Bool}(h:Vw S Z (.bl b) d):d=.bl b:=by
 rcases h with h | ⟨_,_,_,h,_⟩
 .simpa only [Sn] using h
 .cases h
theorem Vw.int {b:Int}(h:Vw S Z (.int b) d):d=.int b:=by
 rcases h with h | ⟨_,_,_,h,_⟩
 .simpa only [Sn] using h
 .cases h
theorem Vw.str {b:Str}(h:Vw S Z (.str b) d):d=.str b:=by
 rcases h with h | ⟨_,_,_,h,_⟩
 .simpa only [Sn] using h
 .cases h
theorem Vw.tup {ts:List T}(h:Vw S Z (.tup ts) d):∃ ds,d=.tup ds/\zi (zK S Z) ts ds:=by
 rcases h with h | ⟨_,_,_,h,_⟩
 .simpa only [Sn] using h
 .cases h
theorem Vw.lst {ts:List T}(h:Vw S Z (.lst ts) d):∃ ds,(d=.xn ds\/∃ a,d=.ref a/\S a=↑(.lst ds))/\zi (zK S Z) ts ds:=by
 rcases h with h | ⟨us,p,ds,h1,h2,h3,h4,_⟩
 .simp![Sn] at h;let#[ds,h1,h2]:=h;exact#[ds,?_,h2];rcases h1 with h1 | ⟨a,h1,h3⟩
  .show .inl h1.1
  .show .inr #[a,h1,(uA h3).2]
 .cases h1;show#[ds,.inr #[p,h2,h3],h4]
def xm:T->Option (List T)
 | .tup ts=>↑ts
 | .lst ts=>↑ts
 | _=>none
@[simp] theorem zab (ts:List T):xm (.tup ts)=↑ts:=rfl
@[simp] theorem zac (ts:List T):xm (.lst ts)=↑ts:=rfl
def Vw.seq {ts:List T}(h:Vw S Z y d) (e:xm y=↑ts):∃ ds,zP d S=↑ds/\zi (zK S Z) ts ds:=by
 cases y with
 | tup us=>cases e;let#[ds,rfl,h2]:=h.tup;show#[ds,rfl,h2]
 | lst us=>
  cases e;obtain⟨ds,h1 | ⟨a,rfl,h1⟩,h2⟩:=h.lst
  .subst h1;show#[ds,rfl,h2]
  .show#[ds,by unfold zP;dsimp only;rw[h1],h2]
 | _=>cases e
theorem Vw.yL (h:Vw S Z .yL d):∃ a Ab,(d=.ref a/\Ab=[])/\S a=↑(.zB Ab):=by
 rcases h with h | ⟨_,_,_,h,_⟩
 .simp![Sn] at h;let#[a,Ab,h1,h2]:=h;show#[a,Ab,h1,(uA h2).2]
 .cases h
def eA:Sn S .zr .zr:=by simp![Sn]
def wz {b:Bool}:Sn S (.bl b) (.bl b):=by simp![Sn]
def xw {i:Int}:Sn S (.int i) (.int i):=by simp![Sn]
def e9 {x:Str}:Sn S (.str x) (.str x):=by simp![Sn]
def rQ {ts:List T}{ds:List D}(h:zi S ts ds):Sn S (.tup ts) (.tup ds):=by simp![Sn];show#[ds,rfl,h]
def tQ {ts:List T}{ds:List D}{p:Addr}(hz:∀ a,Z a->S a≠none) (hp:S p=none) (h:zi (zK S Z) ts ds):zE S (ups S p (.lst ds)) Z (.lst ts) (.ref p):=by
 have nz:¬ Z p:=λ z=>hz p z hp;have s:Sx S (ups S p (.lst ds)):=.new hp _;exact#[?_,λ us e=>?_]
 .simp![Sn];show#[ds,.inr #[p,rfl,by rw[vY nz,sD]],zi.sx (wC s) ts h]
 .cases e;show#[p,ds,rfl,hp,sD,zi.sx (qW s hp) ts h]
end
def yT (R:Rk) (f:Ag) (t:zp):Prop:=∀ S Z L J y Q,ER S Z L J->f J=↑y->(∀ d S',Sx S S'->R S S' Z y d->Q d S')->t L S Q
abbrev wV:=yT xt
abbrev yi:=yT ZF
abbrev yY:=yT zE
def yT.imp {R R':Rk}{f:Ag}{t:zp}(h:yT R f t) (i:∀ S S' Z y d,R S S' Z y d->R' S S' Z y d):yT R' f t:=λ S Z L J y Q hE e hq=>h S Z L J y Q hE e λ d S' s r=>hq d S' s (i _ _ _ _ _ r)
def yT.er {f:Ag}{t:zp}(h:wV f t):yi f t:=h.imp λ _ _ _ _ _ r=>.inl r
def yT.fe {f:Ag}{t:zp}(h:yY f t):wV f t:=h.imp λ _ _ _ _ _ r=>r.1
def yT.fr {f:Ag}{t:zp}(h:yY f t):yi f t:=h.fe.er
@[simp] def zl (i:Nat):Ag:=fun J=>match J[i]? with
 | some ↑(.im t)=>↑t
 | _=>none
@[simp] def zc (i:Nat):Ag:=fun J=>match J[i]? with
 | some ↑(.im t)=>↑t
 | some ↑(.own (.lst ts))=>↑(.lst ts)
 | _=>none
@[simp] def cS (t:T):Ag:=λ _=>↑t
@[simp] abbrev cI (i:Int):Ag:=cS (.int i)
def dY (i:Nat):wV (zl i) (yh i):=λ S Z L J y Q hE e hq=>by
 unfold zl at e;split at e
 .rename_i t h;cases e;let#[d,h1,h2]:=hE.im i _ h;unfold yh;rw[h1];show hq d S (.refl S) h2
 .cases e
def Qo (i:Nat):yi (zc i) (yh i):=λ S Z L J y Q hE e hq=>by
 unfold zc at e;split at e
 .rename_i t h;cases e;let#[d,h1,h2]:=hE.im i _ h;unfold yh;rw[h1];show hq d S (.refl S) (.inl h2)
 .rename_i ts h;cases e;let#[p,o,h1,h2,h3,h4]:=hE.ow i _ h;unfold yh;rw[h1];cases o with
  | zB _=>show h3.elim
  | lst ds=>show hq _ S (.refl S) (.inr #[ts,p,ds,rfl,rfl,h2,h3,h4])
 .cases e
def QT (i:Int):yY (cS (.int i)) (dC (.int i)):=λ S Z L J y Q hE e hq=>by cases e;show hq _ S (.refl S) (Cl.of (λ _=>nofun) xw)
def Po (i:Bool):yY (cS (.bl i)) (dC (.bl i)):=λ S Z L J y Q hE e hq=>by cases e;show hq _ S (.refl S) (Cl.of (λ _=>nofun) wz)
def Qu (i:Str):yY (cS (.str i)) (dC (.str i)):=λ S Z L J y Q hE e hq=>by cases e;show hq _ S (.refl S) (Cl.of (λ _=>nofun) e9)
def Q5:yY (cS .zr) (dC .zr):=λ S Z L J y Q hE e hq=>by cases e;show hq _ S (.refl S) (Cl.of (λ _=>nofun) eA)
@[simp] def za (f:T->T->Option T) (fa fb:Ag):Ag:=fun J=>(fa J).bind λ x=>(fb J).bind λ y=>f x y
def Good2 (R:Rk) (f:T->T->Option T) (g:y7):Prop:=∀ S Z x y z d e Q,(∀ a,Z a->S a≠none)->Vw S Z x d->Vw S Z y e->f x y=↑z->(∀ c S',Sx S S'->R S S' Z z c->Q c S')->g d e S Q
def tV {R:Rk} [Cl R] {f:T->T->Option T}{g:y7}{fa fb:Ag}{ta tb:zp}(hg:Good2 R f g) (ha:yi fa ta) (hb:yi fb tb):yT R (za f fa fb) (yk g ta tb):=λ S Z L J y Q hE e hq=>by
 unfold za at e;let#[x,e1,e]:=Al.mp e;let#[z,e2,e]:=Al.mp e;exact ha S Z L J x _ hE e1 λ d S1 s1 r1=>?_;exact hb S1 Z L J z _ (hE.grow s1) e2 λ d2 S2 s2 r2=>?_;show hg S2 Z x z y d d2 Q ((hE.grow (s1.trans s2)).zd) (Vw.grow r1 s2) r2 e λ c S' s r=>hq c S' ((s1.trans s2).trans s) (Cl.cl (s1.trans s2) r)
@[simp] def i2 (g:Int->Int->T):T->T->Option T
 | .int i,.int j=>↑(g i j)
 | _,_=>none
instance {i j:Int}:Decidable (vM i j):=by unfold vM;infer_instance
instance {i j:Int}:Decidable (xC i j):=by unfold xC;infer_instance
instance {i j:Int}:Decidable (rM i j):=by unfold rM;infer_instance
@[simp] def qb (C:Int->Int->Prop) [∀ i j,Decidable (C i j)] (g:Int->Int->T):T->T->Option T
 | .int i,.int j=>if C i j then ↑(g i j) else none
 | _,_=>none
def iu {g:Int->Int->T}{g':Int->Int->D}(h:∀ i j S,Sn S (g i j) (g' i j)) (n:∀ i j ts,g i j≠.lst ts):Good2 zE (i2 g) (xH g'):=λ S Z x y z d e Q hz hx hy ef hq=>by
 unfold i2 at ef;split at ef
 .cases ef;cases hx.int;cases hy.int;show hq _ S (.refl S) (Cl.of (n _ _) (h _ _ _))
 .cases ef
def oU {C:Int->Int->Prop} [∀ i j,Decidable (C i j)] {g:Int->Int->T}{g':Int->Int->D}(h:∀ i j S,Sn S (g i j) (g' i j)) (n:∀ i j ts,g i j≠.lst ts):Good2 zE (qb C g) (fI C g'):=λ S Z x y z d e Q hz hx hy ef hq=>by
 unfold qb at ef;split at ef
 .split at ef
  .rename_i hh;cases ef;cases hx.int;cases hy.int;show#[hh,hq _ S (.refl S) (Cl.of (n _ _) (h _ _ _))]
  .cases ef
 .cases ef
@[simp] def we:T->T->Option T:=i2 λ i j=>.int (i-j)
@[simp] def zT:T->T->Option T:=qb (λ _ j=>0<j) λ i j=>.int (i%j)
@[simp] def xi:T->T->Option T:=qb xC λ i j=>.int (i/j)
@[simp] def xx:T->T->Option T:=qb rM λ i j=>.int (i ^ j.toNat)
@[simp] def qP:T->T->Option T:=i2 λ i j=>.bl (decide (i<=j))
@[simp] def oW:T->T->Option T:=i2 λ i j=>.bl (decide (j<=i))
section
variable {fa fb:Ag}{ta tb:zp}
def Qt (ha:yi fa ta) (hb:yi fb tb):yY (za we fa fb) (yk (xH λ i j=>.int (i-j)) ta tb):=tV (iu (λ _ _ _=>xw) λ _ _ _=>nofun) ha hb
def QA (ha:yi fa ta) (hb:yi fb tb):yY (za zT fa fb) (yk (fI (λ _ j=>0<j) λ i j=>.int (i%j)) ta tb):=tV (oU (λ _ _ _=>xw) λ _ _ _=>nofun) ha hb
def QY (ha:yi fa ta) (hb:yi fb tb):yY (za xi fa fb) (yk (fI xC λ i j=>.int (i/j)) ta tb):=tV (oU (λ _ _ _=>xw) λ _ _ _=>nofun) ha hb
def Qz (ha:yi fa ta) (hb:yi fb tb):yY (za xx fa fb) (yk (fI rM λ i j=>.int (i ^ j.toNat)) ta tb):=tV (oU (λ _ _ _=>xw) λ _ _ _=>nofun) ha hb
end
def zy (neg:Bool):T->T->Option T:=λ x y=>if dep x<=60/\dep y<=60 then ↑(.bl (cond neg (!eqT x y) (eqT x y))) else none
def u9 (neg:Bool):T->T->Option T:=λ x y=>match xm y with
 | some ts=>if dep x<=60/\xK ts<=60 then ↑(.bl (cond neg (!(ts.any λ t=>eqT t x)) (ts.any λ t=>eqT t x))) else none
 | none=>none
def N6 {neg:Bool}:Good2 zE (zy neg) (vd neg):=λ S Z x y z d e Q hz hx hy ef hq=>by
 unfold zy at ef;split at ef
 .rename_i h;cases ef;show#[x,y,hx.sn,hy.sn,h.1,h.2,hq _ S (.refl S) (Cl.of (λ _=>nofun) wz)]
 .cases ef
def N5 {neg:Bool}:Good2 zE (u9 neg) (uD neg):=λ S Z x y z d e Q hz hx hy ef hq=>by
 unfold u9 at ef;split at ef
 .rename_i ts ht;split at ef
  .rename_i h;cases ef;let#[ds,h1,h2]:=hy.seq ht;show#[x,ts,ds,hx.sn,h1,zi.sx (lH S Z) ts h2,h.1,h.2,hq _ S (.refl S) (Cl.of (λ _=>nofun) wz)]
  .cases ef
 .cases ef
@[simp] def ze:T->T->Option T:=λ x y=>match xm x,y with
 | some ts,.int i=>L2.zM ts i
 | _,_=>none
def bE:Good2 xt ze wq:=λ S Z x y z d e Q hz hx hy ef hq=>by
 unfold ze at ef;split at ef
 .rename_i ts i ht;cases hy.int;let#[ds,h1,h2]:=hx.seq ht;let#[c,h3,h4]:=h2.at ef;unfold zP at h1;split at h1
  .cases h1;show NZ h3 (hq c S (.refl S) h4)
  .cases h1;show N_ h3 (hq c S (.refl S) h4)
  .split at h1
   .rename_i q;cases h1;show Ma q h3 (hq c S (.refl S) h4)
   .cases h1
  .cases h1
 .cases ef
@[simp] def zI:T->T->Option T
 | .int i,.int j=>↑(.int (i+j))
 | .str i,.str j=>if i.length+j.length<=sizeLine then ↑(.str (i++j)) else none
 | .lst ts,.lst us=>if ts.length+us.length<=sizeLine then ↑(.lst (ts++us)) else none
 | .tup ts,.tup us=>if ts.length+us.length<=sizeLine then ↑(.tup (ts++us)) else none
 | _,_=>none
def ug:y7:=λ x y S Q=>match x,y with
 | .int i,.int j=>Q (.int (i+j)) S
 | .str i,.str j=>i.length+j.length<=sizeLine/\Q (.str (i++j)) S
 | .tup ds,.tup es=>ds.length+es.length<=sizeLine/\Q (.tup (ds++es)) S
 | .zr,_=>False
 | .bl _,_=>False
 | .int _,_=>False
 | .str _,_=>False
 | .tup _,_=>False
 | x,y=>match zP x S,zP y S with
  | some ds,↑es=>(∀ ts,y≠.tup ts)/\ds.length+es.length<=sizeLine/\∀ r,S r=none->Q (.ref r) (ups S r (.lst (ds++es)))
  | _,_=>False
def good_add:Good2 zE zI ug:=λ S Z x y z d e Q hz hx hy ef hq=>by
 unfold zI at ef;split at ef
 .cases ef;cases hx.int;cases hy.int;show hq _ S (.refl S) (Cl.of (λ _=>nofun) xw)
 .split at ef
  .rename_i h;cases ef;cases hx.str;cases hy.str;show#[h,hq _ S (.refl S) (Cl.of (λ _=>nofun) e9)]
  .cases ef
 .split at ef
  .rename_i h;cases ef;let#[ds,h1,h2]:=hx.seq rfl;let#[es,h3,h4]:=hy.seq rfl;have nt:∀ ts,e≠.tup ts:=by
    obtain⟨_,q | ⟨_,q,_⟩,_⟩:=hy.lst <;> subst q <;> show λ _=>nofun
   have key:(∀ ts,e≠.tup ts)/\ds.length+es.length<=sizeLine/\∀ r,S r=none->Q (.ref r) (ups S r (.lst (ds++es))):=
    #[nt,by rw[h2.len,h4.len];show h,λ r hr=>hq _ _ (.new hr _) (tQ hz hr (h2.append h4))]
   obtain⟨_,q | ⟨a,q,_⟩,_⟩:=hx.lst
   .subst q;unfold ug;dsimp only;rw[h1,h3];show key
   .subst q;unfold ug;dsimp only;rw[h1,h3];show key
  .cases ef
 .split at ef
  .rename_i h;cases ef;let#[ds,rfl,h2]:=hx.tup;let#[es,rfl,h4]:=hy.tup;show#[by rw[h2.len,h4.len];show h,hq _ S (.refl S) (Cl.of (λ _=>nofun) (rQ (h2.append h4)))]
  .cases ef
 .cases ef
def wU (f:Ev->Option Bool) (t:yt):Prop:=∀ S Z L J y Q,ER S Z L J->f J=↑y->(∀ S',Sx S S'->Q y S')->t L S Q
@[simp] def yc (f:Ag):Ev->Option Bool:=fun J=>(f J).bind λ x=>match x with
 | .bl b=>↑b
 | _=>none
@[simp] def sF:T->Option Bool
 | .zr=>↑false
 | .bl b=>↑b
 | .int i=>↑(i != 0)
 | .str x=>if x.length<=sizeLine then ↑((x.length:Int) != 0) else none
 | .tup ts=>↑(!ts.isEmpty)
 | .lst ts=>↑(!ts.isEmpty)
 | .yL=>none
 | .err _ _ _=>none
@[simp] def xR (f:Ag):Ev->Option Bool:=fun J=>(f J).bind sF
@[simp] def iH (f g:Ev->Option Bool):Ev->Option Bool:=fun J=>(f J).bind λ b=>if b=true then g J else ↑false
@[simp] def lR (f g:Ev->Option Bool):Ev->Option Bool:=fun J=>(f J).bind λ b=>if b=true then ↑true else g J
@[simp] def ph (f:Ev->Option Bool):Ev->Option Bool:=fun J=>(f J).map (!·)
section
variable {f g:Ag}{t u:zp}{fb gb:Ev->Option Bool}{tb ub:yt}{R:Rk}
def Qq (h:yi f t):wU (yc f) (vD t):=λ S Z L J y Q hE e hq=>by
 let#[x,e1,e2]:=Al.mp e;exact h S Z L J x _ hE e1 λ d S1 s1 r1=>?_;split at e2
 .cases e2;cases Vw.bl r1;show hq S1 s1
 .cases e2
def Qs (h:yi f t):wU (xR f) (au t):=λ S Z L J y Q hE e hq=>by
 let#[x,e1,e2]:=Al.mp e;exact h S Z L J x _ hE e1 λ d S1 s1 r1=>?_;cases x with
 | zr=>cases Vw.zr r1;cases e2;show hq S1 s1
 | bl b=>cases Vw.bl r1;cases e2;show hq S1 s1
 | int b=>cases Vw.int r1;cases e2;show hq S1 s1
 | str b=>
  cases Vw.str r1;simp![sF] at e2;split at e2
  .rename_i hh;cases e2;show#[hh,hq S1 s1]
  .cases e2
 | tup ts=>
  let#[ds,rfl,h2]:=Vw.tup r1;cases e2;change Q (!ds.isEmpty) S1;rw[h2.empty];show hq S1 s1
 | lst ts=>
  obtain⟨ds,rfl | ⟨a,rfl,h1⟩,h2⟩:=Vw.lst r1
  .cases e2;change Q (!ds.isEmpty) S1;rw[h2.empty];show hq S1 s1
  .cases e2;exact XH h1 ?_;rw[h2.empty];show hq S1 s1
 | _=>cases e2
def Pb (h:wU fb tb) (h':wU gb ub):wU (iH fb gb) (nj tb ub):=λ S Z L J y Q hE e hq=>by
 let#[b,e1,e2]:=Al.mp e;exact h S Z L J b _ hE e1 λ S1 s1=>?_;split at e2
 .rename_i hb;rw[if_pos hb];show h' S1 Z L J y _ (hE.grow s1) e2 λ S2 s2=>hq S2 (s1.trans s2)
 .rename_i hb;rw[if_neg hb];cases e2;show hq S1 s1
def QZ (h:wU fb tb) (h':wU gb ub):wU (lR fb gb) (nh tb ub):=λ S Z L J y Q hE e hq=>by
 let#[b,e1,e2]:=Al.mp e;exact h S Z L J b _ hE e1 λ S1 s1=>?_;split at e2
 .rename_i hb;rw[if_pos hb];cases e2;show hq S1 s1
 .rename_i hb;rw[if_neg hb];show h' S1 Z L J y _ (hE.grow s1) e2 λ S2 s2=>hq S2 (s1.trans s2)
def Q_ (h:wU fb tb):wU (ph fb) (ni tb):=λ S Z L J y Q hE e hq=>by
 unfold ph at e;let#[b,e1,rfl]:=AM.mp e;show h S Z L J b _ hE e1 λ S1 s1=>hq S1 s1
@[simp] def tD (f g:Ag):Ag:=fun J=>(f J).bind λ x=>match x with
 | .bl k=>if k=true then g J else ↑(.bl false)
 | _=>none
@[simp] def lg (f g:Ag):Ag:=fun J=>(f J).bind λ x=>match x with
 | .bl k=>if k=true then ↑(.bl true) else g J
 | _=>none
@[simp] def o7 (f:Ag):Ag:=fun J=>(f J).bind λ x=>match x with
 | .bl k=>↑(.bl (!k))
 | _=>none
@[simp] def b9 (c:Ev->Option Bool) (f g:Ag):Ag:=fun J=>(c J).bind λ b=>if b=true then f J else g J
def Pq [Cl R] (h:yi f t) (h':yT R g u):yT R (tD f g) (nG t u):=λ S Z L J y Q hE e hq=>by
 let#[x,e1,e2]:=Al.mp e;exact h S Z L J x _ hE e1 λ d S1 s1 r1=>?_;split at e2
 .cases Vw.bl r1;split at e2
  .rename_i hb;dsimp only;rw[if_pos hb];show h' S1 Z L J y _ (hE.grow s1) e2 λ d S2 s2 r2=>hq d S2 (s1.trans s2) (Cl.cl s1 r2)
  .rename_i hb;dsimp only;rw[if_neg hb];cases e2;show hq _ S1 s1 (Cl.of (λ _=>nofun) wz)
 .cases e2
def Q3 [Cl R] (h:yi f t) (h':yT R g u):yT R (lg f g) (nA t u):=λ S Z L J y Q hE e hq=>by
 let#[x,e1,e2]:=Al.mp e;exact h S Z L J x _ hE e1 λ d S1 s1 r1=>?_;split at e2
 .cases Vw.bl r1;split at e2
  .rename_i hb;dsimp only;rw[if_pos hb];cases e2;show hq _ S1 s1 (Cl.of (λ _=>nofun) wz)
  .rename_i hb;dsimp only;rw[if_neg hb];show h' S1 Z L J y _ (hE.grow s1) e2 λ d S2 s2 r2=>hq d S2 (s1.trans s2) (Cl.cl s1 r2)
 .cases e2
def Q4 [Cl R] (h:yi f t):yT R (o7 f) (nB t):=λ S Z L J y Q hE e hq=>by
 let#[x,e1,e2]:=Al.mp e;exact h S Z L J x _ hE e1 λ d S1 s1 r1=>?_;split at e2
 .cases Vw.bl r1;cases e2;show hq _ S1 s1 (Cl.of (λ _=>nofun) wz)
 .cases e2
def QW [Cl R] (hc:wU fb tb) (h:yT R f t) (h':yT R g u):yT R (b9 fb f g) (nD tb t u):=λ S Z L J y Q hE e hq=>by
 let#[b,e1,e2]:=Al.mp e;exact hc S Z L J b _ hE e1 λ S1 s1=>?_;split at e2
 .rename_i hb;rw[if_pos hb];show h S1 Z L J y _ (hE.grow s1) e2 λ d S2 s2 r2=>hq d S2 (s1.trans s2) (Cl.cl s1 r2)
 .rename_i hb;rw[if_neg hb];show h' S1 Z L J y _ (hE.grow s1) e2 λ d S2 s2 r2=>hq d S2 (s1.trans s2) (Cl.cl s1 r2)
end
def pB (S:SS) (Z:Addr->Prop):List T->List D->Prop
 | [],ds=>ds=[]
 | t::ts,ds=>∃ c cs,ds=c::cs/\Vw S Z t c/\pB S Z ts cs
def rD (f:Ev->Option (List T)) (t:ya):Prop:=∀ S Z L J ys Q,ER S Z L J->f J=↑ys->(∀ ds S',Sx S S'->pB S' Z ys ds->Q ds S')->t L S Q
def qv (f:Ev->Option (List T)) (t:ya):Prop:=∀ S Z L J ys Q,ER S Z L J->f J=↑ys->(∀ ds S',Sx S S'->zi (zK S' Z) ys ds->Q ds S')->t L S Q
@[simp] def zg:Ev->Option (List T):=λ _=>↑[]
@[simp] def zb (f:Ag) (g:Ev->Option (List T)):Ev->Option (List T):=fun J=>(f J).bind λ x=>(g J).bind λ xs=>↑(x::xs)
section
variable {f:Ag}{g:Ev->Option (List T)}{t:zp}{u:ya}
def Qk:rD zg lW:=λ S Z L J y Q hE e hq=>by cases e;show hq [] S (.refl S) rfl
def Qi:qv zg lW:=λ S Z L J y Q hE e hq=>by cases e;show hq [] S (.refl S) .nil
def Ql (h:yi f t) (h':rD g u):rD (zb f g) (qg t u):=λ S Z L J y Q hE e hq=>by
 let#[x,e1,e0]:=Al.mp e;let#[xs,e2,e3]:=Al.mp e0;cases e3;exact h S Z L J x _ hE e1 λ d S1 s1 r1=>?_;exact h' S1 Z L J xs _ (hE.grow s1) e2 λ ds S2 s2 r2=>?_;show hq _ S2 (s1.trans s2) #[d,ds,rfl,Vw.grow r1 s2,r2]
def Qj (h:wV f t) (h':qv g u):qv (zb f g) (qg t u):=λ S Z L J y Q hE e hq=>by
 let#[x,e1,e0]:=Al.mp e;let#[xs,e2,e3]:=Al.mp e0;cases e3;exact h S Z L J x _ hE e1 λ d S1 s1 r1=>?_;exact h' S1 Z L J xs _ (hE.grow s1) e2 λ ds S2 s2 r2=>?_;show hq _ S2 (s1.trans s2) (.cons (Sn.sx (wC s2) x r1) r2)
@[simp] def tupS (g:Ev->Option (List T)):Ag:=fun J=>(g J).bind λ xs=>if xs.length<=sizeLine then ↑(.tup xs) else none
@[simp] def yQ (g:Ev->Option (List T)):Ag:=fun J=>(g J).bind λ xs=>if xs.length<=sizeLine then ↑(.lst xs) else none
def Qp (h:qv g u):yY (tupS g) (aE u):=λ S Z L J y Q hE e hq=>by
 let#[xs,e1,e2]:=Al.mp e;split at e2
 .rename_i hl;cases e2;exact h S Z L J xs _ hE e1 λ ds S1 s1 r1=>#[by rw[r1.len];show hl,hq _ S1 s1 (Cl.of (λ _=>nofun) (rQ r1))]
 .cases e2
def QB (h:qv g u):yY (yQ g) (aJ u):=λ S Z L J y Q hE e hq=>by
 let#[xs,e1,e2]:=Al.mp e;split at e2
 .rename_i hl;cases e2;exact h S Z L J xs _ hE e1 λ ds S1 s1 r1=>#[by rw[r1.len];show hl,λ p hp=>hq _ _ (s1.trans (.new hp _)) (Cl.cl s1 (tQ (hE.grow s1).zd hp r1))]
 .cases e2
end
@[simp] def zk (F:Ap) (g:Ev->Option (List T)):Ag:=fun J=>(g J).bind F
def vi (R:Rk) (F:Ap) (f:xk):Prop:=∀ S Z ys z ds Q,(∀ a,Z a->S a≠none)->pB S Z ys ds->F ys=↑z->(∀ c S',Sx S S'->R S S' Z z c->Q c S')->f ds S Q
def Pg {R:Rk} [Cl R] {F:Ap}{f:xk}{g:Ev->Option (List T)}{u:ya}(hf:vi R F f) (h:rD g u):yT R (zk F g) (xr f u):=λ S Z L J y Q hE e hq=>by
 let#[xs,e1,e2]:=Al.mp e;exact h S Z L J xs _ hE e1 λ ds S1 s1 r1=>?_;show hf S1 Z xs y ds Q (hE.grow s1).zd r1 e2 λ c S' s r=>hq c S' (s1.trans s) (Cl.cl s1 r)
@[simp] def yU:Ap
 | [.str z]=>if z.length<=sizeLine then ↑(.int z.length) else none
 | [y]=>(xm y).map λ ts=>.int ts.length
 | _=>none
def wY {S:SS}{Z:Addr->Prop}{y:T}{ds:List D}(h:pB S Z [y] ds):∃ d,ds=[d]/\Vw S Z y d:=by
 let#[c,cs,rfl,h1,h2]:=h;cases h2;show#[c,rfl,h1]
def fx {S:SS}{Z:Addr->Prop}{y z:T}{ds:List D}(h:pB S Z [y,z] ds):∃ d e,ds=[d,e]/\Vw S Z y d/\Vw S Z z e:=by
 let#[c,cs,rfl,h1,c2,cs2,rfl,h2,h3]:=h;cases h3;show#[c,c2,rfl,h1,h2]
def N3:vi zE yU uf:=λ S Z ys z ds Q hz hv e hq=>by
 unfold yU at e;split at e
 .let#[d,rfl,h1]:=wY hv;split at e
  .rename_i hl;cases e;cases h1.str;show#[hl,hq _ S (.refl S) (Cl.of (λ _=>nofun) xw)]
  .cases e
 .let#[d,rfl,h1]:=wY hv;let#[ts,e1,rfl]:=AM.mp e;let#[es,h2,h3]:=h1.seq e1;exact NY h2 ?_;rw[h3.len];show hq _ S (.refl S) (Cl.of (λ _=>nofun) xw)
 .cases e
@[simp] def listS:Ap
 | [y]=>(xm y).map .lst
 | _=>none
def N2:vi zE listS ud:=λ S Z ys z ds Q hz hv e hq=>by
 unfold listS at e;split at e
 .let#[d,rfl,h1]:=wY hv;let#[ts,e1,rfl]:=AM.mp e;let#[es,h2,h3]:=h1.seq e1;show NX h2 λ p hp=>hq _ _ (.new hp _) (tQ hz hp h3)
 .cases e
@[simp] def yP:Ap
 | [y]=>(xm y).map .tup
 | _=>none
def Nv:vi zE yP v_:=λ S Z ys z ds Q hz hv e hq=>by
 unfold yP at e;split at e
 .rename_i y;let#[d,rfl,h1]:=wY hv;let#[ts,e1,rfl]:=AM.mp e;let#[es,h2,h3]:=h1.seq e1;have k:Q (.tup es) S:=hq _ S (.refl S) (Cl.of (λ _=>nofun) (rQ h3));unfold zP at h2;split at h2
  .cases h2;show k
  .cases h2;show k
  .split at h2
   .rename_i q;cases h2;show NW q k
   .cases h2
  .cases h2
 .cases e
@[simp] def qT (g:Int->Int->Int):Ap
 | [.int i,.int j]=>↑(.int (g i j))
 | _=>none
def bF {g:Int->Int->Int}:vi zE (qT g) (vB λ i j=>.int (g i j)):=λ S Z ys z ds Q hz hv e hq=>by
 unfold qT at e;split at e
 .let#[d,d',rfl,h1,h2]:=fx hv;cases e;cases h1.int;cases h2.int;show hq _ S (.refl S) (Cl.of (λ _=>nofun) xw)
 .cases e
@[simp] def sN:Ap:=qT λ i j=>if j>i then j else i
@[simp] def xU:Ap:=qT λ i j=>if j<i then j else i
def ql:List T->Option (List Bool)
 | []=>↑[]
 | .bl b::ts=>(ql ts).map (b::·)
 | _::_=>none
theorem Zo:∀ {ts:List T}{bs:List Bool},ql ts=↑bs->ts=bs.map T.bl
 | [],bs,h=>by cases h;rfl
 | .bl b::ts,bs,h=>by
  unfold ql at h;let#[cs,h1,rfl]:=AM.mp h;rw[Ar,<- Zo h1]
 | .zr::ts,bs,h=>by cases h
 | .int _::ts,bs,h=>by cases h
 | .str _::ts,bs,h=>by cases h
 | .tup _::ts,bs,h=>by cases h
 | .lst _::ts,bs,h=>by cases h
def Lp (bs:List Bool):ql (bs.map T.bl)=↑bs:=by
 induction bs with
 | nil=>rfl
 | cons b bs ih=>rw[Ar];unfold ql;rw[ih];rfl
@[simp] def iX (g:List Bool->Bool):Ap
 | [.lst ts]=>(ql ts).map λ bs=>.bl (g bs)
 | _=>none
def tf (g:List Bool->Bool):xk:=λ ds S Q=>match ds with
 | [.tup _]=>False
 | [d]=>∃ bs:List Bool,zP d S=↑(bs.map D.bl)/\Q (.bl (g bs)) S
 | _=>False
def N7 {g:List Bool->Bool}:vi zE (iX g) (tf g):=λ S Z ys z ds Q hz hv e hq=>by
 unfold iX at e;split at e
 .let#[d,rfl,h1]:=wY hv;let#[bs,e1,rfl]:=AM.mp e;cases Zo e1;let#[es,h2,h3]:=h1.seq rfl;cases h3.Zp;have key:∃ bs:List Bool,zP d S=↑(bs.map D.bl)/\Q (.bl (g bs)) S:=#[bs,h2,hq _ S (.refl S) (Cl.of (λ _=>nofun) wz)];obtain⟨_,q | ⟨a,q,_⟩,_⟩:=h1.lst
  .subst q;show key
  .subst q;show key
 .cases e
structure FR (S0:SS) (Z0:Addr->Prop) (S:SS) (Z:Addr->Prop) (L:zY) (J:Ev):Prop where
 er:ER S Z L J
 len:L.length=J.length
 sx:Sx S0 S
 z0:∀ a,Z0 a->S0 a≠none
 zz:∀ a,Z0 a->Z a
 zn:∀ a,Z a->Z0 a\/S0 a=none
 fr:∀ (i:Nat) ts p,J[i]?=↑↑(.own ts)->L[i]?=↑↑(.ref p)->S0 p=none
 dj:∀ (i j:Nat) ts us p,i≠j->J[i]?=↑↑(.own ts)->J[j]?=↑↑(.own us)->L[i]?=↑↑(.ref p)->L[j]?=↑↑(.ref p)->False
def yq {α:Type}{l:List α}{i j:Nat}{a b:α}(h:(l.set i a)[j]?=↑b):(i=j/\i<l.length/\b=a)\/(i≠j/\l[j]?=↑b):=by
 rw[CZ] at h;by_cases e:i=j
 .subst e;rw[if_pos rfl] at h;by_cases hl:i<l.length
  .rw[if_pos hl] at h;cases h;show .inl #[rfl,hl,rfl]
  .rw[if_neg hl] at h;cases h
 .rw[if_neg e] at h;show .inr #[e,h]
def xA {α:Type}{l:List α}{i j:Nat}{a:α}(h:i≠j):(l.set i a)[j]?=l[j]?:=by rw[CZ,if_neg h]
def qY {α:Type}{l:List α}{i:Nat}{a:α}(h:i<l.length):(l.set i a)[i]?=↑a:=by rw[CZ,if_pos rfl,if_pos h]
section
variable {S0 S S':SS}{Z0 Z:Addr->Prop}{L:zY}{J:Ev}{y:T}{d:D}
theorem FR.grow (h:FR S0 Z0 S Z L J) (s:Sx S S'):FR S0 Z0 S' Z L J:=#[h.er.grow s,h.len,h.sx.trans s,h.z0,h.zz,h.zn,h.fr,h.dj]
theorem FR.rR (h:FR S0 Z0 S Z L J) (i:Nat) (r:Sn (zK S Z) y d):FR S0 Z0 S Z (L.set i ↑d) (J.set i ↑(.im y)):=by
 exact#[#[h.er.zd,λ j t e=>?_,λ j ts e=>?_],by simp[h.len],h.sx,h.z0,h.zz,h.zn,λ j ts p e e'=>?_,λ j k ts us p n e1 e2 e3 e4=>?_]
 .rcases yq e with ⟨rfl,hl,e⟩ | ⟨n,e⟩
  .cases e;show#[d,qY (by rw[h.len];show hl),r]
  .rw[xA n];show h.er.im j t e
 .rcases yq e with ⟨rfl,hl,e⟩ | ⟨n,e⟩
  .cases e
  .rw[xA n];show h.er.ow j ts e
 .rcases yq e with ⟨rfl,hl,e⟩ | ⟨n,e⟩
  .cases e
  .rw[xA n] at e';show h.fr j ts p e e'
 .rcases yq e1 with ⟨rfl,hl,e⟩ | ⟨n1,e1⟩
  .cases e
  rcases yq e2 with ⟨rfl,hl,e⟩ | ⟨n2,e2⟩
  .cases e
  rw[xA n1] at e3;rw[xA n2] at e4;show h.dj j k ts us p n e1 e2 e3 e4
def FR.jr {ts:C}{ds:O}{p:Addr}(h:FR S0 Z0 S Z L J) (s:Sx S S') (i:Nat) (hp:S p=none) (hd:S' p=↑ds) (r:tE (zK S' λ a=>Z a\/a=p) ts ds):
  FR S0 Z0 S' (λ a=>Z a\/a=p) (L.set i ↑(.ref p)) (J.set i ↑(.own ts)):=by
 have np:∀ (j:Nat) us q,J[j]?=↑↑(.own us)->L[j]?=↑↑(.ref q)->q≠p:=λ j us q e e' z=>by
  subst z;let#[p',HK,h1,h2,_]:=h.er.ow j us e;rw[e'] at h1;cases h1;rw[hp] at h2;cases h2
 exact#[#[λ a z=>?_,λ j t e=>?_,λ j us e=>?_],by simp[h.len],h.sx.trans s,h.z0,λ a z=>.inl (h.zz a z),λ a z=>z.elim (h.zn a) (λ q=>.inr (by subst q;show h.sx.none hp)),λ j us q e e'=>?_,λ j k us vs q n e1 e2 e3 e4=>?_]
 .rcases z with z | rfl
  .show λ q=>h.er.zd a z (s.none q)
  .rw[hd];nofun
 .rcases yq e with ⟨rfl,hl,e⟩ | ⟨n,e⟩
  .cases e
  .rw[xA n];let#[d,h1,h2]:=h.er.im j t e;show#[d,h1,Sn.sx (qW s hp) t h2]
 .rcases yq e with ⟨rfl,hl,e⟩ | ⟨n,e⟩
  .cases e;show#[p,ds,qY (by rw[h.len];show hl),hd,r,.inr rfl]
  .rw[xA n];let#[q,es,h1,h2,h3,h4]:=h.er.ow j us e;show#[q,es,h1,s _ _ h2,tE.sx (qW s hp) h3,.inl h4]
 .rcases yq e with ⟨rfl,hl,e⟩ | ⟨n,e⟩
  .rw[qY (by rw[h.len];show hl)] at e';cases e';show h.sx.none hp
  .rw[xA n] at e';show h.fr j us q e e'
 .rcases yq e1 with ⟨rfl,hl,e⟩ | ⟨n1,e1⟩
  .rcases yq e2 with ⟨rfl,_,_⟩ | ⟨n2,e2⟩
   .show n rfl
   .rw[qY (by rw[h.len];show hl)] at e3;cases e3;rw[xA n2] at e4;show np k vs p e2 e4 rfl
  .rcases yq e2 with ⟨rfl,hl,_⟩ | ⟨n2,e2⟩
   .rw[qY (by rw[h.len];show hl)] at e4;cases e4;rw[xA n1] at e3;show np j us p e1 e3 rfl
   .rw[xA n1] at e3;rw[xA n2] at e4;show h.dj j k us vs q n e1 e2 e3 e4
def FR.forget (h:FR S0 Z0 S Z L J) (i:Nat):FR S0 Z0 S Z L (J.set i none):=by
 exact#[#[h.er.zd,λ j t e=>?_,λ j ts e=>?_],by simp[h.len],h.sx,h.z0,h.zz,h.zn,λ j ts p e e'=>?_,λ j k ts us p n e1 e2 e3 e4=>?_]
 .rcases yq e with ⟨rfl,hl,e⟩ | ⟨n,e⟩
  .cases e
  .show h.er.im j t e
 .rcases yq e with ⟨rfl,hl,e⟩ | ⟨n,e⟩
  .cases e
  .show h.er.ow j ts e
 .rcases yq e with ⟨rfl,hl,e⟩ | ⟨n,e⟩
  .cases e
  .show h.fr j ts p e e'
 .rcases yq e1 with ⟨rfl,hl,e⟩ | ⟨n1,e1⟩
  .cases e
  rcases yq e2 with ⟨rfl,hl,e⟩ | ⟨n2,e2⟩
  .cases e
  show h.dj j k ts us p n e1 e2 e3 e4
@[simp] def y9 (is:List Nat) (J:Ev):Ev:=is.foldl (fun J i=>J.set i none) J
theorem FR.y9:∀ (is:List Nat) {J:Ev},FR S0 Z0 S Z L J->FR S0 Z0 S Z L (y9 is J)
 | [],_,h=>h
 | i::is,_,h=>FR.y9 is (h.forget i)
def FR.freeze {ts:List T}{p:Addr}(h:FR S0 Z0 S Z L J) (i:Nat) (e:J[i]?=↑↑(.own (.lst ts))) (ed:L[i]?=↑↑(.ref p)):
  FR S0 Z0 S (λ a=>Z a/\a≠p) L (J.set i ↑(.im (.lst ts)))/\Sn (zK S λ a=>Z a/\a≠p) (.lst ts) (.ref p):=by
 let#[p',o,h1,h2,h3,h4]:=h.er.ow i _ e;rw[ed] at h1;cases h1;obtain⟨ds,rfl⟩:∃ ds,o=.lst ds:=by
  cases o with
  | lst ds=>show#[ds,rfl]
  | zB _=>show h3.elim
 replace h3:zi (zK S Z) ts ds:=h3;have hS:Sn (zK S λ a=>Z a/\a≠p) (.lst ts) (.ref p):=by
  simp![Sn];show#[ds,.inr #[p,rfl,by rw[vY (λ z=>z.2 rfl)];show h2],zi.sx (vZ λ a z=>z.1) ts h3]
 exact#[?_,hS];exact#[#[λ a z=>h.er.zd a z.1,λ j t e'=>?_,λ j us e'=>?_],by simp[h.len],h.sx,h.z0,λ a z=>#[h.zz a z,λ q=>?_],λ a z=>h.zn a z.1,λ j us q e' JP=>?_,λ j k us vs q n e1 e2 e3 e4=>?_]
 .rcases yq e' with ⟨rfl,hl,e'⟩ | ⟨n,e'⟩
  .cases e';show#[_,ed,hS]
  .let#[d,g1,g2]:=h.er.im j t e';show#[d,g1,Sn.sx (vZ λ a z=>z.1) t g2]
 .rcases yq e' with ⟨rfl,hl,e'⟩ | ⟨n,e'⟩
  .cases e'
  .let#[q,es,g1,g2,g3,g4]:=h.er.ow j us e';show#[q,es,g1,g2,tE.sx (vZ λ a z=>z.1) g3,g4,λ z=>by subst z;show h.dj i j _ us q n e e' ed g1]
 .subst q;show h.z0 a z (h.fr i _ a e ed)
 .rcases yq e' with ⟨rfl,hl,e'⟩ | ⟨n,e'⟩
  .cases e'
  .show h.fr j us q e' JP
 .rcases yq e1 with ⟨rfl,hl,e⟩ | ⟨n1,e1⟩
  .cases e
  rcases yq e2 with ⟨rfl,hl,e⟩ | ⟨n2,e2⟩
  .cases e
  show h.dj j k us vs q n e1 e2 e3 e4
def FR.mut {ts us:C}{es:O}{p:Addr}(h:FR S0 Z0 S Z L J) (i:Nat) (e:J[i]?=↑↑(.own ts)) (ed:L[i]?=↑↑(.ref p)) (r:tE (zK S Z) us es):
  FR S0 Z0 (ups S p es) Z L (J.set i ↑(.own us)):=by
 let#[p',ds,h1,h2,h3,h4]:=h.er.ow i ts e;rw[ed] at h1;cases h1;have hh:zK (ups S p es) Z=zK S Z:=Nm h4;have hpn:=h.fr i ts p e ed;exact#[#[λ a z=>?_,λ j t e'=>?_,λ j vs e'=>?_],by simp[h.len],λ b o q=>?_,h.z0,h.zz,h.zn,λ j vs q e' JP=>?_,λ j k vs ws q n e1 e2 e3 e4=>?_]
 .by_cases hp:a=p
  .subst hp;rw[sD];nofun
  .rw[tM hp];show h.er.zd a z
 .rw[hh];rcases yq e' with ⟨rfl,hl,e'⟩ | ⟨n,e'⟩
  .cases e'
  .show h.er.im j t e'
 .rw[hh];rcases yq e' with ⟨rfl,hl,e'⟩ | ⟨n,e'⟩
  .cases e';show#[p,es,ed,sD,r,h4]
  .let#[q,Gh,g1,g2,g3,g4]:=h.er.ow j vs e';exact#[q,Gh,g1,?_,g3,g4];rw[tM (λ z=>by subst z;show h.dj i j ts vs q n e e' ed g1)];show g2
 .rw[tM (λ z=>by subst z;rw[hpn] at q;cases q)];show h.sx b o q
 .rcases yq e' with ⟨rfl,hl,_⟩ | ⟨n,e'⟩
  .rw[ed] at JP;cases JP;show hpn
  .show h.fr j vs q e' JP
 .rcases yq e1 with ⟨rfl,hl,_⟩ | ⟨n1,e1⟩
  .rcases yq e2 with ⟨rfl,hl,_⟩ | ⟨n2,e2⟩
   .show n rfl
   .show h.dj _ k ts ws q n e e2 e3 e4
  .rcases yq e2 with ⟨rfl,hl,_⟩ | ⟨n2,e2⟩
   .show h.dj j _ vs ts q n e1 e e3 e4
   .show h.dj j k vs ws q n e1 e2 e3 e4
def jy (S0 S:SS) (Z:Addr->Prop):SS:=open Classical in λ a=>if S0 a=none/\Z a then none else S a
def mT {a:Addr}(h:¬ (S0 a=none/\Z a)):jy S0 S Z a=S a:=if_neg h
def jx {a:Addr}(h:S0 a=none/\Z a):jy S0 S Z a=none:=if_pos h
def FR.rebase (h:FR S0 Z0 S Z L J):∃ S1,Sx S0 S1/\FR S1 Z0 S Z L J/\Sx (zK S Z) S1:=by
 exact#[jy S0 S Z,λ b o q=>?_,#[h.er,h.len,λ b o q=>?_,λ a z=>?_,h.zz,λ a z=>?_,λ i ts p e ed=>?_,h.dj],λ b o q=>?_]
 .rw[mT (λ z=>by rw[z.1] at q;cases q)];show h.sx _ _ q
 .by_cases w:S0 b=none/\Z b
  .rw[jx w] at q;cases q
  .rw[mT w] at q;show q
 .rw[mT (λ q=>h.z0 a z q.1)];show h.er.zd a (h.zz a z)
 .rcases h.zn a z with w | w
  .show .inl w
  .show .inr (jx #[w,z])
 .let#[p',ds,h1,h2,h3,h4]:=h.er.ow i ts e;rw[ed] at h1;cases h1;show jx #[h.fr i ts p e ed,h4]
 .let#[q1,q2]:=uA q;rw[mT (λ z=>q1 z.2)];show q2
def FR.back {S1:SS}(h:FR S1 Z0 S Z L J) (s:Sx S0 S1) (z0:∀ a,Z0 a->S0 a≠none):FR S0 Z0 S Z L J:=#[h.er,h.len,s.trans h.sx,z0,h.zz,λ a z=>(h.zn a z).imp id s.none,λ i ts p e ed=>s.none (h.fr i ts p e ed),h.dj]
def FR.WH {S1:SS}{Z1:Addr->Prop}(h:FR S0 Z0 S Z L J) (b:Sx (zK S1 Z1) S0) (zz:∀ a,Z0 a->Z1 a):Sx (zK S1 Z1) (zK S Z):=λ a o q=>by
 have q0:=b _ _ q;let#[q1,q2]:=uA q;rw[vY]
 .show h.sx _ _ q0
 .intro z;rcases h.zn a z with w | w
  .show q1 (zz a w)
  .rw[w] at q0;cases q0
end
inductive Out where
 | nx (J:Ev) | rt (t:T) | bk (J:Ev) | ct (J:Ev)
abbrev Sm:=Ev->Option Out
def LC (R:Rk) (S0:SS) (Z0:Addr->Prop) (o:Out) (E:tK):Prop:=match o with
 | .nx J=>∀ S Z L,FR S0 Z0 S Z L J->E.nx L S
 | .bk J=>∀ S Z L,FR S0 Z0 S Z L J->E.bk L S
 | .ct J=>∀ S Z L,FR S0 Z0 S Z L J->E.ct L S
 | .rt y=>∀ d S,Sx S0 S->R S0 S Z0 y d->E.rt d S
def zW (R:Rk) (g:Sm) (t:z_):Prop:=∀ S0 Z0 S Z L J o E,FR S0 Z0 S Z L J->g J=↑o->LC R S0 Z0 o E->t E L S
class Lo (R:Rk):Prop extends Cl R where
 lo:∀ {S0 S S':SS}{Z0 Z:Addr->Prop}{y:T}{d:D},Sx S0 S->(∀ a,Z0 a->Z a)->R S S' Z y d->R S0 S' Z0 y d
instance:Lo xt:=#[λ _ z h=>Sn.sx (vZ z) _ h]
instance:Lo zE:=#[λ s z h=>#[Sn.sx (vZ z) _ h.1,λ ts e=>by
 let#[p,ds,h1,h2,h3,h4]:=h.2 ts e;show#[p,ds,h1,s.none h2,h3,zi.sx (vZ λ a q=>q.imp (z a) id) ts h4]]]
@[simp] def zo (g h:Sm):Sm:=fun J=>(g J).bind λ o=>match o with
 | .nx J'=>h J'
 | o=>↑o
@[simp] def yI:Sm:=fun J=>↑(.nx J)
@[simp] def zx (i:Nat) (f:Ag):Sm:=fun J=>(f J).map λ y=>.nx (J.set i ↑(.im y))
@[simp] def ui (i:Nat) (f:Ag):Sm:=fun J=>(f J).bind λ y=>match y with
 | .lst ts=>↑(.nx (J.set i ↑(.own (.lst ts))))
 | y=>↑(.nx (J.set i ↑(.im y)))
@[simp] def iI (f:Ag):Sm:=fun J=>(f J).map λ _=>.nx J
@[simp] def retS (f:Ag):Sm:=fun J=>(f J).map .rt
@[simp] def tR (i:Nat):Sm:=fun J=>match J[i]? with
 | some ↑(.own (.lst ts))=>↑(.rt (.lst ts))
 | _=>none
@[simp] def yK (c:Ev->Option Bool) (g h:Sm):Sm:=fun J=>(c J).bind λ b=>if b=true then g J else h J
@[simp] def i4 (i:Nat) (J:Ev):Ev:=match J[i]? with
 | some ↑(.own (.lst ts))=>J.set i ↑(.im (.lst ts))
 | _=>J
@[simp] def i3 (i:Nat) (g:Sm):Sm:=fun J=>g (i4 i J)
section
variable {R:Rk}{g h:Sm}{t u:z_}{f:Ag}{te:zp}
def R8 (hg:zW R g t) (hh:zW R h u):zW R (zo g h) (qf t u):=λ S0 Z0 S Z L J o E F e P=>by
 let#[o1,e1,e2]:=Al.mp e;exact hg S0 Z0 S Z L J o1 { E with nx:=u E } F e1 ?_;cases o1 with
 | nx J1=>show λ S1 Z1 L1 F1=>hh S0 Z0 S1 Z1 L1 J1 o E F1 e2 P
 | rt y=>cases e2;show P
 | bk y=>cases e2;show P
 | ct y=>cases e2;show P
def R7:zW R yI iQ:=λ S0 Z0 S Z L J o E F e P=>by cases e;show P S Z L F
def RP (i:Nat) (hf:wV f te):zW R (zx i f) (wO te (hName i)):=λ S0 Z0 S Z L J o E F e P=>by
 let#[y,e1,rfl]:=AM.mp e;show hf S Z L J y _ F.er e1 λ d S1 s1 r1=>P S1 Z _ ((F.grow s1).rR i r1)
def RO (i:Nat) (hf:yY f te):zW R (ui i f) (wO te (hName i)):=λ S0 Z0 S Z L J o E F e P=>by
 let#[y,e1,e2]:=Al.mp e;exact hf S Z L J y _ F.er e1 λ d S1 s1 r1=>?_;cases y with
 | lst ts=>
  cases e2;let#[p,ds,rfl,h1,h2,h3]:=r1.2 ts rfl;show P S1 _ _ (F.jr (ts:=.lst ts) (ds:=.lst ds) s1 i h1 h2 h3)
 | _=>cases e2;show P S1 Z _ ((F.grow s1).rR i r1.1)
def RK (hf:yi f te):zW R (iI f) (nF te):=λ S0 Z0 S Z L J o E F e P=>by
 let#[y,e1,rfl]:=AM.mp e;show hf S Z L J y _ F.er e1 λ d S1 s1 r1=>P S1 Z _ (F.grow s1)
def RD [Lo R] (hf:yT R f te):zW R (retS f) (iP te):=λ S0 Z0 S Z L J o E F e P=>by
 let#[y,e1,rfl]:=AM.mp e;show hf S Z L J y _ F.er e1 λ d S1 s1 r1=>P d S1 (F.sx.trans s1) (Lo.lo F.sx F.zz r1)
def jH (i:Nat):zW zE (tR i) (iP (yh i)):=λ S0 Z0 S Z L J o E F e P=>by
 unfold tR at e;split at e
 .rename_i ts h;cases e;let#[p,ob,h1,h2,h3,h4]:=F.er.ow i _ h;obtain⟨ds,rfl⟩:∃ ds,ob=.lst ds:=by
   cases ob with
   | lst ds=>show#[ds,rfl]
   | zB _=>show h3.elim
  replace h3:zi (zK S Z) ts ds:=h3;have hn:=F.fr i _ p h h1;have nz:¬ Z0 p:=λ z=>F.z0 p z hn;change yh i L S E.rt;unfold yh;rw[h1];exact P _ S F.sx #[?_,λ us e=>?_]
  .simp![Sn];show#[ds,.inr #[p,rfl,by rw[vY nz];show h2],zi.sx (vZ F.zz) ts h3]
  .cases e;show#[p,ds,rfl,hn,h2,zi.sx (vZ λ a q=>q.elim (F.zz a) λ q=>q▸h4) ts h3]
 .cases e
def zW.fv (h:zW zE g t):zW xt g t:=λ S0 Z0 S Z L J o E F e P=>by
 exact h S0 Z0 S Z L J o E F e ?_;cases o with
 | rt y=>show λ d S s r=>P d S s r.1
 | _=>show P
def RG {c:Ev->Option Bool}{tc:yt}(hc:wU c tc) (hg:zW R g t) (hh:zW R h u):zW R (yK c g h) (iR tc t u):=λ S0 Z0 S Z L J o E F e P=>by
 let#[b,e1,e2]:=Al.mp e;exact hc S Z L J b _ F.er e1 λ S1 s1=>?_;split at e2
 .rename_i hb;rw[if_pos hb];show hg S0 Z0 S1 Z L J o E (F.grow s1) e2 P
 .rename_i hb;rw[if_neg hb];show hh S0 Z0 S1 Z L J o E (F.grow s1) e2 P
def FR.fz {S0 S:SS}{Z0 Z:Addr->Prop}{L:zY}{J:Ev}(F:FR S0 Z0 S Z L J) (i:Nat):∃ Z',FR S0 Z0 S Z' L (i4 i J):=by
 unfold i4;split
 .rename_i ts h;let#[p,ds,h1,_]:=F.er.ow i _ h;show#[_,(F.freeze i h h1).1]
 .show#[Z,F]
def RH (i:Nat) (hg:zW R g t):zW R (i3 i g) t:=λ S0 Z0 S Z L J o E F e P=>by
 let#[Z',F']:=F.fz i;show hg S0 Z0 S Z' L _ o E F' e P
def nX (g:T->Ev->Option Ev) (t:yS):Prop:=∀ S0 Z0 S Z L J J' y d Q,FR S0 Z0 S Z L J->Sn (zK S Z) y d->g y J=↑J'->(∀ L',FR S0 Z0 S Z L' J'->Q L' S)->t d L S Q
def kB (g:List T->Ev->Option Ev) (t:x_):Prop:=∀ S0 Z0 S Z L J J' ys ds Q,FR S0 Z0 S Z L J->zi (zK S Z) ys ds->g ys J=↑J'->(∀ L',FR S0 Z0 S Z L' J'->Q L' S)->t ds L S Q
@[simp] def zv (i:Nat):T->Ev->Option Ev:=λ y J=>↑(J.set i ↑(.im y))
@[simp] def vV:List T->Ev->Option Ev
 | [],J=>↑J
 | _::_,_=>none
@[simp] def yR (g:T->Ev->Option Ev) (h:List T->Ev->Option Ev):List T->Ev->Option Ev
 | y::ys,J=>(g y J).bind fun J'=>h ys J'
 | [],_=>none
@[simp] def w_ (n:Nat) (g:List T->Ev->Option Ev):T->Ev->Option Ev
 | .tup ys,J=>if ys.length=n then g ys J else none
 | _,_=>none
def Qb (i:Nat):nX (zv i) (hName i):=λ S0 Z0 S Z L J J' y d Q F r e hq=>by cases e;show hq _ (F.rR i r)
def RZ:kB vV ij:=λ S0 Z0 S Z L J J' ys ds Q F r e hq=>by
 cases ys with
 | nil=>simp![zi] at r;subst r;cases e;show#[rfl,hq _ F]
 | cons _ _=>cases e
def R_ {g:T->Ev->Option Ev}{h:List T->Ev->Option Ev}{t:yS}{u:x_}(hg:nX g t) (hh:kB h u):kB (yR g h) (ik t u):=λ S0 Z0 S Z L J J' ys ds Q F r e hq=>by
 cases ys with
 | nil=>cases e
 | cons y ys=>
  simp![zi] at r;let#[c,cs,rfl,r1,r2]:=r;let#[J1,e1,e2]:=Al.mp e;show hg S0 Z0 S Z L J J1 y c _ F r1 e1 fun L1 F1=>hh S0 Z0 S Z L1 J1 J' ys cs Q F1 r2 e2 hq
def Qa {n:Nat}{g:List T->Ev->Option Ev}{t:x_}(hg:kB g t):nX (w_ n g) (qX n t):=λ S0 Z0 S Z L J J' y d Q F r e hq=>by
 cases y with
 | tup ys=>
  simp![Sn] at r;let#[ds,rfl,r]:=r;simp![w_] at e;split at e
  .rename_i hl;show#[by rw[r.len];show hl,hg S0 Z0 S Z L J J' ys ds Q F r e hq]
  .cases e
 | _=>cases e
@[simp] def fQ (f:Ag) (g:T->Ev->Option Ev):Sm:=fun J=>(f J).bind λ y=>(g y J).map .nx
def R6 {g:T->Ev->Option Ev}{tg:yS}(hf:wV f te) (hg:nX g tg):zW R (fQ f g) (wO te tg):=λ S0 Z0 S Z L J o E F e P=>by
 let#[y,e1,e2]:=Al.mp e;let#[J',e3,rfl]:=AM.mp e2;show hf S Z L J y _ F.er e1 λ d S1 s1 r1=>hg S0 Z0 S1 Z L J J' y d _ (F.grow s1) r1 e3 fun L' F'=>P S1 Z L' F'
def rC (free:Bool) (f:Ev->Option (List T)) (ti:xZ):Prop:=∀ S Z L J ts Q,ER S Z L J->f J=↑ts->(∀ I S',Sx S S'->zi (zK S' Z) ts I.items->(∀ IJ,Sx (if free=true then zK S' Z else S') IJ->I.keep IJ)->Q I S')->ti L S Q
@[simp] def yE (f:Ag):Ev->Option (List T):=fun J=>(f J).bind xm
def RT {f:Ag}{te:zp}(hf:yi f te):rC false (yE f) (jY te):=λ S Z L J ts Q hE e hq=>by
 let#[y,e1,e2]:=Al.mp e;exact hf S Z L J y _ hE e1 λ d S1 s1 r1=>?_;cases y with
 | tup us=>
  cases e2;let#[ds,rfl,h2]:=Vw.tup r1;show hq _ S1 s1 h2 λ _ _=>trivial
 | lst us=>
  cases e2;obtain⟨ds,rfl | ⟨a,rfl,h1⟩,h2⟩:=Vw.lst r1
  .show hq _ S1 s1 h2 λ _ _=>trivial
  .dsimp only;rw[h1];show hq #[ds,_] S1 s1 h2 λ IJ s=>s _ _ h1
 | _=>cases e2
def RU {f:Ag}{te:zp}(hf:wV f te):rC true (yE f) (jY te):=λ S Z L J ts Q hE e hq=>by
 let#[y,e1,e2]:=Al.mp e;exact hf S Z L J y _ hE e1 λ d S1 s1 r1=>?_;cases y with
 | tup us=>
  cases e2;let#[ds,rfl,h2]:=Vw.tup (.inl r1);show hq _ S1 s1 h2 λ _ _=>trivial
 | lst us=>
  cases e2;have r2:=r1;unfold xt at r2;simp![Sn] at r2;obtain⟨ds,⟨rfl,_⟩ | ⟨a,rfl,h1⟩,h2⟩:=r2
  .show hq _ S1 s1 h2 λ _ _=>trivial
  .dsimp only;rw[(uA h1).2];show hq #[ds,_] S1 s1 h2 λ IJ s=>s _ _ h1
 | _=>cases e2
def rangeT (lo:Int) (n:Nat):List T:=(List.range n).map λ(k:Nat)=>T.int (lo+(k:Int))
def ej {S:SS}(lo:Int) (n:Nat):zi S (rangeT lo n) (vo lo n):=by
 unfold rangeT vo
 induction List.range n with
 | nil=>show .nil
 | cons k l ih=>show .cons xw ih
def inR (j:Int):Bool:=decide (-100000000<=j)&&decide (j<=100000000)
def b8 {j:Int}:inR j=true↔-100000000<=j/\j<=100000000:=by simp[inR]
def Nh {j:Int}(h:inR j=true):-(2 ^ 62)<=j/\j<2 ^ 62:=by have:=b8.mp h;lia
def wJ:List T->Option (List T)
 | [.int j]=>if inR j=true then ↑(rangeT 0 j.toNat) else none
 | _=>none
@[simp] def xh (F:List T->Option (List T)) (g:Ev->Option (List T)):Ev->Option (List T):=fun J=>(g J).bind F
def RX {b:Bool}{g:Ev->Option (List T)}{tA:ya}(h:rD g tA):rC b (xh wJ g) (jZ tA):=λ S Z L J ts Q hE e hq=>by
 let#[ys,e1,e2]:=Al.mp e;exact h S Z L J ys _ hE e1 λ ds S1 s1 r1=>?_;unfold wJ at e2;split at e2
 .split at e2
  .rename_i hc;cases e2;let#[d,rfl,h1]:=wY r1;cases h1.int;show#[Nh hc,hq _ S1 s1 (ej _ _) λ _ _=>trivial]
  .cases e2
 .cases e2
def xy (is:List Nat) (g:T->Ev->Option Ev) (b:Sm):List T->Ev->Option Out
 | [],J=>↑(.nx (y9 is J))
 | y::ys,J=>(g y (y9 is J)).bind fun J1=>(b J1).bind λ o=>match o with
  | .nx J2=>xy is g b ys J2
  | .ct J2=>xy is g b ys J2
  | .bk J2=>↑(.nx (y9 is J2))
  | .rt t=>↑(.rt t)
@[simp] def wo (is:List Nat) (f:Ev->Option (List T)) (g:T->Ev->Option Ev) (b:Sm):Sm:=fun J=>(f J).bind λ ts=>xy is g b ts J
def RI {is:List Nat}{fi:Ev->Option (List T)}{ti:xZ}{g:T->Ev->Option Ev}{tg:yS}{b:Sm}{tb:z_} [Lo R] (hi:rC true fi ti) (hg:nX g tg) (hb:zW R b tb):zW R (wo is fi g b) (nE ti tg tb):=λ S0 Z0 S Z L J o E F e P=>by
 let#[ts,e1,e2]:=Al.mp e;exact hi S Z L J ts _ F.er e1 λ I S1 s1 r1 hk=>?_;rw[if_pos rfl] at hk;let#[SB,b1,FB,b2]:=(F.grow s1).rebase;have lo:∀ S' d y,R SB S' Z0 y d->R S0 S' Z0 y d:=λ S' d y r=>Lo.lo b1 (λ _ z=>z) r;have zz:=F.zz;exact#[λ i L' S'=>∃ Z' J',FR SB Z0 S' Z' L' J'/\xy is g b (ts.drop i) J'=↑o,#[Z,J,FB,e2],λ i L' S' #[Z',J',F',_]=>hk S' (b2.trans F'.sx),λ i d L' S' hd #[Z',J',F',e']=>?_,fun L' S' #[Z',J',F',e']=>?_]
 .let#[y,hy,r2]:=r1.iz hd;have AB:=(AU.mp hy).1;have D9:ts.drop i=y::ts.drop (i+1):=by
   rw[List.drop_eq_getElem_cons AB,(AU.mp hy).2]
  rw[D9] at e';unfold xy at e';let#[J1,g1,e']:=Al.mp e';let#[o1,g2,e']:=Al.mp e';exact hg SB Z0 S' Z' L' _ J1 y d _ (F'.y9 is) (Sn.sx (F'.WH b2 zz) y r2) g1 fun L2 F2=>?_
  exact hb SB Z0 S' Z' L2 J1 o1 _ F2 g2 ?_;cases o1 with
  | nx J2=>show λ S3 Z3 L3 F3=>#[Z3,J2,F3,e']
  | ct J2=>show λ S3 Z3 L3 F3=>#[Z3,J2,F3,e']
  | bk J2=>cases e';show λ S3 Z3 L3 F3=>P S3 Z3 L3 ((F3.y9 is).back b1 F.z0)
  | rt y=>cases e';show λ d S3 s3 r3=>P d S3 (b1.trans s3) (lo _ _ _ r3)
 .rw[show I.items.length=ts.length from r1.len,List.drop_length] at e';unfold xy at e';cases e';show P S' Z' L' ((F'.y9 is).back b1 F.z0)
end
@[simp] def xB (i:Nat) (f:Ag):Sm:=fun J=>match J[i]? with
 | some ↑(.own (.lst ts))=>(f J).bind λ y=>if ts.length<sizeLine then ↑(.nx (J.set i ↑(.own (.lst (ts++[y]))))) else none
 | _=>none
section
variable {R:Rk}{f:Ag}{te:zp}
def RQ (i:Nat) (hf:wV f te):zW R (xB i f) (nF (rm (yh i) te)):=λ S0 Z0 S Z L J o E F e P=>by
 unfold xB at e;split at e
 .rename_i ts h;let#[y,e1,e2]:=Al.mp e;split at e2
  .rename_i hl;cases e2;let#[p,ob,h1,h2,h3,h4]:=F.er.ow i _ h;obtain⟨ds,rfl⟩:∃ ds,ob=.lst ds:=by
    cases ob with
    | lst ds=>show#[ds,rfl]
    | zB _=>show h3.elim
   replace h3:zi (zK S Z) ts ds:=h3;change rm (yh i) te L S _;unfold rm yh;rw[h1];exact#[#[ds,h2],hf S Z L J y _ F.er e1 λ d S1 s1 r1=>?_];dsimp only;rw[s1 _ _ h2];have F1:=F.grow s1;exact#[by rw[h3.len];show hl,P _ Z L (F1.mut (us:=.lst (ts++[y])) (es:=.lst (ds++[d])) i h h1 ((zi.sx (wC s1) ts h3).append (.cons r1 .nil)))]
  .cases e2
 .cases e
end
def uE (pick:List (Option Nat)) (ti:xZ) (g:yS) (tc:yt) (te:zp):zp:=fun L S Q=>ti L S λ I S1=>I.items.length<=sizeLine/\(∀ S,Sx S1 S->I.keep S)/\∀ p,S1 p=none->∃ W:Nat->SS->List D->Prop,W 0 S1 []/\
 (∀ i S S' acc,(∀ b o,b≠p->S b=↑o->S' b=↑o)->W i S acc->W i S' acc)/\
 (∀ i d S acc,I.items[i]?=↑d->Sx S1 S->S p=↑(.lst acc)->W i S acc->g d (vU pick L) S fun L2 S2=>qo (vU pick L) L2/\tc L2 S2 λ b S3=>if b=true then te L2 S3 λ y S4=>Sx S S4/\W (i+1) S4 (acc++[y]) else Sx S S3/\W (i+1) S3 acc)/\
 ∀ S2 acc,Sx S1 S2->S2 p=↑(.lst acc)->W I.items.length S2 acc->Q (.ref p) S2
@[simp] def ox (pick:List (Option Nat)) (J:Ev):Ev:=pick.map λ o=>o.bind λ i=>(J[i]?).join
def qh (h:T->Option (Option T)):List T->Option (List T)
 | []=>↑[]
 | y::ys=>(h y).bind λ o=>(qh h ys).map λ zs=>match o with
  | some z=>z::zs
  | none=>zs
@[simp] def vy (pick:List (Option Nat)) (g:T->Ev->Option Ev) (c:Ev->Option Bool) (f:Ag) (J:Ev) (y:T):Option (Option T):=
 (g y (ox pick J)).bind fun J2=>(c J2).bind λ b=>if b=true then (f J2).map some else ↑none
def yJ (pick:List (Option Nat)) (it:Ev->Option (List T)) (g:T->Ev->Option Ev) (c:Ev->Option Bool) (f:Ag):Ag:=fun J=>(it J).bind λ ts=>if ts.length<=sizeLine then (qh (vy pick g c f J) ts).map .lst else none
@[simp] def ve:Ev->Option Bool:=λ _=>↑true
def Qr:wU ve ar:=λ S Z L J y Q hE e hq=>by cases e;show hq S (.refl S)
def kD (pick:List (Option Nat)) (g:T->Ev->Option Ev) (t:yS):Prop:=∀ B S Z L J J' y d Q,(∀ i:Nat,pick[i]?=↑none->B[i]?=↑none)->qo B L->L.length=J.length->ER S Z L J->Sn (zK S Z) y d->g y J=↑J'->
 (∀ L',ER S Z L' J'->qo B L'->L'.length=J'.length->Q L' S)->t d L S Q
def kC (pick:List (Option Nat)) (g:List T->Ev->Option Ev) (t:x_):Prop:=∀ B S Z L J J' y d Q,(∀ i:Nat,pick[i]?=↑none->B[i]?=↑none)->qo B L->L.length=J.length->ER S Z L J->zi (zK S Z) y d->g y J=↑J'->
 (∀ L',ER S Z L' J'->qo B L'->L'.length=J'.length->Q L' S)->t d L S Q
theorem ER.rR {S:SS}{Z:Addr->Prop}{L:zY}{J:Ev}{y:T}{d:D}(h:ER S Z L J) (hl:L.length=J.length) (i:Nat) (r:Sn (zK S Z) y d):ER S Z (L.set i ↑d) (J.set i ↑(.im y)):=by
 exact#[h.zd,λ j t e=>?_,λ j ts e=>?_]
 .rcases yq e with ⟨rfl,G1,e⟩ | ⟨n,e⟩
  .cases e;show#[d,qY (by rw[hl];show G1),r]
  .rw[xA n];show h.im j t e
 .rcases yq e with ⟨rfl,G1,e⟩ | ⟨n,e⟩
  .cases e
  .rw[xA n];show h.ow j ts e
variable {pick:List (Option Nat)}
theorem Qf (i:Nat) (hi:pick[i]?=↑none:=by rfl):kD pick (zv i) (hName i):=λ B S Z L J J' y d Q hB hs hl hE r e hq=>by
 cases e;exact hq _ (hE.rR hl i r) #[by rw[C2];show hs.1,λ j c q=>?_] (by simp[hl]);by_cases hj:i=j
 .subst hj;rw[hB i hi] at q;cases q
 .rw[xA hj];show hs.2 j c q
def Qc:kC pick vV ij:=λ B S Z L J J' y d Q hB hs hl hE r e hq=>by
 cases y with
 | nil=>simp![zi] at r;subst r;cases e;show#[rfl,hq _ hE hs hl]
 | cons _ _=>cases e
def Qd {g:T->Ev->Option Ev}{h:List T->Ev->Option Ev}{t:yS}{u:x_}(hg:kD pick g t) (hh:kC pick h u):kC pick (yR g h) (ik t u):=λ B S Z L J J' y d Q hB hs hl hE r e hq=>by
 cases y with
 | nil=>cases e
 | cons y ys=>
  simp![zi] at r;let#[c,cs,rfl,r1,r2]:=r;let#[J1,e1,e2]:=Al.mp e;show hg B S Z L J J1 y c _ hB hs hl hE r1 e1 fun L1 E1 s1 l1=>hh B S Z L1 J1 J' ys cs Q hB s1 l1 E1 r2 e2 hq
def Qe {n:Nat}{g:List T->Ev->Option Ev}{t:x_}(hg:kC pick g t):kD pick (w_ n g) (qX n t):=λ B S Z L J J' y d Q hB hs hl hE r e hq=>by
 cases y with
 | tup ys=>
  simp![Sn] at r;let#[ds,rfl,r]:=r;simp![w_] at e;split at e
  .rename_i hn;show#[by rw[r.len];show hn,hg B S Z L J J' ys ds Q hB hs hl hE r e hq]
  .cases e
 | _=>cases e
def dw {J:Ev}{i:Nat}{w:W}(h:(ox pick J)[i]?=↑↑w):∃ j:Nat,pick[i]?=↑↑j/\J[j]?=↑↑w:=by
 unfold ox at h;rw[AR] at h;cases q:pick[i]? with
 | none=>rw[q] at h;cases h
 | some o=>
  rw[q] at h;cases o with
  | none=>simp at h
  | some j=>
   simp![Option.map_some,BS,Option.some.injEq] at h;exact#[j,rfl,?_];cases q2:J[j]? with
   | none=>rw[q2] at h;cases h
   | some o2=>rw[q2] at h;simp![Option.join_some] at h;rw[h]
def d7 {L:zY}{i j:Nat}{d:D}(h:pick[i]?=↑↑j) (h':L[j]?=↑↑d):(vU pick L)[i]?=↑↑d:=by
 unfold vU;rw[AR,h];simp[h']
def ER.VC {S:SS}{Z:Addr->Prop}{L:zY}{J:Ev}(h:ER S Z L J):ER S Z (vU pick L) (ox pick J):=by
 exact#[h.zd,λ i t e=>?_,λ i ts e=>?_]
 .let#[j,h1,h2]:=dw e;let#[d,h3,h4]:=h.im j t h2;show#[d,d7 h1 h3,h4]
 .let#[j,h1,h2]:=dw e;let#[p,ds,h3,h4]:=h.ow j ts h2;show#[p,ds,d7 h1 h3,h4]
def ER.hide {S S':SS}{Z:Addr->Prop}{L:zY}{J:Ev}{p:Addr}(h:ER S Z L J) (s:Sx S S') (hp:S p=none) (Ia:S' p≠none):ER S' (λ a=>Z a\/a=p) L J:=by
 exact#[λ a z q=>?_,λ i t e=>?_,λ i ts e=>?_]
 .rcases z with z | rfl
  .show h.zd a z (s.none q)
  .show Ia q
 .let#[d,h1,h2]:=h.im i t e;show#[d,h1,Sn.sx (qW s hp) t h2]
 .let#[q,ds,h1,h2,h3,h4]:=h.ow i ts e;show#[q,ds,h1,s _ _ h2,tE.sx (qW s hp) h3,.inl h4]
def QD {it:Ev->Option (List T)}{ti:xZ}{g:T->Ev->Option Ev}{tg:yS}{c:Ev->Option Bool}{tc:yt}{f:Ag}{te:zp}{b:Bool}(hi:rC b it ti) (hg:kD pick g tg) (hc:wU c tc) (hf:wV f te):
  yY (yJ pick it g c f) (uE pick ti tg tc te):=λ S Z L J y Q hE e hq=>by
 let#[ts,e1,e2]:=Al.mp e;split at e2
 case isFalse=>cases e2
 rename_i hlen;let#[zs,e3,rfl]:=AM.mp e2;exact hi S Z L J ts _ hE e1 λ I S1 s1 r1 hk=>#[by rw[r1.len];show hlen,λ S' s'=>hk S' ?_,λ p hp=>?_]
 .cases b
  .show s'
  .show (lH _ _).trans s'
 have E1:=hE.grow s1;have nz:¬ Z p:=λ z=>E1.zd p z hp;exact#[λ i S' acc=>∃ us ws,zi (zK S' λ a=>Z a\/a=p) us acc/\qh (vy pick g c f J) (ts.drop i)=↑ws/\zs=us++ws,#[[],zs,.nil,e3,rfl],λ i S' IJ acc hh #[us,ws,h1,h2]=>#[us,ws,zi.sx (λ a o q=>?_) us h1,h2],λ i d S2 acc hd s2 A3 #[us,ws,h1,h2,h3]=>?_,λ S2 acc s2 A3 #[us,ws,h1,h2,h3]=>?_]
 .let#[q1,q2]:=uA q;rw[vY q1];show hh a o (λ z=>q1 (.inr z)) q2
 .let#[x,hx,rx]:=r1.iz hd;have AB:=(AU.mp hx).1;have D9:ts.drop i=x::ts.drop (i+1):=by rw[List.drop_eq_getElem_cons AB,(AU.mp hx).2]
  rw[D9] at h2;unfold qh at h2;let#[o,o1,h2]:=Al.mp h2;let#[ws',o2,rfl]:=AM.mp h2;have E2:=(E1.hide s2 hp (by rw[A3];nofun)).VC (pick:=pick);unfold vy at o1;let#[J2,g1,o1]:=Al.mp o1;let#[bb,g2,o1]:=Al.mp o1;exact hg (vU pick L) S2 _ _ _ J2 x d _ (λ j hj=>?_) #[rfl,λ _ _ q=>q] (by unfold vU ox;simp) E2 (Sn.sx (qW s2 hp) x rx) g1 fun L2 E3 l3 _=>#[l3,?_]
  .unfold vU;rw[AR,hj];rfl
  exact hc S2 _ L2 J2 bb _ E3 g2 λ S3 s3=>?_;split at o1
  .rename_i hb;rw[if_pos hb];let#[z,g3,rfl]:=AM.mp o1;exact hf S3 _ L2 J2 z _ (E3.grow s3) g3 λ dz S4 s4 r4=>#[s3.trans s4,us++[z],ws',?_,o2,by rw[h3];simp];show (zi.sx (wC (s3.trans s4)) us h1).append (.cons r4 .nil)
  .rename_i hb;rw[if_neg hb];cases o1;show#[s3,us,ws',zi.sx (wC s3) us h1,o2,h3]
 .rw[show I.items.length=ts.length from r1.len,List.drop_length] at h2;cases h2;rw[CC] at h3;subst h3;exact hq _ S2 (s1.trans s2) #[?_,λ vs e=>?_]
  .simp![Sn];show#[acc,.inr #[p,rfl,by rw[vY nz];show A3],zi.sx (vZ λ a z=>.inl z) zs h1]
  .cases e;show#[p,acc,rfl,s1.none hp,A3,h1]
class Sr (R:Rk):Prop extends Lo R where
 sn:∀ {S S':SS}{Z:Addr->Prop}{y:T}{d:D},R S S' Z y d->Sn (zK S' Z) y d
instance:Sr xt:=#[λ h=>h]
instance:Sr zE:=#[λ h=>h.1]
def zJ (R:Rk) (F:Ap):wb:=λ ds S Q=>∃ Z ys y,(∀ a,Z a->S a≠none)/\zi (zK S Z) ys ds/\F ys=↑y/\∀ d S',Sx S S'->R S S' Z y d->Q d S'
def zJ.mo {R:Rk}{F:Ap}:pK (zJ R F):=λ _ _ _ _ hq #[Z,ys,y,h1,h2,h3,h4]=>#[Z,ys,y,h1,h2,h3,λ d S' s r=>hq _ _ (h4 d S' s r)]
def jI {R:Rk} [Lo R] {F:Ap}{g:Ev->Option (List T)}{u:ya}(h:qv g u):yT R (zk F g) (lY (zJ R F) u):=λ S Z L J y Q hE e hq=>by
 let#[xs,e1,e2]:=Al.mp e;exact h S Z L J xs _ hE e1 λ ds S1 s1 r1=>?_;show#[Z,xs,y,(hE.grow s1).zd,r1,e2,λ d S' s r=>hq d S' (s1.trans s) (Cl.cl s1 r)]
@[simp] def qE (N:List Str) (ys:List T):Ev:=ys.map (λ y=>↑(.im y))++List.replicate (N.length-ys.length) none
@[simp] def lb:Option Out->Option T
 | some (.rt y)=>↑y
 | some (.nx _)=>↑.zr
 | _=>none
@[simp] def zV (N:List Str) (n:Nat) (g:Sm):Ap:=λ ys=>if ys.length=n then lb (g (qE N ys)) else none
theorem zJ.len {R:Rk}{N:List Str}{n:Nat}{g:Sm}{ds:List D}{S:SS}{Q:DK}(hs:zJ R (zV N n g) ds S Q):ds.length=n:=by
 let#[Z,ys,y,hz,r,e,hq]:=hs;unfold zV at e;split at e
 .rename_i h;rw[r.len];show h
 .cases e
theorem Wt {N:List Str}{ds:List D}{i:Nat}{d:D}(h:ds[i]?=↑d):(uz N ds)[i]?=↑↑d:=by
 have hi:=(AU.mp h).1;unfold uz;rw[Cs (by exists hi),AR,h];rfl
theorem mK {N:List Str}{ys:List T}{i:Nat}{w:W}(h:(qE N ys)[i]?=↑↑w):∃ y,ys[i]?=↑y/\w=.im y:=by
 unfold qE at h;have hi:i<ys.length:=by
  rcases BN i ys.length with q | q
  .show q
  .rw[Ct (by exists q),DY] at h;split at h <;> cases h
 rw[Cs (by exists hi),AR] at h;cases q:ys[i]? with
 | none=>rw[q] at h;cases h
 | some y=>rw[q] at h;cases h;show#[y,rfl,rfl]
def Zn {R:Rk} [Lo R] {N:List Str}{n:Nat}{g:Sm}{t:z_}(h:zW R g t) {ds:List D}{S:SS}{Q:DK}(hs:zJ R (zV N n g) ds S Q):t { nx:=λ _ S'=>Q .zr S',rt:=Q } (uz N ds) S:=by
 let#[Z,ys,y,hz,r,e,hq]:=hs;unfold zV at e;split at e
 case isFalse=>cases e
 obtain⟨o,e1,e2⟩:∃ o,g (qE N ys)=↑o/\lb ↑o=↑y:=by
  cases q:g (qE N ys) with
  | none=>rw[q] at e;cases e
  | some o=>show#[o,rfl,by rw[<- q];show e]
 exact h S Z S Z _ _ o _ #[#[hz,λ i t e=>?_,λ i ts e=>?_],?_,.refl S,hz,λ _ z=>z,λ _ z=>.inl z,λ i ts p e _=>?_,λ i j ts us p _ e _ _ _=>?_] e1 ?_
 .let#[y',h1,h2]:=mK e;cases h2;let#[d,h3,h4]:=r.ix h1;show#[d,Wt h3,h4]
 .let#[y',h1,h2]:=mK e;cases h2
 .unfold uz qE;have:=r.len;simp[this]
 .let#[y',h1,h2]:=mK e;cases h2
 .let#[y',h1,h2]:=mK e;cases h2
 .cases o with
  | rt y'=>cases e2;show λ d S' s r=>hq d S' s r
  | nx J'=>
   cases e2;show λ S' Z' L' F=>hq .zr S' F.sx (Cl.of (λ _=>nofun) eA)
  | _=>cases e2
def yC (Ab:List (Key×T)) (k:Key):Option T:=(Ab.find? λ kv=>decide (kv.1=k)).map (·.2)
def wK (Ab:List (Key×T)) (k:Key) (v:T):List (Key×T):=
 if (Ab.any λ kv=>decide (kv.1=k))=true then Ab.map (λ kv=>if kv.1=k then (kv.1,v) else kv) else Ab++[(k,v)]
section
variable {S:SS}
theorem yu.len:∀ {a:List (Key×T)}{b:List (Key×D)},yu S a b->b.length=a.length
 | [],_,h=>by cases h;rfl
 | (k,t)::r,_,h=>by
  let#[d,m,rfl,_,h2]:=h;simp[yu.len h2]
theorem yu.val:∀ {a:List (Key×T)}{b:List (Key×D)}(k:Key),yu S a b->(yC a k=none/\vN b k=none)\/∃ t d,yC a k=↑t/\vN b k=↑d/\Sn S t d
 | [],_,k,h=>by cases h;show .inl #[rfl,rfl]
 | (j,t)::r,_,k,h=>by
  let#[d,m,rfl,h1,h2]:=h;by_cases e:j=k
  .subst e;show .inr #[t,d,by simp[yC],by simp[vN],h1]
  .rcases yu.val k h2 with ⟨g1,g2⟩ | ⟨t',d',g1,g2,g3⟩
   .show .inl #[by simpa [yC,e] using g1,by simpa [vN,e] using g2]
   .show .inr #[t',d',by simpa [yC,e] using g1,by simpa [vN,e] using g2,g3]
theorem yu.any:∀ {a:List (Key×T)}{b:List (Key×D)}(k:Key),yu S a b->(b.any λ kv=>decide (kv.1=k))=a.any λ kv=>decide (kv.1=k)
 | [],_,k,h=>by cases h;rfl
 | (j,t)::r,_,k,h=>by
  let#[d,m,rfl,h1,h2]:=h;rw[BH,BH,yu.any k h2]
theorem yu.uN {k:Key}{t:T}{d:D}(r:Sn S t d):∀ {a:List (Key×T)}{b:List (Key×D)},yu S a b->yu S (a.map λ kv=>if kv.1=k then (kv.1,t) else kv) (b.map λ kv=>if kv.1=k then (kv.1,d) else kv)
 | [],_,h=>by cases h;rfl
 | (j,u)::a,_,h=>by
  let#[e,m,rfl,h1,h2]:=h;rw[Ar,Ar];by_cases q:j=k
  .rw[if_pos q,if_pos q];show#[d,_,rfl,r,yu.uN r h2]
  .rw[if_neg q,if_neg q];show#[e,_,rfl,h1,yu.uN r h2]
theorem yu.snoc {k:Key}{t:T}{d:D}(r:Sn S t d):∀ {a:List (Key×T)}{b:List (Key×D)},yu S a b->yu S (a++[(k,t)]) (b++[(k,d)])
 | [],_,h=>by cases h;show#[d,[],rfl,r,rfl]
 | (j,u)::a,_,h=>by
  let#[e,m,rfl,h1,h2]:=h;show#[e,_,rfl,h1,yu.snoc r h2]
def yu.put {a:List (Key×T)}{b:List (Key×D)}(h:yu S a b) (k:Key) {t:T}{d:D}(r:Sn S t d):yu S (wK a k t) (putD b k d):=by
 unfold wK putD;rw[h.any k];split
 .show yu.uN r h
 .show yu.snoc r h
end
@[simp] def av (i:Nat):Sm:=fun J=>↑(.nx (J.set i ↑(.own (.zB []))))
@[simp] def qe (i:Nat) (f:Ag):Ag:=fun J=>(f J).bind λ y=>match J[i]?,y with
 | some ↑(.own (.zB Ab)),.int k=>yC Ab (.inl k)
 | _,_=>none
@[simp] def iK (i:Nat) (f g:Ag):Ag:=fun J=>(f J).bind λ y=>(g J).bind λ z=>match J[i]?,y with
 | some ↑(.own (.zB Ab)),.int k=>↑((yC Ab (.inl k)).getD z)
 | _,_=>none
@[simp] def iJ (i:Nat) (f v:Ag):Sm:=fun J=>(v J).bind λ z=>(f J).bind λ y=>match J[i]?,y with
 | some ↑(.own (.zB Ab)),.int k=>if Ab.length<sizeLine then ↑(.nx (J.set i ↑(.own (.zB (wK Ab (.inl k) z))))) else none
 | _,_=>none
@[simp] def nr (i:Nat):Ag:=fun J=>match J[i]? with
 | some ↑(.own (.zB Ab))=>↑(.int Ab.length)
 | _=>none
def m_ {S:SS}{Z:Addr->Prop}{L:zY}{J:Ev}(hE:ER S Z L J) {i:Nat}{Ab:List (Key×T)}(h:J[i]?=↑↑(.own (.zB Ab))):∃ p b,L[i]?=↑↑(.ref p)/\S p=↑(.zB b)/\yu (zK S Z) Ab b:=by
 let#[p,o,h1,h2,h3,_]:=hE.ow i _ h;cases o with
 | zB b=>show#[p,b,h1,h2,h3]
 | lst _=>show h3.elim
section
variable {R:Rk}{f g v:Ag}{ty tx tv:zp}
def RM (i:Nat):zW R (av i) (wO aM (hName i)):=λ S0 Z0 S Z L J o E F e P=>by
 cases e;intro p hp;show P _ _ _ (F.jr (ts:=.zB []) (ds:=.zB []) (.new hp _) i hp sD rfl)
def dZ (i:Nat) (hf:yi f ty):wV (qe i f) (aP (yh i) ty):=λ S Z L J y Q hE e hq=>by
 let#[x,e1,e2]:=Al.mp e;split at e2
 .rename_i Ab k h;let#[p,b,h1,h2,h3]:=m_ hE h;change yh i L S _;unfold yh;rw[h1];exact hf S Z L J _ _ hE e1 λ d S1 s1 r1=>?_;cases Vw.int r1;rcases (yu.sx (wC s1) h3).val (.inl k) with ⟨g1,_⟩ | ⟨t,d,g1,g2,g3⟩
  .rw[g1] at e2;cases e2
  .rw[g1] at e2;cases e2;show#[p,b,k,d,rfl,rfl,s1 _ _ h2,g2,hq d S1 s1 g3]
 .cases e2
def d_ (i:Nat) (hf:yi f ty) (hg:wV g tx):wV (iK i f g) (aO (yh i) ty tx):=λ S Z L J y Q hE e hq=>by
 let#[x,e1,e]:=Al.mp e;let#[z,e2,e3]:=Al.mp e;split at e3
 .rename_i Ab k h;cases e3;let#[p,b,h1,h2,h3]:=m_ hE h;change yh i L S _;unfold yh;rw[h1];exact#[p,rfl,#[b,h2],hf S Z L J _ _ hE e1 λ d S1 s1 r1=>?_];cases Vw.int r1;exact hg S1 Z L J z _ (hE.grow s1) e2 λ dz S2 s2 r2=>#[k,b,rfl,(s1.trans s2) _ _ h2,?_];rcases (yu.sx (wC (s1.trans s2)) h3).val (.inl k) with ⟨g1,g2⟩ | ⟨t,d,g1,g2,g3⟩
  .rw[g2];rw[g1] at hq;show hq _ S2 (s1.trans s2) r2
  .rw[g2];rw[g1] at hq;show hq _ S2 (s1.trans s2) g3
 .cases e3
def RL (i:Nat) (hf:yi f ty) (hv:wV v tv):zW R (iJ i f v) (aN (yh i) ty tv):=λ S0 Z0 S Z L J o E F e P=>by
 let#[z,e1,e]:=Al.mp e;let#[x,e2,e3]:=Al.mp e;split at e3
 .rename_i Ab k h;split at e3
  .rename_i hl;cases e3;exact hv S Z L J z _ F.er e1 λ dz S1 s1 r1=>?_;have F1:=F.grow s1;let#[p,b,h1,h2,h3]:=m_ F1.er h;change yh i L S1 _;unfold yh;rw[h1];exact hf S1 Z L J _ _ F1.er e2 λ d S2 s2 r2=>?_;cases Vw.int r2;have h4:=yu.sx (wC s2) h3;show#[p,b,k,rfl,rfl,s2 _ _ h2,by rw[h4.len];show hl,P _ Z L ((F1.grow s2).mut (us:=.zB (wK Ab (.inl k) z)) (es:=.zB (putD b (.inl k) dz)) i h h1 (h4.put _ (Sn.sx (wC s2) z r1)))]
  .cases e3
 .cases e3
def Pc (i:Nat):yY (nr i) (xr bZ (qg (yh i) lW)):=λ S Z L J y Q hE e hq=>by
 unfold nr at e;split at e
 .rename_i Ab h;cases e;let#[p,b,h1,h2,h3]:=m_ hE h;change yh i L S _;unfold yh;rw[h1];exact#[p,b,rfl,h2,?_];rw[h3.len];show hq _ S (.refl S) (Cl.of (λ _=>nofun) xw)
 .cases e
end
@[simp] def lx (f:Ag):Ag:=fun J=>(f J).bind λ x=>match x with
 | .int i=>↑(.int (-i))
 | _=>none
def aI (ta:zp):zp:=fun L S Q=>ta L S λ x S1=>match x with
 | .int i=>Q (.int (-i)) S1
 | _=>False
def Q8 {f:Ag}{te:zp}(h:yi f te):yY (lx f) (aI te):=λ S Z L J y Q hE e hq=>by
 let#[x,e1,e2]:=Al.mp e;exact h S Z L J x _ hE e1 λ d S1 s1 r1=>?_;split at e2
 .cases Vw.int r1;cases e2;show hq _ S1 s1 (Cl.of (λ _=>nofun) xw)
 .cases e2
def N0:vi zE sN bX:=bF
def Nz:vi zE xU bW:=bF
def vX:List T->Option (List Int)
 | []=>↑[]
 | .int i::ts=>(vX ts).map (i::·)
 | _::_=>none
def wI:List T->Option (List (List Int))
 | []=>↑[]
 | .tup r::ts=>(vX r).bind λ x=>(wI ts).map (x::·)
 | _::_=>none
def zS (r:List Int):T:=.tup (r.map T.int)
theorem oQ:∀ {ts:List T}{is:List Int},vX ts=↑is->ts=is.map T.int
 | [],is,h=>by cases h;rfl
 | .int b::ts,is,h=>by
  unfold vX at h;let#[cs,h1,rfl]:=AM.mp h;rw[Ar,<- oQ h1]
 | .zr::ts,bs,h=>by cases h
 | .bl _::ts,bs,h=>by cases h
 | .str _::ts,bs,h=>by cases h
 | .tup _::ts,bs,h=>by cases h
 | .lst _::ts,bs,h=>by cases h
theorem jv:∀ {ts:List T}{rs:List (List Int)},wI ts=↑rs->ts=rs.map zS
 | [],is,h=>by cases h;rfl
 | .tup r::ts,is,h=>by
  unfold wI at h;let#[x,h1,h]:=Al.mp h;let#[cs,h2,rfl]:=AM.mp h;rw[Ar,<- jv h2,oQ h1];rfl
 | .zr::ts,bs,h=>by cases h
 | .bl _::ts,bs,h=>by cases h
 | .str _::ts,bs,h=>by cases h
 | .int _::ts,bs,h=>by cases h
 | .lst _::ts,bs,h=>by cases h
def bx (is:List Int):vX (is.map T.int)=↑is:=by
 induction is with
 | nil=>rfl
 | cons b bs ih=>rw[Ar];unfold vX;rw[ih];rfl
def mS (rs:List (List Int)):wI (rs.map zS)=↑rs:=by
 induction rs with
 | nil=>rfl
 | cons b bs ih=>
  change wI (.tup (b.map T.int)::bs.map zS)=_;unfold wI;rw[bx,ih];rfl
theorem tP {S:SS}:∀ {is:List Int}{ds:List D},zi S (is.map T.int) ds↔ds=is.map D.int
 | [],ds=>by simp![Bh,zi]
 | i::is,ds=>by
  rw[Ar];simp![zi,Sn];constructor
  .rintro⟨c,cs,rfl,rfl,h⟩;rw[tP.mp h];rfl
  .rintro rfl;show#[.int i,_,rfl,rfl,tP.mpr rfl]
theorem qG {S:SS}:∀ {rs:List (List Int)}{ds:List D},zi S (rs.map zS) ds↔ds=rs.map vc
 | [],ds=>by simp![Bh,zi]
 | r::rs,ds=>by
  rw[Ar];simp![zi,zS,Sn];constructor
  .rintro⟨c,cs,rfl,⟨es,rfl,h1⟩,h⟩;rw[qG.mp h,tP.mp h1];rfl
  .rintro rfl;show#[vc r,_,rfl,#[_,rfl,tP.mpr rfl],qG.mpr rfl]
@[simp] def fM:T->Option String
 | .zr=>↑"NoneType"
 | .bl _=>↑"bool"
 | .int _=>↑"int"
 | .str _=>↑"str"
 | .tup _=>↑"tuple"
 | .lst _=>↑"list"
 | .yL=>↑"dict"
 | .err _ _ _=>none
@[simp] def He (ty:String) (f:Ag):Ag:=fun J=>(f J).bind λ x=>(fM x).map λ t=>.bl (uW t ty)
theorem Vw.err {S:SS}{Z:Addr->Prop}{c f:Str}{t:T}{d:D}(h:Vw S Z (.err c f t) d):∃ x,d=.err c f x/\Sn (zK S Z) t x:=by
 rcases h with h | ⟨_,_,_,h,_⟩
 .simpa only [Sn] using h
 .cases h
def QU {ty:String}{f:Ag}{te:zp}(hf:yi f te):yY (He ty f) (nC ty te):=λ S Z L J y Q hE e hq=>by
 let#[x,e1,e2]:=Al.mp e;let#[n,e3,rfl]:=AM.mp e2;exact hf S Z L J x _ hE e1 λ d S1 s1 r1=>?_;have key:sE d S1=↑n:=by
  rw[<- e3];cases x with
  | zr=>cases Vw.zr r1;rfl
  | bl _=>cases Vw.bl r1;rfl
  | int _=>cases Vw.int r1;rfl
  | str _=>cases Vw.str r1;rfl
  | tup _=>let#[ds,rfl,_]:=Vw.tup r1;rfl
  | lst _=>
   obtain⟨ds,rfl | ⟨a,rfl,h1⟩,h2⟩:=Vw.lst r1
   .rfl
   .unfold sE;dsimp only;rw[h1];rfl
  | yL=>
   let#[a,Ab,#[rfl,_],h1]:=Vw.yL r1;unfold sE;dsimp only;rw[h1];rfl
  | err _ _ _=>cases e3
 rw[key];show hq _ S1 s1 (Cl.of (λ _=>nofun) wz)
@[simp] def isNone:T->Bool
 | .zr=>true
 | _=>false
def qS:D->Bool
 | .zr=>true
 | _=>false
def zq (p:Int×Int):T:=.tup [.int p.1,.int p.2]
def vm (ns:List Int):T:=.lst (ns.map .int)
@[simp] theorem zaa:sizeLine=16777216:=rfl
def Oq {n:Nat}(h:n<=10000):n<=sizeLine:=A9 h ()
theorem vG {α:Type}{xs:List α}{k:Nat}{x:α}(h:xs[k]?=↑x):L2.zM xs (k:Int)=↑x:=by
 unfold L2.zM L2.wM;have hk:=(AU.mp h).1;rw[if_pos ⋯,if_pos ⋯];exists h
@[simp] theorem hX {α:Type}{xs:List α}{x:α}:L2.zM (xs++[x]) (-1)=↑x:=by
 unfold L2.zM L2.wM;rw[if_neg ⋯,if_pos (by simp;lia)];have:(-1+((xs++[x]).length:Int)).toNat=xs.length:=by simp;lia
 rw[BS,this];simp
@[simp] theorem zaq {α:Type}{x:α}{xs:List α}:L2.zM (x::xs) 0=↑x:=vG (k:=0) rfl
@[simp] theorem zap {α:Type}{x y:α}{xs:List α}:L2.zM (x::y::xs) 1=↑y:=vG (k:=1) rfl
@[simp] theorem zao {α:Type}{x y z:α}{xs:List α}:L2.zM (x::y::z::xs) 2=↑z:=vG (k:=2) rfl
@[simp] theorem zan {α:Type}{x y z w:α}{xs:List α}:L2.zM (x::y::z::w::xs) 3=↑w:=vG (k:=3) rfl
theorem iT {α:Type}(enc:α->T) (g:α->Option T) (h:T->Option (Option T)):∀ (xs:List α),(∀ x∈xs,h (enc x)=↑(g x))->qh h (xs.map enc)=↑(xs.filterMap g)
 | [],_=>rfl
 | x::xs,hh=>by
  rw[Ar];unfold qh;rw[hh x Ax,iT enc g h xs λ y hy=>hh y (Ay _ hy)];cases q:g x <;> simp[q]
def M9 {α:Type}(enc:α->T) (g:α->T) (h:T->Option (Option T)) (xs:List α) (hh:∀ x∈xs,h (enc x)=↑↑(g x)):qh h (xs.map enc)=↑(xs.map g):=by
 rw[iT enc (λ x=>↑(g x)) h xs hh];simp
def vW {α:Type}(enc:α->T) (h:α->T) {pick:List (Option Nat)}{it:Ev->Option (List T)}{g:T->Ev->Option Ev}{c:Ev->Option Bool}{f:Ag}{J:Ev}(xs:List α) (hi:it J=↑(xs.map enc)) (hl:xs.length<=16777216)
  (hh:∀ x∈xs,vy pick g c f J (enc x)=↑↑(h x)):yJ pick it g c f J=↑(.lst (xs.map h)):=by
 unfold yJ;rw[hi,BS,if_pos (by rw[AA];show hl),M9 enc h _ xs hh];rfl
def sQ {α:Type}(enc:α->T) (h:α->Option T) {pick:List (Option Nat)}{it:Ev->Option (List T)}{g:T->Ev->Option Ev}{c:Ev->Option Bool}{f:Ag}{J:Ev}(xs:List α) (hi:it J=↑(xs.map enc)) (hl:xs.length<=16777216)
  (hh:∀ x∈xs,vy pick g c f J (enc x)=↑(h x)):yJ pick it g c f J=↑(.lst (xs.filterMap h)):=by
 unfold yJ;rw[hi,BS,if_pos (by rw[AA];show hl),iT enc h _ xs hh];rfl
section
variable {α:Type}{is:List Nat}{g:T->Ev->Option Ev}{b:Sm}
def turn (g:T->Ev->Option Ev) (b:Sm) (y:T) (J:Ev):Option Out:=(g y J).bind b
theorem c9 (y:T) (ys:List T) (J:Ev):xy is g b (y::ys) J=(turn g b y (y9 is J)).bind λ o=>match o with
  | .nx J2=>xy is g b ys J2
  | .ct J2=>xy is g b ys J2
  | .bk J2=>↑(.nx (y9 is J2))
  | .rt t=>↑(.rt t):=by
 unfold turn;rw[xy];cases g y (y9 is J) <;> rfl
theorem c7 (enc:α->T) (I:List α->Ev->Prop):∀ (xs:List α) (pre:List α) (J:Ev),I pre (y9 is J)->
  (∀ p x q,pre++xs=p++x::q->∀ J,I p J->∃ J',turn g b (enc x) J=↑(.nx J')/\I (p++[x]) (y9 is J'))->∃ J',xy is g b (xs.map enc) J=↑(.nx J')/\I (pre++xs) J'
 | [],pre,J,h,_=>#[y9 is J,by rw[Bh,xy],by exists h]
 | x::xs,pre,J,h,hs=>by
  let#[J',h1,h2]:=hs pre x xs rfl _ h;rw[Ar,c9,h1];have ih:=c7 enc I xs (pre++[x]) J' h2 λ p y q e=>hs p y q (by rw[<- e];simp);exists ih
def vx (enc:α->T) (I:List α->Ev->Prop) (xs:List α) (J:Ev) (h:I [] (y9 is J))
  (hs:∀ p x q,xs=p++x::q->∀ J,I p J->∃ J',turn g b (enc x) J=↑(.nx J')/\I (p++[x]) (y9 is J')):∃ J',xy is g b (xs.map enc) J=↑(.nx J')/\I xs J':=c7 enc I xs [] J h hs
end
theorem sH (n:Nat) (h:n<=100000):wJ [.int (n:Int)]=↑((List.range n).map λ(k:Nat)=>T.int (0+(k:Int))):=by
 change (if inR (n:Int)=true then ↑(rangeT 0 (n:Int).toNat) else none)=_;rw[if_pos (b8.mpr #[⋯,⋯])];rfl
def rO (a:Key) (b:T) (Ab:List (Key×T)) (j:Key):yC ((a,b)::Ab) j=if a=j then ↑b else yC Ab j:=by
 by_cases h:a=j <;> simp[yC,h]
theorem fD (k j:Key) (d:T):∀ Ab:List (Key×T),yC (Ab.map λ kv=>if kv.1=k then (kv.1,d) else kv) j=(yC Ab j).map λ x=>if j=k then d else x
 | []=>rfl
 | (a,b)::Ab=>by
  have ih:=fD k j d Ab;rw[Ar];by_cases hk:a=k
  .rw[if_pos hk,rO,rO,ih];by_cases hj:a=j
   .subst hj;subst hk;simp
   .rw[if_neg hj,if_neg hj]
  .rw[if_neg hk,rO,rO,ih];by_cases hj:a=j
   .subst hj;simp[hk]
   .rw[if_neg hj,if_neg hj]
theorem fC (k j:Key) (d:T):∀ Ab:List (Key×T),(∀ kv∈Ab,¬ kv.1=k)->yC (Ab++[(k,d)]) j=if j=k then ↑d else yC Ab j
 | [],_=>by
  change yC [(k,d)] j=_;rw[rO];by_cases h:j=k
  .subst h;simp
  .rw[if_neg h,if_neg (λ z=>h z.symm)]
 | (a,b)::Ab,hn=>by
  have ih:=fC k j d Ab λ kv EZ=>hn kv (Ay _ EZ);have ha:¬ a=k:=hn (a,b) Ax;change yC ((a,b)::(Ab++[(k,d)])) j=_;rw[rO,rO,ih];by_cases hj:a=j
  .subst hj;simp[ha]
  .rw[if_neg hj,if_neg hj]
def Z9 (Ab:List (Key×T)) (k:Key):(Ab.any λ kv=>decide (kv.1=k))=(yC Ab k).isSome:=by
 unfold yC;rw[Option.isSome_map,B2,Bi,List.find?_isSome]
def mC (Ab:List (Key×T)) (k j:Key) (d:T):yC (wK Ab k d) j=if j=k then ↑d else yC Ab j:=by
 unfold wK;split
 .rename_i h;rw[Z9] at h;rw[fD];by_cases hj:j=k
  .subst hj;let#[x,hx]:=DZ.mp h;simp[hx]
  .simp[hj]
 .rename_i h;show fC k j d Ab λ kv EZ z=>h (Bi.mpr #[kv,EZ,zaA z])
def cH (Ab:List (Key×T)) (k:Key) (d:T):(wK Ab k d).length=if (yC Ab k).isSome=true then Ab.length else Ab.length+1:=by
 have e:=Z9 Ab k;unfold wK;rw[e];split <;> simp
def vn (p:Int×Int):List Int:=[p.1,p.2]
def tN (ps:List (Int×Int)):List (Int×Int):=(L4.yZ (ps.map vn)).map λ r=>(r.getD 0 0,r.getD 1 0)
def f_ (ps:List (Int×Int)):(tN ps).map vn=L4.yZ (ps.map vn):=by
 unfold tN;rw[AN]
 conv=>rhs;rw[<- List.map_id (L4.yZ (ps.map vn))]
 exact DQ λ r hr=>?_;let#[p,_,rfl]:=Av.mp ((L4.vP _).mem_iff.mp hr);rfl
def jo (ps:List (Int×Int)):(tN ps).Perm ps:=by
 have h:=L4.vP (ps.map vn);have:(tN ps).Perm ((ps.map vn).map λ r=>(r.getD 0 0,r.getD 1 0)):=h.map _
 rwa [AN,show ((λ r:List Int=>(r.getD 0 0,r.getD 1 0)) ∘ vn)=id from rfl,List.map_id] at this
def qQ (p q:Int×Int):Prop:=p.1<q.1\/(p.1=q.1/\p.2<=q.2)
def fZ (ps:List (Int×Int)):(tN ps).Pairwise qQ:=by
 have h:=L4.mO (ps.map vn);rw[<- f_,Dg] at h;exact h.imp λ{p q} CL=>?_;unfold vn at CL;rw[HT.sP,HT.sP] at CL;unfold qQ;by_cases e:q.1=p.1
 .rw[if_pos e] at CL;by_cases e2:q.2=p.2
  .lia
  .rw[if_neg e2] at CL;have:=of_decide_eq_false CL;lia
 .rw[if_neg e] at CL;have:=of_decide_eq_false CL;lia
def WQ (ps:List (Int×Int)):wI (ps.map zq)=↑(ps.map vn):=by
 have:=mS (ps.map vn)
 rwa [AN,show zS ∘ vn=zq from rfl] at this
def yV (q p:Int×Int):Bool:=decide (p.1<=q.1)&&decide (p.2<=q.2)
def zH (ps:List (Int×Int)) (q:Int×Int):Bool:=ps.any (yV q)
def yA {ps:List (Int×Int)}{q:Int×Int}:zH ps q=true↔∃ p∈ps,p.1<=q.1/\p.2<=q.2:=by
 unfold zH yV;simp[Bi]
def M4 {ps qs:List (Int×Int)}(h:ps.Perm qs) (q:Int×Int):zH ps q=zH qs q:=by
 rw[B2,yA,yA];show#[λ#[p,h1,h2]=>#[p,h.mem_iff.mp h1,h2],λ#[p,h1,h2]=>#[p,h.mem_iff.mpr h1,h2]]
def M5 (ps qs:List (Int×Int)) (q:Int×Int):zH (ps++qs) q=(zH ps q||zH qs q):=by
 unfold zH;rw[Ep]
def yB (ps:List (Int×Int)):Prop:=ps.Pairwise λ p q=>p.1<q.1/\q.2<p.2
theorem yB.eq:∀ {ps qs:List (Int×Int)},yB ps->yB qs->(∀ q,zH ps q=zH qs q)->ps=qs
 | [],[],_,_,_=>rfl
 | [],q::qs,_,_,h=>by
  have:=h q;rw[show zH [] q=false from rfl] at this;have h2:zH (q::qs) q=true:=yA.mpr #[q,Ax,AX _,AX _];rw[h2] at this;cases this
 | p::ps,[],_,_,h=>by
  have:=h p;rw[show zH [] p=false from rfl] at this;have h2:zH (p::ps) p=true:=yA.mpr #[p,Ax,AX _,AX _];rw[h2] at this;cases this
 | p::ps,q::qs,hp,hq,h=>by
  have J7:=BI.mp hp;have H_:=BI.mp hq;have a1:∃ r∈q::qs,r.1<=p.1/\r.2<=p.2:=yA.mp (by rw[<- h];show yA.mpr #[p,Ax,AX _,AX _]);have a2:∃ r∈p::ps,r.1<=q.1/\r.2<=q.2:=yA.mp (by rw[h];show yA.mpr #[q,Ax,AX _,AX _]);let#[r,hr,r1,r2]:=a1;let#[u,hu,u1,u2]:=a2;have qr:q.1<=r.1:=by
   rcases An.mp hr with e | e
   .subst e;show AX _
   .show Int.le_of_lt (H_.1 r e).1
  have pu:p.1<=u.1:=by
   rcases An.mp hu with e | e
   .subst e;show AX _
   .show Int.le_of_lt (J7.1 u e).1
  have e1:p.1=q.1:=⋯;have er:r=q:=by
   rcases An.mp hr with e | e
   .show e
   .have:=(H_.1 r e).1;lia
  have eu:u=p:=by
   rcases An.mp hu with e | e
   .show e
   .have:=(J7.1 u e).1;lia
  subst er eu;have e2:u.2=r.2:=⋯;have epq:u=r:=Prod.ext e1 e2;subst epq;rw[yB.eq J7.2 H_.2 λ x=>?_];have hx:=h x;unfold zH at hx ⊢;rw[BH,BH] at hx;cases g:yV x u with
  | false=>rw[g] at hx;exists hx
  | true=>
   have gx:u.1<=x.1/\u.2<=x.2:=by simpa [yV] using g
   have key:∀ {l:List (Int×Int)},(∀ v∈l,u.1<v.1/\v.2<u.2)->l.any (yV x)=l.any (yV (x.1,u.2-1)):=by
    intro l hl;rw[B2,Bi,Bi];constructor
    .rintro⟨v,hv,hg⟩;have:=hl v hv;have hg':v.1<=x.1/\v.2<=x.2:=by simpa [yV] using hg
     show#[v,hv,by simp[yV];lia]
    .rintro⟨v,hv,hg⟩;have:=hl v hv;have hg':v.1<=x.1/\v.2<=u.2-1:=by simpa [yV] using hg
     show#[v,hv,by simp[yV];lia]
   rw[key J7.1,key H_.1];have hy:=h (x.1,u.2-1);unfold zH at hy;rw[BH,BH] at hy;have gn:yV (x.1,u.2-1) u=false:=by
    unfold yV;rw[show decide (u.2<=(x.1,u.2-1).2)=false from za5 (by change ¬ u.2<=u.2-1;lia),C0]
   rw[gn] at hy;exists hy
def t9 (l:Option Int) (x:Int):Bool:=match l with
 | none=>true
 | some m=>decide (x<m)
def yy:List (Int×Int)->Option Int->List (Int×Int)
 | [],_=>[]
 | p::ps,l=>if t9 l p.2=true then p::yy ps ↑p.2 else yy ps l
def wL (ps:List (Int×Int)):List (Int×Int):=yy (tN ps) none
theorem oS:∀ (ps:List (Int×Int)) (l:Option Int) (q:Int×Int),q∈yy ps l->q∈ps/\∀ m,l=↑m->q.2<m
 | [],l,q,h=>by simp[yy] at h
 | p::ps,l,q,h=>by
  unfold yy at h;split at h
  .rename_i c;have hm:∀ m,l=↑m->p.2<m:=λ m e=>by subst e;simpa [t9] using c
   rcases An.mp h with e | e
   .subst e;show#[Ax,hm]
   .let#[h1,h2]:=oS ps _ q e;show#[Ay _ h1,λ m e=>by have:=h2 _ rfl;have:=hm m e;lia]
  .let#[h1,h2]:=oS ps _ q h;show#[Ay _ h1,h2]
theorem il:∀ (ps:List (Int×Int)) (l:Option Int),ps.Pairwise qQ->yB (yy ps l)
 | [],l,_=>by simp[yy,yB]
 | p::ps,l,h=>by
  have h1:=BI.mp h;unfold yy;split
  .exact BI.mpr #[λ q hq=>?_,il ps _ h1.2];let#[g1,g2]:=oS ps _ q hq;have:=h1.1 q g1;have:=g2 _ rfl;unfold qQ at *;lia
  .show il ps _ h1.2
theorem ip:∀ (ps:List (Int×Int)) (l:Option Int),ps.Pairwise qQ->∀ p∈ps,(∃ q∈yy ps l,q.1<=p.1/\q.2<=p.2)\/∃ m,l=↑m/\m<=p.2
 | [],l,_,p,hp=>by cases hp
 | r::ps,l,h,p,hp=>by
  have h1:=BI.mp h;unfold yy;split
  .rename_i c;rcases An.mp hp with e | e
   .subst e;show .inl #[p,Ax,AX _,AX _]
   .rcases ip ps ↑r.2 h1.2 p e with ⟨q,q1,q2⟩ | ⟨m,e1,e2⟩
    .show .inl #[q,Ay _ q1,q2]
    .cases e1;have:=h1.1 p e;unfold qQ at this;show .inl #[r,Ax,⋯,e2]
  .rename_i c;rcases An.mp hp with e | e
   .subst e;cases l with
    | none=>simp[t9] at c
    | some m=>show .inr #[m,rfl,by simpa [t9] using c]
   .show ip ps l h1.2 p e
def oI (ps:List (Int×Int)):yB (wL ps):=il _ _ (fZ ps)
def Oy {ps:List (Int×Int)}{q:Int×Int}(h:q∈wL ps):q∈ps:=(jo ps).mem_iff.mp (oS _ _ q h).1
theorem l9 (ps:List (Int×Int)) (q:Int×Int):zH (wL ps) q=zH ps q:=by
 rw[<- M4 (jo ps) q,B2,yA,yA];constructor
 .rintro⟨p,h1,h2⟩;show#[p,(oS _ _ p h1).1,h2]
 .rintro⟨p,h1,h2⟩;rcases ip (tN ps) none (fZ ps) p h1 with ⟨r,r1,r2⟩ | ⟨m,e,_⟩
  .show#[r,r1,⋯,⋯]
  .cases e
end L5
namespace L2
open PySem PySem.Spec PyProof.Rows
section
variable {X:Cx}
def dh (K:Ac):R2:=λ x y H Q=>∃ l b xs zs,x=.ref l/\y=.ref b/\zG K H l xs/\zG K H b zs/\xs.length+zs.length<=sizeLine/\∀ p,H p=none->Q (.ref p) (upd H p (.lst (xs++zs)))
theorem Ry:zZ X (binaryOp .Add) (dh X.K):=by
 intro Ff s Y H x y v u Q I rx ry h;let#[l,b,xs,zs,rfl,rfl,hH,hB,hz,q]:=h;cases rx;cases ry;let#[Aa,r,p1,_]:=I.list hH;let#[FO,r2,p2,_]:=I.list hB;let#[#[cls,dd,data,sl],ho,hc,n,hd]:=p1.isList;let#[#[II,HL,data2,HJ],Hm,GR,n2,hd2]:=p2.isList;simp only at hc hd GR hd2;subst hc hd GR hd2;have e:Aa.toArray++FO.toArray=(Aa++FO).toArray:=#[];exact concat_meets #[_,ho,rfl] #[_,Hm,rfl] noFill_list_add seq_list_add PySem.F.slot_list_add PySem.F.entry_list_add (PySem.F.args_list_add_2 _ _) (list_addW l b Aa.toArray FO.toArray n n2 dd HL sl HJ (by rw[AD,AD,<- r.length,<- r2.length];show hz)) #[ho,Hm,?_];rw[e];show#[.ref _,_,I.Ol (t':=s.toks) (r.append r2) (by rw[Bs];lia),rfl,q _ I.fresh]
def df (K:Ac):R2:=λ x y H Q=>∃ a b ys,x=.ref a/\y=.ref b/\zR K H a []/\zR K H b ys/\Q (.ref b) H
theorem Rw:zZ X (binaryOp .Add) (df X.K):=by
 intro Ff s Y H x y v u Q I rx ry h;let#[l,b,ys,rfl,rfl,hH,hB,q]:=h;cases rx;cases ry;let#[Aa,r,p1,_]:=I.tuple hH;let#[FO,r2,p2,_]:=I.tuple hB;let#[#[cls,dd,data,sl],ho,hc,n,hd]:=id p1;let#[#[II,HL,data2,HJ],Hm,GR,n2,hd2]:=id p2;simp only at hc hd GR hd2;subst hc hd GR hd2;show concat_meets #[_,ho,rfl] #[_,Hm,rfl] noFill_tuple_add seq_tuple_add PySem.F.slot_tuple_add PySem.F.entry_tuple_add (PySem.F.args_tuple_add_2 _ _)
   (tuple_addW0 l b Aa.toArray FO.toArray n n2 dd HL sl HJ (by cases r;rfl)) #[ho,Hm,#[.ref b,H,I,rfl,q]]
end
end L2
namespace L5
open PySem PySem.Spec L2 L3
open PyProof.Rows hiding St
section
variable {X:Cx}{K:Ac}{a b c e:Expr}{es:List Expr}{ta tb tc te:zp}{tA:ya}{pos p:Pos}
def ug.mo:xv ug:=λ x y S Q Q' hq h=>by
 cases x with
 | int i=>cases y <;> first | show hq _ _ h | show h
 | str i=>cases y <;> first | show#[h.1,hq _ _ h.2] | show h
 | tup i=>cases y <;> first | show#[h.1,hq _ _ h.2] | show h
 | xn ds=>
  unfold ug at h ⊢;dsimp only at h ⊢;split at h
  .show#[h.1,h.2.1,λ r hr=>hq _ _ (h.2.2 r hr)]
  .show h.elim
 | ref q=>
  unfold ug at h ⊢;dsimp only at h ⊢;split at h
  .show#[h.1,h.2.1,λ r hr=>hq _ _ (h.2.2 r hr)]
  .show h.elim
 | _=>show h
def sG {H:Hp}{S:SS}{d:D}{v:V}{ds:List D}(r:zf K H d v) (p:zC K H S) (e:zP d S=↑ds) (n:∀ ts,d≠.tup ts):∃ a xs,v=.ref a/\zG K H a xs/\zj K H ds xs:=by
 unfold zP at e;split at e
 .show absurd rfl (n _)
 .cases e;simp![zf] at r;let#[a,xs,h1,h2,h3]:=r;show#[a,xs,h1,h2.sq,h3]
 .split at e
  .rename_i q;cases e;simp![zf] at r;subst r;let#[xs,h1,h2]:=p _ _ q;show#[_,xs,rfl,zG.of h1,h2]
  .cases e
 .cases e
abbrev dk (K:Ac):R2:=λ x y H Q=>vp (λ i j=>.int (i+j)) x y H Q\/((∃ i j,x=.str i/\y=.str j/\i.length+j.length<=sizeLine/\Q (.str (i++j)) H)\/(dh K x y H Q\/(df K x y H Q\/dg K x y H Q)))
def ug.fits:xl K ug (dk K):=λ x y d e H S Q h1 h2 h3 h=>by
 have lst:(∀ ts,d≠.tup ts)->(match zP d S,zP e S with
  | some ds,↑es=>(∀ ts,e≠.tup ts)/\ds.length+es.length<=sizeLine/\∀ r,S r=none->xI K H Q (.ref r) (ups S r (.lst (ds++es)))
  | _,_=>False)->dk K x y H Q:=λ n h=>by
  split at h
  .rename_i ds es q1 q2;let#[a,xs,rfl,g1,g2]:=sG h1 h3 q1 n;let#[b,ys,rfl,g3,g4]:=sG h2 h3 q2 h.1;exact .inr (.inr (.inl #[a,b,xs,ys,rfl,rfl,g1,g3,by rw[<- g2.length,<- g4.length];show h.2.1,λ p hp=>?_]));show h.2.2 p (h3.none hp) _ _ (by simp![zf]) (.new hp _) (h3.ups (.new hp _) #[_,yf,zj.ext (.new hp _) _ (g2.append g4)])
  .show h.elim
 cases d with
 | int i=>
  cases e with
  | int j=>
   simp![zf] at h1 h2;show .inl #[_,_,h1,h2,h _ H (by simp![zf]) (.refl H) h3]
  | _=>show h.elim
 | str i=>
  cases e with
  | str j=>
   simp![zf] at h1 h2;show .inr (.inl #[_,_,h1,h2,h.1,h.2 _ H (by simp![zf]) (.refl H) h3])
  | _=>show h.elim
 | tup ds=>
  cases e with
  | tup es=>
   have JM:=h1;have K_:=h2;simp![zf] at h1 h2;let#[a,xs,rfl,g1,g2]:=h1;let#[b,ys,rfl,g3,g4]:=h2;have hl:=g2.length;have G1:=g4.length;by_cases hx:xs=[]
   .subst hx;have:ds=[]:=by cases ds <;> simp_all
    subst this;show .inr (.inr (.inr (.inl #[a,b,ys,rfl,rfl,g1,g3,h.2 _ H K_ (.refl H) h3])))
   .exact .inr (.inr (.inr (.inr #[a,b,xs,ys,rfl,rfl,g1,g3,hx,by rw[<- hl,<- G1];show h.1,λ hy=>?_,λ hy p hp=>?_])))
    .subst hy;have:es=[]:=by cases es <;> simp_all
     subst this;exact h.2 _ H ?_ (.refl H) h3;rw[CC];show JM
    .exact h.2 _ _ ?_ (.new hp _) (h3.new hp);simp![zf];show#[p,_,rfl,zR.of yf,zj.ext (.new hp _) _ (g2.append g4)]
  | _=>show h.elim
 | xn ds=>show lst (λ _=>nofun) h
 | ref q=>show lst (λ _=>nofun) h
 | _=>show h.elim
def SM (ha:PD X a ta) (hb:PD X b tb):PD X (.BinOp a .Add b pos) (yk ug ta tb):=sJ (R0.or (Rz.or (Ry.or (Rw.or Rx)))) ug.fits ug.mo ha hb
def tf.mo {g:List Bool->Bool}:vh (tf g):=λ ds S Q Q' hq h=>by
 unfold tf at h ⊢;split at h
 .show h.elim
 .let#[bs,h1,h2]:=h;show#[bs,h1,hq _ _ h2]
 .show h.elim
def tf.fits {g:List Bool->Bool}:uu K (tf g) (λ xs H Q=>∃ p,∃ bs:List Bool,xs=[.ref p]/\zG K H p (bs.map V.bl)/\Q (.bl (g bs)) H):=λ xs ds H S Q h0 h2 h=>by
 unfold tf at h;split at h
 .show h.elim
 .rename_i d hn;let#[x,hx,h1]:=h0.one;subst hx;let#[bs,e,h]:=h;let#[a,ys,rfl,g1,g2]:=sG h1 h2 e (λ ts z=>hn ts z);rw[g2.bools] at g1;show#[a,bs,rfl,g1,h _ H (by simp![zf]) (.refl H) h2]
 .show h.elim
def SJ (hm:X.mg "any"=none) (ha:yO X (e::es) tA) (hc:X.calm=true) (hg:Gl X "any") (he:AE X e es) (Ao:AI X pos es):PD X (.Call (.Name "any" p) (e::es) [] pos) (xr (tf λ bs=>bs.any id) tA):=
 uP (uO (La hc) hg hm boot_any ha.pa () () he Ao) tf.mo tf.fits ha.mo
def cY {H:Hp}{d:D}{v:V}(r:zf K H d v):decide (v=.zr)=qS d:=by
 cases d with
 | tup _=>simp![zf] at r;let#[a,xs,rfl,_]:=r;rfl
 | xn _=>simp![zf] at r;let#[a,xs,rfl,_]:=r;rfl
 | err _ _ _=>simp![zf] at r;let#[a,_,_,_,rfl,_]:=r;rfl
 | _=>simp![zf] at r;subst r;rfl
theorem TC (ha:PD X a ta):PD X (.UnaryOp .USub a pos) (aI ta):=by
 exact#[fun L S Q Q' hq h=>ha.mo L S _ _ (λ x S1 z=>by
  cases x <;> first
   | show hq _ _ z
   | show z) h,PE.imp (VV X7 ha.pe) fun Y H Q hu=>?_]
 let#[L,S,r1,r2,h]:=hu;exact zD.go ha.mo r1 r2 h λ x S1 v H1 h1 q1 e1 p1=>?_;cases x with
 | int i=>simp![zf] at q1;show#[i,q1,h1 _ H1 (by simp![zf]) e1 p1]
 | _=>show h1.elim
section
variable {N':List Str}{pick:List (Option Nat)}{scope:Scope}{tg elt iter:Expr}{ifs:List Expr}{ti:xZ}{g:yS}{G5:yt}
def uE.mo (hi:kF ti):zX (uE pick ti g G5 te):=fun L S Q Q' hq z=>hi L S _ _ (λ I S1 #[h1,h2,h3]=>#[h1,h2,λ p hp=>by
 let#[W,w0,w1,w2,w3]:=h3 p hp;show#[W,w0,w1,w2,λ S2 acc a b c=>hq _ _ (w3 S2 acc a b c)]]) z
theorem fG (hi:kF ti) (hg:n_ g) (hc:wG G5) (he:zX te) {Y:St}{H:Hp}{Q:VK}(hu:zD K (uE pick ti g G5 te) Y H Q):jh pick (wx K ti) (pW K g) (xP K G5) (zD K te) Y H Q:=by
 let#[L,S,r1,r2,z]:=hu;exact#[L,S,r1,r2,hi L S _ _ (λ I S1 hF J H1 e1 p1 rep D hD=>?_) z];let#[hlen,hk,hF]:=hF;have K5:S1 D=none:=p1.none hD;let#[W,w0,wm,IZ,Kh]:=hF D K5;exact#[λ i m Y H2=>m=I.items.length-i/\i<=I.items.length/\Ext H1 H2/\ym K H2 (vU pick L) Y/\∃ S2 acc,zC K H2 S2/\Sx S1 S2/\S2 D=↑(.lst acc)/\acc.length<=i/\W i S2 acc,#[_,rfl,A4 _,.new hD _,((r1.ext e1).pick pick).ext (.new hD _),ups S1 D (.lst []),[],?_,.new K5 _,sD,Ak _,?_],?_]
 .show p1.ups (.new hD _) #[[],yf,.nil]
 .show wm 0 S1 _ [] (λ b o hb q=>by rw[tM hb];show q) w0
 rintro i m Y2 H2 ⟨rfl,HF,x2,q1,S2,acc,q2,sx,J9,A3,hW⟩;let#[g1,g2]:=rep i H2 S2 x2 q2 (hk S2 sx);by_cases hl:i<I.items.length
 .have hd:I.items[i]?=↑I.items[i]:=by simp[hl]
  let#[go,yl]:=g1 _ hd;exact .inr #[go,λ x H3 hy=>?_];let#[x3,p3,d3]:=yl x H3 hy;exact#[_,_,S2,d3,q1.ext x3,p3,hg _ _ S2 _ _ (fun L4 S4 z4 Y4 H4 a1 a2 a3=>?_) (IZ i _ S2 acc hd sx J9 hW)];let#[hle,z4]:=z4;exact xP.go hc a1 a3 z4 λ b S5 H5 z5 x5 p5=>xF (λ z5=>?_) (λ z5=>?_) z5
  .exact zD.go he (a1.ext x5) p5 z5 λ y S6 v H6 z6 q6 x6 p6=>?_;let#[s6,hW6]:=z6;let#[ys,h6,r6]:=p6 _ _ (s6 _ _ J9);have e6:Ext H6 (upd H6 D (.lst (ys++[v]))):=.lst h6 _;have hlen2:ys.length<=i:=by rw[<- r6.length];show A3
   exact#[ys,I.items.length-(i+1),h6,⋯,⋯,rfl,hl,((((x2.trans x3).trans a2).trans x5).trans x6).trans e6,hle.rep ((a1.ext (x5.trans x6)).ext e6),ups S6 D (.lst (acc++[y])),acc++[y],?_,λ b o hb=>?_,sD,by simp;lia,?_]
   .show p6.ups e6 #[_,yf,zj.ext e6 _ (r6.snoc q6)]
   .rw[tM (by intro q;subst q;rw[K5] at hb;cases hb)];show s6 _ _ (sx _ _ hb)
   .show wm _ S6 _ _ (λ b o hb q=>by rw[tM hb];show q) hW6
  .let#[s5,hW5]:=z5;show#[I.items.length-(i+1),⋯,rfl,hl,((x2.trans x3).trans a2).trans x5,hle.rep (a1.ext x5),S5,acc,p5,sx.trans s5,s5 _ _ J9,⋯,hW5]
 .have e:i=I.items.length:=⋯;subst e;show .inl #[g2 (Ak _),Kh S2 acc sx J9 hW _ H2 (by simp![zf]) (e1.trans x2) q2]
def TU (Sc:sA X N' pick scope) (hc:X.calm=true) (hi:uq X tg iter ti) (hg:∀ cl C s H fp,vH (yp X N' scope cl C s H fp) tg g) (hf:∀ cl C s H fp,pJ (yp X N' scope cl C s H fp) ifs G5) (he:∀ cl C s H fp,PD (yp X N' scope cl C s H fp) elt te)
  (hs:∀ x,foldedSetIterable iter X.env x=pure x):
  PD X (.ListComp elt [#[tg,iter,ifs,0]] scope pos) (uE pick ti g G5 te):=
 #[uE.mo hi.mo,λ Ff s Y H Q I hu=>Ue (g:=pW X.K g) (tc:=xP X.K G5) (te:=zD X.K te) Sc hc hi.pi (λ cl C s H fp=>(hg cl C s H fp).pg) (λ cl C s H fp=>(hf cl C s H fp).pf) (λ cl C s H fp=>(he cl C s H fp).pe) hs Ff s Y H Q I (fG hi.mo (hg [] 0 s H []).mo (hf [] 0 s H []).mo (he [] 0 s H []).mo hu)]
def UQ {i:Nat}{y:Str}{py Bk:Pos}(Sc:sA X N' pick scope) (hc:X.calm=true) (hi:uq X tg iter ti) (hg:∀ cl C s H fp,vH (yp X N' scope cl C s H fp) tg g) (hf:∀ cl C s H fp,pJ (yp X N' scope cl C s H fp) ifs G5) (he:∀ cl C s H fp,PD (yp X N' scope cl C s H fp) elt te)
  (hN:X.N.Nodup) (hy:X.N[i]?=↑y) (hx:Loc X.env.scope y)
  (Bv:swapsWith (.ListComp elt [#[tg,iter,ifs,0]] scope pos) ↑(.Name y py) Bk.line X.env=pure true)
  (Ci:X.fn y=true\/X.env.scope.names.lookup y=↑.local)
  (hs:∀ x,foldedSetIterable iter X.env x=pure x):
  xu X (.Assign [.Name y py] (.ListComp elt [#[tg,iter,ifs,0]] scope pos) Bk) (wO (uE pick ti g G5 te) (hName i)):=by
 exact#[wO.mo (uE.mo hi.mo) λ _ _ _ _ _ hq z=>hq _ _ z,λ Ff s Y H D I hu=>Vu (g:=pW X.K g) (tc:=xP X.K G5) (te:=zD X.K te) Sc hc hi.pi (λ cl C s H fp=>(hg cl C s H fp).pg) (λ cl C s H fp=>(hf cl C s H fp).pf) (λ cl C s H fp=>(he cl C s H fp).pe) hN hy hx Bv Ci hs Ff s Y H D I ?_];let#[L,S,r1,r2,z]:=hu;exact fG hi.mo (hg [] 0 s H []).mo (hf [] 0 s H []).mo (he [] 0 s H []).mo #[L,S,r1,r2,uE.mo hi.mo L S _ _ (λ x S1 z v H1 q1 e1 p1=>?_) z];show z _ H1 ((r1.ext e1).set i q1) e1 p1
end
end
section
variable {P:Program}{w:World}{K:Ac}{mg:Au}{base:Heap}{f:Addr}{fd:FuncData}
def bP {R:Rk} [Lo R] {x:Str}{st:Stmt}{N ps:List Str}{k n:Nat}{g:Sm}(F:vI K x x st f fd) (Sc:vK N ps (zL st)) (hn:n=ps.length)
  (Fp:∀ (Ai:Value) (A:Around) (outer:List Env) (s:Shared) (H:Hp) (E:XK),yb k (A.deeper (envOfC x (zL st) s.heap.objs.size f Ai))->
   ∃ t,wR (yM yz P w K mg base N x (zL st) f Ai A outer s H E).xg (xj st) t/\zW R g t):xf P w K mg base yz (k+1) f fd ps (uL K (zJ R (zV N n g))):=
 NF F Sc (λ ds S Q h=>by rw[h.len,hn]) λ Ai A outer s H E hr=>by
  let#[t,h1,h2]:=Fp Ai A outer s H E hr;show#[t,h1,λ ds S Q h=>Zn h2 h]
def NV {R:Rk} [Lo R] {x:Str}{st:Stmt}{N ps:List Str}{k n:Nat}{g:Sm}(F:vI K x x st f fd) (hm:mg x=↑(.ref f)) (Sc:vK N ps (zL st)) (hn:n=ps.length)
  (hb:∀ (kV doc pm:Value) (an:Option Addr) (Ai ct:Value) (us:Ae),us.length=ps.length->bindArgs (PySem.W.fnOf x x (uh st) (xj st) (zL st) .none kV doc pm an Ai ct) #[us,[]]=pure (ps.zip us))
  (Fp:∀ (Ai:Value) (A:Around) (outer:List Env) (s:Shared) (H:Hp) (E:XK),yb k (A.deeper (envOfC x (zL st) s.heap.objs.size f Ai))->
   ∃ t,wR (yM yz P w K mg base N x (zL st) f Ai A outer s H E).xg (xj st) t/\zW R g t):FD P w K mg base x (k+1) ps (zJ R (zV N n g)):=
 #[#[f,fd,bP F Sc hn Fp,hm,F.kp,F.binds hb],zJ.mo]
def O9 {R:Rk} [Sr R] {F:Ap}(hF:∀ ns:List Int,ns.length<=63->F [.lst (ns.map T.int)]=↑(.bl true)) {H:Hp}{a:Addr}{ns:List Int}{E:XK}(hO:kA H) (hS:zG K H a (ns.map V.int)) (hl:ns.length<=63):uL K (zJ R F) [.ref a] H (λ v _=>v=.bl true) E:=by
 have hFz:pE K H a (ns.map V.int):=by
  rcases hS with (h | h) | h
  .rcases hO a with z | ⟨o,xs,z⟩
   .rw[h] at z;cases z
   .rw[h] at z;cases z
  .show .inl h
  .show .inr h
 exact#[[.xn (ns.map D.int)],λ _=>none,.cons ?_ .nil,(λ a o z=>nomatch z),λ _=>False,[.lst (ns.map T.int)],.bl true,nofun,.cons ?_ .nil,hF ns hl,λ d S' s r v H' rv _ _=>?_]
 .simp![zf];show#[a,_,rfl,hFz,zj.jJ ns]
 .simp![Sn];show#[_,.inl #[rfl,R3 ns],tP.mpr rfl]
 .have:=Sr.sn r;simp![Sn] at this;subst this;simpa only [zf] using rv
end
end L5
namespace ST
open PySem PySem.SetTable
def uH (xs:List Nat):Prop:=xs.Pairwise (· < ·)
def iy {xs:Array Nat}{m d:Nat}(h:m<xs.size):xs.getD m d=xs[m]:=by simp[Array.getD,h]
theorem hJ (xs:Array Nat) (j:Nat) (hr:uH xs.toList):∀ (f lo hi:Nat),hi-lo<=f->lo<=hi->hi<=xs.size->(∀ i (h:i<xs.size),i<lo->xs[i]<j)->(∀ i (h:i<xs.size),hi<=i->j<=xs[i])->
  below.go xs j f lo hi<=xs.size/\(∀ i (h:i<xs.size),i<below.go xs j f lo hi->xs[i]<j)/\∀ i (h:i<xs.size),below.go xs j f lo hi<=i->j<=xs[i]
 | 0,lo,hi,h1,h2,h3,h4,h5=>by
  unfold below.go;have:lo=hi:=⋯;subst this;show#[h3,h4,h5]
 | f+1,lo,hi,h1,h2,h3,h4,h5=>by
  unfold below.go;have w9:∀ i k (hi:i<xs.size) (hk:k<xs.size),i<=k->xs[i]<=xs[k]:=λ i k hi hk D5=>by
   rcases BN i k with q | q
   .have r:=Df.mp hr i k (by exists hi) (by exists hk) q;rw[Cz,Cz] at r;show BD r
   .have:i=k:=⋯;subst this;show Ak _
  by_cases hl:lo<hi
  .rw[if_pos hl];dsimp only;have hm:(lo+hi)/2<xs.size:=⋯;rw[iy hm];by_cases c:xs[(lo+hi)/2]<j
   .rw[if_pos c];exact hJ xs j hr f _ hi ⋯ ⋯ h3 (λ i HF AB=>?_) h5;have:=w9 i ((lo+hi)/2) HF hm ⋯;lia
   .rw[if_neg c];exact hJ xs j hr f lo _ ⋯ ⋯ ⋯ h4 (λ i HF hge=>?_);have:=w9 ((lo+hi)/2) i hm HF hge;lia
  .rw[if_neg hl];have:lo=hi:=⋯;subst this;show#[h3,h4,h5]
def km {xs:Array Nat}{j:Nat}(hr:uH xs.toList):below xs j<=xs.size/\(∀ i (h:i<xs.size),i<below xs j->xs[i]<j)/\∀ i (h:i<xs.size),below xs j<=i->j<=xs[i]:=
 hJ xs j hr xs.size 0 xs.size ⋯ ⋯ (Ak _) (λ i h q=>⋯) (λ i h q=>⋯)
theorem below_at {xs:Array Nat}{j i:Nat}(hr:uH xs.toList) (h:xs[i]?=↑j):below xs j=i:=by
 let#[h1,h2,h3]:=km (j:=j) hr;let#[hi,e]:=Array.getElem?_eq_some_iff.mp h;have a:¬ i<below xs j:=λ q=>by have:=h2 i hi q;lia
 have b:¬ below xs j<i:=λ q=>by
  have:=h3 (below xs j) ⋯ (Ak _);have r:=Df.mp hr (below xs j) i (by simp;lia) (by exists hi) q;simp at r;lia
 lia
def Ls {xs:Array Nat}{j:Nat}(hr:uH xs.toList):(xs[below xs j]?=↑j)↔j∈xs.toList:=by
 constructor
 .intro h;let#[hi,e]:=Array.getElem?_eq_some_iff.mp h;rw[<- e];simp
 .intro h;let#[i,hi,e]:=Cp.mp h;have hx:xs[i]?=↑j:=by
   simp at hi;simp[hi] at e ⊢;show e
  rw[below_at hr hx];show hx
def uj (M:Nat) (p:Probe):Probe:=
 if p.more>0 then { p with j:=p.j+1,more:=p.more-1 } else
 let (i,perturb):=leap M p.i p.perturb
 { p with j:=i,more:=runEnd M i-i,i,perturb }
def gk (t:SetTable) (p:Probe):t.advance p=uj t.mask p:=rfl
def qI (M i perturb:Nat):Probe:={ j:=i,more:=runEnd M i-i,i:=i,perturb:=perturb,dummy:=none }
def way (M:Nat) (h:Int):Nat->Probe
 | 0=>qI M (bits h%(M+1)) (bits h)
 | k+1=>uj M (way M h k)
def Lz (M:Nat) (p:Probe) (h:p.dummy=none):(uj M p).dummy=none:=by
 unfold uj;split
 .show h
 .show h
theorem kX (M:Nat) (h:Int):∀ k,(way M h k).dummy=none
 | 0=>rfl
 | k+1=>Lz M _ (kX M h k)
def zU (M:Nat) (h:Int):Nat->Nat×Nat
 | 0=>(bits h%(M+1),bits h)
 | n+1=>leap M (zU M h n).1 (zU M h n).2
theorem ju (M i pt:Nat) (h:Int) (k:Nat) (hk:way M h k=qI M i pt):∀ m,m<=runEnd M i-i->way M h (k+m)={ j:=i+m,more:=runEnd M i-i-m,i:=i,perturb:=pt,dummy:=none }
 | 0,_=>by rw[Nat.add_zero,hk];rfl
 | m+1,hm=>by
  have ih:=ju M i pt h k hk m ⋯;change uj M (way M h (k+m))=_;rw[ih];unfold uj;rw[if_pos (by change runEnd M i-i-m>0;lia)];simp![Probe.mk.injEq];show#[⋯,⋯,trivial,trivial,trivial]
def WO (M i:Nat):runEnd M i-i<=9:=by unfold runEnd;split <;> lia
theorem eL (M:Nat) (h:Int) (n k:Nat) (hk:way M h k=qI M (zU M h n).1 (zU M h n).2):way M h (k+(runEnd M (zU M h n).1-(zU M h n).1)+1)=qI M (zU M h (n+1)).1 (zU M h (n+1)).2:=by
 have:=ju M _ _ h k hk _ (Ak _);change uj M (way M h (k+_))=_;rw[this];unfold uj;rw[if_neg (by change ¬ _-_-(_-_)>0;lia)];rfl
theorem eM (M:Nat) (h:Int):∀ n,∃ k,k<=10*n/\way M h k=qI M (zU M h n).1 (zU M h n).2
 | 0=>#[0,⋯,rfl]
 | n+1=>by
  let#[k,h1,h2]:=eM M h n;have:=WO M (zU M h n).1;show#[_,⋯,eL M h n k h2]
def Lq (h:Int):bits h<2 ^ 64:=by
 unfold bits;have h1:=Br h (show (2 ^ 64:Int)≠0 by decide);have h2:=BK h (show (0:Int)<2 ^ 64 by decide);lia
theorem dA (M:Nat) (h:Int):∀ n,(zU M h n).2*32 ^ n<=bits h
 | 0=>by simp[zU]
 | n+1=>by
  have ih:=dA M h n;change ((zU M h n).2/32)*32 ^ (n+1)<=_;have:(zU M h n).2/32*32<=(zU M h n).2:=Nat.div_mul_le_self _ _
  calc (zU M h n).2/32*32 ^ (n+1)=((zU M h n).2/32*32)*32 ^ n:=by rw[Nat.pow_succ,DP (32 ^ n) 32,Nat.mul_assoc]
   _<=(zU M h n).2*32 ^ n:=Nat.mul_le_mul_right _ this
   _<=_:=ih
theorem VT (M:Nat) (h:Int) (n:Nat) (hn:13<=n):(zU M h n).2=0:=by
 rcases Eo (zU M h n).2 with q | q
 .show q
 .have h1:=dA M h n;have h2:=Lq h;have h3:32 ^ 13<=32 ^ n:=Nat.pow_le_pow_right () hn;have h4:1*32 ^ n<=(zU M h n).2*32 ^ n:=Nat.mul_le_mul_right _ q;have h5:(2:Nat) ^ 64<32 ^ 13:=()
  lia
def tU (M:Nat) (i:Nat):Nat->Nat
 | 0=>i
 | n+1=>(tU M i n*5+1)%(M+1)
theorem cK (M:Nat) (h:Int):∀ n,(zU M h (13+n)).1=tU M (zU M h 13).1 n
 | 0=>rfl
 | n+1=>by
  have ih:=cK M h n;have hz:=VT M h (13+n) ⋯;change ((zU M h (13+n)).1*5+1+(zU M h (13+n)).2/32)%(M+1)=_;rw[hz,ih];rfl
theorem o5 (M i:Nat):∀ a b,tU M i (a+b)=tU M (tU M i a) b
 | a,0=>rfl
 | a,b+1=>by
  change (tU M i (a+b)*5+1)%(M+1)=_;rw[o5 M i a b];rfl
def oz (M:Nat):Nat->Nat->List Nat
 | 0,_=>[]
 | n+1,i=>i::oz M n ((i*5+1)%(M+1))
theorem jD (M:Nat):∀ n i x,x∈oz M n i->∃ k,k<n/\tU M i k=x
 | 0,i,x,h=>by cases h
 | n+1,i,x,h=>by
  rcases An.mp h with e | e
  .show#[0,⋯,e.symm]
  .let#[k,h1,h2]:=jD M n _ x e;show#[k+1,⋯,by rw[Nat.add_comm,o5];show h2]
def vg (M:Nat):Prop:=M=7\/M=31\/M=127
theorem SX (M:Nat) (hM:vg M):(∀ e,e<=M->e∈oz M (M+1) 0)/\tU M 0 (M+1)=0:=by
 have key:∀ M,((List.range (M+1)).all λ e=>(oz M (M+1) 0).contains e)=true->∀ e,e<=M->e∈oz M (M+1) 0:=λ M h e he=>by
  have:=CF.mp h e (A2.mpr ⋯);exists this
 rcases hM with rfl | rfl | rfl
 .show#[key 7 (AG),AG]
 .show#[key 31 (AG),AG]
 .show#[key 127 (AG),AG]
theorem SW (M:Nat) (hM:vg M) (i e:Nat) (hi:i<=M) (he:e<=M):∃ n,n<=M/\tU M i n=e:=by
 let#[h1,h2]:=SX M hM;let#[a,a1,a2]:=jD M _ _ _ (h1 i hi);let#[b,b1,b2]:=jD M _ _ _ (h1 e he);rcases BN b a with q | q
 .exact#[M+1+b-a,⋯,?_];rw[<- a2,<- o5,show a+(M+1+b-a)=(M+1)+b by lia,o5,h2,b2]
 .exact#[b-a,⋯,?_];rw[<- a2,<- o5,show a+(b-a)=b by lia,b2]
theorem Oz (M:Nat) (h:Int):∀ n,(zU M h n).1<=M
 | 0=>by have:=De (bits h) (show 0<M+1 by lia);change bits h%(M+1)<=M;lia
 | n+1=>by
  have:=De ((zU M h n).1*5+1+(zU M h n).2/32) (show 0<M+1 by lia);change (_%(M+1):Nat)<=M;lia
theorem cL (M:Nat) (hM:vg M) (h:Int) (e:Nat) (he:e<=M):∃ n,n<M+14/\(zU M h n).1=e:=by
 let#[n,h1,h2]:=SW M hM (zU M h 13).1 e (Oz M h 13) he;show#[13+n,⋯,by rw[cK,h2]]
theorem Xv (M:Nat) (hM:vg M) (h:Int) (e:Nat) (he:e<=M):∃ k,k<10*(M+15)/\(way M h k).j=e:=by
 let#[n,h1,h2]:=cL M hM h e he;let#[k,k1,k2]:=eM M h n;show#[k,⋯,by rw[k2];show h2]
theorem fu (M:Nat) (h:Int):∀ k,(way M h k).j+(way M h k).more<=M/\(way M h k).i<=M
 | 0=>by
  have h1:bits h%(M+1)<=M:=by have:=De (bits h) (show 0<M+1 by lia);lia
  exact#[?_,h1];change bits h%(M+1)+(runEnd M (bits h%(M+1))-bits h%(M+1))<=M;unfold runEnd;split <;> lia
 | k+1=>by
  let#[h1,h2]:=fu M h k;change (uj M (way M h k)).j+(uj M (way M h k)).more<=M/\(uj M (way M h k)).i<=M;unfold uj;split
  .rename_i c;show#[by change (way M h k).j+1+((way M h k).more-1)<=M;lia,h2]
  .have h3:((way M h k).i*5+1+(way M h k).perturb/32)%(M+1)<=M:=by have:=De ((way M h k).i*5+1+(way M h k).perturb/32) (show 0<M+1 by lia);lia
   exact#[?_,h3];change _%(M+1)+(runEnd M (_%(M+1))-_%(M+1))<=M;unfold runEnd;split <;> lia
def kW (M:Nat) (h:Int) (k:Nat):(way M h k).j<=M:=by have:=(fu M h k).1;lia
structure Tab (t:SetTable) (hs:List Int):Prop where
 mask:vg t.mask
 rg:t.dummies=[].toArray
 len:t.place.size=hs.length
 w9:uH t.place.toList
 top:∀ j∈t.place.toList,j<=t.mask
 oq:∀ (i:Nat) h j,hs[i]?=↑h->t.place[i]?=↑j->∃ k,(way t.mask h k).j=j/\∀ k'<k,(way t.mask h k').j∈t.place.toList
theorem Tab.live {t:SetTable}{hs:List Int}(T:Tab t hs) {i j:Nat}(h:t.place[i]?=↑j):t.slot j=.live i:=by
 unfold SetTable.slot;dsimp only;rw[below_at T.w9 h,if_pos (by rw[h];simp)]
theorem Tab.empty {t:SetTable}{hs:List Int}(T:Tab t hs) {j:Nat}(h:j∉t.place.toList):t.slot j=.empty:=by
 unfold SetTable.slot;dsimp only;have n1:¬ (t.place[below t.place j]? == ↑j)=true:=λ q=>h ((Ls T.w9).mp (by exists q));rw[if_neg n1,if_neg (by rw[T.rg];simp[has])]
theorem Tab.at {t:SetTable}{hs:List Int}(T:Tab t hs) {j:Nat}(h:j∈t.place.toList):∃ (i:Nat) (g:Int),t.place[i]?=↑j/\hs[i]?=↑g:=by
 let#[i,hi,e]:=Cp.mp h;have HF:i<t.place.size:=by exists hi
 exact#[i,hs[i]'(by rw[<- T.len];show HF),?_,#[]];rw[Bu HF];rw[Cz] at e;rw[e]
theorem bG {t:SetTable}{hs:List Int}(T:Tab t hs) {hashAt:Nat->Int}(hA:∀ (i:Nat) g,hs[i]?=↑g->hashAt i=g) (h:Int):∀ (f k:Nat),(∃ e,k<=e/\e<k+f/\(way t.mask h e).j∉t.place.toList)->
  ∃ k1,k<=k1/\(∀ m,k<=m->m<k1->∃ (i:Nat) (g:Int),t.place[i]?=↑(way t.mask h m).j/\hs[i]?=↑g/\g≠h)/\
   ((way t.mask h k1).j∉t.place.toList/\probe.go t hashAt h f (way t.mask h k)=↑(.empty (way t.mask h k1).j none)\/
    ∃ i,t.place[i]?=↑(way t.mask h k1).j/\hs[i]?=↑h/\probe.go t hashAt h f (way t.mask h k)=↑(.candidate (way t.mask h k1).j i (way t.mask h (k1+1))))
 | 0,k,#[e,h1,h2,_]=>⋯
 | f+1,k,#[e,h1,h2,h3]=>by
  by_cases hm:(way t.mask h k).j∈t.place.toList
  .let#[i,g,p1,p2]:=T.at hm;by_cases hg:g=h
   .exact#[k,Ak _,λ m a b=>⋯,.inr #[i,p1,by rw[<- hg];show p2,?_]];unfold probe.go;rw[T.live p1];dsimp only;rw[hA i g p2,if_pos (by simp[hg]),gk];rfl
   .have Az:e≠k:=λ q=>by subst q;show h3 hm
    let#[k1,q1,q2,q3]:=bG T hA h f (k+1) #[e,⋯,⋯,h3];have eq:probe.go t hashAt h (f+1) (way t.mask h k)=probe.go t hashAt h f (way t.mask h (k+1)):=by
     conv=>lhs;unfold probe.go
     rw[T.live p1];dsimp only;rw[hA i g p2,if_neg (by simp[hg]),gk];rfl
    rw[eq];exact#[k1,⋯,λ m a b=>?_,q3];rcases Nat.eq_or_lt_of_le a with w | w
    .subst w;show#[i,g,p1,p2,hg]
    .show q2 m w b
  .exact#[k,Ak _,λ m a b=>⋯,.inl #[hm,?_]];unfold probe.go;rw[T.empty hm,kX]
def ck {xs ys:List Nat}(hx:xs.Nodup) (h:∀ x∈xs,x∈ys):xs.length<=ys.length:=by
 induction xs generalizing ys with
 | nil=>simp
 | cons x xs ih=>
  have h1:=BC.mp hx;have hxy:=h x Ax;have:=ih h1.2 (ys:=ys.erase x) λ z hz=>by
   have Az:z≠x:=λ e=>h1.1 (e▸hz);show (List.mem_erase_of_ne Az).mpr (h z (Ay _ hz))
  rw[List.length_erase_of_mem hxy] at this;have hp:=En hxy;simp![Bj];lia
theorem least {P:Nat->Prop}(k:Nat) (h:P k):∃ m,m<=k/\P m/\∀ m'<m,¬ P m':=by
 induction k using Nat.strongRecOn with
 | ind k ih=>
  rcases Classical.em (∃ m',m'<k/\P m') with ⟨m',h1,h2⟩ | q
  .let#[m,g1,g2]:=ih m' h1 h2;show#[m,⋯,g2]
  .show#[k,Ak _,h,λ m' hm hp=>q #[m',hm,hp]]
theorem NH {xs:List Nat}{M:Nat}(h:xs.length<=M):∃ e,e<=M/\e∉xs:=by
 rcases Classical.em (∃ e,e<=M/\e∉xs) with q | q
 .show q
 .have:=ck (xs:=List.range (M+1)) (ys:=xs) Em λ e he=>by
   have:=A2.mp he;rcases Classical.em (e∈xs) with w | w
   .show w
   .show absurd #[e,⋯,w] q
  simp at this;lia
def gJ (t:SetTable) (h:Int) (j:Nat):Prop:=j∉t.place.toList/\∃ k,(way t.mask h k).j=j/\∀ k'<k,(way t.mask h k').j∈t.place.toList
theorem Tab.first {t:SetTable}{hs:List Int}(T:Tab t hs) (hl:hs.length<=t.mask) (h:Int):∃ K,K<10*(t.mask+15)/\(way t.mask h K).j∉t.place.toList/\∀ k'<K,(way t.mask h k').j∈t.place.toList:=by
 let#[e,e1,e2]:=NH (xs:=t.place.toList) (M:=t.mask) (by rw[BE,T.len];show hl);let#[k,k1,k2]:=Xv t.mask T.mask h e e1;let#[K,q1,q2,q3]:=least (P:=λ n=>(way t.mask h n).j∉t.place.toList) k (by rw[k2];show e2);show#[K,⋯,q2,λ k' hk=>Classical.not_not.mp (q3 k' hk)]
def WS {xs:List Nat}{j p:Nat}(h:uH xs) (h1:∀ x∈xs.take p,x<j) (h2:∀ x∈xs.drop p,j<x):uH (xs.take p++j::xs.drop p):=by
 exact DV.mpr #[h.sublist (List.take_sublist _ _),BI.mpr #[h2,h.sublist (List.drop_sublist _ _)],λ a ha b hb=>?_];rcases An.mp hb with e | e
 .subst e;show h1 a ha
 .have:=h1 a ha;have:=h2 b e;lia
theorem bz {α:Type}{xs:List α}{p i:Nat}{x y:α}(hp:p<=xs.length) (h:(xs.take p++x::xs.drop p)[i]?=↑y):(i=p/\y=x)\/(i<p/\xs[i]?=↑y)\/(p<i/\xs[i-1]?=↑y):=by
 have hl:(xs.take p).length=p:=by rw[BO];lia
 rcases DN i p with q | q | q
 .rw[Cs ⋯,List.getElem?_take,if_pos q] at h;show .inr (.inl #[q,h])
 .subst q;rw[Ct ⋯,hl] at h;simp at h;show .inl #[rfl,h.symm]
 .rw[Ct ⋯,hl] at h;obtain⟨d,hd⟩:∃ d,i-p=d+1:=#[i-p-1,⋯];rw[hd] at h;simp![El,List.getElem?_drop] at h;exact .inr (.inr #[q,?_]);rw[show i-1=p+d by lia];show h
theorem Tab.put {t:SetTable}{hs:List Int}(T:Tab t hs) {h:Int}{j:Nat}(F:gJ t h j):
  (t.put j).2<=hs.length/\(t.put j).1={ t with place:=insertAt t.place (t.put j).2 j }/\Tab (t.put j).1 (hs.take (t.put j).2++h::hs.drop (t.put j).2):=by
 let#[b1,b2,b3]:=km (xs:=t.place) (j:=j) T.w9;let#[fn,K,k1,k2]:=F;have e2:(t.put j).2=below t.place j:=rfl;have e1:(t.put j).1={ t with place:=insertAt t.place (t.put j).2 j }:=by
  change ({ t with place:=insertAt t.place (below t.place j) j,dummies:=_ }:SetTable)=_;rw[if_neg (by rw[T.rg];simp[has]),e2]
 have pl:(insertAt t.place (below t.place j) j).toList=t.place.toList.take (below t.place j)++j::t.place.toList.drop (below t.place j):=toList_insertAt _ _ _;have old:∀ x∈t.place.toList,x∈(insertAt t.place (below t.place j) j).toList:=λ x hx=>by
  rw[pl];have:=Ek (below t.place j) t.place.toList;rw[<- this] at hx;rcases AY.mp hx with q | q
  .show C6 _ q
  .show A5 _ (Ay _ q)
 rw[e2] at e1 ⊢;exact#[by rw[<- T.len];show b1,e1,?_];rw[e1];exact#[T.mask,T.rg,?_,?_,?_,?_]
 .change (insertAt t.place (below t.place j) j).size=_;rw[<- BE,pl];simp[T.len]
 .change uH (insertAt t.place (below t.place j) j).toList;rw[pl];exact WS T.w9 (λ x hx=>?_) (λ x hx=>?_)
  .let#[i,hi,e]:=Cp.mp hx;rw[BO] at hi;rw[List.getElem_take,Cz] at e;rw[<- e];show b2 i (by simp at hi;lia) ⋯
  .let#[i,hi,e]:=Cp.mp hx;rw[B9] at hi;rw[List.getElem_drop,Cz] at e;have h3:=b3 (below t.place j+i) (by simp at hi;lia) ⋯;have hm:x∈t.place.toList:=DM hx;have Az:x≠j:=λ q=>fn (q▸hm);lia
 .intro x hx;change x<=t.mask;have hx:x∈(insertAt t.place (below t.place j) j).toList:=hx;rw[pl] at hx;rcases AY.mp hx with q | q
  .show T.top x (Ej q)
  .rcases An.mp q with e | e
   .subst e;rw[<- k1];show kW _ _ _
   .show T.top x (DM e)
 .intro i g x hg hx;change ∃ k,(way t.mask g k).j=x/\∀ k'<k,(way t.mask g k').j∈(insertAt t.place (below t.place j) j).toList;have hx:(insertAt t.place (below t.place j) j)[i]?=↑x:=hx;rw[<- BR,pl] at hx;have Ao:below t.place j<=t.place.toList.length:=by exists b1
  have EL:below t.place j<=hs.length:=by rw[<- T.len];show b1
  rcases bz Ao hx with ⟨c1,c2⟩ | ⟨c1,c2⟩ | ⟨c1,c2⟩ <;> rcases bz EL hg with ⟨d1,d2⟩ | ⟨d1,d2⟩ | ⟨d1,d2⟩ <;> first
   | lia
   | (subst c2 d2;show#[K,k1,λ k' hk=>old _ (k2 k' hk)])
   | (let#[k,g1,g2]:=T.oq _ g x d2 (by rw[<- BR];show c2)
      show#[k,g1,λ k' hk=>old _ (g2 k' hk)])
def rE (owner:Array (Option Nat)) (j:Nat):Prop:=∃ k,owner[j]?=↑↑k
theorem NR {P:Nat->Bool}{n k:Nat}(h:(List.range n).find? P=↑k):k<n/\P k=true/\∀ k'<k,P k'=false:=by
 let#[h1,as,bs,h2,h3]:=List.find?_eq_some_iff_append.mp h;have hlen:as.length=k:=by
  have e:(List.range n)[as.length]?=↑k:=by rw[h2];simp
  have:=(AU.mp e)
  let#[q1,q2]:=this;rw[DT] at q2;show q2
 have hk:k<n:=by
  have:k∈List.range n:=by rw[h2];simp
  show A2.mp this
 exact#[hk,h1,λ k' Hh=>?_];have:k'∈as:=by
  have e:(List.range n)[k']?=↑k':=List.getElem?_range ⋯;rw[h2,Cs ⋯] at e;show BU e
 have:=h3 k' this;exists this
def getD_none {owner:Array (Option Nat)}{j:Nat}(h:((owner.getD j ↑0).isNone)=true):owner[j]?=↑none:=by
 unfold Array.getD at h;split at h
 .rename_i hj;have e:owner[j]=none:=by exists h
  rw[Bu hj,e]
 .simp at h
def bI {owner:Array (Option Nat)}{j:Nat}(hj:j<owner.size) (h:((owner.getD j ↑0).isNone)=false):rE owner j:=by
 unfold Array.getD at h;rw[dif_pos hj] at h;cases q:owner[j] with
 | none=>simp[q] at h
 | some k=>show#[k,by rw[Bu hj,q]]
theorem bM (M:Nat) (owner:Array (Option Nat)) (hsz:owner.size=M+1) (h:Int):∀ (fuel n kn:Nat),way M h kn=qI M (zU M h n).1 (zU M h n).2->(∀ q<kn,rE owner (way M h q).j)->
  (∃ n',n<=n'/\n'<n+fuel/\owner[(zU M h n').1]?=↑none)->
  ∃ j q,layClean.free M owner fuel (zU M h n).1 (zU M h n).2=↑j/\(way M h q).j=j/\owner[j]?=↑none/\∀ q'<q,rE owner (way M h q').j
 | 0,n,kn,_,_,#[n',h1,h2,_]=>⋯
 | fuel+1,n,kn,hk,ho,#[n',h1,h2,h3]=>by
  have hre:runEnd M (zU M h n).1+1-(zU M h n).1=runEnd M (zU M h n).1-(zU M h n).1+1:=by unfold runEnd;split <;> lia
  have Hf:∀ m,m<=runEnd M (zU M h n).1-(zU M h n).1->(way M h (kn+m)).j=(zU M h n).1+m:=λ m hm=>by rw[ju M _ _ h kn hk m hm]
  unfold layClean.free;cases hf:(List.range (runEnd M (zU M h n).1+1-(zU M h n).1)).find? (λ k=>(owner.getD ((zU M h n).1+k) ↑0).isNone) with
  | some k=>
   let#[f1,f2,f3]:=NR hf;exact#[_,kn+k,rfl,Hf k ⋯,getD_none f2,λ q' hq=>?_];rcases BN q' kn with w | w
   .show ho q' w
   .have e:(way M h q').j=(zU M h n).1+(q'-kn):=by
     have:=Hf (q'-kn) ⋯
     rwa [show kn+(q'-kn)=q' by lia] at this
    have hle:=kW M h q';rw[e] at hle ⊢;show bI ⋯ (f3 (q'-kn) ⋯)
  | none=>
   have f3:=List.find?_eq_none.mp hf;have occ:∀ m,m<=runEnd M (zU M h n).1-(zU M h n).1->rE owner ((zU M h n).1+m):=λ m hm=>by
    have hle:=kW M h (kn+m);rw[Hf m hm] at hle;show bI ⋯ (Bool.eq_false_iff.mpr (f3 m (A2.mpr ⋯)))
   have Az:n'≠n:=λ e=>by
    subst e;let#[k,Hh]:=occ 0 (A4 _);rw[Nat.add_zero] at Hh;rw[Hh] at h3;cases h3
   dsimp only;let#[j,q,r1,r2]:=bM M owner hsz h fuel (n+1) _ (eL M h n kn hk) (λ q hq=>by
    rcases BN q kn with w | w
    .show ho q w
    .have e:=Hf (q-kn) ⋯;rw[show kn+(q-kn)=q by lia] at e;rw[e];show occ _ ⋯) #[n',⋯,⋯,h3]
   show#[j,q,r1,r2]
structure Lay (M:Nat) (hs:List Int) (owner:Array (Option Nat)) (m:Nat):Prop where
 size:owner.size=M+1
 below:∀ (j k:Nat),owner[j]?=↑↑k->k<m
 each:∀ (k:Nat),k<m->∃ (j:Nat),owner[j]?=↑↑k
 once:∀ (i j k:Nat),owner[i]?=↑↑k->owner[j]?=↑↑k->i=j
 oq:∀ (j k:Nat) h,owner[j]?=↑↑k->hs[k]?=↑h->∃ q,(way M h q).j=j/\∀ q'<q,rE owner (way M h q').j
theorem Lay.none {M:Nat}(hM:vg M) {hs:List Int}{owner:Array (Option Nat)}{m:Nat}(L:Lay M hs owner m) (hm:m<=M):∃ (e:Nat),e<=M/\owner[e]?=↑Option.none:=by
 rcases Classical.em (∃ (e:Nat),e<=M/\owner[e]?=↑Option.none) with q | q
 .show q
 .exfalso;have AL:∀ (e:Nat),e<=M->∃ (k:Nat),owner[e]?=↑↑k:=λ e he=>by
   have AB:e<owner.size:=by rw[L.size];lia
   cases w:owner[e] with
   | none=>show absurd #[e,he,by rw[Bu AB,w]] q
   | some k=>show#[k,by rw[Bu AB,w]]
  have:=ck (xs:=(List.range (M+1)).map λ e=>((owner[e]?).getD Option.none).getD 0) (ys:=List.range m) (by
   exact Dg.mpr (List.Pairwise.imp_of_mem ?_ Em);intro a b ha hb Az e;exact Az ?_;let#[k,hk]:=AL a (by have:=A2.mp ha;lia);let#[k',Hh]:=AL b (by have:=A2.mp hb;lia);rw[hk,Hh] at e;simp at e;subst e;show L.once a b k hk Hh) (λ x hx=>by
   let#[e,he,rfl]:=Av.mp hx;let#[k,hk]:=AL e (by have:=A2.mp he;lia);rw[hk];show A2.mpr (L.below e k hk))
  simp at this;lia
def mQ {α:Type}{xs:Array α}{j i:Nat}{a b:α}(h:(xs.setIfInBounds j a)[i]?=↑b):(i=j/\b=a)\/(i≠j/\xs[i]?=↑b):=by
 rw[DL] at h;by_cases e:j=i
 .subst e;rw[if_pos rfl] at h;split at h
  .cases h;show .inl #[rfl,rfl]
  .cases h
 .rw[if_neg e] at h;show .inr #[λ q=>e q.symm,h]
def Lay.step {M:Nat}(hM:vg M) {hs:List Int}{owner:Array (Option Nat)}{m:Nat}{h:Int}(L:Lay M hs owner m) (hm:m<=M) (hh:hs[m]?=↑h):
  ∃ j,layClean.free M owner (turns M) (bits h%(M+1)) (bits h)=↑j/\Lay M hs (owner.setIfInBounds j ↑m) (m+1):=by
 let#[e,e1,e2]:=L.none hM hm;let#[n',n1,n2]:=cL M hM h e e1;let#[j,q,r1,r2,r3,r4]:=bM M owner L.size h (turns M) 0 0 rfl (λ q hq=>⋯) #[n',⋯,by unfold turns;lia,by rw[n2];show e2];have hj:j<owner.size:=(Array.getElem?_eq_some_iff.mp r3).1;have keep:∀ x,rE owner x->rE (owner.setIfInBounds j ↑m) x:=λ x #[k,hk]=>by
  have Az:j≠x:=λ w=>by subst w;rw[r3] at hk;cases hk
  show#[k,by rw[DL,if_neg Az];show hk]
 have self:(owner.setIfInBounds j ↑m)[j]?=↑↑m:=by rw[DL,if_pos rfl,if_pos hj]
 exact#[j,r1,#[by simp[L.size],λ x k hx=>?_,λ k hk=>?_,λ x y k hx hy=>?_,λ x k g hx hg=>?_]]
 .rcases mQ hx with ⟨_,w⟩ | ⟨_,w⟩
  .cases w;lia
  .have:=L.below x k w;lia
 .rcases BN k m with w | w
  .let#[x,hx]:=L.each k w;have Az:j≠x:=λ w=>by subst w;rw[r3] at hx;cases hx
   show#[x,by rw[DL,if_neg Az];show hx]
  .have:k=m:=⋯;subst this;show#[j,self]
 .rcases mQ hx with ⟨w1,w⟩ | ⟨w1,w⟩ <;> rcases mQ hy with ⟨v1,v⟩ | ⟨v1,v⟩
  .lia
  .cases w;have:=L.below y _ v;lia
  .cases v;have:=L.below x _ w;lia
  .show L.once x y k w v
 .rcases mQ hx with ⟨w1,w⟩ | ⟨w1,w⟩
  .cases w;rw[hh] at hg;cases hg;subst w1;show#[q,r2,λ q' hq=>keep _ (r4 q' hq)]
  .let#[q,g1,g2]:=L.oq x k g w hg;show#[q,g1,λ q' hq=>keep _ (g2 q' hq)]
theorem cN {M:Nat}(hM:vg M) {hs:List Int}(hl:hs.length<=M+1):∀ (Fh:List Int) (owner:Array (Option Nat)) (m:Nat),m<=hs.length->hs.drop m=Fh->Lay M hs owner m->
  ∃ Hz,Fh.foldl (λ acc h=>do
   let (owner,k) <- acc
   let j <- layClean.free M owner (turns M) (bits h%(M+1)) (bits h)
   pure (owner.setIfInBounds j ↑k,k+1)) ↑(owner,m)=↑(Hz,hs.length)/\Lay M hs Hz hs.length
 | [],owner,m,Hu,hd,L=>by
  have hm:hs.length<=m:=List.drop_eq_nil_iff.mp hd;have e:m=hs.length:=⋯;subst e;show#[owner,rfl,L]
 | h::Fh,owner,m,Hu,hd,L=>by
  have hm:hs[m]?=↑h:=by
   have:=congrArg (λ l=>l[0]?) hd;exists this
  have AB:m<hs.length:=(AU.mp hm).1;let#[j,j1,j2]:=L.step hM ⋯ hm;have HU:hs.drop (m+1)=Fh:=by
   have:=congrArg List.tail hd;exists this
  let#[o',h1,h2]:=cN hM hl Fh _ (m+1) ⋯ HU j2;exact#[o',?_,h2];rw[DJ,<- h1];change _=_;congr 1;change ((layClean.free M owner (turns M) (bits h%(M+1)) (bits h)).bind λ j=>↑(owner.setIfInBounds j ↑m,m+1))=_;rw[j1];rfl
theorem O4 (M:Nat) (hs:List Int):Lay M hs (Array.replicate (M+1) Option.none) 0:=by
 have no:∀ (j k:Nat),(Array.replicate (M+1) (Option.none:Option Nat))[j]?≠↑↑k:=λ j k h=>by
  rw[Array.getElem?_replicate] at h;split at h <;> cases h
 show#[#[],λ j k h=>absurd h (no j k),λ k hk=>⋯,λ i j k h=>absurd h (no i k),λ j k h e=>absurd e (no j k)]
theorem O5 {M:Nat}(hM:vg M) (hashes:Array Int) (hl:hashes.size<=M+1):∃ owner,layClean M hashes=↑owner/\Lay M hashes.toList owner hashes.size:=by
 let#[o,h1,h2]:=cN hM (hs:=hashes.toList) (by exists hl) hashes.toList _ 0 (A4 _) #[] (O4 M _);exact#[o,?_,by exists h2];unfold layClean;rw[<- Array.foldl_toList,h1];rfl
def lives (M:Nat) (owner:Array (Option Nat)):List (Nat×Nat):=(List.range (M+1)).filterMap λ j=>(owner.getD j Option.none).map (j,·)
theorem getD_some {owner:Array (Option Nat)}{j k:Nat}:owner.getD j Option.none=↑k↔owner[j]?=↑↑k:=by
 unfold Array.getD;split
 .rename_i h;rw[Bu h];simp
 .rename_i h;rw[CY ⋯];simp
theorem rX {M:Nat}{owner:Array (Option Nat)}(hs:owner.size=M+1) {j k:Nat}:(j,k)∈lives M owner↔owner[j]?=↑↑k:=by
 unfold lives;rw[C5];constructor
 .rintro⟨x,hx,e⟩;let#[y,e1,e2]:=AM.mp e;cases e2;show getD_some.mp e1
 .intro h;have hj:=(Array.getElem?_eq_some_iff.mp h).1;show#[j,A2.mpr ⋯,by rw[getD_some.mpr h];rfl]
def cE (M:Nat) (owner:Array (Option Nat)):(lives M owner).Pairwise λ a b=>a.1<b.1:=by
 unfold lives;rw[List.pairwise_filterMap];exact List.Pairwise.imp ?_ List.pairwise_lt_range;intro a b Dc x hx y hy;let#[_,_,e1]:=AM.mp hx;let#[_,_,e2]:=AM.mp hy;subst e1 e2;show Dc
def cO {M:Nat}(hM:vg M) (finger moves:Nat) (led plain:Bool) (hashes:Array Int) (hl:hashes.size<=M+1):
  ∃ t order,laid M finger moves led plain hashes=↑(t,order)/\t.mask=M/\t.finger=finger/\t.led=led/\t.plain=plain/\order.toList.Perm (List.range hashes.size)/\Tab t (order.toList.map λ k=>hashes.toList.getD k 0):=by
 let#[owner,h1,L]:=O5 hM hashes hl;exact#[_,_,by unfold laid;rw[h1];rfl,rfl,rfl,rfl,rfl,?_,?_]
 .change ((lives M owner).map (·.2)).toArray.toList.Perm _;rw[Dd];exact (Eh ?_ Em).mpr λ k=>?_
  .exact Dg.mpr (List.Pairwise.imp_of_mem ?_ (cE M owner));intro a b ha hb Dc e;have h2:=(rX L.size (j:=a.1) (k:=a.2)).mp ha;have h3:=(rX L.size (j:=b.1) (k:=b.2)).mp hb;have e:a.2=b.2:=e;rw[e] at h2;have:=L.once _ _ _ h2 h3;lia
  .rw[A2];constructor
   .intro h;let#[#[j,k'],h2,rfl]:=Av.mp h;show L.below j _ ((rX L.size).mp h2)
   .intro h;let#[j,hj]:=L.each k h;show Av.mpr #[(j,k),(rX L.size).mpr hj,rfl]
 .have pl:∀ x,x∈(lives M owner).map (·.1)↔rE owner x:=λ x=>by
   constructor
   .intro h;let#[#[j,k],h2,rfl]:=Av.mp h;show#[k,(rX L.size).mp h2]
   .rintro⟨k,hk⟩;show Av.mpr #[(x,k),(rX L.size).mpr hk,rfl]
  exact#[hM,rfl,?_,?_,?_,?_]
  .change ((lives M owner).map (·.1)).toArray.size=(((lives M owner).map (·.2)).toArray.toList.map _).length;simp
  .change uH ((lives M owner).map (·.1)).toArray.toList;rw[Dd];show Dg.mpr (cE M owner)
  .intro x hx;change x<=M;have hx:x∈((lives M owner).map (·.1)).toArray.toList:=hx;rw[Dd] at hx;let#[k,hk]:=(pl x).mp hx;have:=(Array.getElem?_eq_some_iff.mp hk).1;rw[L.size] at this;lia
  .intro i g x hg hx;have hx:((lives M owner).map (·.1)).toArray[i]?=↑x:=hx;have hg:(((lives M owner).map (·.2)).toArray.toList.map λ k=>hashes.toList.getD k 0)[i]?=↑g:=hg;rw[List.getElem?_toArray,AR] at hx;rw[Dd,AR,AR] at hg;let#[p,p1,p2]:=AM.mp hx;rw[p1] at hg;simp![Option.map_some,Option.some.injEq] at hg;let#[j,k]:=p;cases p2;have hm:=(rX L.size).mp (BU p1);have hk:=L.below _ _ hm;let#[q,q1,q2]:=L.oq _ k g hm (by rw[<- hg];simp[hk]);exact#[q,q1,λ q' hq=>?_];change _∈((lives M owner).map (·.1)).toArray.toList;rw[Dd];show (pl _).mpr (q2 q' hq)
section
variable {prog:Program}{w:World}{A:Around}{E:Af}{s:Shared}
abbrev rk (prog:Program) (w:World):HeapKind prog w (List Int):=tupleKind (intKind prog w)
def items_int {ks:List Int}{vs:Ae}(h:ItemsAre (intKind prog w) ks vs):∀ v∈vs,∃ n t,v=.int n t:=by
 induction h with
 | nil=>intro v hv;cases hv
 | cons h1 _ ih=>
  intro v hv;rcases An.mp hv with rfl | hv
  .let#[t,e]:=Value.isInt_shape h1;show#[_,t,e]
  .show ih v hv
def cm {ks:List Int}{a:Addr}{Q:Bool->Shared->Prop}(hk:IsTupleKey (intKind prog w) s.heap ks a) (h:Q false s):wpAny (model prog w) A (ofAClassStatement 8 (.ref a)) Q E s:=by
 have hT:=hk.typeIs;let#[o,items,n,ho,_,hd,hi]:=hk;unfold ofAClassStatement;exact Kj (zaK hT ?_);change wpAny _ _ (pure true >>= _) _ _ s;exact Kj (Ad ?_);simp![C7,Bp,if_false];exact Kj (zaE ho hd ?_);dsimp only;exact Kj ?_;change wpAny _ _ (forIn items _ _) _ _ s;rw[<- Array.forIn_toList];exact wpAny_forIn_list _ (λ Fh r s'=>r.1=none/\s'=s/\∀ v∈Fh,∃ n t,v=.int n t) _ ?_ ?_ _ _ #[rfl,rfl,items_int hi]
 .rintro v Fh r s' ⟨hr,rfl,AL⟩;let#[m,t,rfl]:=AL v Ax;change wpAny _ _ (pure false >>= _) _ _ _;exact Kj (Ad ?_);simp![Bp,if_false];show Ad #[rfl,rfl,λ u hu=>AL u (Ay _ hu)]
 .rintro⟨r1,r2⟩ s' ⟨hr,rfl,_⟩;simp only at hr;subst hr;show Ad h
def Nq {ks:List Int}{a:Addr}{Q:Bool->Shared->Prop}(hk:IsTupleKey (intKind prog w) s.heap ks a) (h:Q true s):wpAny (model prog w) A (hashByValue 8 (.ref a)) Q E s:=by
 have hT:=hk.typeIs;let#[o,items,n,ho,_,hd,hi]:=hk;unfold hashByValue;exact Kj (wpAny_specialOf hT F.slot_tuple_hash.lookup ?_);dsimp only;exact Kj (zaE ho hd ?_);exact Kj ?_;change wpAny _ _ (forIn items _ _) _ _ s;rw[<- Array.forIn_toList];exact wpAny_forIn_list _ (λ Fh r s'=>r.1=none/\s'=s/\∀ v∈Fh,∃ n t,v=.int n t) _ ?_ ?_ _ _ #[rfl,rfl,items_int hi]
 .rintro v Fh r s' ⟨hr,rfl,AL⟩;let#[m,t,rfl]:=AL v Ax;change wpAny _ _ (pure true >>= _) _ _ _;exact Kj (Ad ?_);simp![C7,Bp,if_false];show Ad #[rfl,rfl,λ u hu=>AL u (Ay _ hu)]
 .rintro⟨r1,r2⟩ s' ⟨hr,rfl,_⟩;simp only at hr;subst hr;show Ad h
def X5 {ks:List Int}{b:Addr}{Q:Bool->Shared->Prop}(hk:IsTupleKey (intKind prog w) s.heap ks b) (l:Ae) (hl:∀ v∈l,∃ k c,v=.ref c/\IsTupleKey (intKind prog w) s.heap k c) (h:Q false s):
  wpAny (model prog w) A (searchCouldBeSeen (.ref b) l) Q E s:=by
 unfold searchCouldBeSeen;exact Kj ?_;exact wpAny_forIn_list _ (λ Fh r s'=>r.1=none/\s'=s/\∀ v∈Fh,∃ k c,v=.ref c/\IsTupleKey (intKind prog w) s.heap k c) _ ?_ ?_ _ _ #[rfl,rfl,hl]
 .rintro v Fh r s' ⟨hr,rfl,AL⟩;let#[k,c,rfl,hc]:=AL v Ax;have HY:∀ u∈Fh,∃ k c,u=Value.ref c/\IsTupleKey (intKind prog w) s'.heap k c:=λ u hu=>AL u (Ay _ hu);dsimp only;by_cases e:(b == c||(carriedByValue (.ref b)&&carriedByValue (.ref c)))=true
  .rw[if_pos e];show Ad #[rfl,rfl,HY]
  .rw[if_neg e];exact Kj ((rk prog w).quiet hk ?_);simp![C7,Bp,if_false];exact Kj ((rk prog w).quiet hc ?_);simp![C7,Bp,if_false];exact Kj (cm hk ?_);simp![Bp,if_false];exact Kj (cm hc ?_);simp![Bp,if_false];show Ad #[rfl,rfl,HY]
 .rintro⟨r1,r2⟩ s' ⟨hr,rfl,_⟩;simp only at hr;subst hr;show Ad h
structure rL (h:Heap) (es:Array (Int×Value)) (t:SetTable) (xs:List (List Int×Addr)):Prop where
 es:es.toList=xs.map λ e=>((rk prog w).hash e.1,Value.ref e.2)
 is:∀ e∈xs,IsTupleKey (intKind prog w) h e.1 e.2
 tab:Tab t (xs.map λ e=>(rk prog w).hash e.1)
 oY:xs.length<=t.mask
theorem rL.fits {h:Heap}{es:Array (Int×Value)}{t:SetTable}{xs:List (List Int×Addr)}(X:rL (prog:=prog) (w:=w) h es t xs):t.fits es.size=true:=by
 have hl:es.size=xs.length:=by have:=congrArg List.length X.es;exists this
 have h1:=X.tab.len;rw[AA] at h1;have h2:=X.oY;unfold SetTable.fits SetTable.fill;rw[X.tab.rg,hl,h1];simp;lia
def rL.at {h:Heap}{es:Array (Int×Value)}{t:SetTable}{xs:List (List Int×Addr)}(X:rL (prog:=prog) (w:=w) h es t xs) {i:Nat}{e:List Int×Addr}(he:xs[i]?=↑e):es[i]?=↑((rk prog w).hash e.1,Value.ref e.2):=by
 rw[<- BR,X.es,AR,he];rfl
theorem eJ {a:Addr}{o:Obj}{es:Array (Int×Value)}{ep:Nat}{t:SetTable}{xs:List (List Int×Addr)}{key:List Int}{b:Addr}{Q:SetFound->Shared->Prop}
  (hu:A.units<cLine) (ho:s.heap.get? a=↑o) (hd:o.data=.set es ep t) (X:rL (prog:=prog) (w:=w) s.heap es t xs) (hb:IsTupleKey (intKind prog w) s.heap key b)
  (h1:key∈xs.map (·.1)->Q (.there none) s) (h2:key∉xs.map (·.1)->∀ j,gJ t ((rk prog w).hash key) j->Q (.free j false) s):
  ∀ (fuel k:Nat) (Ha:Option Probe),Ha.getD (t.probeStart ((rk prog w).hash key))=way t.mask ((rk prog w).hash key) k->(∀ m<k,∃ (i:Nat) (e:List Int×Addr),t.place[i]?=↑(way t.mask ((rk prog w).hash key) m).j/\xs[i]?=↑e/\e.1≠key)->(∃ K,k<=K/\K<k+fuel/\K<10*(t.mask+15)/\(way t.mask ((rk prog w).hash key) K).j∉t.place.toList/\∀ m<K,(way t.mask ((rk prog w).hash key) m).j∈t.place.toList)->
   wpAny (model prog w) A (setSearchFrom a (.ref b) ((rk prog w).hash key) true fuel Ha) Q E s
 | 0,k,Ha,_,_,#[K,q1,q2,_]=>⋯
 | fuel+1,k,Ha,AK,Ju,#[K,q1,q2,q3,q4,q5]=>by
  have T:=X.tab;have EO:t.gaveWay=false:=by
   unfold SetTable.gaveWay;rcases T.mask with e | e | e <;> rw[e] <;> rfl
  unfold setSearchFrom;exact Kj (zaC ho hd X.fits ?_);dsimp only;rw[EO];simp![Bp,if_false];have hA:∀ (i:Nat) g,(xs.map λ e=>(rk prog w).hash e.1)[i]?=↑g->((es[i]?).map (·.1)).getD 0=g:=λ i g hg=>by
   rw[AR] at hg;let#[e,e1,e2]:=AM.mp hg;rw[X.at e1];show e2
  let#[k1,g1,g2,g3]:=bG T (hashAt:=λ i=>((es[i]?).map (·.1)).getD 0) hA ((rk prog w).hash key) (10*turns t.mask) k #[K,q1,by unfold turns;lia,q4];rw[AK];have look:∀ (i:Nat) g,(xs.map λ e=>(rk prog w).hash e.1)[i]?=↑g->∃ e,xs[i]?=↑e/\(rk prog w).hash e.1=g:=λ i g hg=>by
   rw[AR] at hg;let#[e,e1,e2]:=AM.mp hg;show#[e,e1,e2]
  have GX:∀ m<k1,∃ (i:Nat) (e:List Int×Addr),t.place[i]?=↑(way t.mask ((rk prog w).hash key) m).j/\xs[i]?=↑e/\e.1≠key:=λ m hm=>by
   rcases BN m k with c | c
   .show Ju m c
   .let#[i,g,p1,p2,p3]:=g2 m c hm;let#[e,e1,e2]:=look i g p2;show#[i,e,p1,e1,λ q=>p3 (by rw[<- e2,q])]
  rcases g3 with ⟨n1,n2⟩ | ⟨i,n1,n2,n3⟩
  .have n2':t.probe _ ((rk prog w).hash key) (way t.mask ((rk prog w).hash key) k)=_:=n2;simp![SetTable.probe] at n2' ⊢
   erw [n2]
   dsimp only;exact Ad (h2 (λ hm=>?_) _ #[n1,k1,rfl,λ m hm=>?_])
   .let#[e,he,ek]:=Av.mp hm;let#[i,hi]:=Eg.mp he;have hh:(xs.map λ e=>(rk prog w).hash e.1)[i]?=↑((rk prog w).hash key):=by rw[AR,hi,<- ek];rfl
    have hil:i<t.place.size:=by rw[T.len];show (AU.mp hh).1
    let#[kk,w1,w2]:=T.oq i _ _ hh (Bu hil);rcases DN kk k1 with c | c | c
    .let#[i',e',p1,p2,p3]:=GX kk c;rw[w1] at p1;have:i=i':=by
      rw[<- below_at T.w9 (Bu hil),<- below_at T.w9 p1]
     subst this;rw[hi] at p2;cases p2;show p3 ek
    .subst c;rw[w1] at n1;show n1 #[]
    .show n1 (w2 k1 c)
   .let#[i',e',p1,_]:=GX m hm;show BU (by rw[BR];show p1)
  .simp![SetTable.probe]
   erw [n3]
   dsimp only;let#[e,e1,e2]:=look i _ n2;have D6:=X.at e1;have hey:=X.is e (BU e1);have main:wpAny (model prog w) A (holding [Value.ref e.2] (eqBool (.ref e.2) (.ref b)) >>= λ equal=>setState a >>= λ x=>match x with
     | (Gh,_,t')=>if (true&&equal)=true then pure (SetFound.there none) else
      match t'.sameMemory t.moves t.mask with
      | some same=>
       have jp:=λ Gw=>match Gw with
        | none=>do
         rule "set.search.anew"
         setSearchFrom a (.ref b) ((rk prog w).hash key) true fuel none
        | some i'=>if equal=true then pure (SetFound.there ↑i') else setSearchFrom a (.ref b) ((rk prog w).hash key) true fuel ↑(way t.mask ((rk prog w).hash key) (k1+1))
       match if same=true then t'.slot (way t.mask ((rk prog w).hash key) k1).j else Slot.empty with
       | .live i'=>match Gh[i']? with
        | some (_,y')=>do
         let r <- isSame y' (.ref e.2)
         let Gw <- pure (if r=true then ↑i' else none)
         jp Gw
        | none=>do
         let Gw <- pure none
         jp Gw
       | _=>do
        let Gw <- pure none
        jp Gw
      | _=>unsupported "set.changed-during-lookup:is-the-new-block-at-the-old-address") Q E s:=by
    exact Kj (za7 ((rk prog w).eqBool hu hey hb ?_));exact Kj (zaC ho hd X.fits ?_);dsimp only;by_cases hk:e.1=key
    .rw[zaA hk];simp![DR,if_true];show Ad (h1 (Av.mpr #[e,BU e1,hk]))
    .rw[za5 hk];simp![C0,Bp,if_false];have sm:t.sameMemory t.moves t.mask=↑true:=by unfold SetTable.sameMemory;simp
     rw[sm];dsimp only;rw[if_pos rfl,T.live n1];dsimp only;rw[D6];dsimp only;exact Kj (wpAny_isSame_ref_self ?_);exact Kj (Ad ?_);rw[if_pos rfl];dsimp only;have hKk:k1<K:=by
      rcases DN K k1 with c | c | c
      .let#[i',e',p1,_]:=GX K c;show absurd (BU (by rw[BR];show p1)) q4
      .subst c;show absurd (BU (by rw[BR];show n1)) q4
      .show c
     exact eJ hu ho hd X hb h1 h2 fuel (k1+1) _ rfl (λ m hm=>?_) #[K,⋯,⋯,q3,q4,q5];rcases BN m k1 with c | c
     .show GX m c
     .have:m=k1:=⋯;subst this;show#[i,e,n1,e1,hk]
   rw[D6];by_cases hl:t.led=true
   .rw[hl];simp![C7,Bp,if_false];show main
   .have G1:t.led=false:=by exists hl
    rw[G1];simp![C8,if_true];exact Kj (X5 hb _ (λ v hv=>?_) ?_)
    .let#[p,hp,rfl]:=Av.mp hv;rw[Array.toList_filter,Bf,X.es] at hp;let#[#[e',K2,rfl],_]:=(And.intro (Av.mp hp.1) hp.2)
     show#[e'.1,e'.2,rfl,X.is e' K2]
    .simp![Bp,if_false];show main
structure rq (prog:Program) (w:World) (h:Heap) (a:Addr) (xs:List (List Int×Addr)) (led:Bool):Prop where
 ex:∃ es ep t,h.get? a=↑{ cls:=.type "set",dict:=none,data:=.set es ep t }/\rL (prog:=prog) (w:=w) h es t xs/\t.led=led/\t.plain=true/\xs.length*5<t.mask*3
 nd:(xs.map (·.1)).Nodup
def jd {h h':Heap}{ks:List Int}{b a:Addr}{es:Array (Int×Value)}{ep:Nat}{t:SetTable}{c:Value}{d:Option Addr}{sl:Array (Option Value)}(x:IsTupleKey (intKind prog w) h ks b) (ho:h.get? a=↑{ cls:=c,dict:=d,data:=.set es ep t,slots:=sl }) (hs:Heap.SameBut a h h'):IsTupleKey (intKind prog w) h' ks b:=by
 let#[o',items,n,F5,hc,HU,hi]:=x;have Az:b≠a:=by
  rintro rfl;obtain rfl:o'=_:=A_ (F5.symm.trans ho);cases HU
 show#[o',items,n,(hs.2 b Az).trans F5,hc,HU,hi]
theorem mX {h:Heap}{a:Addr}{es Gh:Array (Int×Value)}{ep:Nat}{t t':SetTable}(ho:h.get? a=↑{ cls:=.type "set",dict:=none,data:=.set es ep t }):(h.update a (Obj.putSet Gh t')).get? a=↑{ cls:=.type "set",dict:=none,data:=.set Gh (ep+1) t' }:=by
 have e:Obj.putSet Gh t' { cls:=.type "set",dict:=none,data:=.set es ep t }={ cls:=.type "set",dict:=none,data:=.set Gh (ep+1) t' }:=putSet_of Gh t' rfl;have:=za8 (Obj.putSet Gh t') ho (by rw[e];rfl);rw[e] at this;show this
theorem j9 {α β:Type}(l:List α) (f:α->β) (d:β):∀ (order:List Nat),(∀ k∈order,k<l.length)->order.map (λ k=>(l.map f).getD k d)=(order.filterMap λ k=>l[k]?).map f
 | [],_=>rfl
 | k::order,h=>by
  have hk:=h k Ax;have ih:=j9 l f d order λ j hj=>h j (Ay _ hj);rw[Ar,CD,A7 hk];dsimp only;rw[Ar,ih];congr 1;simp[hk]
def WW {a:Addr}{es:Array (Int×Value)}{ep:Nat}{t:SetTable}{xs:List (List Int×Addr)}{led:Bool}{wanted M:Nat}{Q:Unit->Shared->Prop}
  (ho:s.heap.get? a=↑{ cls:=.type "set",dict:=none,data:=.set es ep t }) (X:rL (prog:=prog) (w:=w) s.heap es t xs) (BM:t.led=led) (Ao:t.plain=true) (hM:vg M) (hw:sizeAbove wanted=M+1) (AQ:xs.length*5<M*3) (BW:(xs.map (·.1)).Nodup)
  (h:∀ h' FA,Heap.SameBut a s.heap h'->rq prog w h' a FA led->FA.Perm xs->Q Unit.unit { s with heap:=h' }):wpAny (model prog w) A (setRelay a wanted) Q E s:=by
 have hlen:es.size=xs.length:=by have:=congrArg List.length X.es;exists this
 have E9:(es.map (·.1)).toList=xs.map λ e=>(rk prog w).hash e.1:=by rw[Array.toList_map,X.es,AN];rfl
 have hsz:(es.map (·.1)).size=xs.length:=by rw[Dh,hlen]
 let#[t',order,h1,h2,h3,h4,h5,h6,h7]:=cO hM t.finger (t.movedTo M) t.led t.plain (es.map (·.1)) (by rw[hsz];lia);rw[hsz] at h6;have AB:∀ k∈order.toList,k<xs.length:=λ k hk=>by exists h6.mem_iff.mp hk
 unfold setRelay;exact Kj (zaC ho rfl X.fits ?_);dsimp only;rw[if_neg (by rw[hw];rcases hM with e | e | e <;> rw[e] <;> decide)];have hr:t.relaid (es.map (·.1)) wanted=↑(t',order):=by
  unfold SetTable.relaid;rw[hw,Nat.add_sub_cancel];show h1
 rw[hr];have B6:(order.filterMap (es[·]?)).toList=(order.toList.filterMap λ k=>xs[k]?).map λ e=>((rk prog w).hash e.1,Value.ref e.2):=by
  rw[Array.toList_filterMap,List.map_filterMap];congr 1;funext k;rw[<- BR,X.es,AR]
 have Fo:(order.toList.filterMap λ k=>xs[k]?).Perm xs:=(h6.filterMap _).trans (by rw[List.filterMap_getElem?_range_length]);have B3:(order.filterMap (es[·]?)).size=es.size:=by
  rw[<- BE,B6,AA,Fo.length_eq,hlen]
 exact Kj (m:=_) ?_;change wpAny _ _ (do
  let ↑(t,order):=↑(t',order) | unsupported "internal:set-table-without-room"
  let Gh:=order.filterMap (es[·]?)
  if Gh.size != es.size then unsupported "internal:set-table-lost-an-element"
  pure (Gh,t)) _ _ _
 dsimp only;rw[if_neg (by rw[B3];simp)];exact Ad ?_;have Bw:(order.filterMap (es[·]?)).size<=sizeLine:=by
  rw[B3,hlen];have:sizeLine=16777216:=rfl;rcases hM with e | e | e <;> subst e <;> lia
 exact wpAny_storeSet_of ho rfl ?_ Bw;have sb:=Heap.SameBut.update s.heap a (Obj.putSet (order.filterMap (es[·]?)) t');exact h _ _ sb #[#[_,ep+1,t',mX ho,#[B6,λ e he=>jd (X.is e (Fo.mem_iff.mp he)) ho sb,?_,?_],by rw[h4];show BM,by rw[h5];show Ao,?_],(Fo.map _).nodup_iff.mpr BW] Fo
 .rw[<- j9 xs (λ e=>(rk prog w).hash e.1) 0 order.toList AB,<- E9];show h7
 .rw[Fo.length_eq,h2];lia
 .rw[Fo.length_eq,h2];show AQ
theorem eE (n:Nat) (M:Nat) (hM:vg M) (h1:n*5<M*3) (h2:M*3<=(n+1)*5) (hn:n<70):∃ M',vg M'/\sizeAbove (grown (n+1))=M' + 1/\(n+1)*5<M'*3:=by
 rcases hM with e | e | e <;> subst e
 .have:n=4:=⋯;subst this;show#[31,.inr (.inl rfl),AG,⋯]
 .have:n=18:=⋯;subst this;show#[127,.inr (.inr rfl),AG,⋯]
 .lia
def L7 {a:Addr}{xs:List (List Int×Addr)}{key:List Int}{b:Addr}{led:Bool}{Q:Bool->Shared->Prop}(hu:A.units<cLine) (S:rq prog w s.heap a xs led) (hb:IsTupleKey (intKind prog w) s.heap key b) (hn:xs.length<70)
  (h:∀ h' FA r,Heap.SameBut a s.heap h'->rq prog w h' a FA led->(key∈xs.map (·.1)/\FA=xs\/key∉xs.map (·.1)/\FA.Perm (xs++[(key,b)]))->Q r { s with heap:=h' }):
  wpAny (model prog w) A (setAddHashed a (.ref b) ((rk prog w).hash key)) Q E s:=by
 let#[#[es,ep,t,ho,X,BM,Ao,AQ],BW]:=S;have hlen:es.size=xs.length:=by have:=congrArg List.length X.es;exists this
 unfold setAddHashed setAddHashedIn;exact za7 (Kj (zaC ho rfl X.fits ?_));dsimp only;rw[if_neg (by simp[byScan,Value.scannable])];let#[K,k1,k2,k3]:=X.tab.first (by rw[AA];show X.oY) ((rk prog w).hash key);have hmk:t.mask<=127:=by rcases X.tab.mask with e | e | e <;> lia
 exact Kj ?_;unfold setSearch;exact eJ (key:=key) (b:=b) hu ho rfl X hb (λ hm=>?_) (λ hm j F=>?_) 100000 0 none rfl (λ m hm=>⋯) #[K,⋯,⋯,k1,k2,k3]
 .dsimp only;exact Ad ?_;have:=h s.heap xs false #[rfl,λ _ _=>rfl] #[#[es,ep,t,ho,X,BM,Ao,AQ],BW] (.inl #[hm,rfl]);show this
 .dsimp only;exact Kj (zaC ho rfl X.fits ?_);dsimp only;let#[p1,p2,p3]:=X.tab.put F;rw[AA] at p1;have CK:(t.put j).1.plain=true:=by rw[p2];show Ao
  have Cg:(t.put j).1.mask=t.mask:=by rw[p2]
  have AB:(t.put j).1.led=led:=by rw[p2];show BM
  generalize hT:(t.put j)=P at *;let#[t1,p]:=P;dsimp only at *;rw[CK];simp![if_true];exact Kj (Nq hb ?_);simp![if_true];let Gq:=xs.take p++(key,b)::xs.drop p
  have Fo:Gq.Perm (xs++[(key,b)]):=by
   have e:xs.take p++xs.drop p=xs:=Ek p xs;have:Gq.Perm ((key,b)::(xs.take p++xs.drop p)):=List.perm_middle;rw[e] at this;show this.trans (List.perm_append_singleton _ _).symm
  have GP:Gq.length=xs.length+1:=by rw[Fo.length_eq];simp
  have Hn:(insertAt es p ((rk prog w).hash key,Value.ref b)).toList=Gq.map λ e=>((rk prog w).hash e.1,Value.ref e.2):=by
   rw[toList_insertAt,X.es];simp[Gq,CW,CV]
  have HC:(insertAt es p ((rk prog w).hash key,Value.ref b)).size=xs.length+1:=by rw[<- BE,Hn,AA,GP]
  have Bw:(insertAt es p ((rk prog w).hash key,Value.ref b)).size<=sizeLine:=by
   rw[HC];have:sizeLine=16777216:=rfl;lia
  exact Kj (wpAny_storeSet_of ho rfl ?_ Bw);have sb:=Heap.SameBut.update s.heap a (Obj.putSet (insertAt es p ((rk prog w).hash key,Value.ref b)) t1);have IQ:=mX (Gh:=insertAt es p ((rk prog w).hash key,Value.ref b)) (t':=t1) ho;have hm7:7<=t.mask:=by rcases X.tab.mask with e | e | e <;> lia
  have X1:rL (prog:=prog) (w:=w) (s.heap.update a (Obj.putSet (insertAt es p ((rk prog w).hash key,Value.ref b)) t1)) (insertAt es p ((rk prog w).hash key,Value.ref b)) t1 Gq:=by
   exact#[Hn,λ e he=>?_,?_,by rw[GP,Cg];lia]
   .rcases AY.mp (Fo.mem_iff.mp he) with q | q
    .show jd (X.is e q) ho sb
    .cases AZ.mp q;show jd hb ho sb
   .have:Gq.map (λ e=>(rk prog w).hash e.1)=(xs.map λ e=>(rk prog w).hash e.1).take p++(rk prog w).hash key::(xs.map λ e=>(rk prog w).hash e.1).drop p:=by simp[Gq,CW,CV]
    rw[this];show p3
  have HE:(Gq.map (·.1)).Nodup:=by
   exact (Fo.map _).nodup_iff.mpr ?_;rw[BP,List.nodup_append];exact#[BW,#[],λ x hx y hy=>?_];simp at hy;subst hy;show λ e=>hm (e▸hx)
  by_cases hf:t1.tooFull=true
  .rw[hf];simp![C8,DR,if_true];have GQ:t1.fill=xs.length+1:=by
    unfold SetTable.fill;rw[p3.rg,p3.len];simp;lia
   have Gz:t.mask*3<=(xs.length+1)*5:=by
    have:=hf;unfold SetTable.tooFull at this;rw[GQ,Cg] at this;exists this
   let#[M',g1,g2,g3]:=eE xs.length t.mask X.tab.mask AQ Gz hn;rw[hlen];exact Kj (WW (led:=led) IQ X1 AB CK g1 g2 (by rw[GP];show g3) HE λ h' FA sb' S' pm=>?_);exact Ad ?_;show h h' FA true (sb.trans sb') S' (.inr #[hm,pm.trans Fo])
  .have G3:t1.tooFull=false:=by exists hf
   rw[G3];simp![C8,C0,Bp,if_false];exact Ad ?_;have GQ:t1.fill=xs.length+1:=by
    unfold SetTable.fill;rw[p3.rg,p3.len];simp;lia
   have Gz:(xs.length+1)*5<t.mask*3:=by
    have:=G3;unfold SetTable.tooFull at this;rw[GQ,Cg] at this;exists this
   show h _ Gq true sb #[#[_,ep+1,t1,IQ,X1,AB,CK,by rw[GP,Cg];show Gz],HE] (.inr #[hm,Fo])
end
def tW (w:World):Bool:=!w.params.followText "set-order"
def w6 (w:World):Obj:={ cls:=.type "set",dict:=none,data:=.set [].toArray 0 (.fresh 0 0 (tW w)) }
section
variable {prog:Program}{w:World}{A:Around}{E:Af}{s:Shared}
set_option maxHeartbeats 3200000 in
def MC (a:Value) {Q:Af}(h:Q (.ref s.heap.objs.size) { s with heap:=s.heap.push (w6 w) }):
  codeAny (model prog w) A (.call (.builtin "set.__new__") #[[.type "set",a],[]]) (wants Q E) s:=by
 exact codeAny_of_tree ?_;change wpAny _ A.in1 (checkBuiltinCall "set.__new__" #[[.type "set",a],[]] >>= λ _=>again (.builtin "set.__new__" #[[.type "set",a],[]])) _ _ s;exact Kj (wpAny_of_eq (F.newCall_set_1 a) (Ad #[plainId_quiet F.plain_set_new _,codeAny_builtin F.entry_set_new ?_]));rw[Around.under_plainId F.plain_set_new _];unfold Builtin.«set.__new__» Builtin.Frozenset.newClass newSet setsByText;have sub:=sub_set_self;let#[hp,g,d,tk,os]:=s;dsimp only
 wp_walk
 exact zaN (Ad ?_);dsimp only;simp![newObj];show Kj (wpAny_alloc (Ad (Ad h)))
def WD {h:Heap}{a:Addr}(ho:h.get? a=↑(w6 w)):rq prog w h a [] (tW w):=
 #[#[[].toArray,0,_,ho,#[rfl,λ e he=>(by cases he),#[.inl rfl,rfl,rfl,.nil,λ j hj=>(by cases hj),λ i g j hg=>(by cases hg)],#[]],rfl,rfl,by change 0*5<7*3;lia],.nil]
end
end ST
namespace ST
open PySem PySem.SetTable PyProof.Rows
section
variable {κ β:Type}[DecidableEq κ]{val:κ->β->Value}{Aa:Aw}{ks:List κ}{i:Nat}{xs FA:List (κ × β)}
structure Up (val:κ->β->Value) (Aa:Aw) (ks:List κ) (i:Nat) (xs:List (κ × β)):Prop where
 own:∀ e∈xs,∃ j,j<i/\Aa[j]?=↑(val e.1 e.2)/\ks[j]?=↑e.1
 all:∀ (j:Nat) r,j<i->ks[j]?=↑r->r∈xs.map (·.1)
theorem jK:∀ (l m:List κ),l.Nodup->(∀ x∈l,x∈m)->l.length<=m.length
 | [],m,_,_=>A4 _
 | x::l,m,hn,hs=>by
  have h1:=BC.mp hn;have hx:=hs x Ax;have:=jK l (m.erase x) h1.2 λ z hz=>(List.mem_erase_of_ne (λ e:z=x=>h1.1 (by rw[<- e];show hz))).mpr (hs z (Ay _ hz));rw[List.length_erase_of_mem hx] at this;have:=En hx;simp![Bj];lia
def Up.len (U:Up val Aa ks i xs) (nd:(xs.map (·.1)).Nodup):xs.length<=i:=by
 have:=jK (xs.map λ e=>↑e.1) ((List.range i).map λ j=>ks[j]?) (by
  have:(xs.map λ e=>↑e.1)=(xs.map (·.1)).map some:=by rw[AN];rfl
  rw[this];show List.Pairwise.map _ (λ a b h e=>h (A_ e)) nd) λ x hx=>by
  let#[e,he,rfl]:=Av.mp hx;let#[j,h1,_,h3]:=U.own e he;show Av.mpr #[j,A2.mpr h1,h3]
 exists this
def Up.step {key:κ}{b:β}(U:Up val Aa ks i xs) (hi:Aa[i]?=↑(val key b)) (hr:ks[i]?=↑key)
  (h:key∈xs.map (·.1)/\FA=xs\/key∉xs.map (·.1)/\FA.Perm (xs++[(key,b)])):Up val Aa ks (i+1) FA:=by
 have eqi:∀ j:Nat,j<i+1->¬ j<i->j=i:=λ j a b=>⋯;rcases h with ⟨hm,rfl⟩ | ⟨_,hp⟩
 .exact#[λ e he=>?_,λ j r hj CJ=>?_]
  .let#[j,h1,h2]:=U.own e he;show#[j,Co h1,h2]
  .by_cases q:j<i
   .show U.all j r q CJ
   .rw[eqi j hj q,hr] at CJ;cases CJ;show hm
 .exact#[λ e he=>?_,λ j r hj CJ=>?_]
  .rcases AY.mp (hp.mem_iff.mp he) with q | q
   .let#[j,h1,h2]:=U.own e q;show#[j,Co h1,h2]
   .cases AZ.mp q;show#[i,CG i,hi,hr]
  .rw[(hp.map (·.1)).mem_iff,BP];by_cases q:j<i
   .show C6 _ (U.all j r q CJ)
   .rw[eqi j hj q,hr] at CJ;cases CJ;show A5 _ Ax
structure Kd (prog:Program) (w:World) (A:Around) (val:κ->β->Value) (Aa:Aw) (ks:List κ) (Sa:Addr) (wr:List Addr) (Se:Heap->List (κ × β)->Prop) (Tp:Heap->Prop):Prop where
 nd:∀ {h xs},Se h xs->(xs.map (·.1)).Nodup
 keep:∀ {h h' xs i},(∀ b o,b∉wr->h.get? b=↑o->h'.get? b=↑o)->Up val Aa ks i xs->Se h xs->Se h' xs
 lB:∀ {h h'},(∀ b o,b∉Sa::wr->h.get? b=↑o->h'.get? b=↑o)->Tp h->Tp h'
 add:∀ {s:Shared}{xs:List (κ × β)}{i:Nat}{v:Value}{Q:Bool->Shared->Prop}{E:Af},Tp s.heap->Se s.heap xs->xs.length<70->Aa[i]?=↑v->
  (∀ h' tk FA rr k b,v=val k b->ks[i]?=↑k->Heap.SameBut Sa s.heap h'->s.toks<=tk->Se h' FA->(k∈xs.map (·.1)/\FA=xs\/k∉xs.map (·.1)/\FA.Perm (xs++[(k,b)]))->Q rr { s with heap:=h',toks:=tk })->
  wpAny (model prog w) A (setAdd Sa v) Q E s
variable {prog:Program}{w:World}{A:Around}{R:Result->Shared->Prop}{I:Addr}{fp wr:List Addr}{G:Array GenState->Array GenState->Prop}{n:Nat}{P:Nat->Value->Prop}{St:Nat->Shared->Prop}{Sa:Addr}{Se:Heap->List (κ × β)->Prop}{Tp:Heap->Prop}
def cA (W:WalksS prog w A.in1 I fp wr G n (λ i v=>P i v) St) (D:Kd prog w A.in1 val Aa ks Sa wr Se Tp) (hSf:Sa∉fp) (hP:∀ i v,P i v->Aa[i]?=↑v) (hn:n<70):
  ∀ (k i:Nat) (s:Shared) (xs:List (κ × β)),n-i=k->i<=n->St i s->Se s.heap xs->Tp s.heap->Up val Aa ks i xs->
   (∀ s' FA,Moved (Sa::wr) G s s'->Se s'.heap FA->Up val Aa ks n FA->R (.ok (.ret .none)) s')->
   codeAny (model prog w) A (.builtin "set.update.loop" #[[.ref Sa,.ref I],[]]) R s:=by
 have more:∀ b∈wr,b∈Sa::wr:=λ b hb=>Ay _ hb;intro k
 induction k with
 | zero=>
  intro i s xs hk hi AK hS hT hU hR;have e:i=n:=⋯;subst e;exact codeAny_builtin F.entry_set_update_loop ?_;rw[Around.under_plainId F.plain_set_update_loop _];change wpAny _ A.in1 (pyNext (.ref I) >>= _) _ _ s;show Kj (W.done s _ _ AK λ s' hm=>Ad (hR s' xs (hm.mono more) (D.keep hm.heap hU hS) hU))
 | succ k ih=>
  intro i s xs hk hi AK hS hT hU hR;have AB:i<n:=⋯;exact codeAny_builtin F.entry_set_update_loop ?_;rw[Around.under_plainId F.plain_set_update_loop _];change wpAny _ A.in1 (pyNext (.ref I) >>= _) _ _ s;exact Kj (W.item i s _ _ AB AK λ v s1 hPv KJ hm=>?_);have hv:=hP i v hPv;have T1:=D.lB (λ b o hb e=>hm.heap b o (λ z=>hb (more _ z)) e) hT;have hl:xs.length<70:=by have:=hU.len (D.nd hS);lia
  change wpAny _ A.in1 (holding [v] (setAdd Sa v) >>= _) _ _ s1;exact Kj (za7 (D.add T1 (D.keep hm.heap hU hS) hl hv λ h' tk FA rr key b ev hr sb ht S' hx=>?_));subst ev;have fr:=W.frame (i+1) s1 h' tk KJ ht λ c hc o e=>(sb.2 c (λ z:c=Sa=>hSf (z▸hc))).trans e;exact Ad #[plainId_quiet F.plain_set_update_loop _,ih (i+1) _ FA ⋯ AB fr S' (D.lB (λ c o hc e=>(sb.2 c (λ z=>hc (z▸Ax))).trans e) T1) (hU.step hv hr hx) λ s2 IK IC S2 U2=>?_];exact hR s2 IK (Moved.trans W.gtrans ((hm.mono more).then_heap ht λ c o hc e=>?_) IC) S2 U2;show (sb.2 c (λ z=>hc (z▸Ax))).trans e
end
section
variable {prog:Program}{w:World}{A:Around}{Aa:Aw}{rows:List (List Int)}{Sa:Addr}{wr:List Addr}
def pC (prog:Program) (w:World) (h:Heap) (Aa:Aw) (rows:List (List Int)):Prop:=∀ (i:Nat) v,Aa[i]?=↑v->∃ b r,v=.ref b/\rows[i]?=↑r/\IsTupleKey (intKind prog w) h r b
def pC.at {h h':Heap}(T:pC prog w h Aa rows) (k:∀ (i:Nat) b,Aa[i]?=↑(.ref b)->∀ o,h.get? b=↑o->h'.get? b=↑o):pC prog w h' Aa rows:=λ i v hv=>by
 let#[b,r,rfl,h1,o,items,m,h2,h3]:=T i v hv;show#[b,r,rfl,h1,o,items,m,k i b hv o h2,h3]
abbrev fE:List Int->Addr->Value:=λ _ b=>.ref b
def OK {led:Bool}(K4:Sa∉wr) (hu:A.units<cLine) (Dr:∀ (i:Nat) b,Aa[i]?=↑(.ref b)->b∉Sa::wr):Kd prog w A fE Aa rows Sa wr (λ h xs=>rq prog w h Sa xs led) (λ h=>pC prog w h Aa rows) where
 nd:=λ S=>S.nd
 keep:=λ{h h' xs i} k U S=>by
  let#[#[es,ep,t,ho,X,r],nd]:=S;exact#[#[es,ep,t,k Sa _ K4 ho,#[X.es,λ e he=>?_,X.tab,X.oY],r],nd];let#[o,items,m,g1,g2]:=X.is e he;let#[j,_,h2,_]:=U.own e he;show#[o,items,m,k _ _ (λ z=>Dr j e.2 h2 (Ay _ z)) g1,g2]
 lB:=λ k T=>T.at λ i b hi o e=>k b o (Dr i b hi) e
 add:=λ{s xs i v Q E} T S hl hv hQ=>by
  let#[b,r,rfl,hr,hb]:=T i v hv;unfold setAdd;exact za7 (Kj ((rk prog w).pyHash (k:=r) (a:=b) (A:=A) hu hb ?_));show L7 (s:={ s with toks:=s.toks+(rk prog w).draws r }) (A:=A) hu S hb hl λ h' FA rr sb S' hx=>hQ h' _ FA rr r b rfl hr sb (CU _ _) S' hx
end
section
variable {prog:Program}{w:World}{A:Around}{E:Af}{s:Shared}
set_option maxHeartbeats 6400000 in
def Zf {κ β:Type} [DecidableEq κ] {val:κ->β->Value}{ks:List κ}{Se:Heap->List (κ × β)->Prop}{Tp:Heap->Prop}{l:Addr}{Aa:Aw}{Q:Af}(hh:A.handled=none) (hl:s.heap.IsList l Aa\/s.heap.IsTuple l Aa) (hn:Aa.size<70)
  (D:Kd prog w A.in1.in1.in1 val Aa ks s.heap.objs.size [s.heap.objs.size+1] Se Tp) (hS0:∀ h,h.get? s.heap.objs.size=↑(w6 w)->Se h []) (hT0:∀ h,(∀ b o,s.heap.get? b=↑o->h.get? b=↑o)->Tp h)
  (h:∀ (h':Heap) (tk:Nat) xs,Se h' xs->Up val Aa ks Aa.size xs->(∀ b o,b<s.heap.objs.size->s.heap.get? b=↑o->h'.get? b=↑o)->Q (.ref s.heap.objs.size) { s with heap:=h',toks:=tk }):
  wpAny (model prog w) A (call (.type "set") [.ref l]) Q E s:=by
 let#[c,tl,hmro]:=F.called_set.mro;have made:=F.called_set.made;have subm:=F.called_set.sub;exact wpAny_call (codeAny_of_tree ?_);change wpAny _ _ (callAny (.type "set") _) _ _ _;exact Ad #[Code.quiet_builtin _ (AG),codeAny_builtin F.entry_type_call ?_];rw[Around.under_plain (weight_type_call_type "set" [.ref l] []) rfl];have nt:=F.called_set.notType;have cc:=F.called_set.canCreate;have tc:=F.typeCall_set_1 (.ref l)
 repeat (any_goals (first | assumption | wp_step))
 exact codeAny_mono (MC (.ref l) (E:=E) (Q:=λ obj s₁=>obj=.ref s.heap.objs.size/\s₁={ s with heap:=s.heap.push (w6 w) }) #[rfl,rfl]) λ r s₁ hr=>?_;cases r with
 | error e=>show hr
 | ok fl=>
  cases fl with
  | ret obj=>
   let#[rfl,rfl]:=hr;have hS:(s.heap.push (w6 w)).get? s.heap.objs.size=↑(w6 w):=AJ _ rfl;have hTy:Shared.TypeIs { s with heap:=s.heap.push (w6 w) } (.ref s.heap.objs.size) "set":=#[_,hS,rfl];have li:=F.called_set.init.lookup;have bi:=F.called_set.init.bind (.ref s.heap.objs.size)
   repeat (any_goals (first | assumption | wp_step))
   let s1:Shared:={ s with heap:=s.heap.push (w6 w) }
   exact codeAny_mono (codeAny_call_builtin (R:=wants (λ r s₂=>r=.none/\∃ h' tk xs,s₂={ s with heap:=h',toks:=tk }/\Se h' xs/\Up val Aa ks Aa.size xs/\
     ∀ b o,b<s.heap.objs.size->s.heap.get? b=↑o->h'.get? b=↑o) E) F.called_set.init.plain F.entry_set_init (check_set_init_1 hTy ?_)) λ r₂ s₂ KL=>?_
   .have hsz:(s.heap.push (w6 w)).objs.size=s.heap.objs.size+1:=Heap.size_push _ _;have Km:s.heap.objs.size≠(s.heap.push (w6 w)).objs.size:=by rw[hsz];show AH (CG _)
    have low:∀ b:Addr,b<s.heap.objs.size->b≠(s.heap.push (w6 w)).objs.size:=λ b hb=>by rw[hsz];show AH (Co hb)
    rw[<- hsz] at D;rcases hl with hl | hl
    all_goals
     let#[#[ocls,odict,odata,Kv],hol,CS,nl,DD]:=id hl;simp only at CS DD;subst CS DD;have hol1:=gV (w6 w) hol;have sls:=F.sub_list_set;have slf:=F.sub_list_frozenset;have GG:=F.sub_tuple_set;have stf:=F.sub_tuple_frozenset;have nd:(Value.type "list" == Value.type "dict")=false:=()
     have nd':(Value.type "tuple" == Value.type "dict")=false:=()
     have hlS:l<s.heap.objs.size:=Aq hol;have Jw:l≠(s.heap.push (w6 w)).objs.size:=low l hlS;have GP:=hl.push (w6 w);unfold Builtin.«set.__init__» noKeywords Builtin.Frozenset.updateFrom;generalize hPI:pyIter=PI;unfold w6 at *
     wp_walk
     subst hPI
     first | exact wpAny_pyIter_list GP (Kj (wpAny_runValue ?_)) | exact wpAny_pyIter_tuple GP (Kj (wpAny_runValue ?_))
     first
      | exact cA (A:=A.in1.in1) (P:=λ i v=>Aa[i]?=↑v) ((Walks.list (A:=A.in1.in1.in1) (by simp[hh]) _ l Jw Aa).toS) D ?_ (λ _ _ q=>q) hn Aa.size 0 _ [] ⋯ (A4 _) #[#[_,AJ _ rfl,rfl,rfl],GP.push _] ?_ ?_ #[λ e he=>(by cases he),λ j r hj=>⋯] ?_
      | exact cA (A:=A.in1.in1) (P:=λ i v=>Aa[i]?=↑v) ((Walks.tuple (A:=A.in1.in1.in1) (by simp[hh]) _ l Jw Aa).toS) D ?_ (λ _ _ q=>q) hn Aa.size 0 _ [] ⋯ (A4 _) #[#[_,AJ _ rfl,rfl,rfl],GP.push _] ?_ ?_ #[λ e he=>(by cases he),λ j r hj=>⋯] ?_
     .intro hm;rcases An.mp hm with q | q
      .show Km q
      .show Bo hlS (AZ.mp q)
     .show hS0 _ (gV _ hS)
     .show hT0 _ λ b o e=>gV _ (gV _ e)
     .intro s' FA hm S' U';let#[h',g',d',Kk,Jh]:=s';obtain rfl:g'=s.gens:=hm.gens;obtain rfl:d'=s.drawn:=hm.drawn;obtain rfl:Jh=s.os:=hm.os;exact Ad (Ad #[rfl,h',Kk,FA,rfl,S',U',λ b o hb e=>?_]);exact hm.heap b o (λ q=>?_) (gV _ (gV _ e));rcases An.mp q with q | q
      .show AH hb q
      .show low b hb (AZ.mp q)
   .cases r₂ with
    | error e=>show KL
    | ok fl₂=>
     cases fl₂ with
     | ret r=>
      let#[rfl,h',tk,xs,rfl,g1,g2,g3]:=KL
      repeat (any_goals (first | assumption | wp_step))
      show h h' tk xs g1 g2 g3
     | _=>show KL.elim
  | _=>show hr.elim
def MP {l:Addr}{Aa:Aw}{rows:List (List Int)}{Q:Af}(hh:A.handled=none) (hu:A.units+64<cLine) (hl:s.heap.IsList l Aa\/s.heap.IsTuple l Aa) (hT:pC prog w s.heap Aa rows) (hn:Aa.size<70)
  (h:∀ (h':Heap) (tk:Nat) xs,rq prog w h' s.heap.objs.size xs (tW w)->Up fE Aa rows Aa.size xs->(∀ b o,b<s.heap.objs.size->s.heap.get? b=↑o->h'.get? b=↑o)->Q (.ref s.heap.objs.size) { s with heap:=h',toks:=tk }):
  wpAny (model prog w) A (call (.type "set") [.ref l]) Q E s:=by
 exact Zf hh hl hn (OK #[] (show A.units+1+1+1<cLine by lia) λ i b hb hm=>?_) (λ h e=>WD e) (λ h k=>hT.at λ i b _ o e=>k b o e) h;let#[b',r,e,_,o,_,_,ho,_]:=hT i _ hb;cases e;have:=Aq ho;rcases An.mp hm with q | q
 .show AH this q
 .show AH (Co this) (AZ.mp q)
end
end ST
namespace ST
open PySem PySem.SetTable
section facts
def dP:Manifest.owners.lookup (String.ofList ['r','o','t','a','r','e','t','i','_','t','e','s'].reverse)=↑Manifest.sig_set_iterator:=by kernel_rfl
def qH:Slot "set_iterator" "__next__" "set_iterator.__next__":=
 .of (owner:="set_iterator") (n:="__next__") (by rw[typeLookup_type,builtinLookup_eq_fast];kernel_rfl) (AG) (AG) (AG) (by first | show .inl (AG) | show .inr (AG)) (by rw[isSubtype_type];kernel_rfl)
def ah:entryFor table "set_iterator.__next__"=↑Builtin.«set_iterator.__next__»:=entryFor_of_tree (by kernel_rfl)
theorem Zz (a:Value):argsOk "set_iterator.__next__" #[[a],[]]:=by
 unfold argsOk;rw[signature?_of (id:="set_iterator.__next__") (n:=['_','_','t','x','e','n','_','_']) (o:=['r','o','t','a','r','e','t','i','_','t','e','s']) (by kernel_rfl) dP]
 kernel_rfl
def Mg:entryFor table "set.__iter__"=↑Builtin.«frozenset.__iter__»:=entryFor_alias (id':="frozenset.__iter__") (by kernel_rfl) rfl (AG) (by kernel_rfl)
def eD:Slot "set_iterator" "__iter__" "set_iterator.__iter__":=
 .of (owner:="set_iterator") (n:="__iter__") (by rw[typeLookup_type,builtinLookup_eq_fast];kernel_rfl) (AG) (AG) (AG) (by first | show .inl (AG) | show .inr (AG)) (by rw[isSubtype_type];kernel_rfl)
def Mf:entryFor table "set_iterator.__iter__"=↑Builtin.«dict_keyiterator.__iter__»:=entryFor_alias (id':="dict_keyiterator.__iter__") (by kernel_rfl) rfl (AG) (by kernel_rfl)
theorem Lv (a:Value):argsOk "set_iterator.__iter__" #[[a],[]]:=by
 unfold argsOk;rw[signature?_of (id:="set_iterator.__iter__") (n:=['_','_','r','e','t','i','_','_']) (o:=['r','o','t','a','r','e','t','i','_','t','e','s']) (by kernel_rfl) dP]
 kernel_rfl
end facts
theorem ae {α:Type}:∀ (l:List α) (i:Nat) (x:α),l[i]?=↑x->l.Perm (x::l.eraseIdx i)
 | [],i,x,h=>by simp at h
 | y::l,0,x,h=>by simp at h;subst h;simp
 | y::l,i+1,x,h=>by
  have ih:=ae l i x (by exists h);rw[List.eraseIdx_cons_succ];show (ih.cons y).trans (.swap x y _)
theorem dv {α:Type}(next:Nat->Nat):∀ (f k:Nat) (left:List α) (out:Array α),left.length=f->(pickOrder.go next f k left out).toList.Perm (out.toList++left)
 | 0,k,left,out,h=>by
  cases left with
  | nil=>unfold pickOrder.go;simp
  | cons _ _=>simp at h
 | f+1,k,left,out,h=>by
  unfold pickOrder.go;have AB:next k%left.length<left.length:=De _ ⋯;rw[A7 AB];dsimp only;exact (dv next f (k+1) _ _ (by rw[List.length_eraseIdx_of_lt AB];lia)).trans ?_;rw[Array.toList_push,DW];show (ae left _ _ (A7 AB)).symm.append_left _
theorem VA {α:Type}(next:Nat->Nat) (xs:Array α):(pickOrder next xs).toList.Perm xs.toList:=by
 unfold pickOrder;exists dv next xs.size 0 xs.toList [].toArray #[]
def comes (w:World) (a:Addr) (es:Array (Int×Value)) (ep:Nat):Array (Int×Value):=if w.params.followText "set-order"=true then pickOrder (w.params.setOrder a ep) es else es
def nH (w:World) (a:Addr) (es:Array (Int×Value)) (ep:Nat):(comes w a es ep).toList.Perm es.toList:=by
 unfold comes;split
 .show VA _ _
 .show .refl _
def sS (a:Addr) (slot i n ep:Nat):Obj:={ cls:=.type "set_iterator",data:=.fields [rawInt slot,rawInt i,.ref a,rawInt n,rawInt ep].toArray }
def slotAt (t:SetTable):Nat->Nat
 | 0=>0
 | i+1=>t.place.getD i 0+1
theorem Lr {t:SetTable}(hr:uH t.place.toList):∀ i,i<=t.place.size->below t.place (slotAt t i)=i
 | 0,_=>by
  let#[h1,h2,h3]:=km (xs:=t.place) (j:=0) hr;rcases Eo (below t.place 0) with q | q
  .show q
  .have:=h2 0 ⋯ q;lia
 | i+1,hi=>by
  have hd:t.place.getD i 0=t.place[i]:=iy ⋯;change below t.place (t.place.getD i 0+1)=i+1;rw[hd];let#[h1,h2,h3]:=km (xs:=t.place) (j:=t.place[i] + 1) hr;have w9:∀ a b (ha:a<t.place.size) (hb:b<t.place.size),a<b->t.place[a]<t.place[b]:=λ a b ha hb Dc=>by
   have r:=Df.mp hr a b (by exists ha) (by exists hb) Dc;rw[Cz,Cz] at r;show r
  rcases DN (below t.place (t.place[i] + 1)) (i+1) with q | q | q
  .have:=h3 i ⋯ ⋯;lia
  .show q
  .have a:=h2 (i+1) ⋯ q;have b:=w9 i (i+1) ⋯ ⋯ ⋯;lia
structure wF (w:World) (h:Heap) (a:Addr) (es:Array (Int×Value)) (ep:Nat) (t:SetTable):Prop where
 get:h.get? a=↑{ cls:=.type "set",dict:=none,data:=.set es ep t }
 fits:t.fits es.size=true
 w9:uH t.place.toList
 led:t.led=tW w
 plain:t.plain=true
theorem wF.size {w:World}{h:Heap}{a:Addr}{es:Array (Int×Value)}{ep:Nat}{t:SetTable}(S:wF w h a es ep t):t.place.size=es.size:=by
 have:=S.fits;simp![SetTable.fits,BQ,beq_iff_eq] at this;show this.1
section
variable {prog:Program}{w:World}{A:Around}{E:Af}{s:Shared}
def cp {a:Addr}{es:Array (Int×Value)}{ep:Nat}{t:SetTable}{i:Nat}{Q:Option (Value×Nat)->Shared->Prop}(S:wF w s.heap a es ep t) (hi:i<=es.size) (slot:Nat) (hs:w.params.followText "set-order"=false->slot=slotAt t i)
  (h:∀ FN,(w.params.followText "set-order"=false->FN=slotAt t (i+1))->Q ((comes w a es ep)[i]?.map λ e=>(e.2,FN)) s):wpAny (model prog w) A (setNext a slot i ep) Q E s:=by
 unfold setNext setsByText;exact Kj (zaC S.get rfl S.fits ?_);dsimp only;exact Kj (Kj (zaN (Ad ?_)));change wpAny _ A (if w.params.followText "set-order"=true then _ else _) Q E s;cases hb:w.params.followText "set-order" with
 | true=>
  rw[if_pos rfl,if_neg #[]];unfold setWalk setsByText;exact Kj (Kj (zaC S.get rfl S.fits ?_));dsimp only;exact Kj (Kj (zaN (Ad ?_)));change wpAny _ A (if w.params.followText "set-order"=true then _ else _) _ E s;rw[if_pos hb];exact Kj (zaN (Ad ?_));exact Ad ?_;have:=h slot (λ q=>by rw[hb] at q;cases q);unfold comes at this;rw[if_pos hb] at this;show this
 | false=>
  rw[if_neg #[]];split
  .rename_i hd;have HU:(!t.plain&&decide (es.size>1))=true:=hd;rw[S.plain] at HU;simp at HU
  .change wpAny _ A ((if (!t.led&&!es.isEmpty)=true then unsupported "set:maker-not-led" else pure Unit.unit) >>= _) Q E s;have hl:t.led=true:=by rw[S.led];unfold tW;rw[hb];rfl
   rw[if_neg (by rw[hl];simp)];exact Kj (Ad (Ad ?_));have Bw:=hs hb;have hz:=S.size;rw[Bw,Lr S.w9 i (by rw[hz];show hi)];have:=h (slotAt t (i+1)) (λ _=>rfl);unfold comes at this;rw[if_neg (by rw[hb];simp)] at this;rcases BN i es.size with q | q
   .have hp:i<t.place.size:=by rw[hz];show q
    rw[Bu q] at this;rw[Bu q,Bu hp];have e:slotAt t (i+1)=t.place[i] + 1:=by change t.place.getD i 0+1=_;rw[iy hp]
    rw[e] at this;show this
   .rw[CY q] at this;rw[CY q];show this
def r_ {a I:Addr}{slot i n ep:Nat}(ho:s.heap.get? I=↑(sS a slot i n ep)):s.TypeIs (.ref I) "set_iterator":=#[_,ho,rfl]
def fO (k:Nat):((k:Int)).toNat=k:=Cr k
def WB {I a:Addr}{es:Array (Int×Value)}{ep:Nat}{t:SetTable}{i slot:Nat}{e:Int×Value}{Q:Option Value->Shared->Prop}(ho:s.heap.get? I=↑(sS a slot i es.size ep)) (S:wF w s.heap a es ep t) (hs:w.params.followText "set-order"=false->slot=slotAt t i) (he:(comes w a es ep)[i]?=↑e)
  (hi:i<es.size) (h:∀ h' FN,(w.params.followText "set-order"=false->FN=slotAt t (i+1))->h'.get? I=↑(sS a FN (i+1) es.size ep)->Heap.SameBut I s.heap h'->Q ↑e.2 { s with heap:=h' }):wpAny (model prog w) A (pyNext (.ref I)) Q E s:=by
 unfold pyNext;exact Kj (wpAny_attempt (zaG (name:=Str.ofString "__next__") (r_ ho) qH (zaB qH (r_ ho) ah ?_ (Zz _))));exact Kj (Ad ?_);dsimp only;exact Kj (wpAny_fieldsOf ho rfl ?_);dsimp only[rawInt];exact Kj (Kj (zaC S.get rfl S.fits (Ad ?_)));rw[if_neg #[]];exact Kj (cp S ⋯ slot hs λ FN Hr=>?_);rw[fO] at Hr ⊢;rw[he];dsimp only[Option.map_some];exact Kj (zaD ho rfl #[] ?_);have o1:=za8 (Obj.mapFields (·.set! 0 (Value.int (FN:Int) 0))) ho rfl;exact Kj (zaD o1 rfl #[] ?_);have o2:=za8 (Obj.mapFields (·.set! 1 (Value.int ((i:Int)+1) 0))) o1 rfl;exact Ad #[_,rfl,Ad (h _ FN Hr o2 ((Heap.SameBut.update ..).trans (Heap.SameBut.update ..)))]
def WC {I a:Addr}{es:Array (Int×Value)}{ep:Nat}{t:SetTable}{slot:Nat}{Q:Option Value->Shared->Prop}(hh:A.handled=none) (ho:s.heap.get? I=↑(sS a slot es.size es.size ep)) (S:wF w s.heap a es ep t) (hs:w.params.followText "set-order"=false->slot=slotAt t es.size)
  (h:∀ h',Heap.ExtBut I s.heap h'->Q none { s with heap:=h' }):wpAny (model prog w) A (pyNext (.ref I)) Q E s:=by
 have hn:(comes w a es ep)[es.size]?=none:=by
  have:=(nH w a es ep).length_eq;simp![BE] at this;rw[CY ⋯]
 unfold pyNext;exact Kj (wpAny_attempt (zaG (name:=Str.ofString "__next__") (r_ ho) qH (zaB qH (r_ ho) ah ?_ (Zz _))));exact Kj (Ad ?_);dsimp only;exact Kj (wpAny_fieldsOf ho rfl ?_);dsimp only[rawInt];exact Kj (Kj (zaC S.get rfl S.fits (Ad ?_)));rw[if_neg #[]];exact Kj (cp S #[] slot (by exists hs) λ FN Hr=>?_);rw[fO,hn];dsimp only[Option.map_none];exact Kj (zaD ho rfl #[] ?_);exact Kj ?_;simp![newExc,newTuple];exact Kj (za9 ?_ (by size_fits));exact Kj (m:=firstArgMember _ _) (wpAny_of_eq (a:=Value.none) (by first | rfl | (simp![firstArgMember];rfl)) (za9 ?_ (by size_fits)));unfold raiseNew;exact Kj (wpAny_handled ?_);rw[show A.in1.handled=none from hh];exact Kj ((Ad (wpAny_throw ?_)));exact Kj ((wpAny_isInstance (T:="StopIteration") (b:=true) #[_,AJ _ rfl,rfl] isSubtype_stop ?_));show Ad (h _ (((Heap.SameBut.update ..).extBut.push _).push _))
def WA {I a:Addr}{slot i n ep:Nat}{Q:Af}(ho:s.heap.get? I=↑(sS a slot i n ep)) (h:Q (.ref I) s):wpAny (model prog w) A (pyIter (.ref I)) Q E s:=by
 exact wpAny_pyIter_slot (r_ ho) eD (zaB eD (r_ ho) Mf ?_ (Lv _));show Ad #[_,rfl,"set_iterator",_,r_ ho,qH.lookup,h]
def wF.keep {h h':Heap}{a:Addr}{es:Array (Int×Value)}{ep:Nat}{t:SetTable}(S:wF w h a es ep t) (k:∀ o,h.get? a=↑o->h'.get? a=↑o):wF w h' a es ep t:=#[k _ S.get,S.fits,S.w9,S.led,S.plain]
def Xw (hh:A.handled=none) (I a:Addr) (Az:a≠I) (es:Array (Int×Value)) (ep:Nat) (t:SetTable):
  Walks prog w A I [I,a] [I] es.size (λ i v=>∃ e,(comes w a es ep)[i]?=↑e/\v=e.2) (λ i h=>(∃ slot,(w.params.followText "set-order"=false->slot=slotAt t i)/\h.get? I=↑(sS a slot i es.size ep))/\wF w h a es ep t) where
 sub:=λ b hb=>by simp at hb;simp[hb]
 frame:=λ _ _ _ st k=>by
  let#[#[slot,h1,h2],S]:=st;show#[#[slot,h1,k I #[] _ h2],S.keep λ o e=>k a #[] o e]
 item:=λ i s Q E hi st hQ=>by
  let#[#[slot,h1,h2],S]:=st;have hl:i<(comes w a es ep).size:=by
   have:=(nH w a es ep).length_eq;simp![BE] at this;lia
  exact WB h2 S h1 (Bu hl) hi λ h' FN g1 g2 g3=>?_;show hQ _ h' s.toks #[_,Bu hl,rfl] #[#[FN,g1,g2],S.keep λ o e=>(g3.2 a Az).trans e] λ b o hb e=>(g3.2 b (λ z=>hb (by simp[z]))).trans e
 done:=λ s Q E st hQ=>by
  let#[#[slot,h1,h2],S]:=st;show WC hh h2 S h1 λ h' g=>hQ h' s.toks λ b o hb e=>g b o (λ z=>hb (by simp[z])) e
 self:=λ _ _ _ _ st hQ=>by
  let#[#[slot,h1,h2],S]:=st;show WA h2 hQ
def Om:typeLookup (.type "set") "__len__"=pure ↑(.builtin "set.__len__"):=F.slot_set_len.lookup
def split_len:splitId "set.__len__"=↑("set","__len__"):=by decide +kernel
def PB {a:Addr}{es:Array (Int×Value)}{ep:Nat}{t:SetTable}{Q:Bool->Shared->Prop}(S:wF w s.heap a es ep t) (h:Q false s):wpAny (model prog w) A (setDrawn a) Q E s:=by
 unfold setDrawn setsByText;exact Kj (zaC S.get rfl S.fits ?_);dsimp only;exact Kj (Kj (zaN (Ad (Ad ?_))));change Q (!w.params.followText "set-order"&&(!t.plain&&decide (es.size>1))) s;rw[S.plain];exists h
set_option maxHeartbeats 4000000 in
theorem PJ {a:Addr}{es:Array (Int×Value)}{ep:Nat}{t:SetTable}{Q:Bool->Shared->Prop}(S:wF w s.heap a es ep t) (h:Q false s):wpAny (model prog w) A (Builtin.List.listLengthHint (.ref a)) Q E s:=by
 have Ty:s.TypeIs (.ref a) "set":=#[_,S.get,rfl];unfold Builtin.List.listLengthHint;exact Kj (wpAny_specialOf Ty Om ?_);dsimp only;rw[split_len];dsimp only;exact Kj (wpAny_isInstance (b:=true) Ty sub_set_self ?_);rw[if_neg ()];rw[if_pos (AG)];exact Kj (zaK Ty ?_);show Ad h
set_option maxHeartbeats 4000000 in
def MA {a:Addr}{es:Array (Int×Value)}{ep:Nat}{t:SetTable}{Q:List Value->Shared->Prop}(hh:A.handled=none) (S:wF w s.heap a es ep t) (hn:es.size<=sizeLine)
  (h:∀ (h':Heap) (tk:Nat),(∀ b o,b<s.heap.objs.size->s.heap.get? b=↑o->h'.get? b=↑o)->s.heap.objs.size<=h'.objs.size->Q ((comes w a es ep).toList.map (·.2)) { s with heap:=h',toks:=tk }):wpAny (model prog w) A (collect (.ref a)) Q E s:=by
 have ha:a<s.heap.objs.size:=Aq S.get;unfold collect;exact Kj (wpAny_runValue (codeAny_builtin F.entry_proto_collect ?_));rw[Around.under_plainId F.plain_proto_collect _];change wpAny _ A.in1 (newList [] >>= λ l=>again (.builtin "list.__iadd__" #[[l,.ref a],[]])) _ _ s;exact Kj (za9 (Ad #[plainId_quiet F.plain_list_iadd _,codeAny_builtin F.entry_list_iadd ?_]));rw[Around.under_plainId F.plain_list_iadd _];let L0:Obj:={ cls:=.type "list",data:=.seq ([]:Ae).toArray }
 have S1:wF w (s.heap.push L0) a es ep t:=S.keep λ o e=>gV _ e;have T1:Shared.TypeIs { s with heap:=s.heap.push L0 } (.ref a) "set":=#[_,S1.get,rfl];change wpAny _ A.in1 (Builtin.List.listExtendWith (.ref s.heap.objs.size) (.ref a) (.ref s.heap.objs.size)) _ _ { s with heap:=s.heap.push L0 };unfold Builtin.List.listExtendWith;exact Kj (zaK T1 ?_);have Az:s.heap.objs.size≠a:=Bo ha;have c1:Builtin.List.listSameRef (.ref s.heap.objs.size) (.ref a)=false:=by simp[Builtin.List.listSameRef,Az]
 rw[if_neg (by rw[c1];decide)];exact Kj (wpAny_pyIter_slot T1 F.slot_set_iter (zaB F.slot_set_iter T1 Mg ?_ (F.args_set_iter_1 _)));exact Kj (Kj (Ad (Ad ?_)));exact Kj (Kj (Kj (zaC S1.get rfl S1.fits (Ad (Ad ?_)))));exact Kj (PB S1 ?_);rw[if_neg ()];exact Kj (Ad ?_);exact Kj (wpAny_setEpoch_of S1.get rfl S1.fits ?_);exact Kj (za9 (Ad #[_,rfl,"set_iterator",_,#[_,AJ _ rfl,rfl],qH.lookup,?_]));let I:=(s.heap.push L0).objs.size
 let h2:=(s.heap.push L0).push (sS a 0 0 es.size ep)
 have S2:wF w h2 a es ep t:=S1.keep λ o e=>gV _ e;have hI:h2.get? I=↑(sS a 0 0 es.size ep):=AJ _ rfl;have hL:h2.get? s.heap.objs.size=↑L0:=gV _ (AJ _ rfl);have hsz:(s.heap.push L0).objs.size=s.heap.objs.size+1:=Heap.size_push _ _;change wpAny _ A.in1 _ _ _ { s with heap:=h2 };exact Kj (za7 (PJ (s:={ s with heap:=h2 }) S2 ?_));rw[if_pos (AG)];exact Kj (wpAny_rule ?_);exact Kj ?_;change wpAny _ A.in1 (updateSeq s.heap.objs.size (·.push .none) >>= λ _=>updateSeq s.heap.objs.size (·.pop)) _ _ { s with heap:=h2 };exact Kj (wpAny_updateSeq hL rfl ?_);have hL2:=za8 (Obj.mapSeq (·.push Value.none)) hL rfl;exact wpAny_updateSeq hL2 rfl ?_;have hL3:=za8 (Obj.mapSeq (·.pop)) hL2 rfl;let h3:=(h2.update s.heap.objs.size (Obj.mapSeq (·.push Value.none))).update s.heap.objs.size (Obj.mapSeq (·.pop))
 have Ku:∀ b o,b≠s.heap.objs.size->h2.get? b=↑o->h3.get? b=↑o:=λ b o hb e=>(za6 _ _ (Ne.symm hb)).trans ((za6 _ _ (Ne.symm hb)).trans e);have haI:a≠I:=by change a≠(s.heap.push L0).objs.size;rw[hsz];show AH (Co ha)
 have hIn:I≠s.heap.objs.size:=by change (s.heap.push L0).objs.size≠_;rw[hsz];show Bo (CG _)
 exact Ad #[plainId_quiet F.plain_extend_loop _,codeAny_extend_loopS ((Xw (A:=A.in1) hh I a haI es ep t).toS) hn s.heap.objs.size ?_ _ es.size 0 { s with heap:=h3 } [].toArray _ rfl (A4 _) #[#[0,λ _=>rfl,Ku I _ hIn hI],S2.keep λ o e=>Ku a o (Ne.symm Az) e] hL3 (ItemsOf.nil _) λ s' acc c' hm hS' A3=>?_]
 .intro hm;rcases An.mp hm with q | q
  .show hIn q.symm
  .show Az (AZ.mp q)
 .exact Kj (wpAny_load hS' (Ad ?_));let#[h',g',d',Kk,Jh]:=s';obtain rfl:g'=s.gens:=hm.gens;obtain rfl:d'=s.drawn:=hm.drawn;obtain rfl:Jh=s.os:=hm.os;have hcm:(comes w a es ep).size=es.size:=by
   have:=(nH w a es ep).length_eq;exists this
  have e:acc.toList=(comes w a es ep).toList.map (·.2):=by
   exact List.ext_getElem? λ j=>?_;rw[AR];rcases BN j es.size with q | q
   .have Dx:j<acc.size:=by rw[A3.1];show q
    have hj:acc[j]?=↑acc[j]:=Bu Dx;let#[e,e1,e2]:=A3.2 j _ hj;rw[BR,BR,hj,e1,e2];rfl
   .rw[BR,BR,CY (by rw[A3.1];show q),CY (by rw[hcm];show q)];rfl
  rw[e];exact h h' Kk (λ b o hb e=>hm.heap b o (λ q=>?_) (Ku b o (AH hb) (gV _ (gV _ e)))) ?_
  .rcases An.mp q with q | q
   .show AH hb q
   .have q':b=(s.heap.push L0).objs.size:=AZ.mp q;rw[hsz] at q';show AH (Co hb) q'
  .show BD (Aq hS')
end
end ST
namespace ST
open PySem PySem.SetTable PyProof.Rows L4
section
variable {prog:Program}{w:World}{A:Around}{E:Af}{s:Shared}
def aX {a:Addr}{es:Array (Int×Value)}{ep:Nat}{t:SetTable}(hh:A.handled=none) (S:wF w s.heap a es ep t) (hz:es.size<=sizeLine) (Q':List Value->Shared->Prop)
  (h:∀ h1 tk,(∀ b o,¬ False->s.heap.get? b=↑o->h1.get? b=↑o)->s.heap.objs.size<=h1.objs.size->Q' ((comes w a es ep).toList.map (·.2)) { s with heap:=h1,toks:=tk }):wpAny (model prog w) A (collect (.ref a)) Q' E s:=
 MA hh S hz λ h1 tk k1 k2=>h h1 tk (λ b o _ q=>k1 b o (Aq q) q) k2
end
end ST
namespace ST
open PySem PySem.SetTable PySem.Spec PyProof.Rows L2
def y6 (w:World) (a:Addr) (us:Ae):Heap->Prop:=λ h=>∃ es ep t,wF w h a es ep t/\es.toList.map (·.2)=us
def y6.vk {w:World}{a:Addr}{us:Ae}{h1 h2:Heap}(S:y6 w a us h1) (k:∀ o,h1.get? a=↑o->h2.get? a=↑o):y6 w a us h2:=by
 let#[es,ep,t,S,e]:=S;show#[es,ep,t,S.keep k,e]
def rq.at {prog:Program}{w:World}{h:Heap}{a:Addr}{xs:List (List Int×Addr)}(S:rq prog w h a xs (tW w)):y6 w a (xs.map λ e=>Value.ref e.2) h:=by
 let#[#[es,ep,t,ho,X,h1,h2,h3],_]:=S;show#[es,ep,t,#[ho,X.fits,X.tab.w9,h1,h2],by rw[X.es,AN];rfl]
section
variable {X:Cx}
theorem cW:∀ {ns:List Int}{us:Ae},Vals (ns.map V.int) us->∀ {prog:Program}{w:World},ItemsAre (intKind prog w) ns us
 | [],_,.nil,_,_=>.nil
 | n::ns,_,.cons r t,prog,w=>by
  let#[tk,rfl]:=r;show .cons (intKind_is _ _ _ _) (cW t)
def MM (hc:X.calm=true) (hu:X.A.units+64<cLine):yx X (.type "set") (λ xs H Q=>∃ p ys,∃ rows:List (List Int),xs=[.ref p]/\(zG X.K H p ys\/zR X.K H p ys)/\L4.r9 X.K H ys rows/\rows.length<64/\
  ∀ (l:Addr) (us:Ae) (ps:List (V×List Int)),H l=none->Vals (ps.map (·.1)) us->(∀ q∈ps,q∈ys.zip rows)->(ps.map (·.2)).Nodup->(∀ r∈rows,r∈ps.map (·.2))->Q (.ref l) (upd H l (.ext (y6 X.w l us)))):=by
 intro Ff s Y H xs us Q I r h;let#[p,ys,rows,rfl,hq,hr,GJ,q]:=h;let#[u,rfl,ru]:=vals1 r;cases ru;obtain⟨Aa,rv,pl,hz⟩:∃ Aa,Vals ys Aa/\(s.heap.IsList p Aa.toArray\/s.heap.IsTuple p Aa.toArray)/\True:=by
  rcases hq with hq | hq
  .let#[Aa,rv,pl,_]:=I.list hq;show#[Aa,rv,.inl pl.isList,trivial]
  .let#[Aa,rv,pl,_]:=I.tuple hq;show#[Aa,rv,.inr pl,trivial]
 have hl:=rv.length;have CO:ys.length=rows.length:=Paired.length hr;have wZ:pC X.prog X.w s.heap Aa.toArray rows:=λ i v hv=>by
  have HB:Aa[i]?=↑v:=by exists hv
  have hi:i<Aa.length:=(AU.mp HB).1;let#[Az,b,hb,EJ]:=L4.Paired.at' hr (i:=i) ⋯ V.zr ([]:List Int);have hy:ys[i]?=↑(V.ref b):=by
   rw[A7 ⋯];have:ys.getD i V.zr=ys[i]'⋯:=by simp[show i<ys.length by lia]
   rw[this] at hb;rw[hb]
  let#[v',e1,e2]:=rv.get hy;rw[HB] at e1;cases e1;cases (show v=Value.ref b from e2);let#[FO,Ip,#[o,e,CS,n,hd],_]:=I.tuple EJ;exact#[b,rows.getD i [],rfl,?_,o,FO.toArray,n,e,CS,hd,by exists cW Ip];simp[show i<rows.length by lia]
 have hh:X.A.handled=none:=I.ok.hd hc;exact MP (A:=X.A) hh hu pl wZ (by rw[AD];lia) λ h' tk xs S U k=>?_;have kk:∀ b o,s.heap.get? b=↑o->h'.get? b=↑o:=λ b o e=>k b o (Aq e) e;have AV:H s.heap.objs.size=none:=I.zm.fresh (Ak _);have IW:=S.at;have vals:Vals ((xs.map λ e=>(V.ref e.2,e.1)).map (·.1)) (xs.map λ e=>Value.ref e.2):=by
  clear S U IW
  induction xs with
  | nil=>show .nil
  | cons e xs ih=>show .cons rfl ih
 have snd:(xs.map λ e=>(V.ref e.2,e.1)).map (·.2)=xs.map (·.1):=by rw[AN];rfl
 exact#[.ref s.heap.objs.size,_,I.laid (t':=tk) (o:=.ext (y6 X.w s.heap.objs.size (xs.map λ e=>Value.ref e.2))) kk (Ak _) ?_,rfl,q _ _ (xs.map λ e=>(V.ref e.2,e.1)) AV vals (λ x hx=>?_) (by rw[snd];show S.nd) λ r IA=>?_]
 .let#[es,ep,t,St,e]:=id IW;show#[IW,#[_,St.get],λ h1 h2 S1 k=>S1.vk k]
 .let#[e,he,rfl]:=Av.mp hx;let#[j,j1,j2,j3]:=U.own e he;have Hi:Aa[j]?=↑(Value.ref e.2):=by exists j2
  have Dx:j<ys.length:=by rw[hl];show (AU.mp Hi).1
  let#[v',e2,e3]:=rv.get (A7 Dx);rw[Hi] at e2;cases e2;let#[Az,b,hb,_]:=L4.Paired.at' hr (i:=j) ⋯ V.zr ([]:List Int);have:ys.getD j V.zr=ys[j]:=by simp[Dx]
  rw[this] at hb;rw[hb] at e3;cases (show Value.ref e.2=Value.ref b from e3);exact BU (i:=j) ?_;rw[List.getElem?_zip_eq_some];show#[by rw[A7 Dx,hb],j3]
 .rw[snd];let#[j,hj]:=Eg.mp IA;show U.all j r (by have:=(AU.mp hj).1;rw[AD];lia) hj
theorem Paired.mk {α β:Type}{F:α->β->Prop}:∀ {l:List α}{m:List β},l.length=m.length->(∀ (i:Nat) a b,l[i]?=↑a->m[i]?=↑b->F a b)->Paired F l m
 | [],[],_,_=>.nil
 | a::l,b::m,h,f=>.cons (f 0 a b rfl rfl) (Paired.mk (by exists h) λ i x y hx hy=>f (i+1) x y (by exists hx) (by exists hy))
 | [],_::_,h,_=>by simp at h
 | _::_,[],h,_=>by simp at h
theorem ML (hc:X.calm=true):yx X (.builtin "sorted") (λ xs H Q=>∃ l us vs,∃ rs:List (List Int),xs=[.ref l]/\H l=↑(.ext (y6 X.w l us))/\Vals vs us/\L4.r9 X.K H vs rs/\rs.length<64/\L4.nW (vs.zip rs) H Q):=by
 intro Ff s Y H xs us0 Q I r h;let#[l,us,vs,rs,rfl,hl,hv,hr,GJ,q]:=h;let#[u,rfl,ru]:=vals1 r;cases ru;obtain⟨⟨es,ep,t,S,eu⟩,-,-⟩:=(show yH X.prog X.w H s.heap l (.ext (y6 X.w l us)) from I.zm l _ hl)
 have hp:((comes X.w l es ep).toList.map (·.2)).Perm us:=by rw[<- eu];show (nH X.w l es ep).map _
 let#[qs,q1,q2]:=L4.Paired.perm hp (L4.VR.of hv hr);have hzl:(vs.zip rs).length<64:=by rw[List.length_zip];lia
 have D6:es.size<=sizeLine:=by
  have h1:us.length=(vs.zip rs).length:=Paired.length (L4.VR.of hv hr);have h2:=congrArg List.length eu;rw[AA,BE] at h2;have:sizeLine=16777216:=rfl;lia
 show L4.jn I (λ Q' h=>aX (by show I.ok.hd hc) S D6 Q' h) q2 (by rw[q1.length_eq];show hzl) λ p ps hf hp hs=>q p ps hf (hp.trans q1) hs
end
end ST
namespace L5
open PySem PySem.Spec L2 L3
open PyProof.Rows hiding St
def xD:List (List Int)->List (List Int)
 | []=>[]
 | r::rs=>if r∈xD rs then xD rs else r::xD rs
theorem qO {r:List Int}:∀ {rs:List (List Int)},r∈xD rs↔r∈rs
 | []=>.rfl
 | x::rs=>by
  unfold xD;split
  .rename_i h;rw[qO,An];show#[.inr,λ h'=>h'.elim (λ e=>e▸qO.mp h) id]
  .rw[An,An,qO]
theorem lj:∀ rs:List (List Int),(xD rs).Nodup
 | []=>.nil
 | x::rs=>by
  unfold xD;split
  .show lj rs
  .rename_i h;show BC.mpr #[h,lj rs]
theorem lq:∀ rs:List (List Int),(xD rs).length<=rs.length
 | []=>Ak _
 | x::rs=>by
  unfold xD;have:=lq rs;split <;> simp![Bj] <;> lia
def uc:xk:=λ ds S Q=>match ds with
 | [d]=>∃ rows:List (List Int),zP d S=↑(rows.map vc)/\rows.length<64/\(∀ r∈rows,r≠[])/\∀ l,S l=none->Q (.ref l) (ups S l (.lst ((L4.yZ (xD rows)).map vc)))
 | _=>False
def oa:Ap
 | [.lst ts]=>(wI ts).bind λ rs=>if rs.length<64/\∀ r∈rs,r≠[] then ↑(.lst ((L4.yZ (xD rs)).map zS)) else none
 | [.tup ts]=>(wI ts).bind λ rs=>if rs.length<64/\∀ r∈rs,r≠[] then ↑(.lst ((L4.yZ (xD rs)).map zS)) else none
 | _=>none
def bC:vi zE oa uc:=λ S Z ys z ds Q hz hv e hq=>by
 have key:∀ y ts,ys=[y]->xm y=↑ts->((wI ts).bind λ rs=>if rs.length<64/\∀ r∈rs,r≠[] then ↑(.lst ((L4.yZ (xD rs)).map zS)) else none)=↑z->uc ds S Q:=λ y ts ey et e'=>by
  subst ey;let#[d,rfl,h1]:=wY hv;let#[rs,e1,e2]:=Al.mp e';split at e2
  .rename_i hc;cases e2;cases jv e1;let#[es,h2,h3]:=h1.seq et;cases qG.mp h3;show#[rs,h2,hc.1,hc.2,λ l hl=>hq _ _ (.new hl _) (tQ hz hl (qG.mpr rfl))]
  .cases e2
 unfold oa at e;split at e
 .show key _ _ rfl rfl e
 .show key _ _ rfl rfl e
 .cases e
section
variable {K:Ac}{e:Expr}{p:Pos}
def uc.mo:vh uc:=λ ds S Q Q' hq h=>by
 unfold uc at h ⊢;split at h
 .let#[rows,h1,h2,h3,h4]:=h;show#[rows,h1,h2,h3,λ l hl=>hq _ _ (h4 l hl)]
 .show h.elim
def uc.fits {w:World}:uu K uc (λ xs H Q=>∃ p ys,∃ rows:List (List Int),xs=[.ref p]/\(zG K H p ys\/zR K H p ys)/\L4.r9 K H ys rows/\rows.length<64/\
  ∀ (l:Addr) (us:Ae) (ps:List (V×List Int)),H l=none->Vals (ps.map (·.1)) us->(∀ q∈ps,q∈ys.zip rows)->(ps.map (·.2)).Nodup->(∀ r∈rows,r∈ps.map (·.2))->
   ∃ l' HW G4,∃ Kr:List (List Int),[V.ref l]=[.ref l']/\(upd H l (.ext (ST.y6 w l us))) l'=↑(.ext (ST.y6 w l' HW))/\Vals G4 HW/\L4.r9 K (upd H l (.ext (ST.y6 w l us))) G4 Kr/\Kr.length<64/\L4.nW (G4.zip Kr) (upd H l (.ext (ST.y6 w l us))) Q):=λ xs ds H S Q h0 h2 h=>by
 unfold uc at h;split at h
 .rename_i d;let#[x,hx,h1]:=h0.one;subst hx;let#[rows,e,GJ,Az,h]:=h;obtain⟨a,ys,rfl,g1,g2⟩:∃ a xs,x=.ref a/\(zG K H a xs\/zR K H a xs)/\zj K H (rows.map vc) xs:=by
   by_cases hn:∃ ts,d=.tup ts
   .let#[ts,rfl]:=hn;cases e;simp![zf] at h1;let#[a,xs,q1,q2,q3]:=h1;show#[a,xs,q1,.inr q2,q3]
   .let#[a,ys,q1,q2,q3]:=sG h1 h2 e (λ ts z=>hn #[ts,z]);show#[a,ys,q1,.inl q2,q3]
  exact#[a,ys,rows,rfl,g1,mR g2 Az,GJ,λ l us ps hf hv sub nd all=>?_];have mem:∀ r,r∈ps.map (·.2)↔r∈rows:=λ r=>#[λ h=>by
   let#[q,hq,rfl]:=Av.mp h;show (C4 (sub q hq)).2,all r]
  have x1:Ext H (upd H l (.ext (ST.y6 w l us))):=.new hf _;have g3:zj K H ((ps.map (·.2)).map vc) (ps.map (·.1)):=zj.mY λ q hq=>zj.m7 g2 q (sub q hq);have Dn:(ps.map (·.2)).Perm (xD rows):=(Eh nd (lj rows)).mpr λ r=>by rw[mem,qO]
  have EA:(ps.map (·.1)).zip (ps.map (·.2))=ps:=by rw[List.zip_map',List.map_id''];intro a;rfl
  exact#[l,us,ps.map (·.1),ps.map (·.2),rfl,yf,hv,mR (zj.ext x1 _ g3) λ r hr=>Az r ((mem r).mp hr),by rw[Dn.length_eq];have:=lq rows;lia,λ p qs hp hi hs=>?_];rw[EA] at hi;have heq:=L4.fY ((hi.map (·.2)).trans Dn) hs;have Ao:p≠l:=λ z=>by subst z;rw[yf] at hp;cases hp
  have KW:H p=none:=by rw[zO Ao] at hp;show hp
  have x2:Ext (upd H l (.ext (ST.y6 w l us))) (upd (upd H l (.ext (ST.y6 w l us))) p (.lst (qs.map (·.1)))):=.new hp _;have r1:zC K (upd H l (.ext (ST.y6 w l us))) S:=h2.new hf;exact h p (h2.none KW) _ _ (by simp![zf]) (x1.trans x2) (r1.ups x2 #[_,yf,?_]);rw[<- heq];show zj.ext (x1.trans x2) _ (zj.mY λ q hq=>zj.m7 g2 q (sub q (hi.mem_iff.mp hq)))
 .show h.elim
end
end L5
namespace ST
open PySem PySem.SetTable PyProof.Rows
theorem bH {t:SetTable}{hs:List Int}(T:Tab t hs) (h:Int):∀ (f k K:Nat),k<=K->K<k+f->(way t.mask h K).j∉t.place.toList->(∀ m<K,(way t.mask h m).j∈t.place.toList)->probe.go t (λ _=>h+1) h f (way t.mask h k)=↑(.empty (way t.mask h K).j none)
 | 0,k,K,h1,h2,_,_=>⋯
 | f+1,k,K,h1,h2,h3,h4=>by
  by_cases e:k=K
  .subst e;unfold probe.go;rw[T.empty h3,kX]
  .let#[i,g,p1,_]:=T.at (h4 k ⋯);have ih:=bH T h f (k+1) K ⋯ ⋯ h3 h4
   conv=>lhs;unfold probe.go
   rw[T.live p1];dsimp only;rw[if_neg (by intro q;have:=eq_of_beq q;lia),gk];show ih
theorem NI {t:SetTable}{hs:List Int}(T:Tab t hs) (hl:hs.length<=t.mask) (h:Int):∃ j,t.freeSlot h=↑(j,false)/\gJ t h j:=by
 let#[K,k1,k2,k3]:=T.first hl h;exact#[(way t.mask h K).j,?_,#[k2,K,rfl,k3]];have g:=bH T h (10*turns t.mask) 0 K (A4 _) (by unfold turns;lia) k2 k3;unfold SetTable.freeSlot;have e:t.probe (λ _=>h+1) h (t.probeStart h)=↑(.empty (way t.mask h K).j none):=g;rw[e];rfl
structure qq (prog:Program) (w:World) (h:Heap) (a:Addr) (xs:List (Int×Tok)) (led:Bool):Prop where
 ex:∃ es ep t,h.get? a=↑{ cls:=.type "set",dict:=none,data:=.set es ep t }/\es.toList=xs.map (λ e=>((intKind prog w).hash e.1,Value.int e.1 e.2))/\Tab t (xs.map λ e=>(intKind prog w).hash e.1)/\t.led=led/\t.plain=true/\xs.length*5<t.mask*3
 nd:(xs.map (·.1)).Nodup
section
variable {prog:Program}{w:World}{A:Around}{E:Af}{s:Shared}
def fits_of {es:Array (Int×Value)}{t:SetTable}{hs:List Int}{n:Nat}(h1:es.size=n) (T:Tab t hs) (h2:hs.length=n) (h3:n<=t.mask):t.fits es.size=true:=by
 have l:=T.len;unfold SetTable.fits SetTable.fill;rw[T.rg,h1,l,h2];simp;lia
def oP {n m:Int}{t:Tok}:(intKind prog w).is n (.int m t)=true↔n=m:=by
 constructor
 .intro h;let#[t',e]:=Value.isInt_shape (show Value.isInt n (.int m t)=true from h);cases e;rfl
 .rintro rfl;show intKind_is _ _ _ _
def Mh {es:Array (Int×Value)}{xs:List (Int×Tok)}(h:es.toList=xs.map (λ e=>((intKind prog w).hash e.1,Value.int e.1 e.2))):ElemsOf (intKind prog w) es.toList:=λ e he=>by
 rw[h] at he;let#[x,_,rfl]:=Av.mp he;show#[#[x.1,oP.mpr rfl,rfl],rfl]
def WX {es:Array (Int×Value)}{t:SetTable}{xs:List (Int×Tok)}{M wanted:Nat}(he:es.toList=xs.map (λ e=>((intKind prog w).hash e.1,Value.int e.1 e.2))) (hM:vg M) (hw:sizeAbove wanted=M+1) (AQ:xs.length*5<M*3):
  ∃ Gh t',∃ FA:List (Int×Tok),relayAll t es wanted=(Gh,t',false)/\Gh.toList=FA.map (λ e=>((intKind prog w).hash e.1,Value.int e.1 e.2))/\FA.Perm xs/\Tab t' (FA.map λ e=>(intKind prog w).hash e.1)/\t'.mask=M/\t'.led=t.led/\t'.plain=t.plain/\Gh.size=es.size:=by
 have hlen:es.size=xs.length:=by have:=congrArg List.length he;exists this
 have E9:(es.map (·.1)).toList=xs.map λ e=>(intKind prog w).hash e.1:=by rw[Array.toList_map,he,AN];rfl
 have hsz:(es.map (·.1)).size=xs.length:=by rw[Dh,hlen]
 let#[t',order,h1,h2,h3,h4,h5,h6,h7]:=cO hM t.finger (t.movedTo M) t.led t.plain (es.map (·.1)) (by rw[hsz];lia);rw[hsz] at h6;have AB:∀ k∈order.toList,k<xs.length:=λ k hk=>by exists h6.mem_iff.mp hk
 have hr:t.relaid (es.map (·.1)) wanted=↑(t',order):=by
  unfold SetTable.relaid;rw[hw,Nat.add_sub_cancel];show h1
 have B6:(order.filterMap (es[·]?)).toList=(order.toList.filterMap λ k=>xs[k]?).map λ e=>((intKind prog w).hash e.1,Value.int e.1 e.2):=by
  rw[Array.toList_filterMap,List.map_filterMap];congr 1;funext k;rw[<- BR,he,AR]
 have Fo:(order.toList.filterMap λ k=>xs[k]?).Perm xs:=(h6.filterMap _).trans (by rw[List.filterMap_getElem?_range_length]);have B3:(order.filterMap (es[·]?)).size=es.size:=by
  rw[<- BE,B6,AA,Fo.length_eq,hlen]
 have hT:Tab t' ((order.toList.filterMap λ k=>xs[k]?).map λ e=>(intKind prog w).hash e.1):=by
  rw[<- j9 xs (λ e=>(intKind prog w).hash e.1) 0 order.toList AB,<- E9];show h7
 exact#[_,t',_,?_,B6,Fo,hT,h2,h4,h5,B3];have zH:coversAll order es.size=true:=by
  unfold coversAll;rw[List.isPerm_iff,hlen];show h6
 have fit:t'.fits (order.filterMap (es[·]?)).size=true:=fits_of (n:=xs.length) (by rw[B3,hlen]) hT (by rw[AA,Fo.length_eq]) (by rw[h2];lia);unfold relayAll;rw[hr];dsimp only;rw[zH,fit];rfl
def add_int {a:Addr}{xs:List (Int×Tok)}{n:Int}{tk:Tok}{led:Bool}{Q:Bool->Shared->Prop}(S:qq prog w s.heap a xs led) (hn:xs.length<70)
  (h:∀ h' FA r,Heap.SameBut a s.heap h'->qq prog w h' a FA led->(n∈xs.map (·.1)/\FA=xs\/n∉xs.map (·.1)/\FA.Perm (xs++[(n,tk)]))->Q r { s with heap:=h' }):
  wpAny (model prog w) A (setAddHashed a (.int n tk) ((intKind prog w).hash n)) Q E s:=by
 have S0:=S;let#[#[es,ep,t,ho,he,T,BM,Ao,AQ],BW]:=S;have hlen:es.size=xs.length:=by have:=congrArg List.length he;exists this
 have hm7:7<=t.mask/\t.mask<=127:=by rcases T.mask with e | e | e <;> lia
 have fit:t.fits es.size=true:=fits_of (n:=xs.length) hlen T #[] ⋯;have hel:=Mh (prog:=prog) (w:=w) he;unfold setAddHashed setAddHashedIn;exact za7 (Kj (zaC ho rfl fit ?_));dsimp only;have bs:byScan (.int n tk) es=true:=by
  have h1:decide (es.size<scanBound)=true:=zaA (by unfold scanBound;lia);have h2:es.all (·.2.scannable)=true:=by
   rw[Array.all_eq_true_iff_forall_mem];intro e hm;show (hel e (by exists hm)).2
  unfold byScan;rw[h1,h2];rfl
 rw[if_pos bs];exact Kj ?_;unfold setAddByScan;exact Kj (wpAny_rule (Kj (wpAny_setScan_of (k:=n) (oP.mpr rfl) ho rfl fit hel ?_)));have Ie:(es.toList.findIdx? (λ e=>(intKind prog w).is n e.2)).isSome=true↔n∈xs.map (·.1):=by
  rw[he,List.findIdx?_isSome,Bi];constructor
  .rintro⟨e,hm,q⟩;let#[x,hx,rfl]:=Av.mp hm;show Av.mpr #[x,hx,(oP.mp q).symm]
  .intro hm;let#[x,hx,rfl]:=Av.mp hm;show#[_,Av.mpr #[x,hx,rfl],oP.mpr rfl]
 cases hc:es.toList.findIdx? (λ e=>(intKind prog w).is n e.2) with
 | some j=>
  dsimp only;have hm:=Ie.mp (by rw[hc];rfl);exact Ad ?_;dsimp only;show Ad (h s.heap xs false #[rfl,λ _ _=>rfl] S0 (.inl #[hm,rfl]))
 | none=>
  dsimp only;have hm:n∉xs.map (·.1):=λ q=>by have:=Ie.mpr q;rw[hc] at this;cases this
  let#[j,fs,F]:=NI T (by rw[AA];lia) ((intKind prog w).hash n);let#[p1,p2,p3]:=T.put F;rw[AA] at p1;have CK:(t.put j).1.plain=true:=by rw[p2];show Ao
  have Cg:(t.put j).1.mask=t.mask:=by rw[p2]
  have AB:(t.put j).1.led=led:=by rw[p2];show BM
  generalize hT:(t.put j)=P at *;let#[t1,p]:=P;dsimp only at *;let Gq:=xs.take p++(n,tk)::xs.drop p
  have Fo:Gq.Perm (xs++[(n,tk)]):=by
   have e:xs.take p++xs.drop p=xs:=Ek p xs;have:Gq.Perm ((n,tk)::(xs.take p++xs.drop p)):=List.perm_middle;rw[e] at this;show this.trans (List.perm_append_singleton _ _).symm
  have GP:Gq.length=xs.length+1:=by rw[Fo.length_eq];simp
  have Hn:(insertAt es p ((intKind prog w).hash n,Value.int n tk)).toList=Gq.map λ e=>((intKind prog w).hash e.1,Value.int e.1 e.2):=by
   rw[toList_insertAt,he];simp[Gq,CW,CV]
  have HC:(insertAt es p ((intKind prog w).hash n,Value.int n tk)).size=xs.length+1:=by rw[<- BE,Hn,AA,GP]
  have T1:Tab t1 (Gq.map λ e=>(intKind prog w).hash e.1):=by
   have:Gq.map (λ e=>(intKind prog w).hash e.1)=(xs.map λ e=>(intKind prog w).hash e.1).take p++(intKind prog w).hash n::(xs.map λ e=>(intKind prog w).hash e.1).drop p:=by simp[Gq,CW,CV]
   rw[this];show p3
  have fit1:t1.fits (insertAt es p ((intKind prog w).hash n,Value.int n tk)).size=true:=fits_of (n:=xs.length+1) HC T1 (by rw[AA,GP]) (by rw[Cg];lia);have Dw:layNew t es ((intKind prog w).hash n) (.int n tk)=(insertAt es p ((intKind prog w).hash n,Value.int n tk),t1,false,false):=by
   unfold layNew;rw[fs];dsimp only;rw[hT];dsimp only;unfold SetTable.orStandIn;rw[fit1];rfl
  have Bw:(insertAt es p ((intKind prog w).hash n,Value.int n tk)).size<=sizeLine:=by
   rw[HC];have:sizeLine=16777216:=rfl;lia
  have HE:(Gq.map (·.1)).Nodup:=by
   exact (Fo.map _).nodup_iff.mpr ?_;rw[BP,List.nodup_append];exact#[BW,#[],λ x hx y hy=>?_];simp at hy;subst hy;show λ e=>hm (e▸hx)
  have IQ:=mX (Gh:=insertAt es p ((intKind prog w).hash n,Value.int n tk)) (t':=t1) ho;have sb:=Heap.SameBut.update s.heap a (Obj.putSet (insertAt es p ((intKind prog w).hash n,Value.int n tk)) t1);have GQ:t1.fill=xs.length+1:=by
   have l:=T1.len;rw[AA,GP] at l;unfold SetTable.fill;rw[T1.rg,l];simp
  rw[Dw];dsimp only;exact Kj (m:=pure Unit.unit) (Ad ?_);rw[CK];simp![if_true];exact Kj (m:=pure true) (Ad ?_);simp![if_true];exact Kj (wpAny_storeSet_of ho rfl ?_ Bw);by_cases hf:t1.tooFull=true
  .rw[hf];simp![C8,DR,if_true];have Gz:t.mask*3<=(xs.length+1)*5:=by
    have:=hf;unfold SetTable.tooFull at this;rw[GQ,Cg] at this;exists this
   let#[M',g1,g2,g3]:=eE xs.length t.mask T.mask AQ Gz hn;let#[es2,t2,IK,r1,r2,r3,r4,r5,r6,r7,r8]:=WX (prog:=prog) (w:=w) (t:=t1) Hn g1 (wanted:=grown (insertAt es p ((intKind prog w).hash n,Value.int n tk)).size) (by rw[HC];show g2) (by rw[GP];show g3);rw[r1];dsimp only;exact Kj (m:=pure Unit.unit) (Ad (Kj (wpAny_storeSet_of IQ rfl ?_ (by rw[r8];show Bw))));exact Ad ?_;dsimp only;exact Ad (h _ IK true (sb.trans (Heap.SameBut.update _ a _)) #[#[es2,ep+1+1,t2,mX IQ,r2,r4,by rw[r6];show AB,by rw[r7];show CK,by rw[r3.length_eq,GP,r5];show g3],(r3.map _).nodup_iff.mpr HE] (.inr #[hm,r3.trans Fo]))
  .have G3:t1.tooFull=false:=by exists hf
   rw[G3];simp![C8,C0,Bp,if_false];have Gz:(xs.length+1)*5<t.mask*3:=by
    have:=G3;unfold SetTable.tooFull at this;rw[GQ,Cg] at this;exists this
   exact Ad ?_;dsimp only;show Ad (h _ Gq true sb #[#[_,ep+1,t1,IQ,Hn,T1,AB,CK,by rw[GP,Cg];show Gz],HE] (.inr #[hm,Fo]))
end
def Nums (Aa:Aw) (ns:List Int):Prop:=∀ (i:Nat) v,Aa[i]?=↑v->∃ n t,v=.int n t/\ns[i]?=↑n
section
variable {prog:Program}{w:World}{A:Around}{E:Af}{s:Shared}{Aa:Aw}{ns:List Int}
def OM {led:Bool}{Sa:Addr}{wr:List Addr}(K4:Sa∉wr) (hN:Nums Aa ns):Kd prog w A Value.int Aa ns Sa wr (λ h xs=>qq prog w h Sa xs led) (λ _=>True) where
 nd:=λ S=>S.nd
 keep:=λ k _ S=>let #[#[es,ep,t,ho,r],nd]:=S;#[#[es,ep,t,k _ _ K4 ho,r],nd]
 lB:=λ _ T=>T
 add:=λ{s xs i v Q E} _ S hl hv hQ=>by
  let#[m,t,rfl,hr]:=hN i v hv;unfold setAdd;exact za7 (Kj ((intKind prog w).pyHash (A:=A) (k:=m) (oP.mpr rfl) ?_));show add_int (s:={ s with toks:=s.toks+1 }) (A:=A) S hl λ h' FA rr sb S' hx=>hQ h' _ FA rr m t rfl hr sb (CU _ _) S' hx
def WE {h:Heap}{a:Addr}(ho:h.get? a=↑(w6 w)):qq prog w h a [] (tW w):=
 #[#[[].toArray,0,_,ho,rfl,#[.inl rfl,rfl,rfl,.nil,λ j hj=>(by cases hj),λ i g j hg=>(by cases hg)],rfl,rfl,by change 0*5<7*3;lia],.nil]
def MO {l:Addr}{Q:Af}(hh:A.handled=none) (hl:s.heap.IsList l Aa) (hT:Nums Aa ns) (hn:Aa.size<70)
  (h:∀ (h':Heap) (tk:Nat) xs,qq prog w h' s.heap.objs.size xs (tW w)->Up Value.int Aa ns Aa.size xs->(∀ b o,b<s.heap.objs.size->s.heap.get? b=↑o->h'.get? b=↑o)->Q (.ref s.heap.objs.size) { s with heap:=h',toks:=tk }):
  wpAny (model prog w) A (call (.type "set") [.ref l]) Q E s:=
 Zf hh (.inl hl) hn (OM #[] hT) (λ h e=>WE e) (λ _ _=>trivial) h
end
end ST
namespace L4
open PySem PyProof.Rows
def M8 {prog:Program}{w:World}{A:Around}{E:Af}{s:Shared}{vs:Ae}{ns:List Int}(hI:IntsAre vs ns) (h2:2<=vs.length) (GJ:vs.length<64):
  Core prog w A E vs (λ out=>∃ GL,IntsAre out.toList GL/\GL.Perm ns/\GL.Pairwise (·<=·)) s:=by
 obtain⟨v1,v2,Fh,rfl⟩:∃ v1 v2 Fh,vs=v1::v2::Fh:=by
  match vs,h2 with
  | v1::v2::Fh,_=>show#[v1,v2,Fh,rfl]
 unfold Core;rw[keyKind_ints hI];exact Ad #[rfl,?_];exact tp (wpS_sortRuns (a₀:=pairsOf (v1::v2::Fh)) (st:=SortSt.mk' oneType' ((v1::v2::Fh).toArray.zip (v1::v2::Fh).toArray) [].toArray 7 none)
   (Q:=λ _ GH=>(arrOf GH).Perm (pairsOf (v1::v2::Fh))/\failedOf GH=none/\SortedTo (arrOf GH) (pairsOf (v1::v2::Fh)).size)
   hI.intKeys #[Array.Perm.refl _,rfl,rfl,rfl] (by rw[pairsOf_size];simp) (by rw[pairsOf_size];show GJ) λ GH a1 a2 a3=>#[a1,a2,a3]) ?_ λ _ _ e=>e
 rintro⟨⟨⟩,GH⟩ s' ⟨rfl,hp,hf,hs⟩;show#[rfl,hf,sorted_out hI hp hs,by rw[hp.size_eq,pairsOf_size]]
end L4
namespace L5
open PySem PySem.Spec L2 L3
open PyProof.Rows hiding St
structure Bq (mg:Au):Prop where
 set:mg "set"=none
 zip:mg "zip"=none
 enumerate:mg "enumerate"=none
section
variable {X:Cx}{K:Ac}{a b c e:Expr}{ta tb tc:zp}{pos:Pos}{fa fb fc:Ag}
def pk (f g:y7) (ta tb tc:zp):zp:=fun L S Q=>ta L S λ x S1=>tb L S1 λ y S2=>f x y S2 λ z S3=>match z with
 | .bl k=>if k=true then tc L S3 λ w S4=>g y w S4 Q else Q (.bl false) S3
 | _=>False
def pk.mo {f g:y7}(hf:xv f) (hg:xv g) (ha:zX ta) (hb:zX tb) (hc:zX tc):zX (pk f g ta tb tc):=fun L S Q Q' hq h=>
 ha L S _ _ (λ x S1 h=>hb L S1 _ _ (λ y S2 h=>hf x y S2 _ _ (λ z S3 h=>by
  cases z <;> first
   | show xF (hc L S3 _ _ λ w S4 h=>hg y w S4 _ _ hq h) (hq _ _) h
   | show h) h) h) h
theorem X3 {f g:y7}{r r':R2}(hr:xl K f r) (IA:xl K g r') (hf:xv f) (hg:xv g) (ha:zX ta) (hb:zX tb) (hc:zX tc) {Y:St}{H:Hp}{Q:VK}(h:zD K (pk f g ta tb tc) Y H Q):fS r r' (zD K ta) (zD K tb) (zD K tc) Y H Q:=by
 let#[L,S,r1,r2,h]:=h;exact zD.go ha r1 r2 h λ x S1 v H1 h1 q1 e1 p1=>?_;exact zD.go hb (r1.ext e1) p1 h1 λ y S2 w H2 h2 q2 e2 p2=>?_;exact hr v w x y H2 S2 _ (zf.ext e2 x q1) q2 p2 (hf x y S2 _ _ (λ d S3 z v3 H3 q3 e3 p3=>?_) h2);cases d with
 | bl k=>
  simp![zf] at q3;exact#[k,q3,xF (λ z=>?_) (λ z=>?_) z]
  .exact zD.go hc (r1.ext ((e1.trans e2).trans e3)) p3 z λ w4 S4 v4 H4 h4 q4 e4 p4=>?_;show IA w v4 y w4 H4 S4 Q (zf.ext (e3.trans e4) y q2) q4 p4 (hg y w4 S4 _ _ (λ d S' z=>z.ext (((e1.trans e2).trans e3).trans e4)) h4)
  .show z _ H3 (by simp![zf]) ((e1.trans e2).trans e3) p3
 | _=>show z.elim
@[simp] def Zd (f g:T->T->Option T) (fa fb fc:Ag):Ag:=fun J=>(fa J).bind λ x=>(fb J).bind λ y=>(f x y).bind λ b=>match b with
 | .bl k=>if k=true then (fc J).bind λ z=>g y z else ↑(.bl false)
 | _=>none
def Pf {f g:T->T->Option T}{F G:y7}(hf:Good2 zE f F) (hg:Good2 zE g G) (ha:yi fa ta) (hb:yi fb tb) (hc:yi fc tc):yY (Zd f g fa fb fc) (pk F G ta tb tc):=λ S Z L J y Q hE e hq=>by
 let#[x1,e1,e]:=Al.mp e;let#[x2,e2,e]:=Al.mp e;let#[b,e3,e]:=Al.mp e;exact ha S Z L J x1 _ hE e1 λ d1 S1 s1 r1=>?_;exact hb S1 Z L J x2 _ (hE.grow s1) e2 λ d2 S2 s2 r2=>?_;exact hf S2 Z x1 x2 b d1 d2 _ (hE.grow (s1.trans s2)).zd (Vw.grow r1 s2) r2 e3 λ c S3 s3 r3=>?_;split at e
 .have:=r3.1;simp![Sn] at this;subst this;split at e
  .rename_i hk;let#[x4,e4,e5]:=Al.mp e;dsimp only;rw[if_pos hk];exact hc S3 Z L J x4 _ (hE.grow ((s1.trans s2).trans s3)) e4 λ d4 S4 s4 r4=>?_;show hg S4 Z x2 x4 y d2 d4 Q (hE.grow (((s1.trans s2).trans s3).trans s4)).zd (Vw.grow r2 (s3.trans s4)) r4 e5 λ c' S5 s5 r5=>hq c' S5 ((((s1.trans s2).trans s3).trans s4).trans s5) (Cl.cl (((s1.trans s2).trans s3).trans s4) r5)
  .rename_i hk;dsimp only;rw[if_neg hk];cases e;show hq _ S3 ((s1.trans s2).trans s3) (Cl.of (λ _=>nofun) wz)
 .cases e
def SD {op Ir:CmpOp}{f g:y7}{r r':R2}(ho:zZ X (compareOp op) r) (F5:zZ X (compareOp Ir) r') (hr:xl X.K f r) (IA:xl X.K g r') (hf:xv f) (hg:xv g) (ha:PD X a ta) (hb:PD X b tb) (hc:PD X c tc)
  (hm:lastMarks [op,Ir] [b,c]=false:=by with_unfolding_all rfl):PD X (.Compare a [op,Ir] [b,c] pos) (pk f g ta tb tc):=
 #[pk.mo hf hg ha.mo hb.mo hc.mo,PE.imp (Uo ho F5 ha.pe hb.pe hc.pe hm) λ _ _ _ h=>X3 hr IA hf hg ha.mo hb.mo hc.mo h]
end
end L5
namespace L2
open PySem PySem.Spec PyProof.Rows
section
variable {X:Cx}
def Rq:zZ X (compareOp .Is) (λ x y H Q=>∃ c d,x=.bl c/\y=.bl d/\Q (.bl (c == d)) H):=by
 intro Ff s Y H x y v u Q I rx ry h;let#[c,d,rfl,rfl,q]:=h;cases rx;cases ry;show is_bool #[.bl _,H,I,rfl,q]
def Rc:zZ X (compareOp .IsNot) (λ x y H Q=>∃ c d,x=.bl c/\y=.bl d/\Q (.bl (c != d)) H):=by
 intro Ff s Y H x y v u Q I rx ry h;let#[c,d,rfl,rfl,q]:=h;cases rx;cases ry;show isnot_bool #[.bl _,H,I,rfl,q]
end
end L2
namespace L5
open PySem PySem.Spec L2 L3
open PyProof.Rows hiding St
section
variable {X:Cx}{K:Ac}{a b c e o i v:Expr}{es:List Expr}{ta tb td ty tv:zp}{pos p pos':Pos}
def uZ:y7:=λ x y S Q=>match x,y with
 | .int i,.int j=>Q (.bl (decide (i<j))) S
 | .tup ds,.tup es=>∃ ns ms:List Int,ds=ns.map D.int/\es=ms.map D.int/\Q (.bl (HT.lexLt ns ms)) S
 | _,_=>False
def u6:T->T->Option T
 | .int i,.int j=>↑(.bl (decide (i<j)))
 | .tup ts,.tup us=>(vX ts).bind λ ns=>(vX us).map λ ms=>.bl (HT.lexLt ns ms)
 | _,_=>none
def uZ.mo:xv uZ:=λ x y S Q Q' hq h=>by
 unfold uZ at h ⊢;split at h
 .show hq _ _ h
 .let#[ns,ms,h1,h2,h3]:=h;show#[ns,ms,h1,h2,hq _ _ h3]
 .show h.elim
def uZ.fits:xl K uZ (λ x y H Q=>vp (λ i j=>.bl (decide (i<j))) x y H Q\/j4 K x y H Q):=λ x y d e H S Q h1 h2 h3 h=>by
 unfold uZ at h;split at h
 .simp![zf] at h1 h2;show .inl #[_,_,h1,h2,h _ H (by simp![zf]) (.refl H) h3]
 .let#[ns,ms,rfl,rfl,h]:=h;simp![zf] at h1 h2;let#[a,xs,rfl,g1,g2]:=h1;let#[b,ys,rfl,g3,g4]:=h2;rw[g2.ints] at g1;rw[g4.ints] at g3;show .inr #[a,b,ns,ms,rfl,rfl,g1,g3,h _ H (by simp![zf]) (.refl H) h3]
 .show h.elim
def iq:Good2 zE u6 uZ:=λ S Z x y z d e Q hz hx hy ef hq=>by
 unfold u6 at ef;split at ef
 .cases ef;cases hx.int;cases hy.int;show hq _ S (.refl S) (Cl.of (λ _=>nofun) wz)
 .let#[ns,e1,e2]:=Al.mp ef;let#[ms,e3,rfl]:=AM.mp e2;cases oQ e1;cases oQ e3;let#[ds,rfl,h2]:=hx.tup;let#[es,rfl,h4]:=hy.tup;show#[ns,ms,tP.mp h2,tP.mp h4,hq _ S (.refl S) (Cl.of (λ _=>nofun) wz)]
 .cases ef
def Rm {k:Nat}(hr:yb k X.A):zZ X (compareOp .Lt) (λ x y H Q=>vp (λ i j=>.bl (decide (i<j))) x y H Q\/j4 X.K x y H Q):=Ro.or (Rn (by have:=hr.units;lia))
def U9 {k:Nat}(hr:yb k X.A) (ha:PD X a ta) (hb:PD X b tb):yX X (.Compare a [.Lt] [b] pos) (vD (yk uZ ta tb)):=sI (Rm hr) uZ.fits uZ.mo ha hb (sM _)
def wu (neg:Bool):y7:=λ x y S Q=>match x,y with
 | .bl c,.bl d=>Q (.bl (cond neg (c != d) (c == d))) S
 | x,.zr=>Q (.bl (cond neg (!qS x) (qS x))) S
 | _,_=>False
def sT (neg:Bool):T->T->Option T
 | .bl c,.bl d=>↑(.bl (cond neg (c != d) (c == d)))
 | x,.zr=>↑(.bl (cond neg (!isNone x) (isNone x)))
 | _,_=>none
def wu.mo {neg:Bool}:xv (wu neg):=λ x y S Q Q' hq h=>by
 unfold wu at h ⊢;split at h
 .show hq _ _ h
 .show hq _ _ h
 .show h.elim
def wu.fits:xl K (wu false) (λ x y H Q=>(∃ c d,x=.bl c/\y=.bl d/\Q (.bl (c == d)) H)\/(y=.zr/\Q (.bl (decide (x=.zr))) H)):=λ x y d e H S Q h1 h2 h3 h=>by
 unfold wu at h;split at h
 .simp![zf] at h1 h2;show .inl #[_,_,h1,h2,h _ H (by simp![zf,cond]) (.refl H) h3]
 .simp![zf] at h2;exact .inr #[h2,?_];rw[cY h1];show h _ H (by simp![zf,cond]) (.refl H) h3
 .show h.elim
def wu.NN:xl K (wu true) (λ x y H Q=>(∃ c d,x=.bl c/\y=.bl d/\Q (.bl (c != d)) H)\/(y=.zr/\Q (.bl (!decide (x=.zr))) H)):=λ x y d e H S Q h1 h2 h3 h=>by
 unfold wu at h;split at h
 .simp![zf] at h1 h2;show .inl #[_,_,h1,h2,h _ H (by simp![zf,cond]) (.refl H) h3]
 .simp![zf] at h2;exact .inr #[h2,?_];rw[cY h1];show h _ H (by simp![zf,cond]) (.refl H) h3
 .show h.elim
def OV {S:SS}{Z:Addr->Prop}{x:T}{d:D}(hx:Vw S Z x d):qS d=isNone x:=by
 cases x with
 | zr=>cases hx.zr;rfl
 | bl _=>cases hx.bl;rfl
 | int _=>cases hx.int;rfl
 | str _=>cases hx.str;rfl
 | tup _=>let#[ds,rfl,_]:=hx.tup;rfl
 | lst _=>obtain⟨ds,rfl | ⟨a,rfl,h1⟩,h2⟩:=hx.lst <;> rfl
 | yL=>let#[a,Ab,#[rfl,_],h1]:=hx.yL;rfl
 | err _ _ _=>let#[x,rfl,_]:=hx.err;rfl
def N4 {neg:Bool}:Good2 zE (sT neg) (wu neg):=λ S Z x y z d e Q hz hx hy ef hq=>by
 unfold sT at ef;split at ef
 .cases ef;cases hx.bl;cases hy.bl;show hq _ S (.refl S) (Cl.of (λ _=>nofun) wz)
 .cases ef;cases hy.zr;have key:Q (.bl (cond neg (!qS d) (qS d))) S:=by
   rw[OV hx];show hq _ S (.refl S) (Cl.of (λ _=>nofun) wz)
  unfold wu;cases d <;> show key
 .cases ef
def UC (ha:PD X a ta) (hb:PD X b tb):yX X (.Compare a [.Is] [b] pos) (vD (yk (wu false) ta tb)):=sI (Rq.or Rp) wu.fits wu.mo ha hb (sM _)
def UB (ha:PD X a ta) (hb:PD X b tb):yX X (.Compare a [.IsNot] [b] pos) (vD (yk (wu true) ta tb)):=sI (Rc.or Ra) wu.NN wu.mo ha hb (sM _)
def aK (td ty tv:zp):z_:=λ E L S=>tv L S λ v S1=>td L S1 λ x S2=>ty L S2 λ y S3=>∃ p ds k j,x=.ref p/\y=.int k/\S3 p=↑(.lst ds)/\wM ds.length k=↑j/\E.nx L (ups S3 p (.lst (ds.set j v)))
theorem zj.set {H:Hp}{d:D}{x:V}(h:zf K H d x):∀ {ds:List D}{xs:List V}(j:Nat),zj K H ds xs->zj K H (ds.set j d) (xs.set j x)
 | [],xs,j,r=>by simp![zj] at r;subst r;show .nil
 | c::ds,xs,0,r=>by
  simp![zj] at r;let#[y,ys,rfl,_,r2]:=r;show .cons h r2
 | c::ds,xs,j+1,r=>by
  simp![zj] at r;let#[y,ys,rfl,r1,r2]:=r;show .cons r1 (zj.set h j r2)
def UR (ho:PD X o td) (hi:PD X i ty) (hv:PD X v tv) (hs:swapsWithSole [.Subscript o i pos'] v pos.line X.env=pure false) (hw:swappedStores [.Subscript o i pos'] v X.env=pure none)
  (h1:(assignEach [.Subscript o i pos'] X.env).map (·.2)=[assign (.Subscript o i pos') X.env])
  (ha:∀ v,assign (.Subscript o i pos') X.env v=(do
   let ov <- holding [v] (eval o X.env)
   let iv <- holding [v,ov] (eval i X.env)
   standAt pos'
   holding [v,ov,iv] (setItem ov iv v)
   release [v,ov,iv] [])):xu X (.Assign [.Subscript o i pos'] v pos) (aK td ty tv):=by
 exact#[λ E E' L S hE z=>hv.mo L S _ _ (λ w S1 z=>ho.mo L S1 _ _ (λ x S2 z=>hi.mo L S2 _ _ (λ y S3 #[p,ds,k,j,a,b,c,d,h]=>#[p,ds,k,j,a,b,c,d,hE.nx _ _ h]) z) z) z,PS.imp (du hv.pe (VM ho.pe hi.pe set_list ha) hs hw h1) λ D Y H hu=>?_];let#[L,S,r1,r2,z]:=hu;exact zD.go hv.mo r1 r2 z λ w S1 w1 H1 h1 q1 e1 p1=>?_;exact zD.go ho.mo (r1.ext e1) p1 h1 λ x S2 w2 H2 h2 q2 e2 p2=>?_;exact zD.go hi.mo ((r1.ext e1).ext e2) p2 h2 λ y S3 w3 H3 h3 q3 e3 p3=>?_;let#[p,ds,k,j,rfl,rfl,c1,c2,h]:=h3;simp![zf] at q2 q3;subst q2 q3;let#[xs,g1,g2]:=p3 _ _ c1;have e4:Ext H3 (upd H3 p (.lst (xs.set j w1))):=.lst g1 _;exact#[p,xs,k,j,rfl,rfl,g1,by rw[<- g2.length];show c2,?_];show h Y _ ((((r1.ext e1).ext e2).ext e3).ext e4) (((e1.trans e2).trans e3).trans e4) (p3.ups e4 #[_,yf,zj.ext e4 _ (zj.set (zf.ext (e2.trans e3) w q1) j g2)])
@[simp] def c6 (n:Nat) (f v:Ag):Sm:=fun J=>(v J).bind λ z=>(f J).bind λ y=>match J[n]?,y with
 | some ↑(.own (.lst ts)),.int k=>(wM ts.length k).map λ j=>.nx (J.set n ↑(.own (.lst (ts.set j z))))
 | _,_=>none
def RF {R:Rk}(n:Nat) {f v:Ag}(hf:yi f ty) (hv:wV v tv):zW R (c6 n f v) (aK (yh n) ty tv):=λ S0 Z0 S Z L J o E F e P=>by
 let#[z,e1,e]:=Al.mp e;let#[x,e2,e3]:=Al.mp e;split at e3
 .rename_i ts k h;let#[j,hj,rfl]:=AM.mp e3;exact hv S Z L J z _ F.er e1 λ dz S1 s1 r1=>?_;have F1:=F.grow s1;let#[p,ob,h1,h2,h3,h4]:=F1.er.ow n _ h;cases ob with
  | zB _=>show h3.elim
  | lst ds=>
   change yh n L S1 _;unfold yh;rw[h1];exact hf S1 Z L J _ _ F1.er e2 λ d S2 s2 r2=>?_;cases Vw.int r2;have h5:zi (zK S2 Z) ts ds:=zi.sx (wC s2) ts h3;show#[p,ds,k,j,rfl,rfl,s2 _ _ h2,by rw[h5.len];show hj,P _ Z L ((F1.grow s2).mut (us:=.lst (ts.set j z)) (es:=.lst (ds.set j dz)) n h h1 (h5.eI j (Sn.sx (wC s2) z r1)))]
 .cases e3
def So {x y:Str}{u:Value}(hm:X.mg x=↑u) (r:RelV (.str y) u) (hg:Gl X x) (hd:(x == ("__debug__":Str))=false):PD X (.Name x pos) (dC (.str y)):=oy (dB hg hm r hd) λ _=>by simp![zf]
end
end L5
namespace ZP
open PySem PyProof.Rows
def j_ (k:Bool):String:=cond k "tuple_iterator" "list_iterator"
def SI (h:Heap) (k:Bool) (it l:Addr) (i:Nat):Prop:=∃ o,h.get? it=↑o/\o.cls=.type (j_ k)/\o.data=.fields [.ref l,.int i 0].toArray
def SQ (h:Heap) (k:Bool) (l:Addr) (xs:Aw):Prop:=match k with
 | true=>h.IsTuple l xs
 | false=>h.IsList l xs
def SI.on {h h':Heap}{k:Bool}{it l:Addr}{i:Nat}(x:SI h k it l i) (f:∀ o,h.get? it=↑o->h'.get? it=↑o):SI h' k it l i:=
 let #[o,ho,r]:=x;#[o,f o ho,r]
def SQ.on {h h':Heap}{k:Bool}{l:Addr}{xs:Aw}(x:SQ h k l xs) (f:∀ o,h.get? l=↑o->h'.get? l=↑o):SQ h' k l xs:=by
 cases k with
 | true=>let#[o,ho,r]:=(show h.IsTuple l xs from x);show#[o,f o ho,r]
 | false=>let#[o,ho,r]:=(show h.IsList l xs from x);show#[o,f o ho,r]
def SQ.lt {h:Heap}{k:Bool}{l:Addr}{xs:Aw}(x:SQ h k l xs):l<h.objs.size:=by
 cases k with
 | true=>let#[o,ho,_]:=(show h.IsTuple l xs from x);show Aq ho
 | false=>let#[o,ho,_]:=(show h.IsList l xs from x);show Aq ho
theorem SQ.cls {h:Heap}{k:Bool}{l:Addr}{xs:Aw}(x:SQ h k l xs):∃ o,h.get? l=↑o/\o.cls=.type (cond k "tuple" "list"):=by
 cases k with
 | true=>let#[o,ho,c,_]:=(show h.IsTuple l xs from x);show#[o,ho,c]
 | false=>let#[o,ho,c,_]:=(show h.IsList l xs from x);show#[o,ho,c]
section
variable {prog:Program}{w:World}{A:Around}{E:Af}{s:Shared}
def made {k:Bool}{l:Addr}{xs:Aw}{Q:Af}(hl:SQ s.heap k l xs)
  (hQ:Q (.ref s.heap.objs.size) { s with heap:=s.heap.push { cls:=.type (j_ k),data:=.fields [.ref l,.int 0 0].toArray } }):wpAny (model prog w) A (pyIter (.ref l)) Q E s:=by
 cases k with
 | true=>show wpAny_pyIter_tuple hl hQ
 | false=>show wpAny_pyIter_list hl hQ
def Ml {it l:Addr}{i:Nat}{xs:Aw}{x:Value}{Q:Af}(hit:s.heap.IsTupleIter it l i) (hl:s.heap.IsTuple l xs) (hx:xs[i]?=↑x)
  (hQ:∀ h',h'.IsTupleIter it l (i+1)->Heap.SameBut it s.heap h'->Q x { s with heap:=h' }):wpAny (model prog w) A (Builtin.SmallTypes.nextOf (.ref it)) Q E s:=by
 have ht:=hit.typeIs;let#[oi,e1,e2,e3]:=id hit;let#[ol,g1,_,n,g2]:=hl;exact Kj (zaG (name:=Str.ofString "__next__") ht F.slot_tuple_iterator_next (zaB F.slot_tuple_iterator_next ht F.entry_tuple_iterator_next ?_ (F.args_tuple_iterator_next_1 _)));exact Kj (m:=field (.ref it) 0) (za3 e1 e3 (x:=.ref l) rfl ?_);dsimp only;rw[if_neg (show ¬ ((Value.ref l == Value.none)=true) from B_)];exact Kj (m:=field (.ref it) 1) (za3 e1 e3 (x:=.int i 0) rfl ?_);dsimp only;exact Kj (m:=seqItems? (.ref l)) (zaE g1 g2 ?_);simp![Cr,hx];have there:=za8 (Obj.mapFields λ y=>y.setIfInBounds 1 (rawInt ((i:Int)+1))) e1 (Obj.isFreed_of_fields (Obj.data_mapFields e3 _));exact Kj (zaD e1 e3 #[] (Ad #[x,rfl,Ad (hQ _ #[_,there,(Obj.cls_mapFields ..).trans e2,?_] (Heap.SameBut.update ..))]));rw[Obj.data_mapFields e3];simp[rawInt]
def Me {it l:Addr}{i:Nat}{xs:Aw}{Q:Af}(hh:A.handled=none) (hit:s.heap.IsTupleIter it l i) (hl:s.heap.IsTuple l xs) (hx:xs[i]?=none)
  (hE:∀ h' e,Heap.ExtBut it s.heap h'->(∃ o,h'.get? e=↑o/\o.cls=.type "StopIteration")->E (.ref e) { s with heap:=h' }):wpAny (model prog w) A (Builtin.SmallTypes.nextOf (.ref it)) Q E s:=by
 have ht:=hit.typeIs;let#[oi,e1,e2,e3]:=id hit;let#[ol,g1,_,n,g2]:=hl;exact Kj (zaG (name:=Str.ofString "__next__") ht F.slot_tuple_iterator_next (zaB F.slot_tuple_iterator_next ht F.entry_tuple_iterator_next ?_ (F.args_tuple_iterator_next_1 _)));exact Kj (m:=field (.ref it) 0) (za3 e1 e3 (x:=.ref l) rfl ?_);dsimp only;rw[if_neg (show ¬ ((Value.ref l == Value.none)=true) from B_)];exact Kj (m:=field (.ref it) 1) (za3 e1 e3 (x:=.int i 0) rfl ?_);dsimp only;exact Kj (m:=seqItems? (.ref l)) (zaE g1 g2 ?_);simp![Cr,hx];exact Kj (wpAny_rule (Kj (zaD e1 e3 #[] ?_)));exact Kj (m:=newExc (.type "StopIteration") []) ?_;simp![newExc,newTuple];exact Kj (za9 (Kj (m:=firstArgMember _ _) (wpAny_of_eq (a:=Value.none) (by first | rfl | (simp![firstArgMember];rfl)) (za9 ?_ (by size_fits)))) (by size_fits));simp![raiseNew];exact Kj (wpAny_handled ?_);rw[show A.in1.handled=none from hh];show Kj (Ad (wpAny_throw (hE _ _ (((Heap.SameBut.update ..).extBut.push _).push _) #[_,AJ _ rfl,rfl])))
def draw {k:Bool}{it l:Addr}{i:Nat}{xs:Aw}{x:Value}{Q:Af}(hit:SI s.heap k it l i) (hl:SQ s.heap k l xs) (hx:xs[i]?=↑x)
  (hQ:∀ h',SI h' k it l (i+1)->Heap.SameBut it s.heap h'->Q x { s with heap:=h' }):wpAny (model prog w) A (Builtin.SmallTypes.nextOf (.ref it)) Q E s:=by
 cases k with
 | true=>show Ml hit hl hx hQ
 | false=>show wpAny_nextOf_list_item hit hl hx hQ
def lS {k:Bool}{it l:Addr}{i:Nat}{xs:Aw}{Q:Af}(hh:A.handled=none) (hit:SI s.heap k it l i) (hl:SQ s.heap k l xs) (hx:xs[i]?=none)
  (hE:∀ h' e,Heap.ExtBut it s.heap h'->(∃ o,h'.get? e=↑o/\o.cls=.type "StopIteration")->E (.ref e) { s with heap:=h' }):wpAny (model prog w) A (Builtin.SmallTypes.nextOf (.ref it)) Q E s:=by
 cases k with
 | true=>show Me hh hit hl hx hE
 | false=>show wpAny_nextOf_list_end hh hit hl hx hE
structure kM (z TI TO i1 i2 l1 l2:Addr):Prop where
 nd:[z,TI,TO,i1,i2].Nodup
 f1:l1∉[z,TI,TO,i1,i2]
 f2:l2∉[z,TI,TO,i1,i2]
structure At (h:Heap) (k1 k2:Bool) (z TI TO i1 i2 l1 l2:Addr) (f0:Value) (n:Nat):Prop where
 z:IsZip h z TI TO f0
 ti:IsPair h TI (.ref i1) (.ref i2)
 to:∃ a b,IsPair h TO a b
 s1:SI h k1 i1 l1 n
 s2:SI h k2 i2 l2 n
def At.keep {h h':Heap}{k1 k2:Bool}{z TI TO i1 i2 l1 l2:Addr}{f0:Value}{n:Nat}(S:At h k1 k2 z TI TO i1 i2 l1 l2 f0 n) (f:∀ b∈[z,TI,TO,i1,i2],∀ o,h.get? b=↑o->h'.get? b=↑o):At h' k1 k2 z TI TO i1 i2 l1 l2 f0 n:=
 #[f z #[] _ S.z,f TI #[] _ S.ti,let #[a,b,e]:=S.to;#[a,b,f TO #[] _ e],S.s1.on (f i1 #[]),S.s2.on (f i2 #[])]
def item {k1 k2:Bool}{z TI TO i1 i2 l1 l2:Addr}{n:Nat}{xs ys:Aw}{x y:Value}{Q:Option Value->Shared->Prop}(D:kM z TI TO i1 i2 l1 l2) (S:At s.heap k1 k2 z TI TO i1 i2 l1 l2 .none n)
  (h1:SQ s.heap k1 l1 xs) (h2:SQ s.heap k2 l2 ys) (hx:xs[n]?=↑x) (hy:ys[n]?=↑y)
  (hQ:∀ h',At h' k1 k2 z TI TO i1 i2 l1 l2 (rawInt s.heap.objs.size) (n+1)->IsPair h' s.heap.objs.size x y->(∀ c o,c∉[z,TI,TO,i1,i2]->s.heap.get? c=↑o->h'.get? c=↑o)->Q ↑(.ref s.heap.objs.size) { s with heap:=h' }):
  wpAny (model prog w) A (pyNext (.ref z)) Q E s:=by
 let#[nd,f1,f2]:=D;simp![BC,An,A8,or_false,not_or,List.nodup_nil,and_true,not_false_eq_true] at nd f1 f2;let#[#[n1,n2,n3,n4],#[n5,n6,n7],#[n8,n9],JY]:=nd;let#[a1,a2,a3,a4,a5]:=f1;let#[b1,b2,b3,b4,b5]:=f2;let#[hz,D1,#[a,b,EH],s1,s2]:=S;have hT:s.TypeIs (.ref z) "zip":=#[_,hz,rfl];unfold pyNext;exact Kj (wpAny_attempt (zaG (name:=Str.ofString "__next__") hT F.slot_zip_next (zaB F.slot_zip_next hT F.entry_zip_next ?_ (F.args_zip_next_1 _))));exact Kj (m:=field (.ref z) 2) (za3 hz rfl (x:=.bool false) rfl ?_);exact Kj (m:=field (.ref z) 3) (za3 hz rfl (x:=.ref TI) rfl ?_);exact Kj (m:=seqItems? (.ref TI)) (zaE D1 rfl ?_);exact Kj (m:=Builtin.SmallTypes.ownedTupleIsFree (.ref z)) (Kj (m:=field (.ref z) 0) (za3 hz rfl (x:=.none) rfl (Ad ?_)));simp![if_true];exact Kj (wpAny_rule (Kj (za3 hz rfl (x:=.ref TO) rfl (Kj (zaL hz #[] λ g1 HR e1=>?_)))));replace HR:IsZip g1 z TI TO .ellipsis:=HR;exact Kj ?_;simp![DI,List.zipIdx_nil,DX,List.forIn_nil];exact Kj (Kj (wpAny_onRaise (Kj (m:=Builtin.SmallTypes.nextOf (.ref i1)) (draw (s1.on λ o q=>e1.extBut _ _ (Ne.symm n3) q) (h1.on λ o q=>e1.extBut _ _ a1 q) hx λ g2 s12 e2=>Ad ?_))));have to2:IsPair g2 TO a b:=e2.extBut _ _ n8 (e1.extBut _ _ (Ne.symm n2) EH);exact Kj (zaE to2 rfl (Kj (wpAny_updateSeq_pair to2 λ g3 to3 e3=>Kj (wpAny_letGo (Ad ?_)))));replace to3:IsPair g3 TO x b:=to3;have up:∀ c o,c≠z->c≠i1->c≠TO->s.heap.get? c=↑o->g3.get? c=↑o:=λ c o c1 c2 c3 q=>e3.extBut _ _ c3 (e2.extBut _ _ c2 (e1.extBut _ _ c1 q));exact Kj (Kj (wpAny_onRaise (Kj (m:=Builtin.SmallTypes.nextOf (.ref i2)) (draw (s2.on λ o q=>up _ o (Ne.symm n4) (Ne.symm JY) (Ne.symm n9) q) (h2.on λ o q=>up _ o b1 b4 b3 q) hy λ g4 s24 e4=>Ad ?_))));have to4:IsPair g4 TO x b:=e4.extBut _ _ n9 to3;exact Kj (zaE to4 rfl (Kj (wpAny_updateSeq_pair to4 λ g5 JU e5=>Kj (wpAny_letGo (Ad (Ad ?_))))));replace JU:IsPair g5 TO x y:=JU;exact Kj (zaE JU rfl (Kj (wpAny_newTuple ?_)));have sz:g5.objs.size=s.heap.objs.size:=by rw[e5.1,e4.1,e3.1,e2.1,e1.1]
 have hz5:IsZip g5 z TI TO .ellipsis:=e5.extBut _ _ n2 (e4.extBut _ _ n4 (e3.extBut _ _ n2 (e2.extBut _ _ n3 HR)));have up5:∀ c o,c∉[z,TI,TO,i1,i2]->s.heap.get? c=↑o->g5.get? c=↑o:=λ c o hc q=>by
  simp![An,A8,or_false,not_or] at hc;show e5.extBut _ _ hc.2.2.1 (e4.extBut _ _ hc.2.2.2.2 (up c o hc.1 hc.2.2.2.1 hc.2.2.1 q))
 have ti5:IsPair g5 TI (.ref i1) (.ref i2):=e5.extBut _ _ n5 (e4.extBut _ _ n7 (up _ _ (Ne.symm n1) n6 n5 D1));have s15:SI g5 k1 i1 l1 (n+1):=s12.on λ o q=>e5.extBut _ _ (Ne.symm n8) (e4.extBut _ _ JY (e3.extBut _ _ (Ne.symm n8) q));have s25:SI g5 k2 i2 l2 (n+1):=s24.on λ o q=>e5.extBut _ _ (Ne.symm n9) q;have lz:z<g5.objs.size:=Aq hz5;exact Kj (m:=Builtin.SmallTypes.ownedTupleHandOut (.ref z) (.ref g5.objs.size)) ?_;have hz6:IsZip (g5.push { cls:=.type "tuple",data:=.seq [x,y].toArray }) z TI TO .ellipsis:=gV _ hz5;exact Kj (zaL hz6 #[] λ g7 KG e7=>?_);replace KG:IsZip g7 z TI TO (rawInt g5.objs.size):=KG;exact zaL KG #[] λ g8 J4 e8=>?_;replace J4:IsZip g8 z TI TO (rawInt g5.objs.size):=J4;have up8:∀ c o,c≠z->(g5.push { cls:=.type "tuple",data:=.seq [x,y].toArray }).get? c=↑o->g8.get? c=↑o:=λ c o c1 q=>e8.extBut _ _ c1 (e7.extBut _ _ c1 q);have T8:IsPair g8 g5.objs.size x y:=up8 _ _ (Bo lz) (AJ _ rfl);have Jb:∀ c o,c≠z->g5.get? c=↑o->g8.get? c=↑o:=λ c o c1 q=>up8 c o c1 (gV _ q);rw[sz] at J4 T8;exact Ad #[.ref g5.objs.size,rfl,Ad ?_];change Q ↑(.ref g5.objs.size) _;rw[sz];exact hQ g8 #[J4,Jb _ _ (Ne.symm n1) ti5,#[x,y,Jb _ _ (Ne.symm n2) JU],s15.on λ o q=>Jb _ o (Ne.symm n3) q,s25.on λ o q=>Jb _ o (Ne.symm n4) q] T8 λ c o hc q=>Jb c o (λ e=>hc (by simp[e])) (up5 c o hc q)
def stop {k1 k2:Bool}{z TI TO i1 i2 l1 l2:Addr}{n:Nat}{xs ys:Aw}{Q:Option Value->Shared->Prop}(hh:A.handled=none) (D:kM z TI TO i1 i2 l1 l2) (S:At s.heap k1 k2 z TI TO i1 i2 l1 l2 .none n)
  (h1:SQ s.heap k1 l1 xs) (h2:SQ s.heap k2 l2 ys) (Bz:xs[n]?=none\/ys[n]?=none)
  (hQ:∀ h',(∀ c o,c∉[z,TI,TO,i1,i2]->s.heap.get? c=↑o->h'.get? c=↑o)->Q none { s with heap:=h' }):
  wpAny (model prog w) A (pyNext (.ref z)) Q E s:=by
 let#[nd,f1,f2]:=D;simp![BC,An,A8,or_false,not_or,List.nodup_nil,and_true,not_false_eq_true] at nd f1 f2;let#[#[n1,n2,n3,n4],#[n5,n6,n7],#[n8,n9],JY]:=nd;let#[a1,a2,a3,a4,a5]:=f1;let#[b1,b2,b3,b4,b5]:=f2;let#[hz,D1,#[a,b,EH],s1,s2]:=S;have hT:s.TypeIs (.ref z) "zip":=#[_,hz,rfl];have fin:∀ (h':Heap) (e:Addr),(∀ c o,c∉[z,TI,TO,i1,i2]->s.heap.get? c=↑o->h'.get? c=↑o)->(∃ o,h'.get? e=↑o/\o.cls=.type "StopIteration")->
   wpAny (model prog w) A (do if <- isInstance (.ref e) (.type "StopIteration") then pure none else throw (.ref e)) Q E { s with heap:=h' }:=λ h' e k1 k2=>by
  let#[o,ho,hc]:=k2;show Kj (wpAny_isInstance (T:="StopIteration") (b:=true) #[o,ho,hc] isSubtype_stop (Ad (hQ _ k1)))
 unfold pyNext;exact Kj (wpAny_attempt (zaG (name:=Str.ofString "__next__") hT F.slot_zip_next (zaB F.slot_zip_next hT F.entry_zip_next ?_ (F.args_zip_next_1 _))));exact Kj (m:=field (.ref z) 2) (za3 hz rfl (x:=.bool false) rfl ?_);exact Kj (m:=field (.ref z) 3) (za3 hz rfl (x:=.ref TI) rfl ?_);exact Kj (m:=seqItems? (.ref TI)) (zaE D1 rfl ?_);exact Kj (m:=Builtin.SmallTypes.ownedTupleIsFree (.ref z)) (Kj (m:=field (.ref z) 0) (za3 hz rfl (x:=.none) rfl (Ad ?_)));simp![if_true];exact Kj (wpAny_rule (Kj (za3 hz rfl (x:=.ref TO) rfl (Kj (zaL hz #[] λ g1 HR e1=>?_)))));replace HR:IsZip g1 z TI TO .ellipsis:=HR;exact Kj ?_;simp![DI,List.zipIdx_nil,DX,List.forIn_nil];cases hx:xs[n]? with
 | none=>
  exact Kj (Kj (wpAny_onRaise (Kj (m:=Builtin.SmallTypes.nextOf (.ref i1)) (lS hh (s1.on λ o q=>e1.extBut _ _ (Ne.symm n3) q) (h1.on λ o q=>e1.extBut _ _ a1 q) hx λ g2 ex e2 he=>?_))));have hz2:IsZip g2 z TI TO .ellipsis:=e2 _ _ n3 HR;let#[oe,q1,q2]:=he;have ne:ex≠z:=λ q=>by subst q;rw[hz2] at q1;cases q1;simp at q2
  exact zaL hz2 #[] λ g3 _ e3=>fin g3 ex (λ c o hc q=>?_) #[oe,e3.extBut _ _ ne q1,q2];simp![An,A8,or_false,not_or] at hc;show e3.extBut _ _ hc.1 (e2 _ _ hc.2.2.2.1 (e1.extBut _ _ hc.1 q))
 | some x=>
  have hy:ys[n]?=none:=Bz.resolve_left (by rw[hx];simp);exact Kj (Kj (wpAny_onRaise (Kj (m:=Builtin.SmallTypes.nextOf (.ref i1)) (draw (s1.on λ o q=>e1.extBut _ _ (Ne.symm n3) q) (h1.on λ o q=>e1.extBut _ _ a1 q) hx λ g2 s12 e2=>Ad ?_))));have to2:IsPair g2 TO a b:=e2.extBut _ _ n8 (e1.extBut _ _ (Ne.symm n2) EH);exact Kj (zaE to2 rfl (Kj (wpAny_updateSeq_pair to2 λ g3 to3 e3=>Kj (wpAny_letGo (Ad ?_)))));have up:∀ c o,c≠z->c≠i1->c≠TO->s.heap.get? c=↑o->g3.get? c=↑o:=λ c o c1 c2 c3 q=>e3.extBut _ _ c3 (e2.extBut _ _ c2 (e1.extBut _ _ c1 q));exact Kj (Kj (wpAny_onRaise (Kj (m:=Builtin.SmallTypes.nextOf (.ref i2)) (lS hh (s2.on λ o q=>up _ o (Ne.symm n4) (Ne.symm JY) (Ne.symm n9) q) (h2.on λ o q=>up _ o b1 b4 b3 q) hy λ g4 ex e4 he=>?_))));have hz4:IsZip g4 z TI TO .ellipsis:=e4 _ _ n4 (e3.extBut _ _ n2 (e2.extBut _ _ n3 HR));let#[oe,q1,q2]:=he;have ne:ex≠z:=λ q=>by subst q;rw[hz4] at q1;cases q1;simp at q2
  exact zaL hz4 #[] λ g5 _ e5=>fin g5 ex (λ c o hc q=>?_) #[oe,e5.extBut _ _ ne q1,q2];simp![An,A8,or_false,not_or] at hc;show e5.extBut _ _ hc.1 (e4 _ _ hc.2.2.2.2 (up c o hc.1 hc.2.2.2.1 hc.2.2.1 q))
end
abbrev vz (k:Bool) (l:Addr):Obj:={ cls:=.type (j_ k),data:=.fields [.ref l,.int 0 0].toArray }
abbrev qV (k1 k2:Bool) (h:Heap) (l1 l2:Addr):Heap:=(h.push (vz k1 l1)).push (vz k2 l2)
abbrev lG (k1 k2:Bool) (h:Heap) (l1 l2:Addr):Heap:=(qV k1 k2 h l1 l2).push { cls:=.type "tuple",data:=.seq [.ref h.objs.size,.ref (h.push (vz k1 l1)).objs.size].toArray }
abbrev lF (k1 k2:Bool) (h:Heap) (l1 l2:Addr):Heap:=(lG k1 k2 h l1 l2).push { cls:=.type "tuple",data:=.seq [.none,.none].toArray }
abbrev qU (k1 k2:Bool) (h:Heap) (l1 l2:Addr):Heap:=(lF k1 k2 h l1 l2).push { cls:=.type "zip",data:=.fields [.none,.bool false,.bool false,.ref (qV k1 k2 h l1 l2).objs.size,.ref (lG k1 k2 h l1 l2).objs.size].toArray }
def Od (k1 k2:Bool) (l1 l2:Addr) (xs ys:Aw):Meets (Builtin.«zip.__new__» #[[.type "zip",.ref l1,.ref l2],[]]) (λ _ R s=>SQ s.heap k1 l1 xs/\SQ s.heap k2 l2 ys/\
   R (.ok (.ret (.ref (lF k1 k2 s.heap l1 l2).objs.size))) { s with heap:=qU k1 k2 s.heap l1 l2 }):=
 .of_wp λ prog w A R s h=>by
  let#[hp,g,d,tk,os]:=s;let#[q1,q2,h]:=h;have EI:=sub_zip;have m1:SQ (Shared.heap #[hp,g,d,tk,os]) k1 l1 xs:=q1;have m2:SQ (Shared.heap #[hp.push (vz k1 l1),g,d,tk,os]) k2 l2 ys:=q2.on λ o e=>gV _ e
  wp_walk using made m1,made m2
  show#[_,rfl,h]
section
variable {prog:Program}{w:World}{A:Around}{E:Af}{s:Shared}
def new {k1 k2:Bool}{l1 l2:Addr}{xs ys:Aw}{Q:Af}(h1:SQ s.heap k1 l1 xs) (h2:SQ s.heap k2 l2 ys)
  (h:∀ h' z TI TO i1 i2,(∀ b∈[z,TI,TO,i1,i2],s.heap.objs.size<=b)->kM z TI TO i1 i2 l1 l2->At h' k1 k2 z TI TO i1 i2 l1 l2 .none 0->(∀ c o,s.heap.get? c=↑o->h'.get? c=↑o)->Q (.ref z) { s with heap:=h' }):
  wpAny (model prog w) A (call (.type "zip") [.ref l1,.ref l2]) Q E s:=by
 exact callType_new F.called_zip () (F.typeCall_zip_2 _ _) (F.newCall_zip_2 _ _) (λ obj=>F.args_object_init_3 obj _ _) F.entry_zip_new (Od k1 k2 l1 l2 xs ys) #[h1,h2,?_];have z1:(s.heap.push (vz k1 l1)).objs.size=s.heap.objs.size+1:=Heap.size_push ..;have z2:(qV k1 k2 s.heap l1 l2).objs.size=s.heap.objs.size+2:=by rw[Heap.size_push,z1]
 have z3:(lG k1 k2 s.heap l1 l2).objs.size=s.heap.objs.size+3:=by rw[Heap.size_push,z2]
 have z4:(lF k1 k2 s.heap l1 l2).objs.size=s.heap.objs.size+4:=by rw[Heap.size_push,z3]
 have p1:∀ (h:Heap) (o:Obj),o.isFreed=false->(h.push o).get? h.objs.size=↑o:=λ h o e=>AJ _ e;have u:∀ {h:Heap}{b:Addr}{o:Obj}(o':Obj),h.get? b=↑o->(h.push o').get? b=↑o:=λ o' e=>gV _ e;have g5:(qU k1 k2 s.heap l1 l2).get? (lF k1 k2 s.heap l1 l2).objs.size=↑_:=p1 _ _ rfl;have g4:(qU k1 k2 s.heap l1 l2).get? (lG k1 k2 s.heap l1 l2).objs.size=↑_:=u _ (p1 _ _ rfl);have g3:(qU k1 k2 s.heap l1 l2).get? (qV k1 k2 s.heap l1 l2).objs.size=↑_:=u _ (u _ (p1 _ _ rfl));have g2:(qU k1 k2 s.heap l1 l2).get? (s.heap.push (vz k1 l1)).objs.size=↑(vz k2 l2):=u _ (u _ (u _ (p1 _ _ rfl)));have g1:(qU k1 k2 s.heap l1 l2).get? s.heap.objs.size=↑(vz k1 l1):=u _ (u _ (u _ (u _ (p1 _ _ rfl))));have a1:=h1.lt;have a2:=h2.lt;rw[z2,z3,z4] at g5;rw[z1,z2] at g3;rw[z3] at g4;rw[z1] at g2;generalize hN:s.heap.objs.size=N at *;have lt:∀ {m:Nat},m<N->∀ j:Nat,¬ m=N+j:=λ hm j=>⋯;have ne:∀ {i j:Nat},i≠j->¬ (N+i=N+j):=λ A6 e=>A6 ⋯;change _/\_;rw[z4];exact#[#[_,g5,rfl],h _ (N+4) (N+2) (N+3) N (N+1) (λ b hb=>?_) #[?_,?_,?_] #[g5,g3,#[_,_,g4],#[_,g1,rfl,rfl],#[_,g2,rfl,rfl]] λ c o e=>u _ (u _ (u _ (u _ (u _ e))))]
 .simp![An,A8,or_false] at hb;have h0:N<=N:=Ak N;rcases hb with e | e | e | e | e <;> subst e
  .show CU N 4
  .show CU N 2
  .show CU N 3
  .show h0
  .show CU N 1
 .have e0:∀ {i:Nat},i≠0->¬ (N+i=N):=λ hi e=>hi ⋯;have e0':∀ {i:Nat},i≠0->¬ (N=N+i):=λ hi e=>hi ⋯;simp![BC,An,A8,or_false,not_or,List.nodup_nil,and_true,not_false_eq_true];show#[#[ne (),ne (),e0 (),ne ()],#[ne (),e0 (),ne ()],#[e0 (),ne ()],e0' ()]
 .simp![An,A8,or_false,not_or];show#[lt a1 4,lt a1 2,lt a1 3,AH a1,lt a1 1]
 .simp![An,A8,or_false,not_or];show#[lt a2 4,lt a2 2,lt a2 3,AH a2,lt a2 1]
end
end ZP
namespace L2
open PySem PySem.Spec PyProof.Rows ZP
section
variable {X:Cx}{Ff:Aj}{Y:St}{H:Hp}{s:Shared}
def Inv.mG {h':Heap}{t':Nat}{fp:List Addr}(I:Inv X Ff Y H s) (k:∀ b o,b∉fp->s.heap.get? b=↑o->h'.get? b=↑o) (hf:∀ b∈fp,vJ X Ff H b):Inv X Ff Y H { s with heap:=h',toks:=t' }:=by
 have Jn:∀ b u,H b=↑u->b∉fp:=λ b u e z=>by rw[(hf b z).1] at e;cases e
 exact I.step (g':=s.gens) (d':=s.drawn) (ch:=fp) (λ b hb=>?_) (λ b o _ _ hc e _=>k b o hc e) (λ b o _ _ hc e _=>#[o.slots,k b o hc e]) (λ _ _ _ _ n=>n)
  (λ b o hc e=>#[o,k b o hc e]) (λ _ _ e=>e) (λ _ _ _ e=>e) (λ b ps e=>#[[].toArray,by rw[e];simp]) (λ m hm=>?_) (λ b u e=>?_) I.bare
 .let#[_,q1,_,q2,q3,q4]:=hf b hb;show#[q2,q1,q3,q4]
 .let#[o,es,ep,ho,r]:=hm;show#[o,es,ep,k _ o (λ z=>(hf _ z).2.1 rfl) ho,r]
 .exact (I.zm b u e).vk (λ c v hc q=>k c v ?_ q) (λ _ q=>q) λ _ _ q=>q;rcases hc with z | z
  .rw[z];show Jn b u e
  .show Jn c _ z
def wa (K:Ac) (H:Hp) (k:Bool) (a:Addr) (xs:List V):Prop:=match k with
 | true=>zR K H a xs
 | false=>zG K H a xs
def wa.of (I:Inv X Ff Y H s) {k:Bool}{a:Addr}{xs:List V}(h:wa X.K H k a xs):∃ Aa:List Value,Vals xs Aa/\SQ s.heap k a Aa.toArray:=by
 cases k with
 | true=>let#[Aa,rv,p,_]:=I.tuple h;show#[Aa,rv,p]
 | false=>let#[Aa,rv,p,_]:=I.list h;show#[Aa,rv,p.isList]
def wa.inj (I:Inv X Ff Y H s) {k:Bool}{a:Addr}{xs ys:List V}(h:wa X.K H k a xs) (h':wa X.K H k a ys):xs=ys:=by
 cases k with
 | true=>show I.jc h h'
 | false=>show I.jV h h'
def ZL (K:Ac) (k1 k2:Bool) (a1 a2:Addr):It:=
 #[λ i H=>∃ xs ys x y,wa K H k1 a1 xs/\wa K H k2 a2 ys/\xs[i]?=↑x/\ys[i]?=↑y,
   λ i H v H'=>∃ p x y,v=.ref p/\H p=none/\H'=upd H p (.tup [x,y])/\(∀ xs,wa K H k1 a1 xs->xs[i]?=↑x)/\∀ ys,wa K H k2 a2 ys->ys[i]?=↑y,
   λ i H=>∃ xs ys,wa K H k1 a1 xs/\wa K H k2 a2 ys/\(xs.length<=i\/ys.length<=i)]
def XA {P:Program}{w:World}{K:Ac}{es:List Expr}{kk} {pos:Pos}{k1 k2:Bool}{z TI TO i1 i2 a1 a2:Addr}(D:kM z TI TO i1 i2 a1 a2):
  Turn P w K (.Tuple es kk pos) (ZL K k1 k2 a1 a2) [z,TI,TO,i1,i2] z (λ i h=>At h k1 k2 z TI TO i1 i2 a1 a2 .none i) where
 mem:=#[]
 obj:=λ i h st b hb=>by
  let#[q1,q2,#[_,_,q3],#[o1,q4,_,d1],#[o2,q5,_,d2]]:=st;simp![An,A8,or_false] at hb;rcases hb with e | e | e | e | e <;> subst e
  .show#[_,q1,λ v z=>by cases z]
  .show#[_,q2,λ v z=>by cases z]
  .show#[_,q3,λ v z=>by cases z]
  .show#[_,q4,λ v z=>by rw[d1] at z;cases z]
  .show#[_,q5,λ v z=>by rw[d2] at z;cases z]
 keep:=λ i h h' st k=>st.keep k
 item:=by
  intro X hP hw hK hc i Ff s Y H E I hf st hg;subst hP hw hK;let#[xs,ys,x,y,g1,g2,hx,hy]:=hg;let#[KA,Kq,q1]:=g1.of I;let#[it2,Ip,q2]:=g2.of I;let#[u1,e1,r1]:=Kq.get hx;let#[u2,e2,r2]:=Ip.get hy;exact ZP.item D st q1 q2 (x:=u1) (y:=u2) (by exists e1) (by exists e2) λ h' S' T' up=>#[_,rfl,?_];exact wpAny_letOwnedTupleGo_zip S'.z λ h2 z2 sb=>?_;have nT:s.heap.objs.size∉[z,TI,TO,i1,i2]:=λ hb=>by
   let#[o,ho,_]:=(show ∃ o,s.heap.get? s.heap.objs.size=↑o/\True from by
    let#[w1,w2,#[_,_,w3],#[o1,w4,_],#[o2,w5,_]]:=st;simp![An,A8,or_false] at hb;rcases hb with e | e | e | e | e <;> rw[e]
    .show#[_,w1,trivial]
    .show#[_,w2,trivial]
    .show#[_,w3,trivial]
    .show#[_,w4,trivial]
    .show#[_,w5,trivial])
   show absurd (Aq ho) (Cb _)
  have nz:s.heap.objs.size≠z:=λ e=>nT (by simp[e]);have fr:H s.heap.objs.size=none:=I.zm.fresh (Ak _);have I1:Inv X Ff Y (upd H s.heap.objs.size (.tup [x,y])) { s with heap:=s.heap.push { cls:=.type "tuple",data:=.seq [u1,u2].toArray },toks:=s.toks }:=
   I.laid (o:=.tup [x,y]) (λ b u q=>gV _ q) (Ak _) #[#[by change 2<=sizeLine;decide,.new _],[u1,u2],.cons r1 (.cons r2 .nil),IsTup.new _ _]
  have G3:∀ b∈[z,TI,TO,i1,i2],upd H s.heap.objs.size (.tup [x,y]) b=none:=λ b hb=>by
   rw[zO (λ e=>nT (by rw[<- e];show hb))];show (hf b hb).1
  have kk:∀ b o,b∉[z,TI,TO,i1,i2]->(s.heap.push { cls:=.type "tuple",data:=.seq [u1,u2].toArray }).get? b=↑o->h2.get? b=↑o:=λ b o hb q=>by
   have Fd:b≠z:=λ e=>hb (by simp[e]);by_cases DG:b=s.heap.objs.size
   .subst DG;rw[AJ _ rfl] at q;cases q;show sb.extBut _ _ nz T'
   .have q':s.heap.get? b=↑o:=by rw[Heap.get?_push_ne _ _ _ DG] at q;show q
    show sb.extBut _ _ Fd (up b o hb q')
  have I2:=Inv.mG (h':=h2) (t':=s.toks) (fp:=[z,TI,TO,i1,i2]) I1 kk λ b hb=>#[G3 b hb,(hf b hb).2];exact#[.ref s.heap.objs.size,_,I2,rfl,#[_,x,y,rfl,fr,rfl,λ zs hz=>by rw[hz.inj I g1];show hx,λ zs hz=>by rw[hz.inj I g2];show hy],#[z2,?_,?_,?_,?_],G3]
  .have nd:=D.nd;simp![BC,An,A8,or_false,not_or] at nd;show sb.extBut _ _ (Ne.symm nd.1.1) S'.ti
  .let#[a,b,e]:=S'.to;have nd:=D.nd;simp![BC,An,A8,or_false,not_or] at nd;show#[a,b,sb.extBut _ _ (Ne.symm nd.1.2.1) e]
  .have nd:=D.nd;simp![BC,An,A8,or_false,not_or] at nd;show S'.s1.on λ o q=>sb.extBut _ _ (Ne.symm nd.1.2.2.1) q
  .have nd:=D.nd;simp![BC,An,A8,or_false,not_or] at nd;show S'.s2.on λ o q=>sb.extBut _ _ (Ne.symm nd.1.2.2.2) q
 done:=by
  intro X hP hw hK hc i Ff s Y H E I hf st hg;subst hP hw hK;let#[xs,ys,g1,g2,hx]:=hg;let#[KA,Kq,q1]:=g1.of I;let#[it2,Ip,q2]:=g2.of I;have l1:=Kq.length;have l2:=Ip.length;exact ZP.stop (I.ok.hd hc) D st q1 q2 ?_ λ h' up=>#[rfl,I.mG (t':=s.toks) up hf];rcases hx with hx | hx
  .show .inl (by simp;lia)
  .show .inr (by simp;lia)
 self:=λ _ _ _ _ _ st h=>wpAny_pyIter_zip st.z h
def Ni (K:Ac) (ta:TA):TI:=fun Y H R=>ta Y H λ vs H1=>∃ a1 a2 k1 k2,vs=[.ref a1,.ref a2]/\(∃ xs,wa K H1 k1 a1 xs)/\(∃ ys,wa K H1 k2 a2 ys)/\R (ZL K k1 k2 a1 a2) H1
theorem VD {a b:Expr}{ta:TA}{p pos pos':Pos}{es:List Expr}{kk} (hg:Gl X "zip") (hm:X.mg "zip"=none) (ha:PA X [a,b] ta) (hs:starEach [a,b] X.env=[(false,eval a X.env),(false,eval b X.env)]:=by rfl) (Ho:starEach [b] X.env=[(false,eval b X.env)]:=by rfl):
  PI X (.Tuple es kk pos') (.Call (.Name "zip" p) [a,b] [] pos) (Ni X.K ta):=by
 intro Ff s Y H R I h;exact Call_ (rZ I hg hm boot_zip (PyProof.Rows.callWith_type1 (zw (ha pos Ff s Y H _ I h) λ us s1 #[vs,H1,I1,r1,q1]=>?_) (by rw[hs,Ho]) (by rw[Ho];rfl)));let#[a1,a2,k1,k2,rfl,#[xs,g1],#[ys,g2],q]:=q1;cases r1 with
 | cons r rr=>
  cases rr with
  | cons r' rr=>
   cases rr;cases r;cases r';let#[KA,_,q1]:=g1.of I1;let#[it2,_,q2]:=g2.of I1;exact ZP.new q1 q2 λ h' z TI TO i1 i2 nw D S up=>wpAny_pyIter_zip S.z ?_;show#[z,[z,TI,TO,i1,i2],_,_,H1,rfl,I1.kept (t':=s1.toks) up,XA D,S,λ b hb=>I1.oX (nw b hb) (I1.zm.fresh (nw b hb)),q]
end
end L2
namespace L5
open PySem PySem.Spec L2 L3
open PyProof.Rows hiding St
section
variable {K:Ac}{a:Expr}{p:Pos}
def cR (t:ya):xZ:=fun L S R=>t L S λ ds S1=>∃ d e xs ys,ds=[d,e]/\zP d S1=↑xs/\zP e S1=↑ys/\R #[List.zipWith (λ x y=>D.tup [x,y]) xs ys,λ S=>zP d S=↑xs/\zP e S=↑ys] S1
def oO:D->Bool
 | .tup _=>true
 | _=>false
def zP.k {H:Hp}{S:SS}{d:D}{v:V}{ds:List D}(r:zf K H d v) (p:zC K H S) (e:zP d S=↑ds):∃ a xs,v=.ref a/\wa K H (oO d) a xs/\zj K H ds xs:=by
 by_cases q:∃ ts,d=.tup ts
 .let#[ts,rfl]:=q;cases e;simp![zf] at r;let#[a,xs,h1,h2,h3]:=r;show#[a,xs,h1,h2,h3]
 .let#[a,xs,h1,h2,h3]:=sG r p e λ ts z=>q #[ts,z];exact#[a,xs,h1,?_,h3];have:oO d=false:=by cases d <;> first | rfl | show absurd #[_,rfl] q
  rw[this];show h2
end
section
variable {X:Cx}{a b:Expr}{tA:ya}{pos p pos':Pos}{es:List Expr}{kk:Nat}
def U_ (hm:X.mg "zip"=none) (ha:yO X [a,b] tA) (hg:Gl X "zip") (hs:starEach [a,b] X.env=[(false,eval a X.env),(false,eval b X.env)]) (Ho:starEach [b] X.env=[(false,eval b X.env)]):
  uq X (.Tuple es kk pos') (.Call (.Name "zip" p) [a,b] [] pos) (cR tA):=by
 exact#[fun L S Q Q' hq z=>ha.mo L S _ _ (λ ds S1 #[d,e,xs,ys,h1,h2,h3,h4]=>#[d,e,xs,ys,h1,h2,h3,hq _ _ h4]) z,PI.imp (VD hg hm ha.pa hs Ho) fun Y H R hu=>?_];let#[L,S,r1,r2,z]:=hu;exact xQ.go ha.mo r1 r2 z λ ds S1 vs H1 h1 q1 e1 p1=>?_;let#[d,e,xs,ys,rfl,s1,s2,h]:=h1;let#[v,u,rfl,d1,d2]:=q1.two;let#[a1,us,rfl,g1,g2]:=zP.k d1 p1 s1;let#[a2,ws,rfl,g3,g4]:=zP.k d2 p1 s2;exact#[a1,a2,oO d,oO e,rfl,#[us,g1],#[ws,g3],h _ H1 e1 p1 λ i H2 S2 x1 x2 hk=>?_];let#[b1,Ja,q1,m1,m2]:=zP.k (zf.ext x1 d d1) x2 hk.1;cases q1;let#[b2,ws2,q2,m3,m4]:=zP.k (zf.ext x1 e d2) x2 hk.2;cases q2;have l1:=m2.length;have l2:=m4.length;exact#[λ dd hd=>?_,λ hl=>#[Ja,ws2,m1,m3,?_]]
 .rw[List.getElem?_zipWith] at hd;split at hd
  .rename_i dx dy hx hy;cases hd;let#[x,Iv,rx]:=m2.get hx;let#[y,hy',ry]:=m4.get hy;exact#[#[Ja,ws2,x,y,m1,m3,Iv,hy'],λ v H' q=>?_];let#[pp,x',y',rfl,hp,rfl,f1,f2]:=q;have ex:x'=x:=by have:=f1 _ m1;rw[Iv] at this;show (A_ this).symm
   have ey:y'=y:=by have:=f2 _ m3;rw[hy'] at this;show (A_ this).symm
   subst ex ey;exact#[.new hp _,x2.new hp,?_];simp![zf];show#[pp,_,rfl,zR.of yf,zj.ext (.new hp _) _ (.cons rx (.cons ry .nil))]
  .cases hd
 .have G1:(List.zipWith (λ x y=>D.tup [x,y]) xs ys).length<=i:=hl;rw[List.length_zipWith] at G1;lia
@[simp] def kT:List T->Option (List T)
 | [x,y]=>(xm x).bind λ xs=>(xm y).map λ ys=>List.zipWith (λ a b=>T.tup [a,b]) xs ys
 | _=>none
theorem eg {S:SS}:∀ {ts us:List T}{ds es:List D},zi S ts ds->zi S us es->zi S (List.zipWith (λ a b=>T.tup [a,b]) ts us) (List.zipWith (λ x y=>D.tup [x,y]) ds es)
 | [],us,ds,es,h,h'=>by simp![zi] at h;subst h;exists zi.nil
 | t::ts,[],ds,es,h,h'=>by simp![zi] at h';subst h';exists zi.nil
 | t::ts,u::us,ds,es,h,h'=>by
  simp![zi] at h h';let#[c,cs,rfl,h1,h2]:=h;let#[c',cs',rfl,h3,h4]:=h';show zi.cons (rQ (zi.cons h1 (zi.cons h3 zi.nil))) (eg h2 h4)
def zP.sx {S S':SS}{d:D}{ds:List D}(h:zP d S=↑ds) (s:Sx S S'):zP d S'=↑ds:=by
 unfold zP at h ⊢;split at h
 .show h
 .show h
 .split at h
  .rename_i q;cases h;rw[s _ _ q]
  .cases h
 .cases h
def RS {g:Ev->Option (List T)}(h:rD g tA):rC false (xh kT g) (cR tA):=λ S Z L J ts Q hE e hq=>by
 let#[ys,e1,e2]:=Al.mp e;exact h S Z L J ys _ hE e1 λ ds S1 s1 r1=>?_;unfold kT at e2;split at e2
 .let#[xs,e3,e4]:=Al.mp e2;let#[zs,e5,rfl]:=AM.mp e4;let#[d,d',rfl,h1,h2]:=fx r1;let#[es,g1,g2]:=h1.seq e3;let#[Gh,g3,g4]:=h2.seq e5;show#[d,d',es,Gh,rfl,g1,g3,hq _ S1 s1 (eg g2 g4) λ IJ s=>#[zP.sx g1 s,zP.sx g3 s]]
 .cases e2
end
end L5
namespace HT
open PySem PyProof.Rows
section
variable {prog:Program}{w:World}{A:Around}{E:Af}{s:Shared}
def My {t sl:Addr}{items:Aw}{vl vu:Value}{lo hi:Option Int}{Q:Af}(ht:IsTup s.heap t items) (hs:s.heap.IsSliceOf sl vl vu .none) (pl:IsPart vl lo) (pu:IsPart vu hi)
  (hw:zA items.size 0 lo=0/\zA items.size items.size hi=items.size) (h:Q (.ref t) s):wpAny (model prog w) A (getItem (.ref t) (.ref sl)) Q E s:=by
 have hT:=ht.typeIs;let#[os,e1,e2,e3]:=id hs;have hS:s.TypeIs (.ref sl) "slice":=#[os,e1,e2];unfold getItem
 try with_reducible exact za7 ?_
 first | exact Kj (Ad ?_) | skip
 exact Kj (wpAny_sequenceKey hT () (Kj (zaG (name:=Str.ofString "__getitem__") hT PyProof.Rows.slot_tuple_getitem (zaB PyProof.Rows.slot_tuple_getitem hT entry_tuple_getitem ?_ (args_tuple_getitem _ _)))));exact Kj (m:=Builtin.Tuple.tupleItemsOf (.ref t)) (tupleItemsOf_ ht (Kj (zaK hS ?_)));rw[if_pos ()];exact Kj (eC hs pl pu ?_);have yes:(((zA items.size 0 lo:Nat):Int) == 0&&(1:Int) == 1&&(zA items.size items.size hi-zA items.size 0 lo) == items.size)=true:=by rw[hw.1,hw.2];simp
 change wpAny _ _ (if (((zA items.size 0 lo:Nat):Int) == 0&&(1:Int) == 1&&(zA items.size items.size hi-zA items.size 0 lo) == items.size)=true then _ else _) _ _ s;rw[if_pos yes];exact Kj (m:=Builtin.Tuple.tupleIsExact (.ref t)) (Kj (zaK hT (Ad ?_)));rw[if_pos ()]
 first
  | show Kj (wpAny_rule (Ad #[_,rfl,Ad h]))
  | show Kj (wpAny_rule (Kj (Ad (Ad #[_,rfl,Ad h]))))
end
end HT
namespace L2
open PySem PySem.Spec PyProof.Rows
section
variable {X:Cx}
def eU (K:Ac):V->Option Int->Option Int->Hp->VK->Prop:=λ x lo hi H Q=>∃ a xs,x=.ref a/\zR K H a xs/\(HT.zA xs.length 0 lo=0/\HT.zA xs.length xs.length hi=xs.length)/\Q (.ref a) H
theorem W7:rp X (eU X.K):=by
 intro Ff s Y H x v vl vu lo hi sl Q I rx hs pl pu h;let#[a,xs,rfl,hx,hw,q]:=h;cases rx;let#[Aa,r,ht,hz]:=I.tuple hx;have hlen:Aa.toArray.size=xs.length:=by rw[AD];show r.length.symm
 show#["tuple",_,PyProof.Rows.slot_tuple_getitem.lookup,ht.typeIs,HT.My ht hs pl pu (by rw[hlen];show hw) #[.ref a,H,I,rfl,q]]
end
end L2
namespace L5
open PySem PySem.Spec L2 L3
open PyProof.Rows hiding St
def yW {α:Type}(xs:List α) (lo hi:Option Int):List α:=(xs.drop (HT.zA xs.length 0 lo)).take (HT.zA xs.length xs.length hi-HT.zA xs.length 0 lo)
section
variable {X:Cx}{K:Ac}{e:Expr}{lo hi:Option Expr}{te:zp}{tl th:Option zp}{pos p2:Pos}
def uF (t:Option zp):zY->SS->(Option Int->SS->Prop)->Prop:=fun L S Q=>match t with
 | none=>Q none S
 | some t=>t L S λ d S1=>match d with
  | .int i=>Q ↑i S1
  | _=>False
def ZJ (t:Option zp):Prop:=∀ u,t=↑u->zX u
def uF.mo (h:ZJ tl):∀ L S (Q Q':Option Int->SS->Prop),(∀ d S',Q d S'->Q' d S')->uF tl L S Q->uF tl L S Q':=fun L S Q Q' hq z=>by
 cases tl with
 | none=>show hq _ _ z
 | some t=>show h t rfl L S _ _ (λ d S1 z=>by cases d <;> first | show hq _ _ z | show z) z
def X2 (K:Ac) (t:Option zp):TO:=fun Y H Q=>∃ L S,ym K H L Y/\zC K H S/\uF t L S λ o S1=>∀ H1,Ext H H1->zC K H1 S1->Q o H1
structure k9 (X:Cx) (e:Option Expr) (t:Option zp):Prop where
 mo:ZJ t
 po:PO X e (X2 X.K t)
def UZ:k9 X none none:=#[nofun,λ Ff s Y H Q I h=>by
 let#[L,S,r1,r2,z]:=h;show V6 Ff s Y H Q I (z H (.refl H) r2)]
def UY (h:PD X e te):k9 X ↑e ↑te:=#[λ u q=>by cases q;show h.mo,λ Ff s Y H Q I hu=>by
 exact V5 h.pe Ff s Y H Q I ?_;let#[L,S,r1,r2,z]:=hu;exact zD.go h.mo r1 r2 z λ d S1 v H1 h1 q1 e1 p1=>?_;cases d with
 | int i=>simp![zf] at q1;show#[i,q1,h1 H1 e1 p1]
 | zr=>show h1.elim
 | bl _=>show h1.elim
 | str _=>show h1.elim
 | err _ _ _=>show h1.elim
 | tup _=>show h1.elim
 | xn _=>show h1.elim
 | ref _=>show h1.elim]
def uC (d:D) (lo hi:Option Int) (S:SS) (Q:DK):Prop:=match d with
 | .tup ds=>Q (.tup (yW ds lo hi)) S
 | d=>∃ ds,zP d S=↑ds/\∀ p,S p=none->Q (.ref p) (ups S p (.lst (yW ds lo hi)))
def uC.mo {d:D}{lo hi:Option Int}{S:SS}{Q Q':DK}(hq:∀ d S',Q d S'->Q' d S') (h:uC d lo hi S Q):uC d lo hi S Q':=by
 unfold uC at h ⊢;split at h
 .show hq _ _ h
 .let#[ds,h1,h2]:=h;show#[ds,h1,λ p hp=>hq _ _ (h2 p hp)]
def zj.cut {H:Hp}{ds:List D}{xs:List V}(h:zj K H ds xs) (lo hi:Option Int):zj K H (yW ds lo hi) (t8 xs lo hi):=by
 have hd:∀ {ds:List D}{xs:List V}(n:Nat),zj K H ds xs->zj K H (ds.drop n) (xs.drop n):=by
  intro ds
  induction ds with
  | nil=>intro xs n h;simp![zj] at h;subst h;exists zj.nil
  | cons d ds ih=>
   intro xs n h;simp![zj] at h;let#[y,ys,rfl,h1,h2]:=h;cases n with
   | zero=>show .cons h1 h2
   | succ n=>show ih n h2
 have ht:∀ {ds:List D}{xs:List V}(n:Nat),zj K H ds xs->zj K H (ds.take n) (xs.take n):=by
  intro ds
  induction ds with
  | nil=>intro xs n h;simp![zj] at h;subst h;exists zj.nil
  | cons d ds ih=>
   intro xs n h;simp![zj] at h;let#[y,ys,rfl,h1,h2]:=h;cases n with
   | zero=>show .nil
   | succ n=>show .cons h1 (ih n h2)
 unfold yW t8;rw[h.length];show ht _ (hd _ h)
def M3 {xs:List V}{lo hi:Option Int}(h:HT.zA xs.length 0 lo=0/\HT.zA xs.length xs.length hi=xs.length):t8 xs lo hi=xs:=by
 unfold t8;rw[h.1,h.2];simp
abbrev Ve (K:Ac):V->Option Int->Option Int->Hp->VK->Prop:=λ x lo hi H Q=>eW K x lo hi H Q\/(eV K x lo hi H Q\/eU K x lo hi H Q)
theorem uC.fits {d:D}{v:V}{lo hi:Option Int}{H:Hp}{S:SS}{Q:VK}(h1:zf K H d v) (h2:zC K H S) (h:uC d lo hi S (xI K H Q)):Ve K v lo hi H Q:=by
 unfold uC at h;split at h
 .simp![zf] at h1;let#[a,xs,rfl,g1,g2]:=h1;by_cases hw:HT.zA xs.length 0 lo=0/\HT.zA xs.length xs.length hi=xs.length
  .exact .inr (.inr #[a,xs,rfl,g1,hw,h _ H ?_ (.refl H) h2]);simp![zf];exact#[a,xs,rfl,g1,?_];have:=zj.cut g2 lo hi;rw[M3 hw] at this;show this
  .exact .inr (.inl #[a,xs,rfl,g1,hw,λ p hp=>h _ _ ?_ (.new hp _) (h2.new hp)]);simp![zf];show#[p,_,rfl,zR.of yf,zj.ext (.new hp _) _ (zj.cut g2 lo hi)]
 .rename_i hn;let#[ds,e,h]:=h;let#[a,xs,rfl,g1,g2]:=sG h1 h2 e (λ ts z=>hn ts z);show .inl #[a,xs,rfl,g1,λ p hp=>h p (h2.none hp) _ _ (by simp![zf]) (.new hp _) (h2.ups (.new hp _) #[_,yf,zj.ext (.new hp _) _ (zj.cut g2 lo hi)])]
def aF (te:zp) (tl th:Option zp):zp:=fun L S Q=>te L S λ x S1=>uF tl L S1 λ l S2=>uF th L S2 λ u S3=>uC x l u S3 Q
def T3 (he:PD X e te) (hl:k9 X lo tl) (hh:k9 X hi th):PD X (.Subscript e (.Slice lo hi none p2) pos) (aF te tl th):=by
 exact#[fun L S Q Q' hq z=>he.mo L S _ _ (λ x S1 z=>uF.mo hl.mo L S1 _ _ (λ l S2 z=>uF.mo hh.mo L S2 _ _ (λ u S3 z=>uC.mo hq z) z) z) z,
  PE.imp (VY (W9.or (W8.or W7)) he.pe hl.po hh.po) fun Y H Q hu=>?_]
 let#[L,S,r1,r2,z]:=hu;exact zD.go he.mo r1 r2 z λ x S1 v H1 h1 q1 e1 p1=>?_;exact#[L,S1,r1.ext e1,p1,uF.mo hl.mo L S1 _ _ (λ l S2 h2 H2 e2 p2=>?_) h1];exact#[L,S2,(r1.ext e1).ext e2,p2,uF.mo hh.mo L S2 _ _ (λ u S3 h3 H3 e3 p3=>?_) h2];show uC.fits (zf.ext (e2.trans e3) x q1) p3 (uC.mo (λ d S' z=>z.ext ((e1.trans e2).trans e3)) h3)
@[simp] def iZ:Option (Ev->Option T)->Ev->Option (Option Int)
 | none,_=>↑none
 | some f,J=>(f J).bind λ x=>match x with
  | .int i=>↑↑i
  | _=>none
def kE (f:Option (Ev->Option T)) (t:Option zp):Prop:=∀ S Z L J y Q,ER S Z L J->iZ f J=↑y->(∀ S',Sx S S'->Q y S')->uF t L S Q
def Qh:kE none none:=λ S Z L J y Q hE e hq=>by cases e;show hq S (.refl S)
def Qg {f:Ag}(h:yi f te):kE ↑f ↑te:=λ S Z L J y Q hE e hq=>by
 let#[x,e1,e2]:=Al.mp e;exact h S Z L J x _ hE e1 λ d S1 s1 r1=>?_;split at e2
 .cases e2;cases Vw.int r1;show hq S1 s1
 .cases e2
@[simp] def aV (lo hi:Option Int):T->Option T
 | .tup ts=>↑(.tup (yW ts lo hi))
 | .lst ts=>↑(.lst (yW ts lo hi))
 | _=>none
@[simp] def vQ (f:Ag) (lo hi:Option (Ev->Option T)):Ag:=fun J=>(f J).bind λ x=>(iZ lo J).bind λ l=>(iZ hi J).bind λ u=>aV l u x
def zi.cut {S:SS}{ts:List T}{ds:List D}(h:zi S ts ds) (lo hi:Option Int):zi S (yW ts lo hi) (yW ds lo hi):=by
 unfold yW;rw[h.len];show zi.take' _ (zi.drop' _ h)
def Qw {f:Ag}{l u:Option (Ev->Option T)}(h:yi f te) (hl:kE l tl) (hu:kE u th):yY (vQ f l u) (aF te tl th):=λ S Z L J y Q hE e hq=>by
 let#[x,e1,e]:=Al.mp e;let#[l',e2,e]:=Al.mp e;let#[u',e3,e]:=Al.mp e;exact h S Z L J x _ hE e1 λ d S1 s1 r1=>?_;exact hl S1 Z L J l' _ (hE.grow s1) e2 λ S2 s2=>?_;exact hu S2 Z L J u' _ (hE.grow (s1.trans s2)) e3 λ S3 s3=>?_;have r3:Vw S3 Z x d:=Vw.grow r1 (s2.trans s3);have hz:=(hE.grow ((s1.trans s2).trans s3)).zd;unfold aV at e;split at e
 .cases e;let#[ds,rfl,h2]:=r3.tup;show hq _ S3 ((s1.trans s2).trans s3) (Cl.of (λ _=>nofun) (rQ (zi.cut h2 _ _)))
 .cases e;let#[ds,h1,h2]:=r3.seq rfl;have key:∃ ds,zP d S3=↑ds/\∀ p,S3 p=none->Q (.ref p) (ups S3 p (.lst (yW ds l' u'))):=#[ds,h1,λ p hp=>hq _ _ (((s1.trans s2).trans s3).trans (.new hp _)) (Cl.cl ((s1.trans s2).trans s3) (tQ hz hp (zi.cut h2 _ _)))];obtain⟨_,q | ⟨a,q,_⟩,_⟩:=r3.lst
  .subst q;show key
  .subst q;show key
 .cases e
end
end L5
namespace TM
open PySem PyProof.Rows
def noFill:fillsNumberSlot (.type "tuple") "mul"=pure false:=
 PySem.fillsNumberSlot_seq (id:="tuple.__mul__") (r:=↑(.builtin "tuple.__rmul__")) F.slot_tuple_mul.lookup (AG) F.slot_tuple_rmul.lookup (AG)
def rep:seqRepeat? (.type "tuple")=pure ↑(.builtin "tuple.__mul__"):=by
 have a:=PySem.seqSlot_of (T:="tuple") (name:="__mul__") (id:="tuple.__mul__") F.slot_tuple_mul.lookup (AG);have b:=PySem.seqSlot_of (T:="tuple") (name:="__rmul__") (id:="tuple.__rmul__") F.slot_tuple_rmul.lookup (AG);unfold seqRepeat?;rw[a,b];rfl
def declines (i:Int) (t:Tok) (l:Addr) (items:Aw) (n:Nat) (dd:Option Addr) (sl:Array (Option Value)):
  Meets (Builtin.«int.__rmul__» #[[.int i t,.ref l],[]]) (λ _ R s=>s.heap.get? l=↑{ cls:=.type "tuple",dict:=dd,data:=.seq items n,slots:=sl }/\R (.ok (.ret Value.notImplemented)) s):=
 .of_wp λ prog w A R s h=>by
  let#[hp,g,d,tk,os]:=s;let#[hl,h]:=h
  wp_walk
  show#[_,rfl,h]
theorem i6 {α:Type}(xs:List α):∀ (m:Nat) (acc:Array α),(List.replicate m xs.toArray).foldl (·++·) acc=acc++(List.replicate m xs).flatten.toArray
 | 0,acc=>#[]
 | m+1,acc=>by
  rw[B8,DJ,i6 xs m,B8,Cq,Ex];simp
def PU (k:Int) (t:Tok) (l:Addr) (items:Aw) (n:Nat) (dd:Option Addr) (sl:Array (Option Value)) (h1:¬ (decide (k < -(2 ^ 63))||decide (k≥2 ^ 63))=true) (h2:¬ (items.isEmpty||k == 1)=true) (h3:¬ (decide (k<=0)||items.isEmpty)=true)
  (h4:¬ (items.size*k>(2 ^ 63-1)/8)) (h5:¬ Builtin.Tuple.tupleTooMany (items.size*k)=true) (h6:((List.replicate k.toNat items).foldl (·++·) [].toArray).size<=sizeLine):
  Meets (Builtin.«tuple.__mul__» #[[.ref l,.int k t],[]]) (λ _ R s=>s.heap.get? l=↑{ cls:=.type "tuple",dict:=dd,data:=.seq items n,slots:=sl }/\
   R (.ok (.ret (.ref s.heap.objs.size))) { s with heap:=s.heap.push { cls:=.type "tuple",data:=.seq ((List.replicate k.toNat items).foldl (·++·) [].toArray) } }):=
 .of_wp λ prog w A R s h=>by
  let#[hp,g,d,tk,os]:=s;let#[hl,h]:=h;have e0:IsTup (Shared.heap #[hp,g,d,tk,os]) l items:=#[_,hl,rfl,n,rfl]
  wp_walk
  rw[if_neg h1];exact Kj (m:=Builtin.Tuple.tupleItemsOf (.ref l)) (tupleItemsOf_ e0 ?_);dsimp only;rw[if_neg h2,if_neg h3,if_neg h4,if_neg h5];show Kj (m:=Builtin.Tuple.tupleExact _) (za9 (Ad #[_,rfl,h]) h6)
def PV (t:Tok) (l:Addr) (items:Aw) (n:Nat) (dd:Option Addr) (sl:Array (Option Value)):
  Meets (Builtin.«tuple.__mul__» #[[.ref l,.int 1 t],[]]) (λ _ R s=>s.heap.get? l=↑{ cls:=.type "tuple",dict:=dd,data:=.seq items n,slots:=sl }/\R (.ok (.ret (.ref l))) s):=
 .of_wp λ prog w A R s h=>by
  let#[hp,g,d,tk,os]:=s;let#[hl,h]:=h;have c:(items.isEmpty||(1:Int) == 1)=true:=#[]
  wp_walk
  show#[_,rfl,h]
section
variable {prog:Program}{w:World}{A:Around}{E:Af}{s:Shared}
def times {l:Addr}{Aa:Ae}{k:Int}{t:Tok}{Q:Af}(ht:IsTup s.heap l Aa.toArray) (Az:Aa≠[]) (h0:1<=k) (hz:Aa.length*k.toNat<=sizeLine)
  (one:k=1->Q (.ref l) s) (more:k≠1->Q (.ref s.heap.objs.size) { s with heap:=s.heap.push { cls:=.type "tuple",data:=.seq (List.replicate k.toNat Aa).flatten.toArray } }):
  wpAny (model prog w) A (binaryOp .Mult (.ref l) (.int k t)) Q E s:=by
 have hT:=ht.typeIs;let#[#[cls,dd,data,sl],ho,hc,n,hd]:=id ht;simp only at hc hd;subst hc hd;exact wpAny_binaryOp_repeat_ref (T:="tuple") (U:="int") () hT (λ s'=>typeIs_int s' k t) noFill F.fills_int_mul F.slot_int_rmul rep F.slot_int_index.lookup
  (call_meets F.slot_int_rmul (typeIs_int s k t) F.entry_int_rmul (F.args_int_rmul_2 _ _) (declines k t l Aa.toArray n dd sl) #[ho,rfl,hT,?_])
 have hlen:0<Aa.length:=List.length_pos_iff.mpr Az;have D7:Aa.toArray.isEmpty=false:=by cases Aa with
  | nil=>show absurd rfl Az
  | cons a r=>rfl
 by_cases h1:k=1
 .subst h1;show call_meets F.slot_tuple_mul hT F.entry_tuple_mul (F.args_tuple_mul_2 _ _) (PV t l Aa.toArray n dd sl) #[ho,one rfl]
 .have hks:k.toNat<=sizeLine:=A9 (Nat.le_mul_of_pos_left _ hlen) hz;have hl:sizeLine=16777216:=rfl;have K1:k<=16777216:=⋯;have Ij:((Aa.toArray.size:Nat):Int)*k=((Aa.length*k.toNat:Nat):Int):=by
   rw[AD,Int.natCast_mul,Cu ⋯]
  have hf:(List.replicate k.toNat Aa.toArray).foldl (·++·) [].toArray=(List.replicate k.toNat Aa).flatten.toArray:=by rw[i6];simp
  have DB:(List.replicate k.toNat Aa).flatten.length=k.toNat*Aa.length:=#[];exact call_meets F.slot_tuple_mul hT F.entry_tuple_mul (F.args_tuple_mul_2 _ _) (PU k t l Aa.toArray n dd sl ?_ ?_ ?_ ?_ ?_ ?_) #[ho,?_]
  .simp![Ef,decide_eq_true_eq,not_or];show#[⋯,⋯]
  .rw[D7];exists h1
  .rw[D7];simp;lia
  .rw[Ij];lia
  .rw[Ij];intro q;unfold Builtin.Tuple.tupleTooMany at q;have:=of_decide_eq_true q;lia
  .rw[hf,AD,DB,DP];show hz
  .rw[hf];show more h1
end
end TM
namespace L2
open PySem PySem.Spec PyProof.Rows
def jz (K:Ac):R2:=λ x y H Q=>∃ a k xs,x=.ref a/\y=.int k/\zR K H a xs/\xs≠[]/\1<=k/\xs.length*k.toNat<=sizeLine/\(k=1->Q (.ref a) H)/\(k≠1->∀ p,H p=none->Q (.ref p) (upd H p (.tup (List.replicate k.toNat xs).flatten)))
theorem Rg {X:Cx}:zZ X (binaryOp .Mult) (jz X.K):=by
 intro Ff s Y H x y v u Q I rx ry h;let#[a,k,xs,rfl,rfl,hx,Az,h1,hz,q1,q2]:=h;cases rx;let#[t,rfl]:=ry;let#[Aa,r,ht,_]:=I.tuple hx;have hl:=r.length;exact TM.times ht (λ z=>Az (r.oA.mp z)) h1 (by rw[<- hl];show hz) (λ e=>#[.ref a,H,I,rfl,q1 e]) λ e=>?_;have hlen:(List.replicate k.toNat xs).flatten.length<=sizeLine:=by
  have:(List.replicate k.toNat xs).flatten.length=k.toNat*xs.length:=#[];rw[this,DP];show hz
 show#[.ref _,_,I.laid (t':=s.toks) (o:=.tup (List.replicate k.toNat xs).flatten) (λ b ob q=>gV _ q) (Ak _) #[#[hlen,.new _],_,r.rep k.toNat,IsTup.new _ _],rfl,q2 e _ (I.zm.fresh (Ak _))]
end L2
namespace L5
open PySem PySem.Spec L2 L3
open PyProof.Rows hiding St
section
variable {K:Ac}{a:Expr}
def uY:y7:=λ x y S Q=>match x,y with
 | .int i,.int j=>vM i j/\Q (.int (i*j)) S
 | .tup ds,.int k=>(ds≠[]/\1<=k/\ds.length*k.toNat<=sizeLine)/\Q (.tup (List.replicate k.toNat ds).flatten) S
 | _,_=>False
def jP:T->T->Option T
 | .int i,.int j=>if vM i j then ↑(.int (i*j)) else none
 | .tup ts,.int k=>if ts≠[]/\1<=k/\ts.length*k.toNat<=sizeLine then ↑(.tup (List.replicate k.toNat ts).flatten) else none
 | _,_=>none
def uY.mo:xv uY:=λ x y S Q Q' hq h=>by
 unfold uY at h ⊢;split at h
 .show#[h.1,hq _ _ h.2]
 .show#[h.1,hq _ _ h.2]
 .show h.elim
theorem zj.rep {H:Hp}{ds:List D}{xs:List V}(h:zj K H ds xs):∀ n:Nat,zj K H (List.replicate n ds).flatten (List.replicate n xs).flatten
 | 0=>.nil
 | n+1=>by
  rw[B8,B8,Cq,Cq];show h.append (zj.rep h n)
def uY.fits:xl K uY (λ x y H Q=>rI vM (λ i j=>.int (i*j)) x y H Q\/jz K x y H Q):=λ x y d e H S Q h1 h2 h3 h=>by
 unfold uY at h;split at h
 .simp![zf] at h1 h2;show .inl #[_,_,h1,h2,h.1,h.2 _ H (by simp![zf]) (.refl H) h3]
 .rename_i ds k;let#[#[c1,c2,c3],h]:=h;have JM:=h1;simp![zf] at h1 h2;let#[a,xs,rfl,g1,g2]:=h1;have hl:=g2.length;exact .inr #[a,k,xs,rfl,h2,g1,λ z=>c1 (by subst z;cases ds with | nil=>rfl | cons _ _=>simp at hl),c2,by rw[<- hl];show c3,λ e=>?_,λ e p hp=>?_]
  .subst e;exact h _ H ?_ (.refl H) h3;have:(List.replicate (1:Int).toNat ds).flatten=ds:=#[];rw[this];show JM
  .exact h _ _ ?_ (.new hp _) (h3.new hp);simp![zf];show#[p,_,rfl,zR.of yf,zj.ext (.new hp _) _ (zj.rep g2 _)]
 .show h.elim
theorem zi.rep {S:SS}{ts:List T}{ds:List D}(h:zi S ts ds):∀ n:Nat,zi S (List.replicate n ts).flatten (List.replicate n ds).flatten
 | 0=>.nil
 | n+1=>by
  rw[B8,B8,Cq,Cq];show h.append (zi.rep h n)
def bD:Good2 zE jP uY:=λ S Z x y z d e Q hz hx hy ef hq=>by
 unfold jP at ef;split at ef
 .split at ef
  .rename_i hc;cases ef;cases hx.int;cases hy.int;show#[hc,hq _ S (.refl S) (Cl.of (λ _=>nofun) xw)]
  .cases ef
 .split at ef
  .rename_i hc;cases ef;let#[ds,rfl,h2]:=hx.tup;cases hy.int;have hl:=h2.len;show#[#[λ q=>hc.1 (by subst q;exists hl.symm),hc.2.1,by rw[hl];show hc.2.2],hq _ S (.refl S) (Cl.of (λ _=>nofun) (rQ (zi.rep h2 _)))]
  .cases ef
 .cases ef
end
end L5
namespace L4
open PySem PyProof.Rows
section
variable {prog:Program}{w:World}{A:Around}{E:Af}{s:Shared}
def MB {l:Addr}{vs:Ae}{Q:List Value->Shared->Prop}(hl:IsTup s.heap l vs.toArray) (hz:vs.length<=sizeLine)
  (h:Q vs { s with heap:=(s.heap.push (seqObj "list" [].toArray 0)).update s.heap.objs.size (Obj.mapSeq (·++vs.toArray)) }):wpAny (model prog w) A (collect (.ref l)) Q E s:=by
 let#[o,ho,hc,n,hd]:=id hl;have new:(s.heap.push (seqObj "list" [].toArray 0)).get? s.heap.objs.size=↑(seqObj "list" [].toArray 0):=AJ _ rfl;have F5:(s.heap.push (seqObj "list" [].toArray 0)).get? l=↑o:=gV _ ho;unfold collect;exact Kj (wpAny_runValue (codeAny_builtin entry_proto_collect' (Kj (m:=newList []) (wpAny_newList (Ad #[Code.quiet_builtin _ (AG),codeAny_builtin entry_list_iadd' ?_])))));change wpAny _ _ (Builtin.List.listExtendWith (.ref s.heap.objs.size) (.ref l) (.ref s.heap.objs.size)) _ _ { s with heap:=s.heap.push (seqObj "list" [].toArray 0) };unfold Builtin.List.listExtendWith;exact Kj (zaK (T:="tuple") #[o,F5,hc] ?_);rw[if_pos (by rw[show (Value.type "tuple" == Value.type "tuple")=true from rfl];simp)];exact Kj (listItems_at F5 hd (Kj (listItems_at (xs:=[].toArray) (n:=0) new rfl ?_)));rw[if_neg #[]];exact Kj (listUpdate_at (xs:=[].toArray) (n:=0) new rfl (Ad ?_) (A4 _) (by change ([].toArray++vs.toArray).size<=sizeLine+1;simp![Array.size_append,AD,C3];lia));exact Kj (m:=load s.heap.objs.size) (wpAny_load (get?_update_seq new _) ?_);change wpAny _ _ (pure (([].toArray:Aw)++vs.toArray).toList) Q E _;have e:(([].toArray:Aw)++vs.toArray).toList=vs:=#[];rw[e];show Ad h
end
section
open L2 PySem.Spec
variable {X:Cx}
def dm {s:Shared}{vs:Ae}:∀ b o,¬ False->s.heap.get? b=↑o->((s.heap.push (seqObj "list" [].toArray 0)).update s.heap.objs.size (Obj.mapSeq (·++vs.toArray))).get? b=↑o:=λ b o _ q=>by
 rw[zaP _ _ _ _ (AH (Aq q))];show gV _ q
theorem MJ:yx X (.builtin "sorted") (λ xs H Q=>∃ p ys,∃ rows:List (List Int),xs=[.ref p]/\(zG X.K H p ys\/zR X.K H p ys)/\r9 X.K H ys rows/\rows.length<64/\nW (ys.zip rows) H Q):=by
 intro Ff s Y H xs us Q I r h;let#[p,ys,rows,rfl,hq,hr,GJ,q]:=h;let#[u,rfl,ru]:=vals1 r;cases ru;have hl:(ys.zip rows).length<64:=by rw[List.length_zip];lia
 have sz:∀ vs:List Value,s.heap.objs.size<=((s.heap.push (seqObj "list" [].toArray 0)).update s.heap.objs.size (Obj.mapSeq (·++vs.toArray))).objs.size:=λ vs=>by rw[Heap.size_update,size_push'];show DH _
 rcases hq with hq | hq
 .let#[Aa,rv,pl,hz]:=I.list hq;show jn I (λ Q' h=>collect_list pl.isList (h _ s.toks dm (sz Aa)) (by rw[<- rv.length];show hz)) (VR.of rv hr) hl q
 .let#[Aa,rv,pl,hz]:=I.tuple hq;show jn I (λ Q' h=>MB pl (by rw[<- rv.length];show hz) (h _ s.toks dm (sz Aa))) (VR.of rv hr) hl q
end
end L4
namespace L5
open PySem PySem.Spec L2 L3
open PyProof.Rows hiding St
section
variable {X:Cx}{K:Ac}{e:Expr}{es:List Expr}{tA:ya}{pos p:Pos}
def sX:xk:=λ ds S Q=>∃ d,∃ rows:List (List Int),ds=[d]/\zP d S=↑(rows.map vc)/\rows.length<64/\(∀ r∈rows,r≠[])/\∀ l,S l=none->Q (.ref l) (ups S l (.lst ((L4.yZ rows).map vc)))
def qF:Ap
 | [y]=>(xm y).bind λ ts=>(wI ts).bind λ rs=>if rs.length<64/\∀ r∈rs,r≠[] then ↑(.lst ((L4.yZ rs).map zS)) else none
 | _=>none
def Nx:vi zE qF sX:=λ S Z ys z ds Q hz hv e hq=>by
 unfold qF at e;split at e
 .let#[d,rfl,h1]:=wY hv;let#[ts,e0,e]:=Al.mp e;let#[rs,e1,e2]:=Al.mp e;split at e2
  .rename_i hc;cases e2;cases jv e1;let#[es,h2,h3]:=h1.seq e0;cases qG.mp h3;show#[d,rs,rfl,h2,hc.1,hc.2,λ l hl=>hq _ _ (.new hl _) (tQ hz hl (qG.mpr rfl))]
  .cases e2
 .cases e
def sX.mo:vh sX:=λ ds S Q Q' hq #[d,rows,h0,h1,h2,h3,h4]=>#[d,rows,h0,h1,h2,h3,λ l hl=>hq _ _ (h4 l hl)]
def yx.or {f:Value}{r r':List V->Hp->VK->Prop}(h:yx X f r) (h':yx X f r'):yx X f (λ xs H Q=>r xs H Q\/r' xs H Q):=λ Ff s Y H xs us Q I rv q=>
 q.elim (λ q=>h Ff s Y H xs us Q I rv q) λ q=>h' Ff s Y H xs us Q I rv q
def sX.fits:uu K sX (λ xs H Q=>∃ p ys,∃ rows:List (List Int),xs=[.ref p]/\(zG K H p ys\/zR K H p ys)/\L4.r9 K H ys rows/\rows.length<64/\L4.nW (ys.zip rows) H Q):=λ xs ds H S Q h0 h2 h=>by
 let#[d,rows,rfl,e,GJ,Az,h]:=h;let#[x,hx,h1]:=h0.one;subst hx;let#[a,ys,rfl,g1,g2]:=zP.sq h1 h2 e;have hl:=g2.length;rw[AA] at hl;exact#[_,ys,rows,rfl,g1,mR g2 Az,GJ,λ l ps hf hp hs=>?_];have heq:=L4.fY (rows:=rows) (by have:=hp.map (·.2);rwa [List.map_snd_zip ⋯] at this) hs;have hx:Ext H (upd H l (.lst (ps.map (·.1)))):=.new hf _;exact h l (h2.none hf) _ _ (by simp![zf]) hx (h2.ups hx #[_,yf,?_]);rw[<- heq];show zj.ext hx _ (zj.mY λ q hq=>zj.m7 g2 q (hp.mem_iff.mp hq))
def T2 (hm:X.mg "sorted"=none) (ha:yO X (e::es) tA) (hg:Gl X "sorted") (he:AE X e es) (Ao:AI X pos es):PD X (.Call (.Name "sorted" p) (e::es) [] pos) (xr sX tA):=
 uP (uO L4.MJ hg hm boot_sorted ha.pa () () he Ao) sX.mo sX.fits ha.mo
end
end L5
namespace L2
open PySem PySem.Spec PyProof.Rows
section
variable {X:Cx}
def um (r:Addr) (j:Int):Heap->Prop:=λ h=>∃ t u v,IsRange h r 0 j 1 t u v
def MQ:yx X (.type "range") (λ xs H Q=>∃ j,xs=[.int j]/\∀ r,H r=none->Q (.ref r) (upd H r (.ext (um r j)))):=by
 intro Ff s Y H xs us Q I r h;let#[j,rfl,q]:=h;let#[u,rfl,ru]:=vals1 r;let#[t,rfl]:=ru;exact call_range_1 #[.ref s.heap.objs.size,_,I.laid (o:=.ext (um s.heap.objs.size j)) (λ b o e=>gV _ e) (Ak _) ?_,rfl,q _ (I.zm.fresh (Ak _))];have here:um s.heap.objs.size j (s.heap.push { cls:=.type "range",data:=.fields [.int 0 s.toks,.int j t,.int 1 (s.toks+1)].toArray }):=#[_,_,_,IsRange.new ..];exact#[here,#[_,AJ _ rfl],λ h1 h2 S k=>?_];let#[a,b,c,e]:=S;show#[a,b,c,k _ e]
theorem MU (hc:X.calm=true):yx X (.type "list") (λ xs H Q=>∃ r j,xs=[.ref r]/\H r=↑(.ext (um r j))/\0<=j/\j<=16777216/\∀ l,H l=none->Q (.ref l) (upd H l (.lst ((List.range j.toNat).map λ(k:Nat)=>V.int (k:Int))))):=by
 intro Ff s Y H xs us Q I r h;let#[a,j,rfl,hr,h0,h1,q]:=h;let#[u,rfl,ru]:=vals1 r;cases ru;obtain⟨⟨t,u,v,hR⟩,-,-⟩:=(show yH X.prog X.w H s.heap a (.ext (um a j)) from I.zm a _ hr)
 have hsz:Builtin.Range.rangeSize 0 j 1=((j.toNat:Nat):Int):=by rw[rangeSize_one];split <;> lia
 exact call_list_range (n:=j.toNat) (I.ok.hd hc) hR (small_one () () ⋯ ⋯) hsz ⋯ λ h' tk acc c k e hi=>?_;exact#[.ref s.heap.objs.size,_,I.laid (o:=.lst ((List.range j.toNat).map λ(k:Nat)=>V.int (k:Int))) k (Ak _) #[?_,acc.toList,c,?_,by exists e],rfl,q _ (I.zm.fresh (Ak _))]
 .have:sizeLine=16777216:=rfl;simp;lia
 .let#[hn,hi]:=hi;exact ST.Paired.mk (by simp[hn]) λ i a b ha hb=>?_;rw[AR] at ha;let#[k',hk,rfl]:=AM.mp ha;let#[hk1,K1]:=AU.mp hk;simp at K1;subst K1;let#[w,hw]:=hi i b (by exists hb);subst hw;show#[w,#[]]
end
end L2
namespace L5
open PySem PySem.Spec L2 L3
open PyProof.Rows hiding St
section
variable {X:Cx}{K:Ac}{e:Expr}{tA:ya}{pos p Gy p2:Pos}
def t_:xk:=λ ds S Q=>∃ j:Int,ds=[.int j]/\0<=j/\j<=16777216/\∀ l,S l=none->Q (.ref l) (ups S l (.lst (vo 0 j.toNat)))
def oH:Ap
 | [.int j]=>if 0<=j/\j<=16777216 then ↑(.lst (rangeT 0 j.toNat)) else none
 | _=>none
def N1:vi zE oH t_:=λ S Z ys z ds Q hz hv e hq=>by
 unfold oH at e;split at e
 .let#[d,rfl,h1]:=wY hv;split at e
  .rename_i hc;cases e;cases h1.int;show#[_,rfl,hc.1,hc.2,λ l hl=>hq _ _ (.new hl _) (tQ hz hl (ej _ _))]
  .cases e
 .cases e
def t_.mo:vh t_:=λ ds S Q Q' hq #[j,h0,h1,h2,h3]=>#[j,h0,h1,h2,λ l hl=>hq _ _ (h3 l hl)]
theorem WV {H:Hp}(n:Nat):zj K H (vo 0 n) ((List.range n).map λ(k:Nat)=>V.int (k:Int)):=by
 unfold vo
 induction List.range n with
 | nil=>show .nil
 | cons k l ih=>show .cons (by simp![zf];rw[CT]) ih
def t_.fits:uu K t_ (λ xs H Q=>∃ j,xs=[.int j]/\∀ r,H r=none->∃ r' j',[V.ref r]=[.ref r']/\(upd H r (.ext (um r j))) r'=↑(.ext (um r' j'))/\0<=j'/\j'<=16777216/\
  ∀ l,(upd H r (.ext (um r j))) l=none->Q (.ref l) (upd (upd H r (.ext (um r j))) l (.lst ((List.range j'.toNat).map λ(k:Nat)=>V.int (k:Int))))):=λ xs ds H S Q h0 h2 h=>by
 let#[j,rfl,c1,c2,h]:=h;let#[x,hx,h1]:=h0.one;subst hx;simp![zf] at h1;subst h1;exact#[j,rfl,λ r hr=>#[r,j,rfl,yf,c1,c2,λ l hl=>?_]];have x1:Ext H (upd H r (.ext (um r j))):=.new hr _;have CO:l≠r:=λ z=>by subst z;rw[yf] at hl;cases hl
 have hlH:H l=none:=by rw[zO CO] at hl;show hl
 have x2:Ext (upd H r (.ext (um r j))) (upd (upd H r (.ext (um r j))) l (.lst ((List.range j.toNat).map λ(k:Nat)=>V.int (k:Int)))):=.new hl _;show h l (h2.none hlH) _ _ (by simp![zf]) (x1.trans x2) ((h2.new hr).ups x2 #[_,yf,WV _])
def TX (hm:X.mg "list"=none) (IC:X.mg "range"=none) (ha:yO X [e] tA) (hc:X.calm=true) (hg:Gl X "list") (G9:Gl X "range")
  (JF:AE X e [])
  (he:starEach [.Call (.Name "range" p2) [e] [] Gy] X.env=(false,eval (.Call (.Name "range" p2) [e] [] Gy) X.env)::starEach [] X.env) (Ao:AI X pos []) (IB:AI X Gy []):
  PD X (.Call (.Name "list" p) [.Call (.Name "range" p2) [e] [] Gy] [] pos) (xr t_ tA):=by
 have h:=qM (p:=p) (MU hc) hg hm PyProof.Rows.boot_list (uQ (qM MQ G9 IC boot_range ha.pa () () JF IB) sL he) () () he Ao;show#[xr.mo t_.mo ha.mo,PE.imp h λ _ _ _ hu=>fK t_.mo t_.fits ha.mo hu]
end
end L5
namespace ST
open PySem PySem.SetTable PySem.Spec PyProof.Rows L2
def Ng {us HW:Ae}(p:HW.Perm us):∀ {ms:List Int},IntsAre us ms->∃ GN,IntsAre HW GN/\GN.Perm ms:=by
 induction p with
 | nil=>intro ms h;show#[ms,h,.refl _]
 | cons x _ ih=>
  intro ms h;cases h with
  | cons n t h=>
   let#[GN,h1,h2]:=ih h;show#[n::GN,.cons n t h1,h2.cons n]
 | swap x y l=>
  intro ms h;cases h with
  | cons n t h=>
   cases h with
   | cons m u h=>show#[m::n::_,.cons m u (.cons n t h),.swap _ _ _]
 | trans _ _ KD KC=>
  intro ms h;let#[m1,h1,h2]:=KC h;let#[m2,h3,h4]:=KD h1;show#[m2,h3,h4.trans h2]
theorem qq.at {prog:Program}{w:World}{h:Heap}{a:Addr}{xs:List (Int×Tok)}(S:qq prog w h a xs (tW w)):y6 w a (xs.map λ e=>Value.int e.1 e.2) h:=by
 let#[#[es,ep,t,ho,he,T,h1,h2,h3],_]:=S;have hm:7<=t.mask/\t.mask<=127:=by rcases T.mask with e | e | e <;> lia
 have hlen:es.size=xs.length:=by have:=congrArg List.length he;exists this
 show#[es,ep,t,#[ho,fits_of (n:=xs.length) hlen T #[] ⋯,T.w9,h1,h2],by rw[he,AN];rfl]
theorem bw:∀ xs:List (Int×Tok),IntsAre (xs.map λ e=>Value.int e.1 e.2) (xs.map (·.1))
 | []=>.nil
 | e::xs=>.cons e.1 e.2 (bw xs)
theorem f9:∀ {us:Ae}{ns:List Int},IntsAre us ns->Vals (ns.map V.int) us
 | _,_,.nil=>.nil
 | _,_,.cons n t h=>.cons #[t,rfl] (f9 h)
section
variable {X:Cx}
def MN (hc:X.calm=true):yx X (.type "set") (λ xs H Q=>∃ p,∃ ns:List Int,xs=[.ref p]/\zG X.K H p (ns.map V.int)/\ns.length<64/\
  ∀ (l:Addr) (us:Ae) (ms:List Int),H l=none->IntsAre us ms->ms.Nodup->(∀ n,n∈ms↔n∈ns)->Q (.ref l) (upd H l (.ext (y6 X.w l us)))):=by
 intro Ff s Y H xs us Q I r h;let#[p,ns,rfl,hq,GJ,q]:=h;let#[u,rfl,ru]:=vals1 r;cases ru;let#[Aa,rv,pl,hz]:=I.list hq;have hl:=rv.length;rw[AA] at hl;have iA:IntsAre Aa ns:=intsAre_of rv;have nums:Nums Aa.toArray ns:=λ i v hv=>by
  have HB:Aa[i]?=↑v:=by exists hv
  have hi:i<ns.length:=by rw[hl];show (AU.mp HB).1
  let#[u,e1,t,e2]:=rv.get (i:=i) (x:=V.int ns[i]) (by simp[hi]);rw[HB] at e1;cases e1;show#[ns[i],t,e2,by simp[hi]]
 have hh:X.A.handled=none:=I.ok.hd hc;exact MO (A:=X.A) hh pl.isList nums (by rw[AD];lia) λ h' tk xs S U k=>?_;have kk:∀ b o,s.heap.get? b=↑o->h'.get? b=↑o:=λ b o e=>k b o (Aq e) e;have IW:=S.at;exact#[.ref s.heap.objs.size,_,I.laid (t':=tk) (o:=.ext (y6 X.w s.heap.objs.size (xs.map λ e=>Value.int e.1 e.2))) kk (Ak _) ?_,rfl,q _ _ (xs.map (·.1)) (I.zm.fresh (Ak _)) (bw xs) S.nd λ n=>#[λ hn=>?_,λ hn=>?_]]
 .let#[es,ep,t,St,e]:=id IW;show#[IW,#[_,St.get],λ h1 h2 S1 k=>S1.vk k]
 .let#[e,he,rfl]:=Av.mp hn;let#[j,_,_,hj]:=U.own e he;show BU hj
 .let#[j,hj]:=Eg.mp hn;show U.all j n (by have:=(AU.mp hj).1;rw[AD];lia) hj
def MK (hc:X.calm=true):yx X (.builtin "sorted") (λ xs H Q=>∃ l us,∃ ms:List Int,xs=[.ref l]/\H l=↑(.ext (y6 X.w l us))/\IntsAre us ms/\ms.length<64/\
  ∀ (p:Addr) (ns:List Int),H p=none->ns.Perm ms->ns.Pairwise (·<=·)->Q (.ref p) (upd H p (.lst (ns.map V.int)))):=by
 intro Ff s Y H xs us0 Q I r h;let#[l,us,ms,rfl,hl,hm,GJ,q]:=h;let#[u,rfl,ru]:=vals1 r;cases ru;obtain⟨⟨es,ep,t,S,eu⟩,-,-⟩:=(show yH X.prog X.w H s.heap l (.ext (y6 X.w l us)) from I.zm l _ hl)
 have hlen:es.size=us.length:=by rw[<- eu];simp
 have EW:=hm.length;have hh:X.A.handled=none:=I.ok.hd hc;have hp:((comes X.w l es ep).toList.map (·.2)).Perm us:=by rw[<- eu];show (nH X.w l es ep).map _
 let#[GN,i1,i2]:=Ng hp hm;have CS:=hp.length_eq;have hl24:sizeLine=16777216:=rfl;exact L4.fW (N:=λ _=>False) (Out:=λ out=>∃ GL,IntsAre out.toList GL/\GL.Perm GN/\GL.Pairwise (·<=·)) (λ Q' h=>aX (by show hh) S (by rw[hlen,EW];lia) Q' h) (by rw[CS,EW];lia) (λ h2 s6 k=>L4.M8 i1 h2 (by rw[CS,EW];show GJ)) (λ h1=>#[GN,by simpa using i1,.refl _,?_]) λ out h' tk p ho hs Ia k Ck=>?_
 .have:GN.length<2:=by rw[<- i1.length];show h1
  match GN,this with
  | [],_=>show .nil
  | [_],_=>show Et _ _
 .let#[ns,g1,g2,g3]:=ho;let#[e,he]:=Ck;exact#[.ref p,_,I.laid (t':=tk) (o:=.lst (ns.map V.int)) (λ b o e=>k b o id e) Ia ?_,rfl,q p ns (I.zm.fresh Ia) (g2.trans i2) g3];show#[by rw[AA,g2.length_eq,i2.length_eq];lia,out.toList,e,f9 g1,by exists he]
end
end ST
namespace L5
open PySem PySem.Spec L2 L3
open PyProof.Rows hiding St
def insI (n:Int):List Int->List Int
 | []=>[n]
 | m::l=>if n<m then n::m::l else if n=m then m::l else m::insI n l
def wx:List Int->List Int
 | []=>[]
 | n::ns=>insI n (wx ns)
theorem jR {n k:Int}:∀ {l:List Int},k∈insI n l↔k=n\/k∈l
 | []=>by simp[insI]
 | m::l=>by
  unfold insI;split
  .simp
  .split
   .rename_i h;subst h;simp
   .rw[An,jR,An];constructor
    .rintro (h | h | h)
     .show .inr (.inl h)
     .show .inl h
     .show .inr (.inr h)
    .rintro (h | h | h)
     .show .inr (.inl h)
     .show .inl h
     .show .inr (.inr h)
theorem ly {k:Int}:∀ {l:List Int},k∈wx l↔k∈l
 | []=>.rfl
 | n::l=>by unfold wx;rw[jR,ly,An]
theorem b6 {n:Int}:∀ {l:List Int},l.Pairwise (· < ·)->(insI n l).Pairwise (· < ·)
 | [],_=>Et _ _
 | m::l,h=>by
  have h':=BI.mp h;unfold insI;split
  .rename_i c;exact BI.mpr #[λ x hx=>?_,h];rcases An.mp hx with e | e
   .rw[e];show c
   .show Int.lt_trans c (h'.1 x e)
  .split
   .show h
   .rename_i c1 c2;exact BI.mpr #[λ x hx=>?_,b6 h'.2];rcases jR.mp hx with e | e
    .rw[e];lia
    .show h'.1 x e
theorem fH:∀ l:List Int,(wx l).Pairwise (· < ·)
 | []=>.nil
 | n::l=>b6 (fH l)
theorem X0 {l m:List Int}(h1:l.Nodup) (h2:l.Pairwise (·<=·)) (h3:m.Pairwise (· < ·)) (h:∀ k,k∈l↔k∈m):l=m:=by
 have nm:m.Nodup:=h3.imp λ h e=>⋯;exact L4.jA (r:=λ a b:Int=>a<=b) (λ a b p q=>⋯) ((Eh h1 nm).mpr h) h2 (h3.imp λ h=>⋯)
section
variable {X:Cx}{K:Ac}{e:Expr}{tA:ya}{pos Gy p p2:Pos}
def oZ:xk:=λ ds S Q=>uc ds S Q\/∃ d,∃ ns:List Int,ds=[d]/\(∀ ts,d≠.tup ts)/\zP d S=↑(ns.map D.int)/\ns.length<64/\∀ l,S l=none->Q (.ref l) (ups S l (.lst ((wx ns).map D.int)))
def wy:Ap
 | [.lst ts]=>match vX ts with
  | some ns=>if ns.length<64 then ↑(.lst ((wx ns).map T.int)) else none
  | none=>oa [.lst ts]
 | [.tup ts]=>oa [.tup ts]
 | _=>none
def Nw:vi zE wy oZ:=λ S Z ys z ds Q hz hv e hq=>by
 unfold wy at e;split at e
 .split at e
  .rename_i ns CN;split at e
   .rename_i hc;cases e;cases oQ CN;let#[d,rfl,h1]:=wY hv;let#[es,h2,h3]:=h1.seq rfl;cases tP.mp h3;exact .inr #[d,ns,rfl,?_,h2,hc,λ l hl=>hq _ _ (.new hl _) (tQ hz hl (tP.mpr rfl))];obtain⟨_,q | ⟨a,q,_⟩,_⟩:=h1.lst <;> subst q <;> show λ _=>nofun
   .cases e
  .show .inl (bC S Z _ z ds Q hz hv e hq)
 .show .inl (bC S Z _ z ds Q hz hv e hq)
 .cases e
theorem oZ.mo:vh oZ:=λ ds S Q Q' hq h=>by
 rcases h with h | ⟨d,ns,h1,h2,h3,h4,h5⟩
 .show .inl (uc.mo ds S Q Q' hq h)
 .show .inr #[d,ns,h1,h2,h3,h4,λ l hl=>hq _ _ (h5 l hl)]
def NM {w:World}{xs:List V}{H:Hp}{S:SS}{Q:VK}{d:D}{ns:List Int}(h0:zj K H [d] xs) (h2:zC K H S) (hn:∀ ts,d≠.tup ts) (e:zP d S=↑(ns.map D.int)) (GJ:ns.length<64) (h:∀ l,S l=none->xI K H Q (.ref l) (ups S l (.lst ((wx ns).map D.int)))):
  ∃ p,∃ GL:List Int,xs=[.ref p]/\zG K H p (GL.map V.int)/\GL.length<64/\
   ∀ (l:Addr) (us:Ae) (ms:List Int),H l=none->IntsAre us ms->ms.Nodup->(∀ n,n∈ms↔n∈GL)->
    ∃ l' HW,∃ GN:List Int,[V.ref l]=[.ref l']/\(upd H l (.ext (ST.y6 w l us))) l'=↑(.ext (ST.y6 w l' HW))/\IntsAre HW GN/\GN.length<64/\
     ∀ (p:Addr) (ns:List Int),(upd H l (.ext (ST.y6 w l us))) p=none->ns.Perm GN->ns.Pairwise (·<=·)->Q (.ref p) (upd (upd H l (.ext (ST.y6 w l us))) p (.lst (ns.map V.int))):=by
 let#[x,hx,h1]:=h0.one;subst hx;let#[a,ys,rfl,g1,g2]:=sG h1 h2 e hn;rw[g2.ints] at g1;exact#[a,ns,rfl,g1,GJ,λ l us ms hf hi nd Bb=>#[l,us,ms,rfl,yf,hi,?_,λ p Kx hp pm Kn=>?_]]
 .have:=ST.jK ms ns nd λ x hx=>(Bb x).mp hx;lia
 .have x1:Ext H (upd H l (.ext (ST.y6 w l us))):=.new hf _;have Ao:p≠l:=λ z=>by subst z;rw[yf] at hp;cases hp
  have KW:H p=none:=by rw[zO Ao] at hp;show hp
  have x2:Ext (upd H l (.ext (ST.y6 w l us))) (upd (upd H l (.ext (ST.y6 w l us))) p (.lst (Kx.map V.int))):=.new hp _;have heq:Kx=wx ns:=X0 (pm.nodup_iff.mpr nd) Kn (fH ns) λ k=>by rw[pm.mem_iff,Bb,ly]
  exact h p (h2.none KW) _ _ (by simp![zf]) (x1.trans x2) ((h2.new hf).ups x2 #[_,yf,?_]);rw[<- heq];show zj.jJ Kx
def Tz {k:Nat}(hr:yb k X.A) (hm:X.mg "sorted"=none) (IC:X.mg "set"=none) (ha:yO X [e] tA) (hc:X.calm=true) (hg:Gl X "sorted") (G9:Gl X "set")
  (JF:AE X e [])
  (he:starEach [.Call (.Name "set" p2) [e] [] Gy] X.env=(false,eval (.Call (.Name "set" p2) [e] [] Gy) X.env)::starEach [] X.env) (Ao:AI X pos []) (IB:AI X Gy []):
  PD X (.Call (.Name "sorted" p) [.Call (.Name "set" p2) [e] [] Gy] [] pos) (xr oZ tA):=by
 have h:=uO (p:=p) (yx.or (ST.ML hc) (ST.MK hc)) hg hm boot_sorted (uQ (qM (yx.or (ST.MM hc hr.units) (ST.MN hc)) G9 IC PyProof.Rows.boot_set ha.pa () () JF IB) sL he) () () he Ao;exact#[xr.mo oZ.mo ha.mo,PE.imp h fun Y H Q hu=>?_];let#[L,S,r1,r2,z]:=hu;exact xQ.go ha.mo r1 r2 z λ ds S1 xs H1 h1 q1 e1 p1=>?_;rcases h1 with h1 | ⟨d,ns,rfl,c1,c2,c3,h1⟩
 .let#[p,ys,rows,a1,a2,a3,a4,a5]:=uc.fits (w:=X.w) xs ds H1 S1 Q q1 p1 (uc.mo ds S1 _ _ (λ d S' z=>z.ext e1) h1);show .inl #[p,ys,rows,a1,a2,a3,a4,λ l us ps b1 b2 b3 b4 b5=>.inl (a5 l us ps b1 b2 b3 b4 b5)]
 .let#[p,GL,a1,a2,a3,a4]:=NM (w:=X.w) q1 p1 c1 c2 c3 (λ l hl=>(h1 l hl).ext e1);show .inr #[p,GL,a1,a2,a3,λ l us ms b1 b2 b3 b4=>.inr (a4 l us ms b1 b2 b3 b4)]
end
end L5
namespace L5
open PySem PySem.Spec L2 L3
open PyProof.Rows hiding St
section
variable {X:Cx}{e st:Expr}
theorem zi.rev {S:SS}:∀ {ts:List T}{ds:List D},zi S ts ds->zi S ts.reverse ds.reverse
 | [],ds,h=>by simp![zi] at h;subst h;show .nil
 | t::ts,ds,h=>by
  simp![zi] at h;let#[c,cs,rfl,h1,h2]:=h;rw[C1,C1];show (zi.rev h2).append (zi.cons h1 zi.nil)
def cg:Sm:=λ _=>none
def aH:z_:=λ _ _ _=>False
def UP {st:Stmt}:xu X st aH:=#[λ _ _ _ _ _ h=>h.elim,λ _ _ _ _ _ _ #[_,_,_,_,h]=>h.elim]
def RE {R:Rk}:zW R cg aH:=λ S0 Z0 S Z L J o E F e P=>by cases e
end
end L5
namespace L5
open PySem L2 L3
def ir:Good2 zE qP i9:=iu (λ _ _ _=>wz) λ _ _ _=>nofun
def iw:Good2 zE oW iB:=iu (λ _ _ _=>wz) λ _ _ _=>nofun
end L5
namespace L5
open PySem PySem.Spec L2 L3
open PyProof.Rows hiding St
section
variable {X:Cx}{e:Expr}{te:zp}{pos p q:Pos}
def Sb (T:Bt X.mg) (he:PD X e te) (hg:Gl X "isinstance") (G9:Gl X "list") (h1:AE X e [.Name "list" q]) (h2:AI X pos [.Name "list" q]) (h3:AE X (.Name "list" q) []):
  PD X (.Call (.Name "isinstance" p) [e,.Name "list" q] [] pos) (nC "list" te):=jC #[] T.isinstance T.list PyProof.Rows.boot_list G9 () () he hg h1 h2 h3
end
end L5
namespace L3
open PySem PyProof.Rows L2
section
variable {X:Cx}{pos:Pos}
def wE (E:tK) (W:Nat->zY->SS->Prop) (m:Nat):tK:={ E with nx:=fun L' S'=>∃ m',m'<m/\W m' L' S',ct:=fun L' S'=>∃ m',m'<m/\W m' L' S',bk:=E.nx }
def nv (c:yt) (tb:z_):z_:=λ E L S=>∃ W:Nat->zY->SS->Prop,(∃ m,W m L S)/\∀ m L S,W m L S->
 c L S λ b S1=>if b=true then tb (wE E W m) L S1 else E.nx L S1
def nv.mo {c:yt}{tb:z_}(hc:wG c) (hb:ur tb):ur (nv c tb):=λ E E' L S hE #[W,w0,ws]=>
 #[W,w0,λ m L S hw=>hc L S _ _ (λ b S1 z=>xF (λ z=>hb (wE E W m) (wE E' W m) L S1 #[λ _ _ q=>q,hE.rt,hE.nx,λ _ _ q=>q] z) (λ z=>hE.nx _ _ z) z) (ws m L S hw)]
def UJ {c:Expr}{body:List Stmt}{tc:yt}{tb:z_}(hp:PassesOwn (model X.prog X.w) X.A X.env X.xe) (hc:yX X c tc) (hb:wR X body tb):xu X (.While c body [] pos) (nv tc tb):=by
 exact#[nv.mo hc.mo hb.mo,PS.imp (Vt hp hc.pt hb.ps) λ D Y H hu=>?_];let#[L,S,r1,r2,W,#[m0,w0],ws]:=hu;exact#[λ m Y' H'=>Ext H H'/\∃ L S,ym X.K H' L Y'/\zC X.K H' S/\W m L S,#[m0,.refl _,L,S,r1,r2,w0],?_];rintro m Y2 H2 ⟨x2,L2,S2,q1,q2,w2⟩;exact xP.go hc.mo q1 q2 (ws m L2 S2 w2) λ k S3 H3 h3 e3 p3=>xF (λ z=>?_) (λ z=>?_) h3
 .exact#[fun Y' H'=>Ext H H'/\∃ L S m',m'<m/\ym X.K H' L Y'/\zC X.K H' S/\W m' L S,fun Y' H' #[a,L',S',m',b,c,d,e]=>#[m',b,a,L',S',c,d,e],L2,S3,q1.ext e3,p3,?_];show hb.mo (wE (vC X.K H D) W m) _ L2 S3 #[fun L5 S5 #[m',b,w5] Y5 H5 b1 b2 b3=>#[(x2.trans e3).trans b2,L5,S5,m',b,b1,b3,w5],λ _ _ q=>xI.ext (x2.trans e3) q,λ _ _ q=>xq.ext (x2.trans e3) q,fun L5 S5 #[m',b,w5] Y5 H5 b1 b2 b3=>#[(x2.trans e3).trans b2,L5,S5,m',b,b1,b3,w5]] z
 .show z Y2 H3 (q1.ext e3) (x2.trans e3) p3
end
end L3
namespace L5
open PySem PyProof.Rows L2 L3
def wg (is:List Nat) (c:Ev->Option Bool) (b:Sm):Nat->Ev->Option Out
 | 0,_=>none
 | n+1,J=>(c (y9 is J)).bind λ k=>if k=true then (b (y9 is J)).bind λ o=>match o with
   | .nx J2=>wg is c b n J2
   | .ct J2=>wg is c b n J2
   | .bk J2=>↑(.nx (y9 is J2))
   | .rt t=>↑(.rt t)
  else ↑(.nx (y9 is J))
def pU (n:Nat) (is:List Nat) (c:Ev->Option Bool) (b:Sm):Sm:=wg is c b n
def R4 {R:Rk} [Lo R] {n:Nat}{is:List Nat}{c:Ev->Option Bool}{tc:yt}{b:Sm}{tb:z_}(hc:wU c tc) (hb:zW R b tb):zW R (pU n is c b) (nv tc tb):=λ S0 Z0 S Z L J o E F e P=>by
 let#[SB,b1,FB,b2]:=F.rebase;have lo:∀ S' d y,R SB S' Z0 y d->R S0 S' Z0 y d:=λ S' d y r=>Lo.lo b1 (λ _ z=>z) r;exact#[λ m L' S'=>∃ Z' J',FR SB Z0 S' Z' L' J'/\wg is c b m J'=↑o,#[n,Z,J,FB,e],λ m L' S' #[Z',J',F',e']=>?_];cases m with
 | zero=>cases e'
 | succ m=>
  unfold wg at e';let#[k,c1,e']:=Al.mp e';have G:=F'.y9 is;exact hc S' Z' L' _ k _ G.er c1 λ S3 s3=>?_;cases k with
  | true=>
   rw[if_pos rfl] at e' ⊢;let#[o1,g2,e']:=Al.mp e';exact hb SB Z0 S3 Z' L' _ o1 _ (G.grow s3) g2 ?_;cases o1 with
   | nx J2=>show λ S3 Z3 L3 F3=>#[m,CG m,Z3,J2,F3,e']
   | ct J2=>show λ S3 Z3 L3 F3=>#[m,CG m,Z3,J2,F3,e']
   | bk J2=>cases e';show λ S3 Z3 L3 F3=>P S3 Z3 L3 ((F3.y9 is).back b1 F.z0)
   | rt y=>cases e';show λ d S3 s3 r3=>P d S3 (b1.trans s3) (lo _ _ _ r3)
  | false=>
   rw[if_neg ()] at e' ⊢;cases e';show P S3 Z' L' ((G.grow s3).back b1 F.z0)
end L5
namespace ZP
open PySem PyProof.Rows
def Oe (k:Bool) (l:Addr) (xs:Aw):Meets (Builtin.«enumerate.__new__» #[[.type "enumerate",.ref l],[]]) (λ _ R s=>SQ s.heap k l xs/\
   R (.ok (.ret (.ref (s.heap.push (vz k l)).objs.size))) { s with heap:=(s.heap.push (vz k l)).push { cls:=.type "enumerate",data:=.fields [.none,.bool false,.ref s.heap.objs.size,rawInt 0,.none,.none].toArray } }):=
 .of_wp λ prog w A R s h=>by
  let#[hp,g,d,tk,os]:=s;let#[q,h]:=h;have EI:=sub_enumerate;have hL:SQ (Shared.heap #[hp,g,d,tk,os]) k l xs:=q;let#[#[c,zB,dt,sl],hl,hc]:=q.cls;replace hc:c=.type (cond k "tuple" "list"):=hc;subst hc
  wp_walk using AutoSeq1.wpAny_loadPart' hl
  exact wpAny_stack_any λ st=>Ad ?_;split
  .rename_i c _ _ _ _ _;cases (c == Value.type "enumerate")
   .wp_walk using AutoSeq1.wpAny_loadPart' hl,made hL
    show#[_,rfl,h]
   .wp_walk using AutoSeq1.wpAny_loadPart' hl,made hL
    show#[_,rfl,h]
  .wp_walk using AutoSeq1.wpAny_loadPart' hl,made hL
   show#[_,rfl,h]
section
variable {prog:Program}{w:World}{A:Around}{E:Af}{s:Shared}
def Md {k:Bool}{l:Addr}{xs:Aw}{Q:Af}(hL:SQ s.heap k l xs)
  (h:∀ h',IsEnum h' (s.heap.objs.size+1) s.heap.objs.size 0 .none->SI h' k s.heap.objs.size l 0->(∀ b o,s.heap.get? b=↑o->h'.get? b=↑o)->Q (.ref (s.heap.objs.size+1)) { s with heap:=h' }):
  wpAny (model prog w) A (call (.type "enumerate") [.ref l]) Q E s:=by
 exact callType_new F.called_enumerate () (F.typeCall_enumerate_1 _) (F.newCall_enumerate_1 _) (λ obj=>F.args_object_init_2 obj _) F.entry_enumerate_new (Oe k l xs) #[hL,?_];have hz:(s.heap.push (vz k l)).objs.size=s.heap.objs.size+1:=Heap.size_push ..;change _/\_;rw[hz];have he:IsEnum ((s.heap.push (vz k l)).push { cls:=.type "enumerate",data:=.fields [.none,.bool false,.ref s.heap.objs.size,rawInt 0,.none,.none].toArray }) (s.heap.objs.size+1) s.heap.objs.size 0 .none:=by
  have:=AJ (s.heap.push (vz k l)) (o:={ cls:=.type "enumerate",data:=.fields [.none,.bool false,.ref s.heap.objs.size,rawInt 0,.none,.none].toArray }) rfl;rw[hz] at this;show this
 show#[#[_,he,rfl],h _ he #[_,gV _ (AJ _ rfl),rfl,rfl] λ b o x=>gV _ (gV _ x)]
def Mk (hh:A.handled=none) (k:Bool) (it l:Addr) (Az:l≠it) (xs:Aw):Draws prog w A it [it,l] xs.size (λ i v=>xs[i]?=↑v) (λ i h=>SI h k it l i/\SQ h k l xs) where
 live:=λ _ _ st=>let #[o,ho,_]:=st.1;#[o,ho]
 frame:=λ _ _ _ st hk=>#[st.1.on λ o e=>hk it #[] o e,st.2.on λ o e=>hk l #[] o e]
 item:=λ i s Q E hi st hQ=>draw st.1 st.2 (x:=xs[i]) (by simp[hi]) λ h' E8 Hr=>hQ _ h' s.toks (by simp[hi]) #[E8,st.2.on λ o e=>(Hr.2 l Az).trans e] Hr
 done:=λ s Q E st hE=>lS hh st.1 st.2 #[] hE
end
end ZP
namespace L2
open PySem PySem.Spec PyProof.Rows ZP
section
variable {X:Cx}{Ff:Aj}{Y:St}{H:Hp}{s:Shared}
def ZO (K:Ac) (k:Bool) (a:Addr):It:=
 #[λ i H=>∃ xs x,wa K H k a xs/\xs[i]?=↑x,
   λ i H v H'=>∃ p x,v=.ref p/\H p=none/\H'=upd H p (.tup [.int i,x])/\∀ xs,wa K H k a xs->xs[i]?=↑x,
   λ i H=>∃ xs,wa K H k a xs/\xs.length<=i]
def XF {P:Program}{w:World}{K:Ac}{es:List Expr}{kk} {pos:Pos}{k:Bool}{e it a:Addr}(Fb:e≠it) (hea:e≠a) (hai:a≠it):
  Turn P w K (.Tuple es kk pos) (ZO K k a) [e,it] e (λ i h=>(∃ old,IsEnum h e it i old)/\SI h k it a i) where
 mem:=#[]
 obj:=λ i h st b hb=>by
  let#[#[old,q1],o1,q2,_,d1]:=st;simp![An,A8,or_false] at hb;rcases hb with e | e <;> subst e
  .show#[_,q1,λ v z=>by cases z]
  .show#[_,q2,λ v z=>by rw[d1] at z;cases z]
 keep:=λ i h h' st k=>#[let #[old,q]:=st.1;#[old,k e #[] _ q],st.2.on λ o q=>k it #[] o q]
 item:=by
  intro X hP hw hK hc i Ff s Y H E I hf st hg;subst hP hw hK;let#[xs,x,g1,hx]:=hg;let#[Aa,rv,q1]:=g1.of I;let#[u1,e1,r1]:=rv.get hx;let#[#[old,he],si]:=st;have AB:i<Aa.toArray.size:=by have:=(AU.mp e1).1;exists this
  have D:=Mk (prog:=X.prog) (w:=X.w) (A:=X.A.in1) (show X.A.in1.handled=none from I.ok.hd hc) k it a hai Aa.toArray;exact wpAny_pyNext_enum_itemD D he #[si,q1] AB Fb (by simp[Fb,hea]) λ u h' tk hP ho Hr hT hsz hk=>#[_,rfl,?_];have hu:u=u1:=by simp![List.getElem?_toArray,e1] at hP;show (A_ hP).symm
  subst hu;have nT:s.heap.objs.size∉[e,it]:=λ hb=>by
   simp![An,A8,or_false] at hb;let#[oi,qi,_]:=si;rcases hb with z | z
   .show absurd (Aq he) (by rw[<- z];show Cb _)
   .show absurd (Aq qi) (by rw[<- z];show Cb _)
  have ne:s.heap.objs.size≠e:=λ z=>nT (by simp[z]);exact wpAny_letOwnedTupleGo_enum ho λ h2 JF sb=>?_;have fr:H s.heap.objs.size=none:=I.zm.fresh (Ak _);have I1:Inv X Ff Y (upd H s.heap.objs.size (.tup [.int i,x])) { s with heap:=s.heap.push { cls:=.type "tuple",data:=.seq [.int i tk,u].toArray },toks:=s.toks }:=
   I.laid (o:=.tup [.int i,x]) (λ b u q=>gV _ q) (Ak _) #[#[by change 2<=sizeLine;decide,.new _],[.int i tk,u],.cons #[tk,rfl] (.cons r1 .nil),IsTup.new _ _]
  have G3:∀ b∈[e,it],upd H s.heap.objs.size (.tup [.int i,x]) b=none:=λ b hb=>by
   rw[zO (λ z=>nT (by rw[<- z];show hb))];show (hf b hb).1
  have kk:∀ b o,b∉[e,it]->(s.heap.push { cls:=.type "tuple",data:=.seq [.int i tk,u].toArray }).get? b=↑o->h2.get? b=↑o:=λ b o hb q=>by
   have BB:b≠e:=λ z=>hb (by simp[z]);have hbi:b≠it:=λ z=>hb (by simp[z]);by_cases DG:b=s.heap.objs.size
   .subst DG;rw[AJ _ rfl] at q;cases q;show sb.extBut _ _ BB hT
   .have q':s.heap.get? b=↑o:=by rw[Heap.get?_push_ne _ _ _ DG] at q;show q
    show sb.extBut _ _ BB (hk b o BB hbi q')
  have I2:=Inv.mG (h':=h2) (t':=tk+1) (fp:=[e,it]) I1 kk λ b hb=>#[G3 b hb,(hf b hb).2];exact#[.ref s.heap.objs.size,_,I2,rfl,#[_,x,rfl,fr,rfl,λ zs hz=>by rw[hz.inj I g1];show hx],#[#[_,by exists JF],Hr.1.on λ o q=>(sb.2 it (Ne.symm Fb)).trans q],G3]
 done:=by
  intro X hP hw hK hc i Ff s Y H E I hf st hg;subst hP hw hK;let#[xs,g1,hx]:=hg;let#[Aa,rv,q1]:=g1.of I;have l1:=rv.length;let#[#[old,he],si]:=st;have hT:s.TypeIs (.ref e) "enumerate":=#[_,he,rfl];unfold pyNext;exact Kj (wpAny_attempt (zaG (name:=Str.ofString "__next__") hT F.slot_enumerate_next
   (zaB F.slot_enumerate_next hT F.entry_enumerate_next ?_ (F.args_enumerate_next_1 _))))
  change wpAny _ _ (field (.ref e) 2 >>= _) _ _ _;exact Kj (za3 he rfl (x:=.ref it) rfl ?_);exact Kj (lS (show X.A.in1.handled=none from I.ok.hd hc) si q1 (by simp;lia) λ h' x K2 Iv=>?_);let#[o,ho,hc]:=Iv;exact Kj (wpAny_isInstance (T:="StopIteration") (b:=true) #[o,ho,hc] isSubtype_stop ?_);show Ad #[rfl,I.mG (t':=s.toks) (fp:=[e,it]) (λ b o hb q=>K2 b o (λ z=>hb (by simp[z])) q) hf]
 self:=λ _ _ _ _ _ st h=>let #[_,q]:=st.1;wpAny_pyIter_enum q h
def Nl (K:Ac) (ta:TA):TI:=fun Y H R=>ta Y H λ vs H1=>∃ a k,vs=[.ref a]/\(∃ xs,wa K H1 k a xs)/\R (ZO K k a) H1
theorem VH {a:Expr}{ta:TA}{p pos pos':Pos}{es:List Expr}{kk} (hg:Gl X "enumerate") (hm:X.mg "enumerate"=none) (ha:PA X [a] ta) (hs:starEach [a] X.env=[(false,eval a X.env)]:=by rfl):
  PI X (.Tuple es kk pos') (.Call (.Name "enumerate" p) [a] [] pos) (Nl X.K ta):=by
 intro Ff s Y H R I h;exact Call_ (rZ I hg hm boot_enumerate (PyProof.Rows.callWith_type1 (zw (ha pos Ff s Y H _ I h) λ us s1 #[vs,H1,I1,r1,q1]=>?_) (by rw[hs];rfl) rfl));let#[a1,k,rfl,#[xs,g1],q]:=q1;cases r1 with
 | cons r rr=>
  cases rr;cases r;let#[KA,_,q1]:=g1.of I1;have la:=q1.lt;exact ZP.Md q1 λ h' E S up=>wpAny_pyIter_enum E ?_;have nw:∀ b∈[s1.heap.objs.size+1,s1.heap.objs.size],s1.heap.objs.size<=b:=λ b hb=>by
   simp![An,A8,or_false] at hb;rcases hb with z | z <;> rw[z]
   .show DH _
   .show Ak _
  show#[_,[s1.heap.objs.size+1,s1.heap.objs.size],_,_,H1,rfl,I1.kept (t':=s1.toks) up,XF (Nat.succ_ne_self _) (Bo (Co la)) (AH la),#[#[_,E],S],λ b hb=>I1.oX (nw b hb) (I1.zm.fresh (nw b hb)),q]
end
end L2
namespace L5
open PySem PySem.Spec L2 L3
open PyProof.Rows hiding St
def tm (k:Nat):List D->List D
 | []=>[]
 | d::ds=>.tup [.int k,d]::tm (k+1) ds
def sZ (k:Nat):List T->List T
 | []=>[]
 | d::ds=>.tup [.int k,d]::sZ (k+1) ds
theorem ao:∀ (ds:List D) (k i:Nat),(tm k ds)[i]?=(ds[i]?).map λ d=>D.tup [.int ((k+i:Nat):Int),d]
 | [],k,i=>by simp[tm]
 | d::ds,k,0=>by simp[tm]
 | d::ds,k,i+1=>by
  unfold tm;rw[El,El,ao ds (k+1) i,show k+1+i=k+(i+1) from by lia]
theorem ak:∀ (ds:List D) (k:Nat),(tm k ds).length=ds.length
 | [],k=>rfl
 | d::ds,k=>by unfold tm;rw[Bj,ak ds];rfl
theorem ez {S:SS}:∀ {ts:List T}{ds:List D}(k:Nat),zi S ts ds->zi S (sZ k ts) (tm k ds)
 | [],ds,k,h=>by simp![zi] at h;subst h;show zi.nil
 | t::ts,ds,k,h=>by
  simp![zi] at h;let#[c,cs,rfl,h1,h2]:=h;show zi.cons (rQ (zi.cons (by simp![Sn]) (zi.cons h1 zi.nil))) (ez (k+1) h2)
section
variable {X:Cx}{a:Expr}{tA:ya}{pos p pos':Pos}{es:List Expr}{kk:Nat}
def cU (t:ya):xZ:=fun L S R=>t L S λ ds S1=>∃ d xs,ds=[d]/\zP d S1=↑xs/\R #[tm 0 xs,λ S=>zP d S=↑xs] S1
def Te (hm:X.mg "enumerate"=none) (ha:yO X [a] tA) (hg:Gl X "enumerate") (hs:starEach [a] X.env=[(false,eval a X.env)]):
  uq X (.Tuple es kk pos') (.Call (.Name "enumerate" p) [a] [] pos) (cU tA):=by
 exact#[fun L S Q Q' hq z=>ha.mo L S _ _ (λ ds S1 #[d,xs,h1,h2,h4]=>#[d,xs,h1,h2,hq _ _ h4]) z,PI.imp (VH hg hm ha.pa hs) fun Y H R hu=>?_];let#[L,S,r1,r2,z]:=hu;exact xQ.go ha.mo r1 r2 z λ ds S1 vs H1 h1 q1 e1 p1=>?_;let#[d,xs,rfl,s1,h]:=h1;let#[v,rfl,d1]:=q1.one;let#[a1,us,rfl,g1,g2]:=zP.k d1 p1 s1;exact#[a1,oO d,rfl,#[us,g1],h _ H1 e1 p1 λ i H2 S2 x1 x2 hk=>?_];let#[b1,Ja,q1,m1,m2]:=zP.k (zf.ext x1 d d1) x2 hk;cases q1;have l1:=m2.length;exact#[λ dd hd=>?_,λ hl=>#[Ja,m1,?_]]
 .rw[ao,Nat.zero_add] at hd;let#[dx,hx,rfl]:=AM.mp hd;let#[x,Iv,rx]:=m2.get hx;exact#[#[Ja,x,m1,Iv],λ v H' q=>?_];let#[pp,x',rfl,hp,rfl,f1]:=q;have ex:x'=x:=by have:=f1 _ m1;rw[Iv] at this;show (A_ this).symm
  subst ex;exact#[.new hp _,x2.new hp,?_];simp![zf];show#[pp,_,rfl,zR.of yf,zj.ext (.new hp _) _ (.cons (by simp![zf]) (.cons rx .nil))]
 .have G1:(tm 0 xs).length<=i:=hl;rw[ak] at G1;lia
@[simp] def s_:List T->Option (List T)
 | [x]=>(xm x).map λ xs=>sZ 0 xs
 | _=>none
def RY {g:Ev->Option (List T)}(h:rD g tA):rC false (xh s_ g) (cU tA):=λ S Z L J ts Q hE e hq=>by
 let#[ys,e1,e2]:=Al.mp e;exact h S Z L J ys _ hE e1 λ ds S1 s1 r1=>?_;unfold s_ at e2;split at e2
 .let#[xs,e3,rfl]:=AM.mp e2;let#[d,rfl,h1]:=wY r1;let#[es,g1,g2]:=h1.seq e3;show#[d,es,rfl,g1,hq _ S1 s1 (ez 0 g2) λ IJ s=>zP.sx g1 s]
 .cases e2
end
end L5
namespace TM
open PySem PyProof.Rows
def Mt (i:Int) (t:Tok) (l:Addr) (items:Aw) (n:Nat) (dd:Option Addr) (sl:Array (Option Value)):
  Meets (Builtin.«int.__rmul__» #[[.int i t,.ref l],[]]) (λ _ R s=>s.heap.get? l=↑{ cls:=.type "list",dict:=dd,data:=.seq items n,slots:=sl }/\R (.ok (.ret Value.notImplemented)) s):=
 .of_wp λ prog w A R s h=>by
  let#[hp,g,d,tk,os]:=s;let#[hl,h]:=h
  wp_walk
  show#[_,rfl,h]
def mulL (l:Addr) (items:Aw) (n:Nat) (x:Int) (u:Tok) (dd:Option Addr) (sl:Array (Option Value)) (hc0:¬(!Builtin.List.listFitsIndex x)=true) (IG:¬items.size*x.toNat>(2 ^ 63-1)/8) (GR:¬Builtin.List.listTooLong (items.size*x.toNat)=true):
  Meets (Builtin.«list.__mul__» #[[.ref l,.int x u],[]]) (λ _ R s=>s.heap.get? l=↑{ cls:=.type "list",dict:=dd,data:=.seq items n,slots:=sl }/\R (.ok (.ret (Value.ref s.heap.objs.size))) { s with heap:=s.heap.push { cls:=.type "list",data:=.seq (List.foldl (λ x1 x2=>x1++x2) [].toArray (List.replicate (if items.isEmpty=true then 0 else x.toNat) items)) } }):=
 .of_wp λ prog w A R s h=>by
  let#[hp,g,d,tk,os]:=s;let#[hl,h]:=h
  have hsz:=AutoListH.joined_fits GR
  wp_walk;exact wpAny_ite_false (za5 (Nat.not_lt.mpr hsz)) ?_;wp_walk;show#[_,rfl,h]
section
variable {prog:Program}{w:World}{A:Around}{E:Af}{s:Shared}
def XJ {l:Addr}{Aa:Ae}{k:Int}{t:Tok}{Q:Af}(ht:PlainL s.heap l Aa.toArray) (Az:Aa≠[]) (h0:0<=k) (hz:Aa.length*k.toNat<=sizeLine)  (hk:k<=1000000)
  (more:Q (.ref s.heap.objs.size) { s with heap:=s.heap.push { cls:=.type "list",data:=.seq (List.replicate k.toNat Aa).flatten.toArray } }):
  wpAny (model prog w) A (binaryOp .Mult (.ref l) (.int k t)) Q E s:=by
 let#[#[cls,dd,data,sl],n,ho,hc,he,hd]:=id ht;simp only at hc hd he;subst hc hd he;have hl:sizeLine=16777216:=rfl;have D7:Aa.toArray.isEmpty=false:=by cases Aa with
  | nil=>show absurd rfl Az
  | cons a r=>rfl
 have hf:List.foldl (λ x1 x2=>x1++x2) [].toArray (List.replicate (if Aa.toArray.isEmpty=true then 0 else k.toNat) Aa.toArray)=(List.replicate k.toNat Aa).flatten.toArray:=by
  rw[D7,if_neg ()];have:=i6 Aa k.toNat [].toArray;exists this
 exact wpAny_binaryOp_repeat_ref (T:="list") (U:="int") () #[_,ho,rfl] (λ s'=>typeIs_int s' k t) noFill_list_mul F.fills_int_mul F.slot_int_rmul repeat_list F.slot_int_index.lookup
  (call_meets F.slot_int_rmul (typeIs_int s k t) F.entry_int_rmul (F.args_int_rmul_2 _ _) (Mt k t l Aa.toArray n none sl)
   #[ho,rfl,#[_,ho,rfl],call_meets F.slot_list_mul #[_,ho,rfl] F.entry_list_mul (F.args_list_mul_2 _ _)
    (mulL l Aa.toArray n k t none sl (by simp[Builtin.List.listFitsIndex];lia) (by simp;lia) (by simp[Builtin.List.listTooLong];lia)) #[ho,?_]])
 rw[hf];show more
end
end TM
namespace L2
open PySem PySem.Spec PyProof.Rows
def j0 (K:Ac):R2:=λ x y H Q=>∃ a k xs,x=.ref a/\y=.int k/\zG K H a xs/\xs≠[]/\0<=k/\k<=1000000/\xs.length*k.toNat<=sizeLine/\∀ p,H p=none->Q (.ref p) (upd H p (.lst (List.replicate k.toNat xs).flatten))
theorem Rh {X:Cx}:zZ X (binaryOp .Mult) (j0 X.K):=by
 intro Ff s Y H x y v u Q I rx ry h;let#[a,k,xs,rfl,rfl,hx,Az,h1,h2,hz,q]:=h;cases rx;let#[t,rfl]:=ry;let#[Aa,r,ht,_]:=I.list hx;have hl:=r.length;exact TM.XJ ht (λ z=>Az (r.oA.mp z)) h1 (by rw[<- hl];show hz) h2 ?_;have hlen:(List.replicate k.toNat xs).flatten.length<=sizeLine:=by
  have:(List.replicate k.toNat xs).flatten.length=k.toNat*xs.length:=#[];rw[this,DP];show hz
 show#[.ref _,_,I.laid (t':=s.toks) (o:=.lst (List.replicate k.toNat xs).flatten) (λ b ob q=>gV _ q) (Ak _) #[hlen,_,0,r.rep k.toNat,AJ _ rfl],rfl,q _ (I.zm.fresh (Ak _))]
end L2
namespace L5
open PySem PySem.Spec L2 L3
open PyProof.Rows hiding St
section
variable {X:Cx}{K:Ac}{a b:Expr}{ta tb:zp}{pos:Pos}
def OT:D->Bool
 | .tup _=>true
 | _=>false
def lL:y7:=λ x y S Q=>∃ k ds,y=.int k/\OT x=false/\zP x S=↑ds/\(ds≠[]/\0<=k/\k<=1000000/\ds.length*k.toNat<=sizeLine)/\∀ p,S p=none->Q (.ref p) (ups S p (.lst (List.replicate k.toNat ds).flatten))
def sY:y7:=λ x y S Q=>uY x y S Q\/lL x y S Q
def uS:T->T->Option T
 | .lst ts,.int k=>if ts≠[]/\0<=k/\k<=1000000/\ts.length*k.toNat<=sizeLine then ↑(.lst (List.replicate k.toNat ts).flatten) else none
 | x,y=>jP x y
theorem sY.mo:xv sY:=λ x y S Q Q' hq h=>by
 rcases h with h | ⟨k,ds,h1,h2,h3,h4,h5⟩
 .show .inl (uY.mo x y S Q Q' hq h)
 .show .inr #[k,ds,h1,h2,h3,h4,λ p hp=>hq _ _ (h5 p hp)]
def lL.fits:xl K lL (j0 K):=λ x y d e H S Q h1 h2 h3 h=>by
 let#[k,ds,rfl,ht,hs,#[c1,c2,c3,c4],h]:=h;simp![zf] at h2;let#[a,xs,rfl,g1,g2]:=sG h1 h3 hs λ ts z=>by subst z;cases ht
 have hl:=g2.length;exact#[a,k,xs,rfl,h2,g1,λ z=>c1 (by subst z;cases ds with | nil=>rfl | cons _ _=>simp at hl),c2,c3,by rw[<- hl];show c4,λ p hp=>?_];show h p (h3.none hp) _ _ (by simp![zf]) (.new hp _) (h3.ups (.new hp _) #[_,yf,zj.ext (.new hp _) _ (zj.rep g2 _)])
theorem sY.fits:xl K sY (λ x y H Q=>(rI vM (λ i j=>.int (i*j)) x y H Q\/jz K x y H Q)\/j0 K x y H Q):=λ x y d e H S Q h1 h2 h3 h=>by
 rcases h with h | h
 .show .inl (uY.fits x y d e H S Q h1 h2 h3 h)
 .show .inr (lL.fits x y d e H S Q h1 h2 h3 h)
def Ny:Good2 zE uS sY:=λ S Z x y z d e Q hz hx hy ef hq=>by
 unfold uS at ef;split at ef
 .rename_i ts k;split at ef
  .rename_i hc;cases ef;let#[ds,g1,g2]:=hx.seq (ts:=ts) rfl;cases hy.int;have hl:=g2.len;exact .inr #[_,ds,rfl,?_,g1,#[λ q=>hc.1 (by subst q;exists hl.symm),hc.2.1,hc.2.2.1,by rw[hl];show hc.2.2.2],λ p hp=>hq _ _ (.new hp _) (tQ hz hp (zi.rep g2 _))];cases d with
   | tup es=>show absurd hx (by
     intro q;rcases q with q | ⟨us,p,Gh,_,q,_⟩
     .simp![Sn] at q;obtain⟨_,⟨q,_⟩ | ⟨_,q,_⟩,_⟩:=q <;> cases q
     .cases q)
   | _=>rfl
  .cases ef
 .show .inl (bD S Z x y z d e Q hz hx hy ef hq)
def TF (ha:PD X a ta) (hb:PD X b tb):PD X (.BinOp a .Mult b pos) (yk sY ta tb):=sJ ((Rj.or Rg).or Rh) sY.fits sY.mo ha hb
end
end L5
namespace L3
open PySem PySem.Spec PyProof.Rows L2
section
variable {X:Cx}{K:Ac}{e o:Expr}{te to:zp}{apos Ah:Pos}
def rj (to te:zp):zp:=fun L S Q=>to L S λ x S1=>match x with
 | .ref p=>(∃ ds,S1 p=↑(.lst ds))/\te L S1 λ y S2=>∃ q ds es,y=.ref q/\S2 p=↑(.lst ds)/\S2 q=↑(.lst es)/\ds.length+es.length<=sizeLine/\Q .zr (ups S2 p (.lst (ds++es)))
 | _=>False
def rj.mo (h:zX to) (h':zX te):zX (rj to te):=fun L S Q Q' hq z=>h L S _ _ (λ x S1 z=>by
 cases x with
 | ref p=>show#[z.1,h' L S1 _ _ (λ y S2 #[q,ds,es,a,b,c,d,w]=>#[q,ds,es,a,b,c,d,hq _ _ w]) z.2]
 | _=>show z) z
theorem Sy {e0:Expr}(Dp:PE X e0 (jj X.K "list" de (zD X.K to) (ji (zD X.K te) jg))) (h:zX to) (h':zX te):PD X e0 (rj to te):=by
 exact#[rj.mo h h',PE.imp Dp fun Y H Q hu=>?_];let#[L,S,r1,r2,z]:=hu;exact zD.go h r1 r2 z λ x S1 v H1 h1 q1 e1 p1=>?_;cases x with
 | ref p=>
  let#[#[ds,hd],h1]:=h1;simp![zf] at q1;subst q1;let#[xs,g1,g2]:=p1 _ _ hd;exact#[.inl #[rfl,xs,zG.of g1],?_];exact zD.go h' (r1.ext e1) p1 h1 λ y S2 w H2 h2 q2 e2 p2=>?_;let#[q,HK,es,rfl,b1,b2,b3,b4]:=h2;simp![zf] at q2;subst q2;let#[FA,g3,g4]:=p2 _ _ b1;let#[IY,g5,g6]:=p2 _ _ b2;exact#[p,q,FA,IY,rfl,rfl,g3,g5,by rw[<- g4.length,<- g6.length];show b3,?_];have e4:Ext H2 (upd H2 p (.lst (FA++IY))):=.lst g3 _;show b4 _ _ (by simp![zf]) ((e1.trans e2).trans e4) (p2.ups e4 #[_,yf,zj.ext e4 _ (g4.append g6)])
 | _=>show h1.elim
def TQ (ho:PD X o to) (he:PD X e te)
  (Fz:attributeBase o "extend" X.env (eval o X.env)=eval o X.env)
  (AQ:((backTo Ah (starEach [e] X.env)).all (λ x=>!x.1)&&(backToKw Ah (keywordEach [] X.env)).all (λ x=>x.1.isSome)
   && decide ([e].length+([]:List Keyword).length+(if ([]:List Keyword).isEmpty then 0 else 1)<30))=true)
  (FP:(apos.endLine == Ah.line)=true) (hs:AE X e []) (F4:AI X Ah []):
  PD X (.Call (.Attribute o "extend" apos) [e] [] Ah) (rj to te):=
 Sy (jB PySem.F.plainAttrs_list PySem.F.slot_list_extend PySem.F.type_list_extend Oa ho.pe (uQ he.pe sL hs) Fz AQ FP hs F4) ho.mo he.mo
end
end L3
namespace L5
open PySem L2 L3
@[simp] def iC (i:Nat) (f:Ag):Sm:=fun J=>match J[i]? with
 | some ↑(.own (.lst ts))=>(f J).bind λ y=>match y with
  | .lst us=>if ts.length+us.length<=sizeLine then ↑(.nx (J.set i ↑(.own (.lst (ts++us))))) else none
  | _=>none
 | _=>none
section
variable {R:Rk}{f:Ag}{te:zp}
def RJ (i:Nat) (hf:yY f te):zW R (iC i f) (nF (rj (yh i) te)):=λ S0 Z0 S Z L J o E F e P=>by
 unfold iC at e;split at e
 .rename_i ts h;let#[y,e1,e2]:=Al.mp e;split at e2
  .rename_i us;split at e2
   .rename_i hl;cases e2;let#[p,ob,h1,h2,h3,h4]:=F.er.ow i _ h;obtain⟨ds,rfl⟩:∃ ds,ob=.lst ds:=by
     cases ob with
     | lst ds=>show#[ds,rfl]
     | zB _=>show h3.elim
    replace h3:zi (zK S Z) ts ds:=h3;change rj (yh i) te L S _;unfold rj yh;rw[h1];exact#[#[ds,h2],hf S Z L J _ _ F.er e1 λ d S1 s1 r1=>?_];let#[q,es,rfl,g1,g2,g3]:=r1.2 us rfl;have F1:=F.grow s1;have g4:zi (zK S1 Z) us es:=zi.sx (vZ λ a z=>.inl z) us g3;exact#[q,ds,es,rfl,s1 _ _ h2,g2,by rw[h3.len,g4.len];show hl,P _ Z L (F1.mut (us:=.lst (ts++us)) (es:=.lst (ds++es)) i h h1 ((zi.sx (wC s1) ts h3).append g4))]
   .cases e2
  .cases e2
 .cases e
end
end L5
namespace L5
open PySem PySem.Spec L2 L3
open PyProof.Rows hiding St
section
variable {X:Cx}{K:Ac}{e:Expr}{es:List Expr}{tA:ya}{pos p:Pos}
def u_:xk:=λ ds S Q=>match ds with
 | [.int i]=>Q (.int i) S
 | [.bl k]=>Q (.int (if k then 1 else 0)) S
 | _=>False
def u_.mo:vh u_:=λ ds S Q Q' hq h=>by
 unfold u_ at h ⊢;split at h
 .show hq _ _ h
 .show hq _ _ h
 .show h.elim
def u_.fits:uu K u_ (λ xs H Q=>(∃ i,xs=[.int i]/\Q (.int i) H)\/∃ k,xs=[.bl k]/\Q (.int (if k then 1 else 0)) H):=λ xs ds H S Q h0 h2 h=>by
 unfold u_ at h;split at h
 .let#[x,rfl,h1]:=h0.one;simp![zf] at h1;subst h1;show .inl #[_,rfl,h _ H (by simp![zf]) (.refl H) h2]
 .let#[x,rfl,h1]:=h0.one;simp![zf] at h1;subst h1;show .inr #[_,rfl,h _ H (by simp![zf]) (.refl H) h2]
 .show h.elim
def Sh (hm:X.mg "int"=none) (ha:yO X (e::es) tA) (hg:Gl X "int") (he:AE X e es) (Ao:AI X pos es):PD X (.Call (.Name "int" p) (e::es) [] pos) (xr u_ tA):=
 uP (qM MZ hg hm PyProof.Rows.boot_int ha.pa () () he Ao) u_.mo u_.fits ha.mo
@[simp] def qa:Ap
 | [.int i]=>↑(.int i)
 | [.bl k]=>↑(.int (if k then 1 else 0))
 | _=>none
def good_int:vi zE qa u_:=λ S Z ys z ds Q hz hv e hq=>by
 unfold qa at e;split at e
 .cases e;let#[d,rfl,h1]:=wY hv;cases h1.int;show hq _ S (.refl S) (Cl.of (λ _=>nofun) xw)
 .cases e;let#[d,rfl,h1]:=wY hv;cases h1.bl;show hq _ S (.refl S) (Cl.of (λ _=>nofun) xw)
 .cases e
end
section
variable {α:Type}{P:List α->Prop}
def Z7 (h:∀ a,P [a]) (us:List α) (hl:us.length=1):P us:=match us,hl with | [a],_=>h a
def Z6 (h:∀ a b,P [a,b]) (us:List α) (hl:us.length=2):P us:=match us,hl with | [a,b],_=>h a b
def Z5 (h:∀ a b c,P [a,b,c]) (us:List α) (hl:us.length=3):P us:=match us,hl with | [a,b,c],_=>h a b c
def Z4 (h:∀ a b c d,P [a,b,c,d]) (us:List α) (hl:us.length=4):P us:=match us,hl with | [a,b,c,d],_=>h a b c d
def Z2 (h:∀ a b c d e,P [a,b,c,d,e]) (us:List α) (hl:us.length=5):P us:=match us,hl with | [a,b,c,d,e],_=>h a b c d e
end
end L5
namespace L5
open PySem PySem.Spec L2 L3
open PyProof.Rows hiding St
section
variable {P:Program}{w:World}{K:Ac}{mg:Au}{base h:Heap}{x:Str}{st:Stmt}
def Fx (K:Ac) (x:Str) (st:Stmt):Prop:=∃ (f:Addr) (oc:Value) (od:Option Addr) (kV dc pm:Value) (an:Option Addr) (cd ct:Value) (sl:Array (Option Value)),
 PySem.W.nsIn K mainGlobals x=↑↑(.ref f)/\K.lookup f=↑#[oc,od,.func (PySem.W.fnOf x x (uh st) (xj st) (zL st) .none kV dc pm an cd ct),sl]/\PySem.W.codeIn K cd x=true/\PySem.W.keepIn K (.ref f)=true
def Fx.i {f:Addr}{oc:Value}{od:Option Addr}{kV dc pm:Value}{an:Option Addr}{cd ct:Value}{sl:Array (Option Value)}(a:PySem.W.nsIn K mainGlobals x=↑↑(.ref f)) (l:K.lookup f=↑#[oc,od,.func (PySem.W.fnOf x x (uh st) (xj st) (zL st) .none kV dc pm an cd ct),sl]) (c:PySem.W.codeIn K cd x=true) (k:PySem.W.keepIn K (.ref f)=true):Fx K x st:=#[f,oc,od,kV,dc,pm,an,cd,ct,sl,a,l,c,k]
def Fy (K:Ac) (mg:Au) (x:Str) (st:Stmt):Prop:=∃ (f:Addr) (fd:FuncData),vI K x x st f fd/\mg x=↑(.ref f)
def Fx.mk (H:Fx K x st) (X:K.In h) (G:h.Ns mainGlobals mg):Fy K mg x st:=by
 let#[f,oc,od,kV,dc,pm,an,cd,ct,sl,a,l,c,k]:=H;show#[f,_,bL l c k,PySem.W.mg_of X G a]
theorem Fx.law {fa:Addr}{p:Str}(H:Fx K "law" st) (X:K.In h) (G:h.Ns mainGlobals mg) (E_:mg "law"=↑(.ref fa)) (hb:∀ (kV dc pm:Value) (an:Option Addr) (cd ct:Value) (s:Shared) (v:Value),BindsTo s (PySem.W.fnOf "law" "law" (uh st) (xj st) (zL st) .none kV dc pm an cd ct) #[[v],[]] [(p,v)]):∃ fd:FuncData,vI K "law" "law" st fa fd/\∀ (s:Shared) (v:Value),BindsTo s fd #[[v],[]] [(p,v)]:=by
 let#[f,oc,od,kV,dc,pm,an,cd,ct,sl,a,l,c,k]:=H;have e:=E_.symm.trans (PySem.W.mg_of X G a);cases e;show#[_,bL l c k,hb kV dc pm an cd ct]
def Cn (K:Ac) (x:Str) (t:V):Prop:=∃ u,PySem.W.nsIn K mainGlobals x=↑↑u/\L2.RelV t u
def Cn.i {t:V}{u:Value}(a:PySem.W.nsIn K mainGlobals x=↑↑u) (r:L2.RelV t u):Cn K x t:=#[u,a,r]
def Cn.mk {t:V}(H:Cn K x t) (X:K.In h) (G:h.Ns mainGlobals mg):∃ u,mg x=↑u/\L2.RelV t u:=by
 let#[u,a,r]:=H;show#[u,PySem.W.mg_of X G a,r]
def NU {R:Rk} [Lo R] {N ps:List Str}{k n:Nat}{g:Sm}(F:Fy K mg x st) (Sc:vK N ps (zL st)) (hn:n=ps.length)
  (hb:∀ (kV doc pm:Value) (an:Option Addr) (Ai ct:Value) (us:Ae),us.length=ps.length->bindArgs (PySem.W.fnOf x x (uh st) (xj st) (zL st) .none kV doc pm an Ai ct) #[us,[]]=pure (ps.zip us))
  (Fp:∀ (f:Addr) (Ai:Value) (A:Around) (outer:List Env) (s:Shared) (H:Hp) (E:XK),yb k (A.deeper (envOfC x (zL st) s.heap.objs.size f Ai))->
   ∃ t,wR (yM yz P w K mg base N x (zL st) f Ai A outer s H E).xg (xj st) t/\zW R g t):FD P w K mg base x (k+1) ps (zJ R (zV N n g)):=by
 let#[f,fd,F,hm]:=F;show NV F hm Sc hn hb (Fp f)
end
end L5
namespace PySem
section
variable {A:Around}{E:Af}{g:Array GenState}{d:Drawn}{os:OsState}
variable {nm q:Str}{C N:Addr}{bs bm:Ae}{hdct:Bool}{sn:List Str}{sub:Ae}{ab:Bool}{col:Option Bool}{dd:Option Addr}{k0 k1 k2 k3 k5:Option Value}{newId:String}
def Xc {M:Model}{env:Env}{s:Shared}{x:Sem Value}{Q:Flow->Shared->Prop}(Fz:bm.contains (.type "BaseException")=true) (hh:A.handled=none)
  (hx:wpAny M A x (λ v s₁=>∃ e zB vs sl,v=.ref e/\s₁.heap.get? C=↑(excClassObj nm q C N bs bm hdct sn sub ab col dd k0 k1 k2 k3 k5 newId)/\
   s₁.heap.get? e=↑{ cls:=.ref C,dict:=zB,data:=.fields [.ref vs,.none,.none,.none,.bool false,.none].toArray,slots:=sl }/\E (.ref e) s₁) E s):
  wpAny M A (raiseStmt env ↑x none) Q E s:=by
 have IE:(Value.ref C::bm).contains (.type "BaseException")=true:=by rw[BG,Fz,CB]
 unfold raiseStmt;exact Kj (tp hx (λ v s₁ h₁=>?_) λ _ _ x=>x);let#[e,zB,vs,sl,rfl,hC,he,hE]:=h₁;let#[hp,g,d,tk,os]:=s₁
 repeat (first | with_reducible exact za4 he ?_ | with_reducible exact za4 hC ?_ | (with_reducible exact zaF hC ?_;rw[IE]) | wp_step)
 show wpAny_raiseNew_none hh hE
end
end PySem
namespace PySem
open Builtin Builtin.ObjectAttr
section
variable {M:Model}{A:Around}{E:Af}{h:Heap}{g:Array GenState}{d:Drawn}{t:Nat}{os:OsState}
variable {nm q:Str}{C N P:Addr}{bs FH:Ae}{hdct:Bool}{sn:List Str}{sub:Ae}{ab:Bool}{col:Option Bool}{dd:Option Addr}{k0 k1 k2 k3 k5:Option Value}{B newId:String}
 {mN mP:Au}{name:Str}{v:Value}
structure nV (h:Heap) (P:Addr) (mP:Au):Prop where
 ex:∃ (c0:Value) (dd:Option Addr) (cd:ClassData) (sl:Array (Option Value)),h.get? P=↑{ cls:=c0,dict:=dd,data:=.cls cd,slots:=sl }/\h.Ns cd.ns mP
def kU {n:Str}{y:Option Value}{Q:Option Value->Shared->Prop}
  (hC:h.get? C=↑(excClassObj nm q C N bs (.ref P::FH) hdct sn sub ab col dd k0 k1 k2 k3 k5 newId)) (hn:h.Ns N mN) (hP:nV h P mP) (hbm:mroOf (.type B)=pure FH) (hB:typeLookup (.type B) n=pure y)
  (h1:mN n=none) (h2:mP n=none) (hq:Q y #[h,g,d,t,os]):wpAny M A (typeLookup (.ref C) n) Q E #[h,g,d,t,os]:=by
 let#[c0,pd,cd,sl,hA,hN]:=hP.ex;have Gg:lookupAlong FH n=pure y:=by rw[typeLookup_eq,hbm] at hB;show hB
 rw[typeLookup_eq];exact Kj (wpAny_mroOf_exc hC ?_);rw[lookupAlong_cons];exact Kj (wpAny_classOwn_exc hC hn ?_);rw[h1];change wpAny M A (lookupAlong (.ref P::FH) n) Q E _;rw[lookupAlong_cons];exact Kj (wpAny_classOwn_cls hA hN ?_);rw[h2];change wpAny M A (lookupAlong FH n) Q E _;rw[Gg];show Ad hq
end
section
variable {M:Model}{A:Around}{E:Af}{h:Heap}{g:Array GenState}{d:Drawn}{t:Nat}{os:OsState}
variable {nm q:Str}{C N P x:Addr}{bs FH:Ae}{sn:List Str}{sub:Ae}{ab:Bool}{col:Option Bool}{dd:Option Addr}{k0 k1 k2 k3 k5:Option Value}{newId:String}
 {mN mP mA:Au}{name:Str}{v:Value}{o:Obj}
def Xj {HZ:Value}{Q:Unit->Shared->Prop}(hb:FH.contains (.type "BaseException")=true) (hC:h.get? C=↑(excClassObj nm q C N bs (.ref P::FH) true sn sub ab col dd k0 k1 k2 k3 k5 newId))
  (hx:h.get? x=↑o) (hc:o.cls=.ref C) (hq:Q Unit.unit #[h,g,d,t,os]):wpAny M A (checkBuiltinCall "BaseException.__getattribute__" #[[.ref x,HZ],[]]) Q E #[h,g,d,t,os]:=by
 have hk:builtinKind "BaseException.__getattribute__"=↑.slot:=by decide +kernel
 have Iz:splitId "BaseException.__getattribute__"=↑("BaseException","__getattribute__"):=by decide +kernel
 have IE:(Value.ref C::.ref P::FH).contains (.type "BaseException")=true:=by rw[BG,BG,hb];rfl
 have ha:=F.args_bexc_ga (.ref x) HZ;simp![checkBuiltinCall,hk,Iz];exact Kj ?_;unfold isInstance
 repeat (first | (with_reducible exact za4 hx ?_;rw[hc]) | (with_reducible exact zaF hC ?_;rw[IE]) | wp_step)
 show hq
end
section
variable {prog:Program}{w:World}{A:Around}{E:Af}{h:Heap}{g:Array GenState}{d:Drawn}{t:Nat}{os:OsState}
variable {nm q:Str}{C N P x:Addr}{bs FH:Ae}{sn:List Str}{sub:Ae}{ab:Bool}{col:Option Bool}{dd:Option Addr}{k0 k1 k2 k3 k5:Option Value}{B newId:String}
 {mN mP:Au}{o:Obj}
def Xg {R:Result->Shared->Prop}(hb:FH.contains (.type "object")=true) (hC:h.get? C=↑(excClassObj nm q C N bs (.ref P::FH) true sn sub ab col dd k0 k1 k2 k3 k5 newId))
  (hx:h.get? x=↑o) (hc:o.cls=.ref C) (hq:R (.ok (.ret (.ref C))) #[h,g,d,t,os]):
  codeAny (model prog w) A (.call (.builtin "getset_descriptor.__get__") #[[.builtin "object.__class__",.ref x,.ref C],[]]) R #[h,g,d,t,os]:=by
 have hT5:(#[h,g,d,t,os]:Shared).TypeIs (.builtin "object.__class__") "getset_descriptor":=F.typeOf_object_class;have IE:(Value.ref C::.ref P::FH).contains (.type (".".intercalate ("object.__class__".cutAt '.').dropLast))=true:=by rw[F.owner_object_class,BG,BG,hb];rfl
 exact codeAny_call_builtin F.slot_gs_get.plain F.entry_gs_get (F.slot_gs_get.check _ _ _ _ _ _ _ _ hT5 (F.args_gs_get _ _ _) ?_)
 repeat (any_goals (first | assumption | (with_reducible exact za4 hx ?_;rw[hc]) | (with_reducible exact zaF hC ?_;rw[IE]) | wp_step))
 exact#[Code.quiet_builtin _ (AG),codeAny_builtin F.entry_object_class ?_]
 repeat (any_goals (first | assumption | (with_reducible exact za4 hx ?_;rw[hc]) | wp_step))
def Xh {tk:Tok}{Q:Fin->Shared->Prop}(hb:FH.contains (.type "object")=true) (hC:h.get? C=↑(excClassObj nm q C N bs (.ref P::FH) true sn sub ab col dd k0 k1 k2 k3 k5 newId)) (hn:h.Ns N mN) (hP:nV h P mP) (hm:mroOf (.type B)=pure FH)
  (hB:typeLookup (.type B) "__class__"=pure ↑(.builtin "object.__class__")) (Dt:mN "__class__"=none) (Dq:mP "__class__"=none)
  (hx:h.get? x=↑o) (hc:o.cls=.ref C) (hq:Q (.done (.ret (.ref C))) #[h,g,d,t,os]):
  wpAny (model prog w) A (Builtin.«object.__getattribute__» #[[.ref x,.str "__class__" tk],[]]) Q E #[h,g,d,t,os]:=by
 have hT5:(#[h,g,d,t,os]:Shared).TypeIs (.builtin "object.__class__") "getset_descriptor":=F.typeOf_object_class;have f5:=F.typeOf_object_class;have f6:=F.slot_gs_get.lookup;have f7:=F.slot_gs_set.lookup
 repeat (any_goals (first | assumption | (with_reducible exact za4 hx ?_;rw[hc]) | (with_reducible exact kU hC hn hP hm hB Dt Dq ?_) | wp_step))
 exact Xg hb hC hx hc ?_
 repeat (any_goals (first | assumption | wp_step))
def Xi {tk:Tok}{Q:Af}(FB:ExcAttrBase B FH) (hb:FH.contains (.type "object")=true) (hC:h.get? C=↑(excClassObj nm q C N bs (.ref P::FH) true sn sub ab col dd k0 k1 k2 k3 k5 newId)) (hn:h.Ns N mN) (hP:nV h P mP)
  (hB:typeLookup (.type B) "__class__"=pure ↑(.builtin "object.__class__")) (H_:mN "__getattribute__"=none) (KU:mP "__getattribute__"=none) (KS:mN "__getattr__"=none) (KR:mP "__getattr__"=none) (Dt:mN "__class__"=none) (Dq:mP "__class__"=none)
  (hx:h.get? x=↑o) (hc:o.cls=.ref C) (hq:Q (.ref C) #[h,g,d,t,os]):wpAny (model prog w) A (getAttrBy (.ref x) (.str "__class__" tk) false) Q E #[h,g,d,t,os]:=by
 have f3:=FB.ga.bind (.ref x);have J6:(Value.builtin "BaseException.__getattribute__" == Value.builtin "object.__getattribute__")=false:=by decide +kernel
 have hx1:(onTheHeap (Value.ref C)&&Value.builtin "BaseException.__getattribute__" == Value.builtin "object.__getattribute__")=false:=by rw[J6];rfl
 repeat (any_goals (first | assumption | (with_reducible exact za4 hx ?_;rw[hc]) | with_reducible exact kU hC hn hP FB.mro FB.ga.lookup H_ KU ?_ | with_reducible exact kU hC hn hP FB.mro FB.noGetattr KS KR ?_ | wp_step))
 exact codeAny_call_builtin FB.ga.plain F.entry_bexc_ga (Xj FB.hasBase hC hx hc (Xh hb hC hn hP FB.mro hB Dt Dq hx hc ?_))
 repeat (any_goals (first | assumption | wp_step))
def fj {Q:Option Value->Shared->Prop}(FB:ExcAttrBase B FH) (hb:FH.contains (.type "object")=true) (hC:h.get? C=↑(excClassObj nm q C N bs (.ref P::FH) true sn sub ab col dd k0 k1 k2 k3 k5 newId)) (hn:h.Ns N mN) (hP:nV h P mP)
  (hB:typeLookup (.type B) "__class__"=pure ↑(.builtin "object.__class__")) (H_:mN "__getattribute__"=none) (KU:mP "__getattribute__"=none) (KS:mN "__getattr__"=none) (KR:mP "__getattr__"=none) (Dt:mN "__class__"=none) (Dq:mP "__class__"=none)
  (hx:h.get? x=↑o) (hc:o.cls=.ref C) (hq:Q ↑(.ref C) #[h,g,d,t+1,os]):wpAny (model prog w) A (getAttr? (.ref x) "__class__") Q E #[h,g,d,t,os]:=by
 unfold getAttr? getAttrBy?
 repeat (any_goals (first | assumption | with_reducible apply Xi FB hb hC hn hP hB H_ KU KS KR Dt Dq hx hc | wp_step))
end
section
variable {prog:Program}{w:World}{A:Around}{E:Af}{h:Heap}{g:Array GenState}{d:Drawn}{t:Nat}{os:OsState}
variable {nm q:Str}{C N P x D:Addr}{bs FH:Ae}{sn:List Str}{sub:Ae}{ab:Bool}{col:Option Bool}{dd:Option Addr}{k0 k1 k2 k3 k5:Option Value}{B newId:String}
 {mN mP:Au}{o:Obj}
structure gq (h:Heap) (C P:Addr) (B:String) (FH:Ae):Prop where
 FB:ExcAttrBase B FH
 hb:FH.contains (.type "object")=true
 hB:typeLookup (.type B) "__class__"=pure ↑(.builtin "object.__class__")
 ex:∃ (nm q:Str) (N:Addr) (bs:Ae) (sn:List Str) (sub:Ae) (ab:Bool) (col:Option Bool) (dd:Option Addr) (k0 k1 k2 k3 k5:Option Value) (newId:String) (mN mP:Au),
  h.get? C=↑(excClassObj nm q C N bs (.ref P::FH) true sn sub ab col dd k0 k1 k2 k3 k5 newId)/\h.Ns N mN/\nV h P mP/\
  ∀ n∈(["__getattribute__","__getattr__","__class__"]:List Str),mN n=none/\mP n=none
def Xf {tk:Tok}{dep:Int}{Q:Fin->Shared->Prop}{oD:Obj}{cD:ClassData}(X:gq h C P B FH) (hx:h.get? x=↑o) (hc:o.cls=.ref C) (hD:h.get? D=↑oD) (hDc:oD.cls=.type "type") (hDd:oD.data=.cls cD)
  (hq:∀ t',Q (.done (.ret (.bool ((Value.ref C::.ref P::FH).contains (.ref D))))) #[h,g,d,t',os]):
  wpAny (model prog w) A (Builtin.«isinstance.nested» #[[.ref x,.ref D,.int dep tk],[]]) Q E #[h,g,d,t,os]:=by
 let#[FB,hb,hB,nm,q,N,bs,sn,sub,ab,col,dd,k0,k1,k2,k3,k5,newId,mN,mP,hC,hn,hP,hm]:=X;have m1:=hm "__getattribute__" (.head _);have m2:=hm "__getattr__" (.tail _ (.head _));have m3:=hm "__class__" (.tail _ (.tail _ (.head _)));by_cases he:C=D
 .subst he;have BF:(Value.ref C::.ref P::FH).contains (.ref C)=true:=#[];rw[BF] at hq;have D8:(Value.ref C == Value.ref C)=true:=#[]
  repeat (any_goals (first | assumption | (with_reducible exact za4 hx ?_;rw[hc]) | wp_step))
  show hq _
 .have D8:(Value.ref C == Value.ref D)=false:=by exists he
  cases BF:(Value.ref C::.ref P::FH).contains (.ref D) with
  | true=>
   rw[BF] at hq
   repeat (any_goals (first | assumption | (with_reducible exact za4 hx ?_;rw[hc]) | (with_reducible exact za4 hD ?_;rw[hDc]) | (with_reducible exact za4 hD ?_;rw[hDd]) | (with_reducible exact zaF hC ?_;rw[BF]) | wp_step))
   show hq _
  | false=>
   rw[BF] at hq
   repeat (any_goals (first | assumption | (with_reducible exact za4 hx ?_;rw[hc]) | (with_reducible exact za4 hD ?_;rw[hDc]) | (with_reducible exact za4 hD ?_;rw[hDd]) | (with_reducible exact zaF hC ?_;rw[BF]) | with_reducible apply fj FB hb hC hn hP hB m1.1 m1.2 m2.1 m2.2 m3.1 m3.2 hx hc | with_reducible exact za4 hC ?_ | wp_step))
   show hq _
def Xe {tk:Tok}{dep:Int}{Q:Fin->Shared->Prop}{T:String}(X:gq h C P B FH) (hx:h.get? x=↑o) (hc:o.cls=.ref C) (D0:typeOf (.type T)=pure (.type "type"))
  (hq:∀ t',Q (.done (.ret (.bool (FH.contains (.type T))))) #[h,g,d,t',os]):
  wpAny (model prog w) A (Builtin.«isinstance.nested» #[[.ref x,.type T,.int dep tk],[]]) Q E #[h,g,d,t,os]:=by
 let#[FB,hb,hB,nm,q,N,bs,sn,sub,ab,col,dd,k0,k1,k2,k3,k5,newId,mN,mP,hC,hn,hP,hm]:=X;have m1:=hm "__getattribute__" (.head _);have m2:=hm "__getattr__" (.tail _ (.head _));have m3:=hm "__class__" (.tail _ (.tail _ (.head _)));have D8:(Value.ref C == Value.type T)=false:=rfl;have BF:(Value.ref C::.ref P::FH).contains (.type T)=FH.contains (.type T):=by rw[BG,BG];rfl
 cases hct:FH.contains (.type T) with
 | true=>
  rw[hct] at hq BF
  repeat (any_goals (first | assumption | (with_reducible exact za4 hx ?_;rw[hc]) | (with_reducible exact zaF hC ?_;rw[BF]) | wp_step))
  show hq _
 | false=>
  rw[hct] at hq BF
  repeat (any_goals (first | assumption | (with_reducible exact za4 hx ?_;rw[hc]) | (with_reducible exact zaF hC ?_;rw[BF]) | with_reducible apply fj FB hb hC hn hP hB m1.1 m1.2 m2.1 m2.2 m3.1 m3.2 hx hc | with_reducible exact za4 hC ?_ | wp_step))
  show hq _
def fh {c:Value}{b:Bool}{s:Shared}{Q:Af}(hn:∀ (prog:Program) (w:World) (A:Around) (Q:Fin->Shared->Prop) (E:Af),(∀ t',Q (.done (.ret (.bool b))) { s with toks:=t' })->wpAny (model prog w) A (Builtin.«isinstance.nested» #[[.ref x,c,rawInt 0],[]]) Q E s)
  (hq:∀ t',Q (.bool b) { s with toks:=t' }):wpAny (model prog w) A (call (.builtin "isinstance") [.ref x,c]) Q E s:=
 call_isinstance (S:=λ _ R s'=>s'=s/\∀ t',R (.ok (.ret (.bool b))) { s with toks:=t' }) (λ prog w A R s' hs=>by
  let#[rfl,hs]:=hs;exact isinstance_outer (hn prog w _ _ _ λ t'=>?_) (λ e=>by cases e);show hs t') #[rfl,λ t'=>hq t']
end
namespace Heap
def pD (h base:Heap) (e:Addr) (cls a0 fl:Value) (zB:Option Addr) (T:Addr):Prop:=
 ∃ oe vs oT ts,h.get? e=↑oe/\((oe.cls=cls/\oe.dict=zB)/\vs[0]?=↑a0)/\oe.data=.fields vs/\vs[1]?=↑(.ref T)/\base.get? T=none/\T≠e/\h.get? T=↑oT/\oT.data=.fields ts/\ts[3]?=↑fl
structure kG (base:Heap) (l:List Env) (e:Addr) (cls a0:Value) (zB:Option Addr) (h h':Heap):Prop where
 stays:base.StaysIn h'
 frames:h'.FunFrames base l
 tr:∃ T,h.objs.size<=T/\h'.pD base e cls a0 .none zB T
 slots:h.UpToSlots h'
 rS:∀ b o vs,h.get? b=↑o->o.data=.fields vs->∃ o' G4,h'.get? b=↑o'/\o'.data=.fields G4
end Heap
def Obj.az (f:Array Value->Array Value) (o:Obj):(Obj.mapFields f o).dict=o.dict:=by
 let#[c,dc,dt,sl]:=o;cases dt <;> rfl
section
variable {M:Model}{A:Around}{E:Af}{s:Shared}
def g_ {base:Heap}{env:Env}{outer:List Env}{L e:Addr}{oe:Obj}{vs:Aw}{head a0:Value}{GY:Bool}{Q:Unit->Shared->Prop}
  (AV:A.frames=↑(env::outer)) (hl:s.heap.FunFrames base (env::outer)) (hf:env.frame=↑L)
  (he:s.heap.get? e=↑oe) (BX:base.StaysIn s.heap) (Cj:base.get? e=none) (hd:oe.data=.fields vs) (hsz:1<vs.size) (h0:vs[0]?=↑a0)
  (h:∀ h',Heap.kG base (env::outer) e oe.cls a0 oe.dict s.heap h'->Q Unit.unit { s with heap:=h' }):
  wpAny M A (do let a <- frameOf env;let pl <- entryPlaceOf L GY;let b <- EntryCells.newEntry head a .none (rawInt L) .none pl;setField (.ref e) 1 b) (λ _ s'=>wpAny M A (setFlight (.ref e) none) Q E s') E s:=by
 have CQ:e∉(env::outer).filterMap (·.frame):=λ hm=>by
  let#[_,o,ho,AF]:=hl.mem hm;rw[he] at ho;cases ho;show AF vs hd
 exact Kj (wpAny_frameOf_fun AV hl hf λ h₁ Hl=>Kj (wpAny_entryPlaceOf λ pl Ao=>?_));unfold EntryCells.newEntry newFields;exact Kj (za9 ?_ (Ao.sizeOk5 _ _ _ _ _));have JE:h₁.get? e=↑oe:=(Hl.2.1 e CQ).trans he;have Jp:base.StaysIn h₁:=λ b o AW=>(Hl.2.1 b λ hm=>by rw[(hl.mem hm).1] at AW;cases AW).trans (BX b o AW);generalize Dm:({ cls:=.type "traceback",dict:=none,data:=.fields ([head,.ref L,.none,rawInt L,.none]++(if pl.isEmpty then List.replicate 6 Value.none else pl)).toArray }:Obj)=tb;have Jd:tb.data=.fields ([head,.ref L,.none,rawInt L,.none]++(if pl.isEmpty then List.replicate 6 Value.none else pl)).toArray:=by rw[<- Dm]
 have Kl:tb.isFreed=false:=by rw[<- Dm];rfl
 have JD:(h₁.push tb).get? e=↑oe:=gV _ JE;exact zaD JD hd hsz ?_;have Hj:h₁.objs.size≠e:=Bo (Aq JE);have Ig:=Obj.data_mapFields hd (·.setIfInBounds 1 (Value.ref h₁.objs.size));have IV:=za8 (Obj.mapFields (·.setIfInBounds 1 (Value.ref h₁.objs.size))) JD (Obj.isFreed_of_fields Ig);have J8:=(za6 (h₁.push tb) (Obj.mapFields (·.setIfInBounds 1 (Value.ref h₁.objs.size))) (Ne.symm Hj)).trans (AJ h₁ Kl);unfold setFlight;exact Kj (za3 IV Ig (x:=.ref h₁.objs.size) (by simp[hsz]) ?_);rw[if_pos (show (Value.ref h₁.objs.size != Value.none)=true from by simp)];exact zaD J8 Jd (by simp![AD,Bs,Bj,C3] <;> lia) (h _ ?_);have keep:∀ b o,b≠e->h₁.get? b=↑o->(((h₁.push tb).update e (Obj.mapFields (·.setIfInBounds 1 (Value.ref h₁.objs.size)))).update h₁.objs.size (Obj.mapFields (·.setIfInBounds 3 ((none:Option Addr).elim Value.none λ f=>rawInt f)))).get? b=↑o:=λ b o BB hb=>by
  rw[za6 _ _ (Bo (Aq hb)),za6 _ _ (Ne.symm BB)];show gV _ hb
 have Fj:∀ b o,s.heap.get? b=↑o->(∀ vs,o.data≠.fields vs)->b≠e:=λ b o hb AF q=>by
  rw[q,he] at hb;cases hb;show AF vs hd
 exact#[λ b o AW=>keep b o (λ q=>by rw[q,Cj] at AW;cases AW) (Jp b o AW),hl.of_keeps λ b o hb AF=>?_,?_,λ b o hb AF=>?_,λ b o us hb Bn=>?_]
 .let#[sl,hs]:=Hl.2.2 b o hb;show#[_,keep b _ (Fj b o hb AF) hs,rfl]
 .exact#[h₁.objs.size,by rw[Hl.1];show Ak _,_,_,_,_,?_,#[#[Obj.cls_mapFields _ _,Obj.az _ _],by rw[zcD ()];show h0],Ig,by simp[hsz],Jp.fresh,Hj,za8 _ J8 (Obj.isFreed_of_fields (Obj.data_mapFields Jd _)),Obj.data_mapFields Jd _,by first | (simp;done) | (rcases Ao with rfl | ⟨_,_,_,_,_,_,_,rfl⟩ <;> simp)];rw[za6 _ _ Hj];show IV
 .let#[sl,hs]:=Hl.2.2 b o hb;show#[sl,keep b _ (Fj b o hb AF) hs]
 .by_cases q:b=e
  .subst q;show#[_,_,(by rw[za6 _ _ Hj];show IV),Ig]
  .have K3:h₁.get? b=↑o:=(Hl.2.1 b λ hm=>by
    let#[_,o',F5,AF]:=hl.mem hm;rw[hb] at F5;cases F5;show AF us Bn).trans hb
   show#[o,us,keep b o q K3,Bn]
def Y_ {base:Heap}{env:Env}{outer:List Env}{L e:Addr}{oe:Obj}{vs:Aw}{a0:Value}{Q:Unit->Shared->Prop}
  (AV:A.frames=↑(env::outer)) (hl:s.heap.FunFrames base (env::outer)) (hf:env.frame=↑L)
  (he:s.heap.get? e=↑oe) (BX:base.StaysIn s.heap) (Cj:base.get? e=none) (hd:oe.data=.fields vs) (h1:vs[1]?=↑.none) (h0:vs[0]?=↑a0)
  (h:∀ h',Heap.kG base (env::outer) e oe.cls a0 oe.dict s.heap h'->Q Unit.unit { s with heap:=h' }):wpAny M A (leaving env (.ref e)) Q E s:=by
 unfold leaving noteFrame;simp![hf];exact Kj (Kj (za3 he hd h1 ?_));rw[if_neg ()];show g_ AV hl hf he BX Cj hd (Array.getElem?_eq_some_iff.mp h1).1 h0 h
def YX {base:Heap}{env:Env}{outer:List Env}{L e:Addr}{cls a0:Value}{zB:Option Addr}{T:Addr}{Q:Unit->Shared->Prop}
  (AV:A.frames=↑(env::outer)) (hl:s.heap.FunFrames base (env::outer)) (hf:env.frame=↑L) (ht:s.heap.pD base e cls a0 .none zB T) (BX:base.StaysIn s.heap) (Cj:base.get? e=none)
  (h:∀ h',Heap.kG base (env::outer) e cls a0 zB s.heap h'->Q Unit.unit { s with heap:=h' }):wpAny M A (leaving env (.ref e)) Q E s:=by
 let#[oe,vs,oT,ts,he,#[#[rfl,rfl],h0],hd,h1,IT,Hj,hT,G0,h3]:=ht;unfold leaving noteFrame;simp![hf];exact Kj (Kj (za3 he hd h1 ?_));rw[if_pos (show (Value.ref T != Value.none)=true from by simp)];exact Kj (za3 hT G0 h3 ?_);rw[if_neg (show ¬ ((Value.none == rawInt L)=true) from by simp[rawInt])];exact Kj (zaD hT G0 (Array.getElem?_eq_some_iff.mp h3).1 ?_);have other:∀ b,b≠T->(s.heap.update T (Obj.mapFields (·.setIfInBounds 3 Value.none))).get? b=s.heap.get? b:=λ b hb=>za6 _ _ (Ne.symm hb);have Fj:∀ b o,s.heap.get? b=↑o->(∀ vs,o.data≠.fields vs)->b≠T:=λ b o hb AF q=>by
  rw[q,hT] at hb;cases hb;show AF ts G0
 exact g_ AV (hl.of_keeps λ b o hb AF=>#[o,(other b (Fj b o hb AF)).trans hb,rfl]) hf ((other e (Ne.symm Hj)).trans he)
  (λ b o AW=>(other b λ q=>by rw[q,IT] at AW;cases AW).trans (BX b o AW)) Cj hd (Array.getElem?_eq_some_iff.mp h1).1 h0
  λ h' x=>h h' #[x.stays,x.frames,(by
   let#[T',n,r]:=x.tr;show#[T',by rw[Heap.size_after_update] at n;show n,r]),λ b o hb AF=>x.slots b o ((other b (Fj b o hb AF)).trans hb) AF,λ b o us hb Bn=>(by
   by_cases q:b=T
   .subst q;show x.rS _ _ _ (za8 _ hT (Obj.isFreed_of_fields (Obj.data_mapFields G0 _))) (Obj.data_mapFields G0 _)
   .show x.rS b o us ((other b q).trans hb) Bn)]
end
structure Heap.ZI (base:Heap) (l:List Env) (e:Addr) (cls a0 fl:Value) (zB:Option Addr) (h h':Heap):Prop where
 stays:base.StaysIn h'
 frames:h'.FunFrames base l
 tr:∃ T,h.objs.size<=T/\h'.pD base e cls a0 fl zB T
 slots:h.UpToSlots h'
 rS:∀ b o vs,h.get? b=↑o->o.data=.fields vs->∃ o' G4,h'.get? b=↑o'/\o'.data=.fields G4
section
variable {M:Model}{A:Around}{E:Af}{s:Shared}
def Xa {base:Heap}{env:Env}{outer:List Env}{L e:Addr}{oe:Obj}{vs:Aw}{head a0:Value}{GY:Bool}{Q:Unit->Shared->Prop}
  (AV:A.frames=↑(env::outer)) (hl:s.heap.FunFrames base (env::outer)) (hf:env.frame=↑L)
  (he:s.heap.get? e=↑oe) (BX:base.StaysIn s.heap) (Cj:base.get? e=none) (hd:oe.data=.fields vs) (hsz:1<vs.size) (h0:vs[0]?=↑a0)
  (h:∀ h',Heap.ZI base (env::outer) e oe.cls a0 (rawInt L) oe.dict s.heap h'->Q Unit.unit { s with heap:=h' }):
  wpAny M A (do let a <- frameOf env;let pl <- entryPlaceOf L GY;let b <- EntryCells.newEntry head a .none (rawInt L) .none pl;setField (.ref e) 1 b) Q E s:=by
 have CQ:e∉(env::outer).filterMap (·.frame):=λ hm=>by
  let#[_,o,ho,AF]:=hl.mem hm;rw[he] at ho;cases ho;show AF vs hd
 exact Kj (wpAny_frameOf_fun AV hl hf λ h₁ Hl=>Kj (wpAny_entryPlaceOf λ pl Ao=>?_));unfold EntryCells.newEntry newFields;exact Kj (za9 ?_ (Ao.sizeOk5 _ _ _ _ _));have JE:h₁.get? e=↑oe:=(Hl.2.1 e CQ).trans he;have Jp:base.StaysIn h₁:=λ b o AW=>(Hl.2.1 b λ hm=>by rw[(hl.mem hm).1] at AW;cases AW).trans (BX b o AW);generalize Dm:({ cls:=.type "traceback",dict:=none,data:=.fields ([head,.ref L,.none,rawInt L,.none]++(if pl.isEmpty then List.replicate 6 Value.none else pl)).toArray }:Obj)=tb;have Jd:tb.data=.fields ([head,.ref L,.none,rawInt L,.none]++(if pl.isEmpty then List.replicate 6 Value.none else pl)).toArray:=by rw[<- Dm]
 have Kl:tb.isFreed=false:=by rw[<- Dm];rfl
 have JD:(h₁.push tb).get? e=↑oe:=gV _ JE;exact zaD JD hd hsz (h _ ?_);have Hj:h₁.objs.size≠e:=Bo (Aq JE);have Ig:=Obj.data_mapFields hd (·.setIfInBounds 1 (Value.ref h₁.objs.size));have IV:=za8 (Obj.mapFields (·.setIfInBounds 1 (Value.ref h₁.objs.size))) JD (Obj.isFreed_of_fields Ig);have J8:=(za6 (h₁.push tb) (Obj.mapFields (·.setIfInBounds 1 (Value.ref h₁.objs.size))) (Ne.symm Hj)).trans (AJ h₁ Kl);have keep:∀ b o,b≠e->h₁.get? b=↑o->((h₁.push tb).update e (Obj.mapFields (·.setIfInBounds 1 (Value.ref h₁.objs.size)))).get? b=↑o:=λ b o BB hb=>by
  rw[za6 _ _ (Ne.symm BB)];show gV _ hb
 have Fj:∀ b o,s.heap.get? b=↑o->(∀ vs,o.data≠.fields vs)->b≠e:=λ b o hb AF q=>by
  rw[q,he] at hb;cases hb;show AF vs hd
 exact#[λ b o AW=>keep b o (λ q=>by rw[q,Cj] at AW;cases AW) (Jp b o AW),hl.of_keeps λ b o hb AF=>?_,?_,λ b o hb AF=>?_,λ b o us hb Bn=>?_]
 .let#[sl,hs]:=Hl.2.2 b o hb;show#[_,keep b _ (Fj b o hb AF) hs,rfl]
 .show#[h₁.objs.size,by rw[Hl.1];show Ak _,_,_,_,_,IV,#[#[Obj.cls_mapFields _ _,Obj.az _ _],by rw[zcD ()];show h0],Ig,by simp[hsz],Jp.fresh,Hj,J8,Jd,#[]]
 .let#[sl,hs]:=Hl.2.2 b o hb;show#[sl,keep b _ (Fj b o hb AF) hs]
 .by_cases q:b=e
  .subst q;show#[_,_,IV,Ig]
  .have K3:h₁.get? b=↑o:=(Hl.2.1 b λ hm=>by
    let#[_,o',F5,AF]:=hl.mem hm;rw[hb] at F5;cases F5;show AF us Bn).trans hb
   show#[o,us,keep b o q K3,Bn]
def YW {base:Heap}{env:Env}{outer:List Env}{L e:Addr}{cls a0:Value}{zB:Option Addr}{T:Addr}{Q:Unit->Shared->Prop}
  (AV:A.frames=↑(env::outer)) (hl:s.heap.FunFrames base (env::outer)) (hf:env.frame=↑L) (ht:s.heap.pD base e cls a0 .none zB T) (BX:base.StaysIn s.heap) (Cj:base.get? e=none)
  (h:∀ h',Heap.ZI base (env::outer) e cls a0 (rawInt L) zB s.heap h'->Q Unit.unit { s with heap:=h' }):wpAny M A (noteFrame (.ref e) env) Q E s:=by
 let#[oe,vs,oT,ts,he,#[#[rfl,rfl],h0],hd,h1,IT,Hj,hT,G0,h3]:=ht;unfold noteFrame;simp![hf];exact Kj (za3 he hd h1 ?_);rw[if_pos (show (Value.ref T != Value.none)=true from by simp)];exact Kj (za3 hT G0 h3 ?_);rw[if_neg (show ¬ ((Value.none == rawInt L)=true) from by simp[rawInt])];exact Kj (zaD hT G0 (Array.getElem?_eq_some_iff.mp h3).1 ?_);have other:∀ b,b≠T->(s.heap.update T (Obj.mapFields (·.setIfInBounds 3 Value.none))).get? b=s.heap.get? b:=λ b hb=>za6 _ _ (Ne.symm hb);have Fj:∀ b o,s.heap.get? b=↑o->(∀ vs,o.data≠.fields vs)->b≠T:=λ b o hb AF q=>by
  rw[q,hT] at hb;cases hb;show AF ts G0
 exact Xa AV (hl.of_keeps λ b o hb AF=>#[o,(other b (Fj b o hb AF)).trans hb,rfl]) hf ((other e (Ne.symm Hj)).trans he)
  (λ b o AW=>(other b λ q=>by rw[q,IT] at AW;cases AW).trans (BX b o AW)) Cj hd (Array.getElem?_eq_some_iff.mp h1).1 h0
  λ h' x=>h h' #[x.stays,x.frames,(by
   let#[T',n,r]:=x.tr;show#[T',by rw[Heap.size_after_update] at n;show n,r]),λ b o hb AF=>x.slots b o ((other b (Fj b o hb AF)).trans hb) AF,λ b o us hb Bn=>(by
   by_cases q:b=T
   .subst q;show x.rS _ _ _ (za8 _ hT (Obj.isFreed_of_fields (Obj.data_mapFields G0 _))) (Obj.data_mapFields G0 _)
   .show x.rS b o us ((other b q).trans hb) Bn)]
def gZ {base:Heap}{l:List Env}{e:Addr}{cls a0 fl:Value}{zB:Option Addr}{T:Addr}{Q:Unit->Shared->Prop}
  (BX:base.StaysIn s.heap) (hl:s.heap.FunFrames base l) (ht:s.heap.pD base e cls a0 fl zB T)
  (h:∀ h',base.StaysIn h'->h'.FunFrames base l->h'.pD base e cls a0 .none zB T->s.heap.UpToSlots h'->(∀ b o vs,s.heap.get? b=↑o->o.data=.fields vs->∃ o' G4,h'.get? b=↑o'/\o'.data=.fields G4)->Q Unit.unit { s with heap:=h' }):wpAny M A (setFlight (.ref e) none) Q E s:=by
 let#[oe,vs,oT,ts,he,Be,hd,h1,IT,Hj,hT,G0,h3]:=ht;have Jt:3<ts.size:=(Array.getElem?_eq_some_iff.mp h3).1;have other:∀ b,b≠T->(s.heap.update T (Obj.mapFields (·.setIfInBounds 3 ((none:Option Addr).elim Value.none λ f=>rawInt f)))).get? b=s.heap.get? b:=
  λ b hb=>za6 _ _ (Ne.symm hb)
 have Fj:∀ b o,s.heap.get? b=↑o->(∀ vs,o.data≠.fields vs)->b≠T:=λ b o hb AF q=>by
  rw[q,hT] at hb;cases hb;show AF ts G0
 unfold setFlight;exact Kj (za3 he hd h1 ?_);rw[if_pos (show (Value.ref T != Value.none)=true from by simp)];exact zaD hT G0 Jt (h _ (λ b o AW=>(other b λ q=>by rw[q,IT] at AW;cases AW).trans (BX b o AW))
  (hl.of_keeps λ b o hb AF=>#[o,(other b (Fj b o hb AF)).trans hb,rfl]) ?_ (λ b o hb AF=>#[o.slots,(other b (Fj b o hb AF)).trans hb]) λ b o us hb Bn=>?_)
 .show#[oe,vs,_,_,(other e (Ne.symm Hj)).trans he,Be,hd,h1,IT,Hj,za8 _ hT (Obj.isFreed_of_fields (Obj.data_mapFields G0 _)),Obj.data_mapFields G0 _,by simp[Jt]]
 .by_cases q:b=T
  .subst q;show#[_,_,za8 _ hT (Obj.isFreed_of_fields (Obj.data_mapFields G0 _)),Obj.data_mapFields G0 _]
  .show#[o,us,(other b q).trans hb,Bn]
end
end PySem
namespace PySem
open Calls Spec
section
variable {prog:Program}{w:World}{M:Model}{A:Around}{E:Af}{env:Env}
variable {nm q:Str}{C N:Addr}{bs bm:Ae}{hdct:Bool}{sn:List Str}{sub:Ae}{ab:Bool}{col:Option Bool}{dd:Option Addr}{k0 k1 k2 k3 k5:Option Value}{newId:String}
variable {nm' q':Str}{P N':Addr}{JR HV:Ae}{Ih:Bool}{Jg:List Str}{Hv:Ae}{JS:Bool}{HH:Option Bool}{HM:Option Addr}{l0 l1 l2 l3 l5:Option Value}{HA:String}
def YY {h:Heap}{g:Array GenState}{d:Drawn}{t:Nat}{os:OsState}{e:Addr}{oe:Obj}{Q:Bool->Shared->Prop}
  (hC:h.get? C=↑(excClassObj nm q C N bs bm hdct sn sub ab col dd k0 k1 k2 k3 k5 newId)) (hP:h.get? P=↑(excClassObj nm' q' P N' JR HV Ih Jg Hv JS HH HM l0 l1 l2 l3 l5 HA))
  (he:h.get? e=↑oe) (Be:oe.cls=.ref C) (Fz:HV.contains (.type "BaseException")=true) (hm:bm.contains (.ref P)=true)
  (hq:Q true #[h,g,d,t,os]):wpAny M A (excMatches (.ref e) (.ref P)) Q E #[h,g,d,t,os]:=by
 have IE:(Value.ref P::HV).contains (.type "BaseException")=true:=by rw[BG,Fz,CB]
 have hcP:(Value.ref C::bm).contains (.ref P)=true:=by rw[BG,hm,CB]
 have f:=tc_notTuple;unfold excMatches
 repeat (first | (with_reducible exact za4 he ?_;rw[Be]) | with_reducible exact za4 hP ?_ | (with_reducible exact zaF hP ?_;rw[IE]) | (with_reducible exact zaF hC ?_;rw[hcP]) | wp_step)
 show hq
def YZ {s:Shared}{e:Addr}{t:Expr}{n:Str}{b₀:Stmt}{HX:List Stmt}{pos:Pos}{Fh:List ExceptHandler}{Q:Flow->Shared->Prop}
  (Fz:HV.contains (.type "BaseException")=true) (hm:bm.contains (.ref P)=true)
  (h:wpAny (model prog w) (A.mark ↑(.ref e)) (eval t env) (λ c s₁=>c=.ref P/\s₁.heap.get? C=↑(excClassObj nm q C N bs bm hdct sn sub ab col dd k0 k1 k2 k3 k5 newId)/\s₁.heap.get? P=↑(excClassObj nm' q' P N' JR HV Ih Jg Hv JS HH HM l0 l1 l2 l3 l5 HA)/\(∃ oe,s₁.heap.get? e=↑oe/\oe.cls=.ref C)/\
   wpAny (model prog w) (A.mark ↑(.ref e)) (setFlight (.ref e) none) (λ _ s₂=>
     wpAny (model prog w) (A.mark ↑(.ref e)) (storeName env n (.ref e)) (λ _ s₃=>
      wpAny (model prog w) (A.mark ↑(.ref e)) (execs (b₀::HX) env)
       (λ f s₄=>wpAny (model prog w) A (do bindName env n .none;unbindBehindTheSuite env n pos) (λ _ s₅=>Q f s₅) E s₄)
       (AsSuiteRaised (model prog w) (A.mark ↑(.ref e)) env n pos (notedBy (model prog w) (A.mark ↑(.ref e)) env (cameBackBy (model prog w) A env E))) s₃) (notedBy (model prog w) (A.mark ↑(.ref e)) env (cameBackBy (model prog w) A env E)) s₂) (notedBy (model prog w) (A.mark ↑(.ref e)) env (cameBackBy (model prog w) A env E)) s₁) (notedBy (model prog w) (A.mark ↑(.ref e)) env (cameBackBy (model prog w) A env E)) s):
  wpAny (model prog w) A (handleBy (.ref e) env (.ExceptHandler ↑t ↑n (b₀::HX) pos::Fh)) Q E s:=by
 exact wpAny_handleBy_cons (codeAny_handlers_test (tp h (λ c s₁ h₁=>?_) λ _ _ y=>y)) (by intro q;cases q);let#[rfl,hC,hP,#[oe,he,Be],hk]:=h₁;let#[hh,g,d,tk,os]:=s₁;show YY hC hP he Be Fz hm (codeAny_handlers_suite_as hk)
end
end PySem
namespace L3
open PySem PySem.Spec L2
open PyProof.Rows hiding St
def xY (T:Addr):HO:=.ext λ h=>∃ oT ts,h.get? T=↑oT/\oT.data=.fields ts
def ZR (h:Heap) (e:Addr):Prop:=∃ oe vs a0,h.get? e=↑oe/\oe.data=.fields vs/\vs[1]?=↑.none/\vs[0]?=↑a0
def qw (h:Heap) (H:Hp) (e:Addr):Prop:=∃ oe vs a0 T oT ts,h.get? e=↑oe/\oe.data=.fields vs/\vs[0]?=↑a0/\vs[1]?=↑(.ref T)/\T≠e/\H T=↑(xY T)/\h.get? T=↑oT/\oT.data=.fields ts/\ts[3]?=↑.none
def md (H:Hp) (e:Addr):Prop:=∃ C dx,H e=↑(wX e C dx)
section
variable {P:Program}{w:World}{H:Hp}{h h':Heap}
def i8 {fs as:List Addr}(zm:ye P w H h) (hf:∀ b∈fs,H b=none/\∀ o,h.get? b=↑o->∀ vs,o.data≠.fields vs) (st:(PySem.W.hideAll h as).StaysIn h') (us:h.UpToSlots h')
  (has:∀ a∈as,a∈fs\/∃ φ:Heap->Prop,H a=↑(.ext φ)/\φ h'/\∃ o,h'.get? a=↑o):Un fs [] H H h h'/\ye P w H h':=by
 have GH:∀ b o,b∉as->h.get? b=↑o->h'.get? b=↑o:=λ b o hb e=>st b o (PySem.W.hideAll_get _ e hb);exact#[#[λ b o e n hb _=>GH b o (λ hm=>?_) e,λ b o e n hb _=>us b o e ((hf b hb).2 o e),λ _ _ _ n _=>n,λ b o e _=>?_,λ _ _ q=>q,λ _ _ _ q=>q,λ _ ps q=>#[[].toArray,by rw[q];simp]],λ a o e=>?_]
 .rcases has b hm with z | ⟨φ,z,_⟩
  .show hb z
  .rw[n] at z;cases z
 .by_cases hm:b∈as
  .rcases has b hm with z | ⟨φ,_,_,z⟩
   .let#[sl,q]:=us b o e ((hf b z).2 o e);show#[_,q]
   .show z
  .show#[o,GH b o hm e]
 .by_cases hm:a∈as
  .rcases has a hm with z | ⟨φ,z,z1,z2⟩
   .rw[(hf a z).1] at e;cases e
   .rw[e] at z;cases z;show#[z1,z2,(zm a _ e).2.2]
  .exact (zm a o e).vk (λ b u hb q=>?_) (λ _ q=>q) λ _ _ q=>q;rcases hb with rfl | hb
   .show GH _ u hm q
   .exact GH _ u (λ IU=>?_) q;rcases has b IU with z | ⟨φ,z,_⟩
    .rw[(hf b z).1] at hb;cases hb
    .rw[hb] at z;cases z
def bQ {fs:List Addr}{T:Addr}{oT:Obj}{ts:Aw}(u:Un fs [] H H h h') (zm:ye P w H h') (hk:ye P w H h) (hp:h.objs.size<=T) (e:h'.get? T=↑oT) (hd:oT.data=.fields ts):
  H T=none/\Un fs [] H (upd H T (xY T)) h h'/\ye P w (upd H T (xY T)) h':=by
 have hn:=hk.fresh hp;exact#[hn,#[u.keep,u.slot,λ b o q n x=>by rw[zO (AH (Ba (Aq q) hp))];show n,u.there,λ b xs q=>by rw[zO (xE q hn)];show q,λ b o xs q=>by rw[zO (xE q hn)];show q,λ b ps q=>#[[].toArray,by rw[zO (xE q hn),q];simp]],λ b o q=>?_];by_cases hb:b=T
 .subst hb;rw[yf] at q;cases q;show#[#[oT,ts,e,hd],#[oT,e],λ h1 h2 #[o,ts,a,b] k=>#[o,ts,k _ a,b]]
 .rw[zO hb] at q;show (zm b o q).vk (λ _ _ _ z=>z) (λ c z=>by rw[zO (xE z hn)];show z) λ c xs z=>by rw[zO (xE z hn)];show z
end
section
variable {X:Cx}{Ff:Aj}{Y:St}{H:Hp}{s:Shared}{e:Addr}
def i5 (I:Inv X Ff Y H s):∀ b∈y8 X.stack,H b=none/\∀ o,s.heap.get? b=↑o->∀ vs,o.data≠.fields vs:=λ b hb=>
 #[I.jm b hb,λ o ho=>by
  let#[_,o',F5,hd]:=I.stack.mem hb;rw[ho] at F5;cases F5;show hd]
def aa {H:Hp}{h:Heap}{P:Program}{w:World}{C:Addr}{dx:Option Addr}{oe:Obj}(zm:ye P w H h) (he:H e=↑(wX e C dx)) (q:h.get? e=↑oe):oe.cls=.ref C/\oe.dict=dx:=by
 let#[#[o',_,a,b,c,_],_]:=zm e _ he;rw[q] at a;cases a;show#[b,c]
def Ox {M:Model}{E:Af}(I:Inv X Ff Y H s) (AK:X.stack=X.env::X.outer) (AV:X.env.frame=↑X.env.locals) (he:md H e) (hf:ZR s.heap e\/qw s.heap H e) {Q:Unit->Shared->Prop}
  (hq:∀ h' T,H T=none->Un (y8 X.stack) [] H (upd H T (xY T)) s.heap h'->ye X.prog X.w (upd H T (xY T)) h'->qw h' (upd H T (xY T)) e->Q Unit.unit { s with heap:=h' }):wpAny M X.A (leaving X.env (.ref e)) Q E s:=by
 let#[C,dx,hE]:=he;have hF:=I.ok.frames;rw[AK] at hF;have hS:=I.stack;rw[AK] at hS;have fin:∀ (as:List Addr) (oe:Obj) (a0:Value),s.heap.get? e=↑oe->(∀ a∈as,a=e\/a∈y8 X.stack\/H a=↑(xY a))->
   ∀ h':Heap,Heap.kG (PySem.W.hideAll s.heap as) (X.env::X.outer) e oe.cls a0 oe.dict s.heap h'->Q Unit.unit { s with heap:=h' }:=λ as oe a0 g0 has h' x=>by
  let#[T,hp,Iu,G4,oT,ts,a1,#[#[a2,a3],a4],a5,a6,a7,a8,a9,JT,a11]:=x.tr;let#[z1,z2]:=aa I.zm hE g0;let#[u,zm]:=i8 (as:=as) I.zm (i5 I) x.stays x.slots λ a ha=>by
   rcases has a ha with z | z | z
   .rw[z];show .inr #[_,hE,#[Iu,G4,a1,a2.trans z1,a3.trans z2,a5],Iu,a1]
   .show .inl z
   .let#[#[oT,ts,q1,q2],_]:=I.zm a _ z;let#[o',Ki,q3,q4]:=x.rS _ _ _ q1 q2;show .inr #[_,z,#[o',Ki,q3,q4],o',q3]
  let#[n,u',B5]:=bQ u zm I.zm hp a9 JT;show hq h' T n u' B5 #[Iu,G4,a0,T,oT,ts,a1,a5,a4,a6,a8,yf,a9,JT,a11]
 have Bl:∀ (r:List Addr),∀ env∈X.env::X.outer,∀ a,env.frame=↑a->a∈r++y8 X.stack:=λ r env hm a ha=>A5 _ (C5.mpr #[env,by rw[AK];show hm,ha]);rcases hf with ⟨oe,vs,a0,g0,g1,g2,g3⟩ | ⟨oe,vs,a0,T,oT,ts,g0,g1,g3,g2,g4,g5,g6,g7,g8⟩
 .exact Y_ (base:=PySem.W.hideAll s.heap ([e]++y8 X.stack)) hF (PySem.W.funFrames_hide hS (Bl _)) AV g0 (λ b o q=>PySem.W.of_hideAll _ q) (PySem.W.hideAll_none _ #[]) g1 g2 g3 (fin _ oe a0 g0 λ a ha=>?_);rcases AY.mp ha with q | q
  .show .inl (AZ.mp q)
  .show .inr (.inl q)
 .exact YX (base:=PySem.W.hideAll s.heap ([e,T]++y8 X.stack)) hF (PySem.W.funFrames_hide hS (Bl _)) AV #[oe,vs,oT,ts,g0,#[#[rfl,rfl],g3],g1,g2,PySem.W.hideAll_none _ #[],g4,g6,g7,g8] (λ b o q=>PySem.W.of_hideAll _ q) (PySem.W.hideAll_none _ #[]) (fin _ oe a0 g0 λ a ha=>?_);rcases AY.mp ha with q | q
  .rcases An.mp q with q | q
   .show .inl q
   .show .inr (.inr (by rw[AZ.mp q];show g5))
  .show .inr (.inl q)
end
section
variable {X:Cx}{Ff:Aj}{Y:St}{H:Hp}{s:Shared}{e:Addr}{M:Model}{A:Around}{E:Af}
def Py (I:Inv X Ff Y H s) (AK:X.stack=X.env::X.outer) (AV:X.env.frame=↑X.env.locals) (he:md H e) (hf:qw s.heap H e) {Q:Unit->Shared->Prop}
  (hq:∀ h' T,H T=none->Un (y8 X.stack) [] H (upd H T (xY T)) s.heap h'->ye X.prog X.w (upd H T (xY T)) h'->qw h' (upd H T (xY T)) e->Q Unit.unit { s with heap:=h' }):
  wpAny M X.A (noteFrame (.ref e) X.env) (λ _ s₂=>wpAny M X.A (setFlight (.ref e) none) Q E s₂) E s:=by
 let#[C,dx,hE]:=he;have hF:=I.ok.frames;rw[AK] at hF;have hS:=I.stack;rw[AK] at hS;let#[oe,vs,a0,T,oT,ts,g0,g1,g3,g2,g4,g5,g6,g7,g8]:=hf;have Bl:∀ env∈X.env::X.outer,∀ a,env.frame=↑a->a∈[e,T]++y8 X.stack:=λ env hm a ha=>A5 _ (C5.mpr #[env,by rw[AK];show hm,ha]);exact YW (base:=PySem.W.hideAll s.heap ([e,T]++y8 X.stack)) hF (PySem.W.funFrames_hide hS Bl) AV #[oe,vs,oT,ts,g0,#[#[rfl,rfl],g3],g1,g2,PySem.W.hideAll_none _ #[],g4,g6,g7,g8] (λ b o q=>PySem.W.of_hideAll _ q) (PySem.W.hideAll_none _ #[]) λ h1 x=>?_;let#[T',hp,tr]:=x.tr;exact gZ (s:={ s with heap:=h1 }) x.stays x.frames tr λ h2 y1 y2 y3 y4 y5=>?_;let#[Iu,G4,oT',Ki,a1,#[#[a2,a3],a4],a5,a6,a7,a8,a9,JT,a11]:=y3;let#[z1,z2]:=aa I.zm hE g0;let#[u,zm]:=i8 (as:=[e,T]++y8 X.stack) I.zm (i5 I) y1 (x.slots.trans y4) λ a ha=>by
  rcases AY.mp ha with q | q
  .rcases An.mp q with q | q
   .rw[q];show .inr #[_,hE,#[Iu,G4,a1,a2.trans z1,a3.trans z2,a5],Iu,a1]
   .rw[AZ.mp q];let#[o1,t1,b1,b2]:=x.rS _ _ _ g6 g7;let#[o2,t2,b3,b4]:=y5 _ _ _ b1 b2;show .inr #[_,g5,#[o2,t2,b3,b4],o2,b3]
  .show .inl q
 let#[n,u',B5]:=bQ u zm I.zm hp a9 JT;show hq h2 T' n u' B5 #[Iu,G4,a0,T',oT',Ki,a1,a5,a4,a6,a8,yf,a9,JT,a11]
def OA (I:Inv X Ff Y H s) (he:md H e) (hf:qw s.heap H e) {Q:Unit->Shared->Prop}
  (hq:∀ h',Un (y8 X.stack) [] H H s.heap h'->ye X.prog X.w H h'->Q Unit.unit { s with heap:=h' }):wpAny M A (setFlight (.ref e) none) Q E s:=by
 let#[C,dx,hE]:=he;let#[oe,vs,a0,T,oT,ts,g0,g1,g3,g2,g4,g5,g6,g7,g8]:=hf;have Bl:∀ env∈X.stack,∀ a,env.frame=↑a->a∈[T]++y8 X.stack:=λ env hm a ha=>A5 _ (C5.mpr #[env,hm,ha]);exact gZ (base:=PySem.W.hideAll s.heap ([T]++y8 X.stack)) (λ b o q=>PySem.W.of_hideAll _ q) (PySem.W.funFrames_hide I.stack Bl) #[oe,vs,oT,ts,g0,#[#[rfl,rfl],g3],g1,g2,PySem.W.hideAll_none _ #[],g4,g6,g7,g8] λ h2 y1 y2 y3 y4 y5=>?_;let#[u,zm]:=i8 (as:=[T]++y8 X.stack) I.zm (i5 I) y1 y4 λ a ha=>by
  rcases AY.mp ha with q | q
  .rw[AZ.mp q];let#[o2,t2,b3,b4]:=y5 _ _ _ g6 g7;show .inr #[_,g5,#[o2,t2,b3,b4],o2,b3]
  .show .inl q
 show hq h2 u zm
def N9 {i:Nat}{x:Str}{pos:Pos}{Q:Unit->Shared->Prop}(I:Inv X Ff Y H s) (hN:X.N.Nodup) (hi:X.N[i]?=↑x) (hk:X.env.kindOf x=↑.local)
  (h:∀ s',Inv X Ff (Y.set i none) H s'->Q Unit.unit s'):wpAny M A (do bindName X.env x .none;unbindBehindTheSuite X.env x pos) Q E s:=by
 let#[m,hn,hl]:=id I.loc;have Be:(X.env.scope.kind == .class||(X.env.scope.kind == .module&&X.env.locals != X.env.globals))=false:=by rw[I.ok.kind];rfl
 have uG:=I.uG;let#[oL,_,_,Jv,_]:=id hn;exact wpAny_nameGoes_keeps hk hn Be λ h' v HS hs=>?_;exact h _ #[I.ok,I.os,I.bare,#[λ b o e n hb hx=>?_,λ b o e n hb hx=>?_,I.base.free,λ b o e hx=>?_,I.base.wZ,I.base.v9,I.base.vO],#[_,HS,λ j y v' e1 e2 e3=>?_],λ y c e=>?_,I.free,I.wN,λ p hp=>?_,λ b ob e=>?_,by exists I.len]
 .show (hs.2 b (AH (Ba (Aq e) I.ok.above))).trans (I.base.keep b o e n hb hx)
 .let#[sl,e1]:=I.base.slot b o e n hb hx;show#[sl,(hs.2 b (AH (Ba (Aq e) I.ok.above))).trans e1]
 .let#[o',e1]:=I.base.there b o e hx;show#[o',(hs.2 b (AH (Ba (Aq e) I.ok.above))).trans e1]
 .by_cases hj:j=i
  .subst hj;rw[CZ] at e2;simp at e2
  .rw[Eu (Ne.symm hj)] at e2;let#[u',r',q]:=hl j y v' e1 e2 e3;exact#[u',r',?_];rcases q with ⟨k,e⟩ | ⟨k,c,e,z⟩
   .exact .inl #[k,?_];have:y≠x:=λ e=>hj (jL hN e1 (e▸hi));simp[this,e]
   .show .inr #[k,c,e,z.sameBut hs (uG y c e)]
 .let#[w',z]:=I.cell y c e;show#[w',z.sameBut hs (uG y c e)]
 .let#[e,n,ne,nf,d]:=I.pin p hp;show#[(hs.2 p.1 ne).trans e,n,ne,nf,d]
 .exact (I.zm b ob e).vk (λ c w' hc q=>(hs.2 c ?_).trans q) (λ _ q=>q) λ _ _ q=>q;rintro rfl;rcases hc with rfl | hc
  .rw[I.free] at e;cases e
  .rw[I.free] at hc;cases hc
end
abbrev NK:List Str:=["place","pair","way","times","told","name","row"]
def zal {f:Str}(h:f∈NK):f∈o8:=by
 simp![An,A8,or_false] at h ⊢;rcases h with h | h | h | h | h | h | h <;> simp[h]
def Xz:typeLookup (.type "ValueError") "__class__"=pure ↑(.builtin "object.__class__"):=by rw[typeLookup_type,builtinLookup_eq_fast];kernel_rfl
section
variable {K:Ac}{h:Heap}{c:Str}{C P N NP:Addr}{bm:Ae}
def rB.at (o:rB K c C bm N) (X:K.In h):(∃ (q:Str) (bs:Ae) (sn:List Str) (sub:Ae) (ab:Bool) (col:Option Bool) (dd:Option Addr) (k0 k1 k2 k3 k5:Option Value),h.get? C=↑(excClassObj c q C N bs bm true sn sub ab col dd k0 k1 k2 k3 k5 "ValueError.__new__"))/\h.Ns N (h.nsMap N)/\∀ n∈o8,h.nsMap N n=none:=by
 let#[#[q,bs,sn,sub,ab,col,dd,k0,k1,k2,k3,k5,e],ok,hn]:=o;show#[#[q,bs,sn,sub,ab,col,dd,k0,k1,k2,k3,k5,X _ _ e],.of_isNs (PySem.W.isNs_of_in X ok),λ n m=>PySem.W.nsMap_none_of_in X ok (hn n m)]
theorem rJ.fg (e:rJ K c C P N NP) (X:K.In h):gq h C P "ValueError" vF:=by
 let#[#[q,bs,sn,sub,ab,col,dd,k0,k1,k2,k3,k5,hC],hN,hn]:=e.own.at X;let#[#[q',JR,Jg,Hv,JS,HH,HM,l0,l1,l2,l3,l5,hP],J_,HS]:=e.par.at X;exact#[PySem.F.attrBase_ValueError,(),Xz,c,q,N,bs,sn,sub,ab,col,dd,k0,k1,k2,k3,k5,_,_,_,hC,hN,#[#[_,_,_,_,hP,J_]],λ n m=>?_];have m':n∈o8:=by
  simp![An,A8,or_false] at m ⊢;rcases m with m | m | m <;> simp[m]
 show#[hn n m',HS n m']
end
def Kc (e C vs:Addr):HO:=.ext λ h=>h.get? e=↑{ cls:=.ref C,data:=.fields [.ref vs,.none,.none,.none,.bool false,.none].toArray }
section
variable {P:Program}{w:World}{fs:List Addr}{H:Hp}{h:Heap}{e:Addr}{φ ψ:Heap->Prop}
def X6 (zm:ye P w H h) (he:H e=↑(.ext φ)) (hψ:ψ h) (st:∀ h1 h2:Heap,ψ h1->(∀ o,h1.get? e=↑o->h2.get? e=↑o)->ψ h2):
  Un fs [] H (upd H e (.ext ψ)) h h/\ye P w (upd H e (.ext ψ)) h:=by
 have ue:∀ b,H b=none->b≠e:=λ b a z=>by rw[z,he] at a;cases a
 have us:∀ b u,H b=↑u->(∀ φ,u≠.ext φ)->upd H e (.ext ψ) b=↑u:=λ b u q n=>by
  rw[zO (uR q he (n _))];show q
 exact#[#[λ b o q n _ _=>q,λ b o q n _ _=>#[o.slots,q],λ b o q n _=>by rw[zO (ue b n)];show n,λ b o q _=>#[o,q],λ b xs q=>us b _ q (λ _ z=>by cases z),λ b o u q=>us b _ q (λ _ z=>by cases z),λ b ps q=>#[[].toArray,by rw[us b _ q (λ _ z=>by cases z)];simp]],λ a o q=>?_];by_cases z:a=e
 .subst z;rw[yf] at q;cases q;show#[hψ,(zm a _ he).2.1,st]
 .rw[zO z] at q;show (zm a o q).vk (λ b u hb c=>c) (λ b c=>us b _ c (λ _ z=>by cases z)) λ b xs c=>us b _ c (λ _ z=>by cases z)
end
def XP (X:Cx) (Ff:Aj) (fl:Bool) (Y:St) (Q:Addr->Hp->Prop) (v:Value) (s':Shared):Prop:=
 ∃ e FJ Y' H',v=.ref e/\(fl=true->FJ=Ff/\Y'=Y)/\Inv X FJ Y' H' s'/\md H' e/\((fl=false/\ZR s'.heap e)\/qw s'.heap H' e)/\Q e H'
def LF (K:Ac) (c f:Str) (x:V) (e:Addr) (H':Hp):Prop:=∃ C dx,rK K c C/\H' e=↑(wX e C dx)/\Xd H' f x dx
def Un.out {fs:List Addr}{L:Addr}{H H1 H2:Hp}{h h1 h2:Heap}(a:Un fs [] H H1 h h1) (b:Un (L::fs) [] H1 H2 h1 h2) (hL:h.get? L=none):Un fs [] H H2 h h2 where
 keep:=λ c o q n hc hx=>b.keep c o (a.keep c o q n hc hx) (a.free c o q n hx) (λ z=>(An.mp z).elim (λ y=>by rw[y,hL] at q;cases q) hc) hx
 slot:=λ c o q n hc hx=>by
  let#[sl,e]:=a.slot c o q n hc hx;let#[Ko,e']:=b.slot c _ e (a.free c o q n hx) (Ay _ hc) hx;show#[Ko,e']
 free:=λ c o q n hx=>by
  let#[o',e]:=a.there c o q hx;show b.free c o' e (a.free c o q n hx) hx
 there:=λ c o q hx=>by
  let#[o',e]:=a.there c o q hx;show b.there c o' e hx
 wZ:=λ c xs q=>b.wZ c xs (a.wZ c xs q)
 v9:=λ c o xs q=>b.v9 c o xs (a.v9 c o xs q)
 vO:=λ c ps q=>by
  let#[m1,e1]:=a.vO c ps q;let#[m2,e2]:=b.vO c _ e1;show#[m1++m2,by rw[e2,Ex]]
def pT (P:Program) (w:World):vL:=λ outer H s E v s'=>∃ e H',v=.ref e/\s'.os=s.os/\AllBare s'.gens/\Un (y8 outer) [] H H' s.heap s'.heap/\ye P w H' s'.heap/\md H' e/\qw s'.heap H' e/\E v none H'
def xf.never {P:Program}{w:World}{K:Ac}{mg:Au}{base:Heap}{k:Nat}{f:Addr}{fd:FuncData}{ps:List Str}{sp:Sp}(F:xf P w K mg base (pT P w) k f fd ps sp):
  xf P w K mg base yz k f fd ps (λ vs H Q _=>sp vs H Q λ _ _ _=>False):=
 #[λ vs H Q E h=>F.len _ _ _ _ h,λ A outer s H args us vs Q E hr he hb hv hs=>codeAny_mono (F.run A outer s H args us vs Q _ hr he hb hv hs) λ r s' hq=>by
  cases r with
  | error e=>
   let#[_,_,_,_,_,_,_,_,_,z]:=hq;show z.elim
  | ok fl=>cases fl <;> show hq]
section
variable {X:Cx}{k:Nat}{f:Addr}{fd:FuncData}{ps:List Str}{sp:Sp}{x:Str}{p pos:Pos}{e:Expr}{es:List Expr}{t:TA}{Ff:Aj}{Y:St}{H:Hp}{s:Shared}{Q:VK}{Qx:Addr->Hp->Prop}{fl:Bool}
def Xo (F:xf X.prog X.w X.K X.mg X.base (pT X.prog X.w) k f fd ps sp) (hr:yb k X.A) (hg:Gl X x) (hm:X.mg x=↑(.ref f)) (hk:PySem.W.keepIn X.K (.ref f)=true) (hb:Binds X.K fd ps []) (hn:∀ v s,¬ X.xe v s)
  (ha:PA X (e::es) t) (Bc:(x == ("__debug__":Str))=false) (he:AE X e es) (Ao:AI X pos es)
  {W:Af}(hW:∀ v s',XP X Ff fl Y Qx v s'->W v s') (I:Inv X Ff Y H s) (h:t Y H λ vs H1=>sp vs H1 Q λ v _ H'=>∃ a,v=.ref a/\Qx a H'):
  wpAny (model X.prog X.w) X.A (eval (.Call (.Name x p) (e::es) [] pos) X.env) (EP X Ff Y Q) W s:=by
 exact zaM (oJ I hg hm ?_ Bc);exact PySem.W.callWith_K (h₀:=X.base) I.ok.mod.oK hk (tp (ha pos Ff s Y H _ I h) (λ us s1 #[vs,H1,I1,r,q]=>#[I1.yD,?_]) λ _ _ z=>(hn _ _ z).elim) he Ao;have hl:us.length=ps.length:=by rw[<- r.length];show F.len _ _ _ _ q
 have Bn:=hb s1 us I1.yD (by rw[CC];show hl);rw[CC] at Bn;exact wpAny_call (codeAny_mono (F.run X.A X.stack s1 H1 #[us,[]] us vs Q _ hr I1.ag Bn r q) λ r s' hq=>?_);cases r with
 | error v=>
  let#[a,H',rfl,os,bare,un,zm,ie,f1,a',ea,z]:=hq;cases ea;show hW _ _ #[a,Ff,Y,H',rfl,λ _=>#[rfl,rfl],I1.Zg (ch:=[]) os un zm bare (λ b z=>absurd z #[]),ie,.inr f1,z]
 | ok fl=>
  cases fl with
  | ret u=>show I1.after hq
  | _=>show False.elim hq
end
abbrev oG (X:Cx) (e:Addr):Cx:={ X with A:=X.A.mark ↑(.ref e),calm:=false }
section
variable {X:Cx}{Ff:Aj}{Y Y':St}{H H':Hp}{s s':Shared}{e:Addr}
def bh (I:Inv X Ff Y H s) (e:Addr):Inv (oG X e) Ff Y H s:=
 #[#[I.ok.mod,I.ok.kind,I.ok.glob,I.ok.blt,I.ok.above,I.ok.inj,I.ok.has,I.ok.qj,nofun,I.ok.frames,I.ok.qD,I.ok.o_,I.ok.bs,I.ok.se,I.ok.rV,I.ok.qd,I.ok.v8,I.ok.sW],I.os,I.bare,I.base,I.loc,I.cell,I.free,I.wN,I.pin,I.zm,I.len]
def OZ (I:Inv X Ff Y H s) (J:Inv (oG X e) Ff Y' H' s'):Inv X Ff Y' H' s':=#[I.ok,J.os,J.bare,J.base,J.loc,J.cell,J.free,J.wN,J.pin,J.zm,J.len]
def Xm {i j:Nat}{n c:Str}{body:List Stmt}{p1 p2 p3 p4 B4 pos:Pos}{D:Ends}{Qx:Addr->Hp->Prop}(hn:∀ v s,¬ X.xe v s) (AK:X.stack=X.env::X.outer) (AV:X.env.frame=↑X.env.locals)
  (hg:Gl X "PurseError") (hN:X.N.Nodup) (hi:X.N[i]?=↑n) (Bl:X.env.kindOf n=↑.local) (hj:X.N[j]?=↑c) (Dk:Loc X.env.scope c) (DC:X.fn c=true\/X.env.scope.names.lookup c=↑.local) (A6:i≠j)
  (BW:(n == ("__debug__":Str))=false) (Ds:(n == ("__classdict__":Str))=false) (Bv:swapsWith (.Name n p3) ↑(.Name c p2) p4.line X.env=pure false)
  (I:Inv X Ff Y H s) (hb:wpAny (model X.prog X.w) X.A (execs body X.env) (SP X Ff D) (XP X Ff true Y Qx) s)
  (hx:∀ a H',Qx a H'->(∃ cn C dx,rK X.K cn C/\H' a=↑(wX a C dx))/\∀ T,H' T=none->D.nx (((Y.set i ↑(.ref a)).set j ↑(.ref a)).set i none) (upd H' T (xY T))):
  wpAny (model X.prog X.w) X.A (exec (.Try body [.ExceptHandler ↑(.Name "PurseError" p1) ↑n [.Assign [.Name c p2] (.Name n p3) p4] B4] [] [] pos) X.env) (SP X Ff D) X.xe s:=by
 exact wpAny_Try_except (tp hb (λ f s₁ q=>?_) λ v s₁ #[a,FJ,Y',H1,ev,es,I1,ie,fly,q]=>?_)
 .cases f with
  | next=>show zaI q
  | _=>show q
 subst ev;let#[rfl,rfl]:=es rfl;let#[#[cn,C,dx,#[P,N,NP,hE],hEo],q]:=hx a H1 q;have f1:=fly.resolve_left (λ z=>by cases z.1);exact Py I1 AK AV ie f1 λ h' T hT un zm f2=>?_;have I2:Inv X FJ Y' (upd H1 T (xY T)) { s₁ with heap:=h' }:=I1.call (g':=s₁.gens) (d':=s₁.drawn) (t':=s₁.toks) (ch:=[]) un zm I1.bare (λ b z=>absurd z #[]);have JJ:upd H1 T (xY T) a=↑(wX a C dx):=by rw[zO (xE hEo hT)];show hEo
 let#[#[qn,bs,sn,sub,ab,col,dd,k0,k1,k2,k3,k5,lk],_,_]:=id hE.own;let#[#[q',JR,Jg,Hv,JS,HH,HM,l0,l1,l2,l3,l5,lp],_,_]:=id hE.par;have mP:X.mg "PurseError"=↑(.ref P):=PySem.W.mg_of I.ok.mod.oK I.ok.mod.glob hE.dn;have aoe:∃ oe,h'.get? a=↑oe/\oe.cls=.ref C:=by
  let#[#[oe,vs,z1,z2,_],_]:=I2.zm a _ JJ;show#[oe,z1,z2]
 exact YZ (bm:=.ref P::vF) (HV:=vF) () (by rw[BG];simp) (oJ (X:=oG X a) (bh I2 a) hg mP #[rfl,I2.yD _ _ lk,I2.yD _ _ lp,aoe,?_]);exact OA I2 #[C,dx,JJ] f2 λ h2 un2 KY=>?_;have I3:Inv X FJ Y' (upd H1 T (xY T)) { s₁ with heap:=h2 }:=Inv.call (s:={ s₁ with heap:=h' }) (g':=s₁.gens) (d':=s₁.drawn) (t':=s₁.toks) (ch:=[]) I2 un2 KY I1.bare (λ b z=>absurd z #[]);exact p_ I3 hN hi (.inl Bl) (v:=.ref a) rfl (λ s4 I4=>?_) (.inr Bl);have st:=dq (dr (X:=oG X a) (i:=j) (pos:=p4) (pos':=p2) hN hj Dk (pv (X:=oG X a) i (pos:=p3) hi (.inl Bl) BW Ds) Bv DC);have hl:i < Y'.length:=by rw[I1.len];show (AU.mp hi).1
 exact tp (st FJ s4 _ _ { nx:=fun Y2 H2=>Y2=(Y'.set i ↑(.ref a)).set j ↑(.ref a)/\H2=upd H1 T (xY T),rt:=λ _ _=>False } (bh I4 a) #[.ref a,by rw[Ew hl],rfl,rfl]) (λ fl s5 q5=>?_) λ _ _ z=>(hn _ _ z).elim;cases fl with
 | next=>
  let#[Y5,H5,I5,rfl,rfl]:=q5;show N9 (OZ I I5) hN hi Bl λ s6 I6=>#[_,_,I6,q T hT]
 | ret _=>let#[_,_,_,_,_,z]:=q5;show z.elim
 | _=>let#[_,_,_,z]:=q5;show z.elim
end
def v5:D->Bool
 | .err _ _ _=>true
 | _=>false
def tu (K:Ac) (H:Hp) (R:VK) (Q:Addr->Hp->Prop):DK:=λ d S'=>(v5 d=false->xI K H R d S')/\(v5 d=true->∀ a H',zf K H' d (.ref a)->Ext H H'->zC K H' S'->Q a H')
theorem tu.ext {K:Ac}{H H':Hp}{R:VK}{Q:Addr->Hp->Prop}(e:Ext H H') {d:D}{S:SS}(h:tu K H R Q d S):tu K H' R Q d S:=#[λ z=>xI.ext e (h.1 z),λ z a H2 r x q=>h.2 z a H2 r (e.trans x) q]
def tq (K:Ac) (H:Hp) (D:Ends) (Q:Addr->Hp->Prop):tK:=#[xq K H D.nx,tu K H D.rt Q,xq K H D.bk,xq K H D.ct]
theorem tq.ext {K:Ac}{H H':Hp}{D:Ends}{Q:Addr->Hp->Prop}(e:Ext H H'):(tq K H D Q).Le (tq K H' D Q):=#[λ _ _ h=>xq.ext e h,λ _ _ h=>tu.ext e h,λ _ _ h=>xq.ext e h,λ _ _ h=>xq.ext e h]
def pV (K:Ac) (t:z_) (Q:Addr->Hp->Prop):TS:=λ D Y H=>∃ L S,ym K H L Y/\zC K H S/\t (tq K H D Q) L S
structure p9 (X:Cx) (Ff:Aj) (Y:St) (fl:Bool) (Q:Addr->Hp->Prop) (W:Af):Prop where
 xp:∀ v s',XP X Ff fl Y Q v s'->W v s'
 own:fl=false->PassesOwn (model X.prog X.w) X.A X.env W
def p9.any {X:Cx}{Ff FJ:Aj}{Y Y':St}{Q:Addr->Hp->Prop}{W:Af}(h:p9 X Ff Y false Q W):p9 X FJ Y' false Q W:=
 #[λ v s' #[e,p,q,H',h1,_,h3]=>h.xp v s' #[e,p,q,H',h1,nofun,h3],h.own]
structure rA (X:Cx) (fl:Bool) (st:Stmt) (t:z_):Prop where
 mo:ur t
 px:∀ Ff s Y H D Q W,p9 X Ff Y fl Q W->Inv X Ff Y H s->pV X.K t Q D Y H->wpAny (model X.prog X.w) X.A (exec st X.env) (SP X Ff D) W s
structure uo (X:Cx) (fl:Bool) (GG:List Stmt) (t:z_):Prop where
 mo:ur t
 px:∀ Ff s Y H D Q W,p9 X Ff Y fl Q W->Inv X Ff Y H s->pV X.K t Q D Y H->wpAny (model X.prog X.w) X.A (execs GG X.env) (SP X Ff D) W s
section
variable {X:Cx}{fl:Bool}{st:Stmt}{Fh:List Stmt}{t u:z_}{pos:Pos}{e:Expr}{te:zp}
def Ux (h:xu X st t) (ht:∀ E L S,t E L S->t { E with rt:=λ _ _=>False } L S) (hn:∀ v s,¬ X.xe v s):rA X fl st t:=by
 exact#[h.mo,λ Ff s Y H D Q W hW I #[L,S,r1,r2,z]=>tp (h.ps Ff s Y H D I #[L,S,r1,r2,h.mo { tq X.K H D Q with rt:=λ _ _=>False } _ L S #[λ _ _ q=>q,λ _ _ q=>q.elim,λ _ _ q=>q,λ _ _ q=>q] (ht _ L S z)]) (λ _ _ q=>q) λ _ _ z=>(hn _ _ z).elim]
def Uy:uo X fl [] iQ:=#[λ _ _ _ _ hE h=>hE.nx _ _ h,λ Ff s Y H D Q W hW I #[L,S,r1,r2,z]=>zaI #[Y,H,I,z Y H r1 (.refl H) r2]]
def Uw (h:rA X fl st t):uo X fl [st] t:=#[h.mo,λ Ff s Y H D Q W hW I hu=>by
 exact wpAny_execs_cons (zw (h.px Ff s Y H D Q W hW I hu) λ f s1 q=>?_);cases f with
 | next=>show zaI q
 | ret v=>show q
 | brk=>show q
 | cont=>show q]
def U0 (h:rA X false st t) (h':uo X false Fh u):uo X false (st::Fh) (qf t u):=#[qf.mo h.mo h'.mo,λ Ff s Y H D Q W hW I #[L,S,r1,r2,z]=>by
 exact wpAny_execs_cons (zw (h.px Ff s Y H { D with nx:=pV X.K u Q D } Q W hW I #[L,S,r1,r2,h.mo { tq X.K H D Q with nx:=u (tq X.K H D Q) } _ L S #[fun L' S' q Y' H' q1 q2 q3=>#[L',S',q1,q3,h'.mo _ _ L' S' (tq.ext q2) q],λ _ _ q=>q,λ _ _ q=>q,λ _ _ q=>q] z]) λ f s1 q=>?_);cases f with
 | next=>
  let#[Y',H',I',q]:=q;show h'.px Ff s1 Y' H' D Q W hW.any I' q
 | ret v=>show q
 | brk=>show q
 | cont=>show q]
def Uz {c:Expr}{p q:List Stmt}{tc:yt}(hc:yX X c tc) (h:uo X fl p t) (h':uo X fl q u) (hn:∀ v s,¬ X.xe v s):rA X fl (.If c p q pos) (iR tc t u):=by
 exact#[λ E E' L S hE z=>hc.mo L S _ _ (λ k S1 z=>xF (h.mo _ _ L S1 hE) (h'.mo _ _ L S1 hE) z) z,λ Ff s Y H D Q W hW I #[L,S,r1,r2,z]=>?_];exact wpAny_If (tp (hc.pt Ff s Y H (λ k H1=>if k=true then pV X.K t Q D Y H1 else pV X.K u Q D Y H1) I (xP.go hc.mo r1 r2 z λ k S1 H1 h1 e1 p1=>xF (λ z=>?_) (λ z=>?_) h1)) (λ k s1 #[H1,I1,q1]=>?_) λ _ _ z=>(hn _ _ z).elim)
 .show#[L,S1,r1.ext e1,p1,h.mo _ _ L S1 (tq.ext e1) z]
 .show#[L,S1,r1.ext e1,p1,h'.mo _ _ L S1 (tq.ext e1) z]
 .cases k with
  | true=>show h.px Ff s1 Y H1 D Q W hW I1 q1
  | false=>show h'.px Ff s1 Y H1 D Q W hW I1 q1
def iO (te:zp):z_:=λ E L S=>te L S λ d S1=>v5 d=false/\E.rt d S1
def Uu (he:PD X e te) (hn:∀ v s,¬ X.xe v s):rA X fl (.Return ↑e pos) (iO te):=by
 exact#[λ E E' L S hE z=>he.mo L S _ _ (λ _ _ q=>#[q.1,hE.rt _ _ q.2]) z,λ Ff s Y H D Q W hW I #[L,S,r1,r2,z]=>?_];show wpAny_Return_some (tp (he.pe Ff s Y H D.rt I (zD.go he.mo r1 r2 z λ x S1 v H1 h1 q1 e1 p1=>h1.2.1 h1.1 v H1 q1 e1 p1)) (λ v s1 #[x,H1,I1,r1,q1]=>#[x,Y,H1,I1,r1,q1]) λ _ _ z=>(hn _ _ z).elim)
def Ext.same {H H':Hp}(e:gw H H'):Ext H H':=#[λ b xs q=>e _ _ q,λ b o u q=>e _ _ q,λ b u q=>e _ _ q,λ b u q=>e _ _ q]
def aG (c f:Str) (te:zp):z_:=λ E L S=>te L S λ d S1=>E.rt (.err c f d) S1
end
def fF (K:Ac) (sp:wb):Sp:=λ vs H Q E=>∃ ds S,zj K H ds vs/\zC K H S/\sp ds S (tu K H Q λ a H'=>E (.ref a) none H')
structure tJ (P:Program) (w:World) (K:Ac) (mg:Au) (base:Heap) (x:Str) (k:Nat) (ps:List Str) (sp:wb):Prop where
 ex:∃ (f:Addr) (fd:FuncData),xf P w K mg base (pT P w) k f fd ps (fF K sp)/\mg x=↑(.ref f)/\PySem.W.keepIn K (.ref f)=true/\Binds K fd ps []
 mo:pK sp
def lu (sp:wb):wb:=λ ds S Q=>sp ds S λ d S'=>v5 d=false/\Q d S'
def lu.mo {sp:wb}(h:pK sp):pK (lu sp):=λ ds S Q Q' hq z=>h ds S _ _ (λ d S' q=>#[q.1,hq _ _ q.2]) z
theorem tJ.fd {P:Program}{w:World}{K:Ac}{mg:Au}{base:Heap}{x:Str}{k:Nat}{ps:List Str}{sp:wb}(F:tJ P w K mg base x k ps sp):FD P w K mg base x k ps (lu sp):=by
 let#[#[f,fd,h1,h2],hm]:=F;exact#[#[f,fd,(xf.never h1).imp λ vs H Q E #[ds,S,r1,r2,z]=>#[ds,S,r1,r2,hm ds S _ _ (λ d S' q=>#[λ _=>q.2,λ z=>?_]) z],h2],lu.mo hm];rw[q.1] at z;cases z
section
variable {X:Cx}{fl:Bool}{pos Ah p:Pos}{e:Expr}{es:List Expr}{tA:ya}{x:Str}{k:Nat}{ps:List Str}{sp:wb}
def Xp {Ff:Aj}{s:Shared}{Y:St}{H:Hp}{Q:Addr->Hp->Prop}{W:Af}{R:DK}{RV:VK}{L:zY}{S:SS}(F:tJ X.prog X.w X.K X.mg X.base x k ps sp) (hr:yb k X.A) (ha:yO X (e::es) tA) (hg:Gl X x) (Bc:(x == ("__debug__":Str))=false)
  (he:AE X e es) (Ao:AI X Ah es) (hn:∀ v s,¬ X.xe v s) (hW:p9 X Ff Y fl Q W) (I:Inv X Ff Y H s) (r1:ym X.K H L Y) (r2:zC X.K H S)
  (z:tA L S λ ds S1=>sp ds S1 R) (hR:∀ d S',R d S'->tu X.K H RV Q d S'):
  wpAny (model X.prog X.w) X.A (eval (.Call (.Name x p) (e::es) [] Ah) X.env) (EP X Ff Y RV) W s:=by
 let#[#[f,fd,h1,h2,h3,h4],hm]:=F;exact Xo (Qx:=Q) h1 hr hg h2 h3 h4 hn ha.pa Bc he Ao hW.xp I (xQ.go ha.mo r1 r2 z λ ds S1 xs H1 z1 q1 e1 p1=>#[ds,S1,q1,p1,hm ds S1 _ _ (λ d S' q=>?_) z1]);have q':=tu.ext e1 (hR d S' q);show#[q'.1,λ y a H' c1 c2 c3=>#[a,rfl,q'.2 y a H' c1 c2 c3]]
def aD (i:Nat) (sp:wb) (tA:ya):z_:=λ E L S=>tA L S λ ds S1=>sp ds S1 λ d S2=>(v5 d=true->E.rt d S2)/\(v5 d=false->E.nx (L.set i ↑d) S2)
variable (F:tJ X.prog X.w X.K X.mg X.base x k ps sp)
include F
theorem U1 {k' i:Nat}{y:Str}{py:Pos}(hN:X.N.Nodup) (hr:yb k' X.A) (ha:yO X (e::es) tA) (hi:X.N[i]?=↑y) (hx:Loc X.env.scope y) (hf:X.fn y=true\/X.env.scope.names.lookup y=↑.local) (hk:k<=k') (hg:Gl X x) (Bc:(x == ("__debug__":Str))=false)
  (he:AE X e es) (Ao:AI X Ah es) (hn:∀ v s,¬ X.xe v s) (hs:swapsWith (.Call (.Name x p) (e::es) [] Ah) ↑(.Name y py) pos.line X.env=pure false):
  rA X fl (.Assign [.Name y py] (.Call (.Name x p) (e::es) [] Ah) pos) (aD i sp tA):=by
 exact#[λ E E' L S hE z=>ha.mo L S _ _ (λ ds S1 z=>F.mo ds S1 _ _ (λ d S2 q=>#[λ y=>hE.rt _ _ (q.1 y),λ y=>hE.nx _ _ (q.2 y)]) z) z,λ Ff s Y H D Q W hW I #[L,S,r1,r2,z]=>?_];exact wpAny_Assign_Name (zw (Xp (RV:=λ v H'=>D.nx (Y.set i ↑v) H') F (hr.mono hk) ha hg Bc he Ao hn hW I r1 r2 z λ d S' q=>#[λ y v H' a1 a2 a3=>q.2 y _ H' ((r1.ext a2).set i a1) a2 a3,λ y=>(q.1 y).2 y]) λ v s1 #[x,H1,I1,r,q1]=>?_) hs;show p_ I1 hN hi hx r (λ s2 I2=>#[_,H1,I2,q1]) hf
end
section
variable {P:Program}{w:World}{K:Ac}{mg:Au}{base:Heap}
def fnX {x qual:Str}{st:Stmt}{f:Addr}{fd:FuncData}{N ps:List Str}{k:Nat}{sp:wb}(F:vI K x qual st f fd) (Sc:vK N ps (zL st)) (len:∀ ds S Q,sp ds S Q->ds.length=ps.length)
  (Fp:∀ (Ai:Value) (A:Around) (outer:List Env) (s:Shared) (H:Hp) (E:XK),yb k (A.deeper (envOfC qual (zL st) s.heap.objs.size f Ai))->
   ∃ t,uo (yM yz P w K mg base N qual (zL st) f Ai A outer s H E).xg false (xj st) t/\∀ ds S Q,sp ds S Q->t { nx:=λ _ S'=>Q .zr S',rt:=Q } (uz N ds) S):
  xf P w K mg base (pT P w) (k+1) f fd ps (fF K sp):=by
 let#[oc,od,kV,doc,pm,an,Ai,ct,HQ,rfl,lk,BA]:=F.ex;exact bO lk BA Sc (λ vs H Q E #[ds,S,r1,_,z]=>by rw[<- r1.length];show len _ _ _ z) λ A outer s H vs Q E hr BV=>#[λ D Y H'=>D={ nx:=λ _ H'=>Q .zr H',rt:=Q }/\Y=start N vs/\H'=H,λ Ff s1 Y H' D I #[e1,e2,e3]=>?_,rfl,rfl,rfl];subst e1 e2 e3;let#[t,hp,ht]:=Fp Ai A outer s H' E hr;let#[ds,S,r1,r2,z]:=BV;have cv:∀ {Ff:Aj}{Y':St}{H'':Hp}{s':Shared},Inv (yM yz P w K mg base N qual (zL st) f Ai A outer s H' E).xg Ff Y' H'' s'->Inv (yM (pT P w) P w K mg base N qual (zL st) f Ai A outer s H' E) Ff Y' H'' s':=λ J=>
  #[I.ok,J.os,J.bare,J.base,J.loc,J.cell,J.free,J.wN,J.pin,J.zm,J.len]
 have ok0:(yM yz P w K mg base N qual (zL st) f Ai A outer s H' E).xg.Ok:=#[I.ok.mod,I.ok.kind,I.ok.glob,I.ok.blt,I.ok.above,I.ok.inj,I.ok.has,I.ok.qj,I.ok.hd,I.ok.frames,I.ok.qD,I.ok.o_,I.ok.bs,I.ok.se,I.ok.rV,I.ok.qd,I.ok.v8,I.ok.sW];have I0:Inv (yM yz P w K mg base N qual (zL st) f Ai A outer s H' E).xg Ff (start N vs) H' s1:=#[ok0,I.os,I.bare,I.base,I.loc,I.cell,I.free,I.wN,I.pin,I.zm,I.len];exact tp (hp.px Ff s1 (start N vs) H' { nx:=λ _ H'=>Q .zr H',rt:=Q } (λ e H2=>∀ T,H2 T=none->E (.ref e) none (upd H2 T (xY T))) (yM (pT P w) P w K mg base N qual (zL st) f Ai A outer s H' E).xe #[λ v s' #[e,FJ,Y',H2,ev,_,J,ie,hf,q]=>?_,λ _=>PassesOwn.leaving] I0
  #[uz N ds,S,ym.init r1,r2,hp.mo { nx:=λ _ S'=>tu K H' Q (λ a H2=>E (.ref a) none H2) .zr S',rt:=tu K H' Q λ a H2=>E (.ref a) none H2 } _ _ S #[fun L S' q Y2 H2 a1 a2 a3=>q.1 rfl .zr H2 (by simp![zf]) a2 a3,λ d S' q=>#[q.1,λ y a H2 a1 a2 a3 T hT=>?_],λ _ _ q=>q.elim,λ _ _ q=>q.elim] (ht ds S _ z)]) (λ fl s' q=>?_) λ _ _ z=>z
 .subst ev;have J':=cv J;exact Ox J' rfl rfl ie (hf.imp And.right id) λ h' T hT un zm f1=>?_;let#[C,dx,hE]:=ie;show#[e,_,rfl,J'.os,J'.bare,Un.out J'.base un (zaO (Ak _)),zm,#[C,dx,by rw[zO (xE hE hT)];show hE],f1,q T hT]
 .have xT:Ext H2 (upd H2 T (xY T)):=.new hT _;show q.2 y a _ (zf.ext xT d a1) (a2.trans xT) (a3.keep xT λ b u o _ c=>by rw[zO (xE c hT)];show c)
 .cases fl with
  | ret u=>let#[v,Y',H',J,r,q]:=q;show#[v,Y',H',cv J,r,q]
  | _=>let#[Y',H',J,q]:=q;show#[Y',H',cv J,q]
end
def ym.hole {K:Ac}{H:Hp}{L:zY}{Y:St}(i:Nat) (r:ym K H L Y):ym K H (L.set i none) (Y.set i none):=by
 exact#[by rw[C2,C2];show r.1,λ j c hc=>?_];rw[CZ] at hc ⊢;by_cases hj:i=j
 .subst hj;rw[if_pos rfl] at hc;split at hc <;> cases hc
 .rw[if_neg hj] at hc ⊢;show r.2 j c hc
def iM (i j:Nat) (t:z_):z_:=λ E L S=>t #[E.nx,λ d S'=>v5 d=true/\E.nx (((L.set i ↑d).set j ↑d).set i none) S',λ _ _=>False,λ _ _=>False] L S
def UL {X:Cx}{t:z_}(i j:Nat) {n c:Str}{body:List Stmt}{p1 p2 p3 p4 B4 pos:Pos}(hN:X.N.Nodup) (hb:uo X true body t) (A6:i≠j) (hi:X.N[i]?=↑n) (hj:X.N[j]?=↑c)
  (hg:Gl X "PurseError") (Bl:X.env.kindOf n=↑.local) (Dk:Loc X.env.scope c) (DC:X.fn c=true\/X.env.scope.names.lookup c=↑.local)
  (BW:(n == ("__debug__":Str))=false) (Ds:(n == ("__classdict__":Str))=false) (Bv:swapsWith (.Name n p3) ↑(.Name c p2) p4.line X.env=pure false)
  (AK:X.stack=X.env::X.outer) (AV:X.env.frame=↑X.env.locals) (hn:∀ v s,¬ X.xe v s):
  xu X (.Try body [.ExceptHandler ↑(.Name "PurseError" p1) ↑n [.Assign [.Name c p2] (.Name n p3) p4] B4] [] [] pos) (iM i j t):=by
 exact#[λ E E' L S hE z=>hb.mo #[E.nx,λ d S'=>v5 d=true/\E.nx (((L.set i ↑d).set j ↑d).set i none) S',λ _ _=>False,λ _ _=>False] #[E'.nx,λ d S'=>v5 d=true/\E'.nx (((L.set i ↑d).set j ↑d).set i none) S',λ _ _=>False,λ _ _=>False] L S #[hE.nx,λ d S' q=>#[q.1,hE.nx _ _ q.2],λ _ _ q=>q,λ _ _ q=>q] z,λ Ff s Y H D I #[L,S,r1,r2,z]=>?_];exact Xm (Qx:=λ a H'=>∃ d S',v5 d=true/\zf X.K H' d (.ref a)/\Ext H H'/\zC X.K H' S'/\(vC X.K H D).nx (((L.set i ↑d).set j ↑d).set i none) S') hn AK AV hg hN hi Bl hj Dk DC A6 BW Ds Bv I
  (hb.px Ff s Y H D _ _ #[λ _ _ q=>q,nofun] I #[L,S,r1,r2,hb.mo #[(vC X.K H D).nx,λ d S'=>v5 d=true/\(vC X.K H D).nx (((L.set i ↑d).set j ↑d).set i none) S',λ _ _=>False,λ _ _=>False] _ L S #[λ _ _ q=>q,λ d S' q=>#[λ y=>?_,λ y a H' a1 a2 a3=>#[d,S',y,a1,a2,a3,q.2]],λ _ _ q=>q.elim,λ _ _ q=>q.elim] z]) λ a H' #[d,S',hd,a1,a2,a3,q]=>#[?_,λ T hT=>?_]
 .rw[q.1] at y;cases y
 .cases d with
  | err cn f x=>
   simp![zf] at a1;let#[e,C,dx,w,e1,#[h1,h2,h3],_]:=a1;cases e1;show#[cn,C,dx,h1,h2]
  | _=>cases hd
 .have xT:Ext H' (upd H' T (xY T)):=.new hT _;have rd:=zf.ext xT d a1;show q _ _ ((((r1.ext (a2.trans xT)).set i rd).set j rd).hole i) (a2.trans xT) (a3.keep xT λ b u o _ c=>by rw[zO (xE c hT)];show c)
end L3
namespace L5
open PySem PySem.Spec L2 L3
open PyProof.Rows hiding St
def wj:T->Bool
 | .err _ _ _=>true
 | _=>false
@[simp] theorem zai (c f:Str) (t:T):wj (.err c f t)=true:=rfl
@[simp] theorem zaf:wj .zr=false:=rfl
@[simp] theorem zak (b:Bool):wj (.bl b)=false:=rfl
@[simp] theorem zah (b:Int):wj (.int b)=false:=rfl
@[simp] theorem zae (b:Str):wj (.str b)=false:=rfl
@[simp] theorem zad (b:List T):wj (.tup b)=false:=rfl
@[simp] theorem zag (b:List T):wj (.lst b)=false:=rfl
@[simp] theorem zaj:wj .yL=false:=rfl
def og {S:SS}{y:T}{d:D}(h:Sn S y d):v5 d=wj y:=by
 cases y with
 | tup _=>simp![Sn] at h;let#[_,h,_]:=h;subst h;rfl
 | lst _=>
  simp![Sn] at h;obtain⟨_,h | ⟨_,h,_⟩,_⟩:=h
  .rw[h.1];rfl
  .subst h;rfl
 | yL=>simp![Sn] at h;let#[_,_,#[h,_],_]:=h;subst h;rfl
 | err _ _ _=>simp![Sn] at h;let#[_,h,_]:=h;subst h;rfl
 | _=>simp![Sn] at h;subst h;rfl
def Mb {y:T}(h:wj y=true):∀ ts,y≠.lst ts:=λ ts e=>by subst e;cases h
@[simp] def eK (c f:Str) (g:Ag):Sm:=fun J=>(g J).map λ y=>.rt (.err c f y)
@[simp] def eR (g:Ag):Sm:=fun J=>(g J).bind λ y=>if wj y=true then none else ↑(.rt y)
@[simp] def fN (i j:Nat) (g:Sm):Sm:=fun J=>(g J).bind λ o=>match o with
 | .nx J'=>↑(.nx J')
 | .rt y=>if wj y=true then ↑(.nx (((J.set i none).set j ↑(.im y)).set i none)) else none
 | _=>none
@[simp] def jM (F:Ap):Ap:=λ ys=>(F ys).bind λ y=>if wj y=true then none else ↑y
section
variable {R:Rk}{g h:Sm}{t:z_}{f:Ag}{te:zp}{S0 S:SS}{Z0 Z:Addr->Prop}{L:zY}{J:Ev}
def RA [Cl R] {c x:Str}(hf:wV f te):zW R (eK c x f) (aG c x te):=λ S0 Z0 S Z L J o E F e P=>by
 let#[y,e1,rfl]:=AM.mp e;exact hf S Z L J y _ F.er e1 λ d S1 s1 r1=>P _ S1 (F.sx.trans s1) (Cl.of (λ _=>nofun) ?_);simp![Sn];show#[d,rfl,Sn.sx (vZ F.zz) y r1]
def RC [Sr R] (hf:yT R f te):zW R (eR f) (iO te):=λ S0 Z0 S Z L J o E F e P=>by
 let#[y,e1,e2]:=Al.mp e;split at e2
 .cases e2
 .rename_i hy;cases e2;show hf S Z L J y _ F.er e1 λ d S1 s1 r1=>#[by rw[og (Sr.sn r1)];simpa using hy,P d S1 (F.sx.trans s1) (Lo.lo F.sx F.zz r1)]
def dW (i:Nat):zW zE (tR i) (iO (yh i)):=λ S0 Z0 S Z L J o E F e P=>by
 have q:=jH i S0 Z0 S Z L J o E F e P;unfold tR at e;split at e
 .rename_i ts h;let#[p,ob,h1,_]:=F.er.ow i _ h;have q':yh i L S E.rt:=q;change yh i L S λ d S1=>v5 d=false/\E.rt d S1;unfold yh at q' ⊢;rw[h1] at q' ⊢;show#[rfl,q']
 .cases e
def LB (S0:SS) (Z0:Addr->Prop) (S:SS) (Z:Addr->Prop) (o:Out) (E:tK):Prop:=match o with
 | .nx J'=>∀ S' Z' L',FR S0 Z0 S' Z' L' J'->E.nx L' S'
 | .rt y=>wj y=true->∀ d S',Sx S S'->Sn (zK S' Z) y d->E.rt d S'
 | _=>True
def nY (g:Sm) (t:z_):Prop:=∀ S0 Z0 S Z L J o E,FR S0 Z0 S Z L J->g J=↑o->LB S0 Z0 S Z o E->t E L S
theorem nY.s [Cl R] (h:nY g t):zW R g t:=λ S0 Z0 S Z L J o E F e P=>by
 exact h S0 Z0 S Z L J o E F e ?_;cases o with
 | nx J'=>show P
 | rt y=>show λ hy d S' s r=>P d S' (F.sx.trans s) (Cl.of (Mb hy) (Sn.sx (vZ F.zz) y r))
 | _=>trivial
def FR.hole (h:FR S0 Z0 S Z L J) (i:Nat) (v:Option D):FR S0 Z0 S Z (L.set i v) (J.set i none):=by
 exact#[#[h.er.zd,λ j t e=>?_,λ j ts e=>?_],by simp[h.len],h.sx,h.z0,h.zz,h.zn,λ j ts p e e'=>?_,λ j k ts us p n e1 e2 e3 e4=>?_]
 .rcases yq e with ⟨rfl,hl,e⟩ | ⟨n,e⟩
  .cases e
  .rw[xA n];show h.er.im j t e
 .rcases yq e with ⟨rfl,hl,e⟩ | ⟨n,e⟩
  .cases e
  .rw[xA n];show h.er.ow j ts e
 .rcases yq e with ⟨rfl,hl,e⟩ | ⟨n,e⟩
  .cases e
  .rw[xA n] at e';show h.fr j ts p e e'
 .rcases yq e1 with ⟨rfl,hl,e⟩ | ⟨n1,e1⟩
  .cases e
  rcases yq e2 with ⟨rfl,hl,e⟩ | ⟨n2,e2⟩
  .cases e
  rw[xA n1] at e3;rw[xA n2] at e4;show h.dj j k ts us p n e1 e2 e3 e4
def R5 (i j:Nat) (hg:nY g t):zW R (fN i j g) (iM i j t):=λ S0 Z0 S Z L J o E F e P=>by
 let#[o1,e1,e2]:=Al.mp e;exact hg S0 Z0 S Z L J o1 _ F e1 ?_;cases o1 with
 | nx J'=>cases e2;show P
 | rt y=>
  dsimp only at e2 ⊢;split at e2
  .rename_i hy;cases e2;show λ _ d S' s r=>#[by rw[og r];show hy,P S' Z _ ((((F.grow s).hole i ↑d).rR j r).hole i none)]
  .cases e2
 | _=>trivial
end
section
variable {P:Program}{w:World}{K:Ac}{mg:Au}{base:Heap}{x:Str}{st:Stmt}
def NT {R:Rk} [Lo R] {N ps:List Str}{k n:Nat}{g:Sm}(F:Fy K mg x st) (Sc:vK N ps (zL st)) (hn:n=ps.length)
  (hb:∀ (kV doc pm:Value) (an:Option Addr) (Ai ct:Value) (us:Ae),us.length=ps.length->bindArgs (PySem.W.fnOf x x (uh st) (xj st) (zL st) .none kV doc pm an Ai ct) #[us,[]]=pure (ps.zip us))
  (Fp:∀ (f:Addr) (Ai:Value) (A:Around) (outer:List Env) (s:Shared) (H:Hp) (E:XK),yb k (A.deeper (envOfC x (zL st) s.heap.objs.size f Ai))->
   ∃ t,uo (yM yz P w K mg base N x (zL st) f Ai A outer s H E).xg false (xj st) t/\zW R g t):tJ P w K mg base x (k+1) ps (zJ R (zV N n g)):=by
 let#[f,fd,F,hm]:=F;exact#[#[f,fd,fnX F Sc (λ ds S Q h=>by rw[h.len,hn]) λ Ai A outer s H E hr=>?_,hm,F.kp,F.binds hb],zJ.mo];let#[t,h1,h2]:=Fp f Ai A outer s H E hr;show#[t,h1,λ ds S Q h=>Zn h2 h]
def tJ.no {R:Rk} [Sr R] {k:Nat}{ps:List Str}{F:Ap}(G:tJ P w K mg base x k ps (zJ R F)):FD P w K mg base x k ps (zJ R (jM F)):=by
 let#[#[f,fd,h1,h2],hm]:=G.fd;exact#[#[f,fd,h1.imp λ vs H Q E #[ds,S,r1,r2,Z,ys,y,a1,a2,a3,a4]=>#[ds,S,r1,r2,?_],h2],zJ.mo];let#[z,b1,b2]:=Al.mp a3;split at b2
 .cases b2
 .rename_i hy;cases b2;show#[Z,ys,y,a1,a2,b1,λ d S' s r=>#[by rw[og (Sr.sn r)];simpa using hy,a4 d S' s r]]
end
end L5
namespace L3
open PySem PySem.Spec L2
open PyProof.Rows hiding St
structure gz (K:Ac) (cn:Str) (D:Addr):Prop where
 top:PySem.W.nsIn K mainGlobals cn=↑↑(.ref D)
 own:∃ bm N,rB K cn D bm N
def PQ (o:Obj):Option Str:=match o.data with
 | .cls cd=>↑cd.name
 | _=>none
def rB.nm {K:Ac}{c:Str}{C N:Addr}{bm:Ae}(h:rB K c C bm N):(K.lookup C).bind PQ=↑c:=by
 let#[#[q,bs,sn,sub,ab,col,dd,k0,k1,k2,k3,k5,e],_]:=h;rw[e];rfl
def OX {K:Ac}{c cn:Str}{C P N NP D:Addr}(E:rJ K c C P N NP) (G:gz K cn D):(Value.ref C::.ref P::vF).contains (.ref D)=(decide (cn=c)||decide (cn="PurseError")):=by
 let#[bm,N',g]:=G.own;by_cases h1:cn=c
 .subst h1;have:=G.top.symm.trans E.top;cases this;simp
 .by_cases h2:cn="PurseError"
  .subst h2;have:=G.top.symm.trans E.dn;cases this;simp
  .have d1:D≠C:=λ z=>by
    subst z;have:=g.nm.symm.trans E.own.nm;cases this;show h1 rfl
   have d2:D≠P:=λ z=>by
    subst z;have:=g.nm.symm.trans E.par.nm;cases this;show h2 rfl
   have b1:(Value.ref D == Value.ref C)=false:=by exists d1
   have b2:(Value.ref D == Value.ref P)=false:=by exists d2
   rw[BG,BG,b1,b2,za5 h1,za5 h2];rfl
inductive kL (K:Ac) (c:Str):V->Bool->Prop where
 | own {cn:Str}{D:Addr}(g:gz K cn D):kL K c (.ref D) (decide (cn=c)||decide (cn="PurseError"))
 | val:kL K c (.ty "ValueError") true
theorem MY {X:Cx}:yx X (.builtin "isinstance") (λ xs H Q=>∃ e C dx c k b,xs=[.ref e,k]/\H e=↑(wX e C dx)/\rK X.K c C/\kL X.K c k b/\Q (.bl b) H):=by
 intro Ff s Y H xs us Q I r h;let#[e,C,dx,c,k,b,rfl,h1,#[P,N,NP,h2],h3,q]:=h;cases r with
 | cons ra rb=>
 cases rb with
 | cons rb rc=>
 cases rc;rename_i u1 u2;obtain rfl:u1=Value.ref e:=ra;let#[hh,g,d,t,os]:=s;let#[#[oe,vs,he,hc,hdx,D9],_]:=I.zm e _ h1;cases h3 with
 | @own cn D G=>
  obtain rfl:u2=Value.ref D:=rb;let#[bm,N',o]:=id G.own;let#[#[q1,bs,sn,sub,ab,col,dd,k0,k1,k2,k3,k5,hD],_]:=o.at I.yD;exact fh (b:=(Value.ref C::.ref P::vF).contains (.ref D)) (λ prog w A Q' E hq=>Xf (h2.fg I.yD) he hc hD rfl rfl hq) λ t'=>#[.bl _,H,I.tok t',rfl,?_];rw[OX h2 G];show q
 | val=>
  obtain rfl:u2=Value.type "ValueError":=rb;show fh (b:=true) (λ prog w A Q' E hq=>Xe (T:="ValueError") (h2.fg I.yD) he hc (by kernel_rfl) hq) λ t'=>#[.bl _,H,I.tok t',rfl,q]
def lX (k:Str->Bool) (te:zp):zp:=fun L S Q=>te L S λ x S1=>match x with
 | .err c _ _=>Q (.bl (k c)) S1
 | _=>False
section
variable {X:Cx}{e:Expr}{te:zp}{p q pos:Pos}
def dI {cn:Str}{V0:V}{k:Str->Bool}(hk:∀ c,kL X.K c V0 (k c)) (hp:PE X (.Name cn q) (tC V0)) (T:Bt X.mg) (he:PD X e te) (hg:Gl X "isinstance") (h1:AE X e [.Name cn q]) (h2:AI X pos [.Name cn q]) (h3:AE X (.Name cn q) []):
  PD X (.Call (.Name "isinstance" p) [e,.Name cn q] [] pos) (lX k te):=by
 exact#[fun L S Q Q' hq z=>he.mo L S _ _ (λ y S1 z=>?_) z,PE.imp (uO MY hg T.isinstance boot_isinstance (uQ he.pe (uQ hp sL h3) h1) () () h1 h2) fun Y H Q hu=>?_]
 .split at z
  .show hq _ _ z
  .show z.elim
 .let#[L,S,r1,r2,z]:=hu;exact zD.go he.mo r1 r2 z λ x S1 v H1 h1 q1 e1 p1=>?_;cases x with
  | err c f d=>
   simp![zf] at q1;let#[a,C,dx,w,rfl,#[hE,h2,h3],_]:=q1;show#[a,C,dx,c,V0,k c,rfl,h2,hE,hk c,h1 _ H1 (by simp![zf]) e1 p1]
  | _=>show h1.elim
end
end L3
namespace L5
open PySem PySem.Spec L2 L3
open PyProof.Rows hiding St
@[simp] def u7 (k:Str->Bool) (g:Ag):Ag:=fun J=>(g J).bind λ x=>match x with
 | .err c _ _=>↑(.bl (k c))
 | _=>none
def QS {k:Str->Bool}{g:Ag}{te:zp}(hf:yi g te):yY (u7 k g) (lX k te):=λ S Z L J y Q hE e hq=>by
 let#[x,e1,e2]:=Al.mp e;exact hf S Z L J x _ hE e1 λ d S1 s1 r1=>?_;split at e2
 .cases e2;let#[d',rfl,_]:=Vw.err r1;show hq _ S1 s1 (Cl.of (λ _=>nofun) wz)
 .cases e2
end L5
namespace L3
open PySem PySem.Spec L2
open PyProof.Rows hiding St
def Ec (K:Ac) (c:Str):Prop:=∃ C P N NP,rJ K c C P N NP
def Ec.i {K:Ac}{c:Str}{C P:Addr}{o1 o2:Value}{d1 d2:Option Addr}{c1 c2:ClassData}{s1 s2:Array (Option Value)}(_:PySem.W.nsIn K mainGlobals c=↑↑(.ref C)) (_:PySem.W.nsIn K mainGlobals "PurseError"=↑↑(.ref P)) (_:K.lookup C=↑#[o1,d1,.cls c1,s1]) (_:K.lookup P=↑#[o2,d2,.cls c2,s2])
  (h:lM K c=↑(C,P,c1.ns,c2.ns)):Ec K c:=#[C,P,_,_,b_ h]
def Og (K:Ac) (mg:Au) (cn:Str):Prop:=∃ D,gz K cn D/\mg cn=↑(.ref D)
section
variable {K:Ac}{mg:Au}{h:Heap}{c:Str}
def Ec.mk (H:Ec K c) (X:K.In h) (G:h.Ns mainGlobals mg):Og K mg c:=by
 let#[C,P,N,NP,e]:=H;show#[C,#[e.top,_,_,e.own],PySem.W.mg_of X G e.top]
end
def uX (cn:Str) (c:Str):Bool:=decide (cn=c)||decide (cn="PurseError")
section
variable {X:Cx}{e:Expr}{te:zp}{p q pos:Pos}
def Sg {cn:Str}(O:Og X.K X.mg cn) (T:Bt X.mg) (he:PD X e te) (hd:(cn == ("__debug__":Str))=false) (G9:Gl X cn) (hg:Gl X "isinstance") (h1:AE X e [.Name cn q]) (h2:AI X pos [.Name cn q]) (h3:AE X (.Name cn q) []):
  PD X (.Call (.Name "isinstance" p) [e,.Name cn q] [] pos) (lX (uX cn) te):=by
 let#[D,o,hm]:=O;show dI (V0:=.ref D) (λ c=>.own o) (dB G9 hm rfl hd) T he hg h1 h2 h3
def Ll:bootBuiltins "ValueError"=↑(.type "ValueError"):=by decide +kernel
def dH (hm:X.mg "ValueError"=none) (T:Bt X.mg) (he:PD X e te) (G9:Gl X "ValueError") (hg:Gl X "isinstance") (h1:AE X e [.Name "ValueError" q]) (h2:AI X pos [.Name "ValueError" q]) (h3:AE X (.Name "ValueError" q) []):
  PD X (.Call (.Name "isinstance" p) [e,.Name "ValueError" q] [] pos) (lX (λ _=>true) te):=
 dI (V0:=.ty "ValueError") (λ c=>.val) (dD G9 hm Ll rfl () ()) T he hg h1 h2 h3
end
end L3
namespace L2
open PySem PySem.Spec PyProof.Rows
def kJ (lo c:Int) (n:Nat):It:=#[λ i _=>i<n,λ i H x H'=>H'=H/\x=.int (lo+i*c),λ i _=>n<=i]
def XC {P:Program}{w:World}{K:Ac}{tg:Expr}(it:Addr) (lo c:Int) (n:Nat):Turn P w K tg (kJ lo c n) [it] it (λ i h=>IsRangeIter h it (lo+(i:Nat)*c) ((n:Int)-(i:Nat)) c) where
 mem:=#[]
 obj:=λ i h st b hb=>by
  have e:b=it:=by exists hb
  subst e;show#[_,st,λ v z=>by
   have z':Data.fields _=Data.cell v:=z;cases z']
 keep:=λ i h h' st k=>k it #[] _ st
 item:=by
  intro X hP hw hK hc i Ff s Y H E I hf st hg;subst hP hw hK;let#[f0,f1,f2,f3,f4,f5]:=hf it #[];have W:=Walks.range (prog:=X.prog) (w:=X.w) (I.ok.hd hc) it lo c n;exact W.item i s _ _ hg st λ v h' tk hv GH kk=>?_;let#[t,rfl]:=hv;have I1:Inv X Ff Y H { s with heap:=h',toks:=tk }:=I.turned (λ b o hb e=>kk b o (by exists hb) e) f0 f1 f3 f4 f5;show#[_,rfl,lI (s:={ s with heap:=h',toks:=tk }) (n:="range_iterator") GH rfl rfl () #[.int (lo+i*c),H,I1,#[t,rfl],#[rfl,rfl],GH,λ b hb=>(hf b hb).1]]
 done:=by
  intro X hP hw hK hc i Ff s Y H E I hf st hg;subst hP hw hK;let#[f0,f1,f2,f3,f4,f5]:=hf it #[];show wpAny_pyNext_range_end (I.ok.hd hc) st (by have:n<=i:=hg;lia) λ h' eb=>#[rfl,I.turned (t':=s.toks) (λ b o hb e=>eb b o hb e) f0 f1 f3 f4 f5]
 self:=λ _ _ _ _ _ st h=>wpAny_pyIter_rangeiter st h
def u5 (i j c:Int):Nat:=if i<j then ((j-i-1)/c+1).toNat else 0
theorem cw {i j c:Int}(hc:0<c):((u5 i j c:Nat):Int)=Builtin.Range.rangeSize i j c:=by
 unfold u5 Builtin.Range.rangeSize;rw[if_pos hc];split
 .rename_i h;have:0<=(j-i-1)/c:=Int.ediv_nonneg ⋯ ⋯;lia
 .rfl
theorem W4 {a b c:Int}(ha:-(2 ^ 31)<=a) (ha':a<2 ^ 31) (hb:-(2 ^ 31)<=b) (Il:b<2 ^ 31) (hc:0<c) (JG:c<1000000):Builtin.Range.small a b c=true:=by
 have e:=cw (i:=a) (j:=b) hc;have h1:(b-a-1)/c<=(b-a-1)\/¬ a<b:=by
  by_cases h:a<b
  .show .inl (Int.ediv_le_self _ ⋯)
  .show .inr h
 have h2:0<=Builtin.Range.rangeSize a b c/\Builtin.Range.rangeSize a b c<=2 ^ 33:=by
  exact#[⋯,?_];unfold Builtin.Range.rangeSize;rw[if_pos hc];split <;> lia
 have h3:Builtin.Range.rangeSize a b c*c<=2 ^ 33*1000000:=by
  exact Int.le_trans (Ee h2.2 ⋯) ?_;show Int.mul_le_mul_of_nonneg_left ⋯ ()
 have h4:0<=Builtin.Range.rangeSize a b c*c:=Int.mul_nonneg h2.1 ⋯;unfold Builtin.Range.small;simp![Builtin.Range.rangeFitsLong,BQ,Ef,decide_eq_true_eq,beq_iff_eq,hc,if_true];lia
section
variable {X:Cx}{tg:Expr}
def WZ {Ff:Aj}{Y:St}{H:Hp}{s:Shared}{R:It->Hp->Prop}{E:Af}{lo hi c:Int}{t u v:Tok}{tk:Nat}(I:Inv X Ff Y H s) (h1:-(2 ^ 31)<=lo) (h2:lo<2 ^ 31) (h3:-(2 ^ 31)<=hi) (h4:hi<2 ^ 31) (h5:0<c) (h6:c<1000000)
  (q:R (kJ lo c (u5 lo hi c)) H):wpAny (model X.prog X.w) X.A (pyIter (.ref s.heap.objs.size)) (gy X Ff Y tg R) E { s with heap:=s.heap.push { cls:=.type "range",data:=.fields [.int lo t,.int hi u,.int c v].toArray },toks:=tk }:=by
 exact wpAny_pyIter_range (IsRange.new ..) (W4 h1 h2 h3 h4 h5 h6) ?_;have I1:Inv X Ff Y H { s with heap:=s.heap.push { cls:=.type "range",data:=.fields [.int lo t,.int hi u,.int c v].toArray },toks:=tk }:=I.kept λ b o e=>gV _ e;exact#[(s.heap.push { cls:=.type "range",data:=.fields [.int lo t,.int hi u,.int c v].toArray }).objs.size,[(s.heap.push { cls:=.type "range",data:=.fields [.int lo t,.int hi u,.int c v].toArray }).objs.size],_,_,H,rfl,
  I1.kept (t':=tk) λ b o e=>gV _ e,XC _ lo c (u5 lo hi c),?_,λ b hb=>?_,q]
 .have e1:lo+((0:Nat):Int)*c=lo:=#[];have e2:((u5 lo hi c:Nat):Int)-((0:Nat):Int)=Builtin.Range.rangeSize lo hi c:=by rw[cw h5];simp
  change IsRangeIter _ _ (lo+((0:Nat):Int)*c) (((u5 lo hi c:Nat):Int)-((0:Nat):Int)) c;rw[e1,e2];show AJ _ rfl
 .have e:b=(s.heap.push { cls:=.type "range",data:=.fields [.int lo t,.int hi u,.int c v].toArray }).objs.size:=by exists hb
  subst e;show I1.oX (Ak _) (I1.zm.fresh (Ak _))
def Nk (ta:TA):TI:=fun Y H R=>ta Y H λ vs H1=>∃ i j c:Int,vs=[.int i,.int j,.int c]/\(-(2 ^ 31)<=i/\i<2 ^ 31/\-(2 ^ 31)<=j/\j<2 ^ 31/\0<c/\c<1000000)/\R (kJ i c (u5 i j c)) H1
theorem VF {a b c:Expr}{ta:TA}{p pos:Pos}(hg:Gl X "range") (hm:X.mg "range"=none) (ha:PA X [a,b,c] ta) (hs:starEach [a,b,c] X.env=[(false,eval a X.env),(false,eval b X.env),(false,eval c X.env)]:=by rfl) (Ho:starEach [b,c] X.env=[(false,eval b X.env),(false,eval c X.env)]:=by rfl):
  PI X tg (.Call (.Name "range" p) [a,b,c] [] pos) (Nk ta):=by
 intro Ff s Y H R I h;exact Call_ (rZ I hg hm boot_range (PyProof.Rows.callWith_type1 (zw (ha pos Ff s Y H _ I h) λ us s1 #[vs,H1,I1,r1,q1]=>?_) (by rw[hs,Ho]) (by rw[Ho];rfl)));let#[i,j,c,e,#[q1,q2,q3,q4,q5,q6],q]:=q1;subst e;cases r1 with
 | cons r rr=>
  cases rr with
  | cons r' rr=>
   cases rr with
   | cons r2 rr=>
    cases rr;let#[t,rfl]:=r;let#[t',rfl]:=r';let#[t2,rfl]:=r2;show call_range_3 ⋯ (WZ I1 q1 q2 q3 q4 q5 q6 q) (.inl (PyProof.noPylong_small ⋯))
end
end L2
namespace L3
open PySem PySem.Spec L2
open PyProof.Rows hiding St
section
variable {X:Cx}{K:Ac}{tg e a b c:Expr}{es:List Expr}{tA:ya}{pos p:Pos}
def tS (lo c:Int) (n:Nat):List D:=(List.range n).map λ(k:Nat)=>D.int (lo+(k:Int)*c)
def Vd {lo c:Int}{n i:Nat}{d:D}(h:(tS lo c n)[i]?=↑d):i<n/\d=.int (lo+(i:Int)*c):=by
 unfold tS at h;rw[AR] at h;cases q:(List.range n)[i]? with
 | none=>rw[q] at h;cases h
 | some k=>
  rw[q] at h;let#[h1,h2]:=AU.mp q;rw[Cv] at h1;rw[DT] at h2;subst h2;cases h;show#[h1,rfl]
def ma.Va {H1:Hp}{lo c:Int}{n:Nat}:ma K H1 (kJ lo c n) #[tS lo c n,λ _=>True]:=λ i H S _ x2 _=>by
 exact#[λ d hd=>?_,λ hl=>by rw[show (pS.mk (tS lo c n) λ _=>True).items=tS lo c n from rfl] at hl;unfold tS at hl;rw[AA,Cv] at hl;show hl];let#[h1,rfl]:=Vd hd;exact#[h1,λ x H' q=>?_];let#[rfl,rfl]:=q;show#[.refl _,x2,by simp![zf]]
def cT (t:ya):xZ:=fun L S R=>t L S λ ds S1=>match ds with
 | [.int i,.int j,.int c]=>(-(2 ^ 31)<=i/\i<2 ^ 31/\-(2 ^ 31)<=j/\j<2 ^ 31/\0<c/\c<1000000)/\R #[tS i c (u5 i j c),λ _=>True] S1
 | _=>False
def zj.three {H:Hp}{d d' d2:D}{xs:List V}(h:zj K H [d,d',d2] xs):∃ x y z,xs=[x,y,z]/\zf K H d x/\zf K H d' y/\zf K H d2 z:=by
 simp![zj] at h;let#[x,r,rfl,h1,y,r',rfl,h2,z,r2,rfl,h3,rfl]:=h;show#[x,y,z,rfl,h1,h2,h3]
def Tb (hm:X.mg "range"=none) (ha:yO X [a,b,c] tA) (hg:Gl X "range") (hs:starEach [a,b,c] X.env=[(false,eval a X.env),(false,eval b X.env),(false,eval c X.env)]) (Ho:starEach [b,c] X.env=[(false,eval b X.env),(false,eval c X.env)]):uq X tg (.Call (.Name "range" p) [a,b,c] [] pos) (cT tA):=by
 exact#[fun L S Q Q' hq z=>ha.mo L S _ _ (λ ds S1 z=>?_) z,PI.imp (VF hg hm ha.pa hs Ho) fun Y H R hu=>?_]
 .split at z
  .show#[z.1,hq _ _ z.2]
  .show z.elim
 .let#[L,S,r1,r2,z]:=hu;exact xQ.go ha.mo r1 r2 z λ ds S1 xs H1 h1 q1 e1 p1=>?_;split at h1
  .let#[x,y,w,rfl,q,q',q2]:=q1.three;simp![zf] at q q' q2;subst q q' q2;show#[_,_,_,rfl,h1.1,h1.2 _ H1 e1 p1 .Va]
  .show h1.elim
def tj:xk:=λ ds S Q=>match ds with
 | [.int i]=>Q (.int (if i<0 then -i else i)) S
 | _=>False
def tj.mo:vh tj:=λ ds S Q Q' hq h=>by
 unfold tj at h ⊢;split at h
 .show hq _ _ h
 .show h.elim
def tj.fits:uu K tj (λ xs H Q=>∃ i,xs=[.int i]/\Q (.int (if i<0 then -i else i)) H):=λ xs ds H S Q h0 h2 h=>by
 unfold tj at h;split at h
 .let#[x,rfl,h1]:=h0.one;simp![zf] at h1;subst h1;show#[_,rfl,h _ H (by simp![zf]) (.refl H) h2]
 .show h.elim
def SN (hm:X.mg "abs"=none) (ha:yO X (e::es) tA) (hg:Gl X "abs") (he:AE X e es) (Ao:AI X pos es):PD X (.Call (.Name "abs" p) (e::es) [] pos) (xr tj tA):=
 uP (uO Lb hg hm boot_abs ha.pa () () he Ao) tj.mo tj.fits ha.mo
def uJ (_ j:Int):Prop:=0<j/\j<2 ^ 200
def sC (i j:Int):Prop:=i.natAbs<2 ^ 200/\j.natAbs<2 ^ 200
instance (i j:Int):Decidable (uJ i j):=by unfold uJ;infer_instance
instance (i j:Int):Decidable (sC i j):=by unfold sC;infer_instance
def cC {n:Nat}(h:n<2 ^ 200):n.log2<200:=by
 rcases Eo n with h0 | hp
 .rw[h0];decide
 .show (Nat.log2_lt (Bo hp)).mpr h
def Zq {i:Int}(h:i.natAbs<2 ^ 200):Builtin.Int.intBits i<=2 ^ 20:=by
 have:=cC h;unfold Builtin.Int.intBits;split <;> lia
def Ru:zZ X (binaryOp .FloorDiv) (rI uJ λ i j=>.int (i/j)):=qN λ i j _ _ _ _ _ hc q=>by
 have h1:(0:Int)<j:=hc.1;have h2:j.natAbs<2 ^ 200:=by have:=hc.2;lia
 have h3:=cC h2;show floordiv_int ⋯ (by rw[Int.fdiv_eq_ediv_of_nonneg i ⋯];show q) (.inl (PyProof.noPylong_of_log2 ⋯))
def Ri:zZ X (binaryOp .Mult) (rI sC λ i j=>.int (i*j)):=qN λ _ _ _ _ _ _ _ hc q=>mul_int q (PySem.IntMulOk.of_bits (Zq hc.1) (Zq hc.2))
variable {ta tb:zp}
def Su (ha:PD X a ta) (hb:PD X b tb):PD X (.BinOp a .FloorDiv b pos) (yk (fI uJ λ i j=>.int (i/j)) ta tb):=sJ Ru (fI.fits λ _ _ _=>by simp![zf]) fI.mo ha hb
def TH (ha:PD X a ta) (hb:PD X b tb):PD X (.BinOp a .Mult b pos) (yk (fI sC λ i j=>.int (i*j)) ta tb):=sJ Ri (fI.fits λ _ _ _=>by simp![zf]) fI.mo ha hb
end
end L3
namespace L5
open PySem PySem.Spec L2 L3
open PyProof.Rows hiding St
structure Yz (mg:Au):Prop extends Bq mg where
 abs:mg "abs"=none
@[simp] def gp:Ap
 | [.int i]=>↑(.int (if i<0 then -i else i))
 | _=>none
def N8:vi zE gp tj:=λ S Z ys z ds Q hz hv e hq=>by
 unfold gp at e;split at e
 .cases e;let#[d,rfl,h1]:=wY hv;cases h1.int;show hq _ S (.refl S) (Cl.of (λ _=>nofun) xw)
 .cases e
@[simp] def xW:T->T->Option T:=qb uJ λ i j=>.int (i/j)
@[simp] def vv:T->T->Option T:=qb sC λ i j=>.int (i*j)
def QX {fa fb:Ag}{ta tb:zp}(ha:yi fa ta) (hb:yi fb tb):yY (za xW fa fb) (yk (fI uJ λ i j=>.int (i/j)) ta tb):=tV (oU (λ _ _ _=>xw) λ _ _ _=>nofun) ha hb
def Q9 {fa fb:Ag}{ta tb:zp}(ha:yi fa ta) (hb:yi fb tb):yY (za vv fa fb) (yk (fI sC λ i j=>.int (i*j)) ta tb):=tV (oU (λ _ _ _=>xw) λ _ _ _=>nofun) ha hb
def sV (j:Int):Bool:=decide (-1000000<=j)&&decide (j<1000000)
def mU (lo c:Int) (n:Nat):List T:=(List.range n).map λ(k:Nat)=>T.int (lo+(k:Int)*c)
def W3 {S:SS}(lo c:Int) (n:Nat):zi S (mU lo c n) (tS lo c n):=by
 unfold mU tS
 induction List.range n with
 | nil=>show .nil
 | cons k l ih=>show .cons xw ih
def oj:List T->Option (List T)
 | [.int i,.int j,.int c]=>if (sV i=true/\sV j=true)/\sV c=true/\0<c then ↑(mU i c (u5 i j c)) else none
 | _=>none
def Xy {S:SS}{Z:Addr->Prop}{a b c:T}{ds:List D}(h:pB S Z [a,b,c] ds):∃ d d' d2,ds=[d,d',d2]/\Vw S Z a d/\Vw S Z b d'/\Vw S Z c d2:=by
 let#[d,cs,rfl,h1,d',cs2,rfl,h2,d2,cs3,rfl,h3,h4]:=h;cases h4;show#[d,d',d2,rfl,h1,h2,h3]
def RW {b:Bool}{g:Ev->Option (List T)}{tA:ya}(h:rD g tA):rC b (xh oj g) (cT tA):=λ S Z L J ts Q hE e hq=>by
 let#[ys,e1,e2]:=Al.mp e;exact h S Z L J ys _ hE e1 λ ds S1 s1 r1=>?_;unfold oj at e2;split at e2
 .split at e2
  .rename_i hc;cases e2;let#[d,d',d2,rfl,h1,h2,h3]:=Xy r1;cases h1.int;cases h2.int;cases h3.int;simp![sV,BQ,decide_eq_true_eq] at hc;show#[#[⋯,⋯,⋯,⋯,⋯,⋯],hq _ S1 s1 (W3 _ _ _) λ _ _=>trivial]
  .cases e2
 .cases e2
end L5
namespace PySem
section
variable {prog:Program}{w:World}{A:Around}{E:Af}{h:Heap}{g:Array GenState}{d:Drawn}{t:Nat}{os:OsState}
variable {nm q:Str}{C N:Addr}{bs bm FH:Ae}{hdct:Bool}{sn:List Str}{sub:Ae}{ab:Bool}{col:Option Bool}{dd:Option Addr}{k0 k1 k2 k3 k5:Option Value}{B newId G8:String}
def Xb (F:ExcBaseFacts B newId G8 FH) (T:OwnTail h FH bm) {mN:Au}{Fh:Ae}{Q:Fin->Shared->Prop}
  (hC:h.get? C=↑(excClassObj nm q C N bs bm hdct sn sub ab col dd k0 k1 k2 k3 k5 newId)) (hn:h.Ns N mN) (hi:mN "__init__"=none)
  (hq:∀ h' e,h.objs.size<=e->Heap.MadeExcOf h h' e (.ref C) Fh->Q (.done (.ret (.ref e))) #[h',g,d,t,os]) (Gg:Fh.length<=sizeLine):
  wpAny (model prog w) A (Builtin.«type.__call__» #[.ref C::Fh,[]]) Q E #[h,g,d,t,os]:=by
 repeat (first | with_reducible exact za4 hC ?_ | with_reducible exact wpAny_madeBy_exc hC ?_ | wp_step)
 exact codeAny_call_builtin_code (Code.quiet_builtin _ F.quiet) (wpAny_check_new_subT F T hC ?_);exact codeAny_exc_new_subT F T hC ?_ Gg;change wpAny _ _ _ _ _ _;have up:∀ b o,h.get? b=↑o->((h.push { cls:=.type "tuple",data:=.seq Fh.toArray }).push { cls:=.ref C,data:=.fields [.ref h.objs.size,.none,.none,.none,.bool false,.none].toArray }).get? b=↑o:=λ b o e=>gV _ (gV _ e);have K8:=up _ _ hC;have CP:((h.push { cls:=.type "tuple",data:=.seq Fh.toArray }).push
   { cls:=.ref C,data:=.fields [.ref h.objs.size,.none,.none,.none,.bool false,.none].toArray }).get? (h.objs.size+1)=some
   { cls:=.ref C,data:=.fields [.ref h.objs.size,.none,.none,.none,.bool false,.none].toArray }:=by heap_get
 have hcC:(Value.ref C::bm).contains (.ref C)=true:=#[];unfold isInstance
 repeat (first | with_reducible exact za4 CP ?_ | (with_reducible exact zaF K8 ?_;rw[hcC]) | wp_step)
 change wpAny _ _ (typeLookup (.ref C) _) _ _ _;exact wpAny_typeLookup_tail K8 (hn.keeps up) (T.keeps up) F.mroIs F.init.lookup ?_;rw[hi];exact za7 (Kj (wpAny_of_eq (F.init.bind _) ?_));exact Kj (wpAny_call (codeAny_call_builtin F.init.plain F.initEntry (wpAny_check_init_subT F (T.keeps up) K8 CP rfl ?_)))
 wp_walk
 rw[if_neg (show ¬ ([].append Fh).toArray.size>sizeLine from Nat.not_lt_of_le Gg)]
 wp_walk
 exact hq _ _ (DH _) #[λ b o hb=>?_,zaO (DH _),h.objs.size+2,?_,zaO ⋯,?_]
 .rw[za6 _ _ (Bo (Co (Aq hb)))];show gV _ (up _ _ hb)
 .rw[za8 _ (gV _ CP) rfl];simp![Heap.size_push];rfl
 .rw[za6 _ _ (show h.objs.size+1≠h.objs.size+2 by lia)];show Heap.get?_push_at (by simp![Heap.size_push]) rfl
def Xk (F:ExcBaseFacts B newId G8 FH) (T:OwnTail h FH bm) {mN:Au}{Fh:Ae}{Q:Af}
  (hC:h.get? C=↑(excClassObj nm q C N bs bm hdct sn sub ab col dd k0 k1 k2 k3 k5 newId)) (hn:h.Ns N mN) (hi:mN "__init__"=none)
  (hq:∀ h' e,h.objs.size<=e->Heap.MadeExcOf h h' e (.ref C) Fh->Q (.ref e) #[h',g,d,t,os]) (Gg:Fh.length<=sizeLine):
  wpAny (model prog w) A (call (.ref C) Fh) Q E #[h,g,d,t,os]:=by
 have f1:=tc_lookup;have f2:=tc_bind (.ref C);have hT:(#[h,g,d,t,os]:Shared).TypeIs (.ref C) "type":=#[_,hC,rfl];exact wpAny_call (codeAny_of_tree ?_);change wpAny _ _ (callAny (.ref C) _) _ _ _
 repeat (any_goals (first | assumption | with_reducible exact za4 hC ?_ | wp_step))
 exact#[rfl,?_];show codeAny_call_builtin_at (Code.quiet_builtin _ (AG)) entry_typeCall (wpAny_check_type_call_sub hC (Xb F T hC hn hi hq Gg))
end
end PySem
namespace L3
open PySem PySem.Spec L2
open PyProof.Rows hiding St
def kK (K:Ac) (mg:Au) (c:Str):Prop:=∃ C P N NP,rJ K c C P N NP/\mg c=↑(.ref C)/\PySem.W.keepIn K (.ref C)=true/\PySem.W.nsIn K N "__init__"=↑none
def Ez (K:Ac) (c:Str):Prop:=∃ C P N NP,rJ K c C P N NP/\PySem.W.keepIn K (.ref C)=true/\PySem.W.nsIn K N "__init__"=↑none
def Ez.i {K:Ac}{c:Str}{C P:Addr}{o1 o2:Value}{d1 d2:Option Addr}{c1 c2:ClassData}{s1 s2:Array (Option Value)}(_:PySem.W.nsIn K mainGlobals c=↑↑(.ref C)) (_:PySem.W.nsIn K mainGlobals "PurseError"=↑↑(.ref P)) (_:K.lookup C=↑#[o1,d1,.cls c1,s1]) (_:K.lookup P=↑#[o2,d2,.cls c2,s2])
  (h:lM K c=↑(C,P,c1.ns,c2.ns)) (k:PySem.W.keepIn K (.ref C)=true) (n:PySem.W.nsIn K c1.ns "__init__"=↑none):Ez K c:=#[C,P,_,_,b_ h,k,n]
def Ez.mk {K:Ac}{mg:Au}{h:Heap}{c:Str}(H:Ez K c) (X:K.In h) (G:h.Ns mainGlobals mg):kK K mg c:=by
 let#[C,P,N,NP,e,k,n]:=H;show#[C,P,N,NP,e,PySem.W.mg_of X G e.top,k,n]
def Xn {X:Cx}{c:Str}{p pos Ks:Pos}{Ff:Aj}{Y:St}{H:Hp}{s:Shared}{Q:Addr->Hp->Prop}{R:Flow->Shared->Prop}
  (G:kK X.K X.mg c) (hc:X.calm=true) (hg:Gl X c) (Bc:(c == ("__debug__":Str))=false)
  {W:Af}(hW:∀ v s',XP X Ff false Y Q v s'->W v s') (I:Inv X Ff Y H s) (h:∀ a H',gw H H'->LF X.K c "" .zr a H'->Q a H'):
  wpAny (model X.prog X.w) X.A (exec (.Raise ↑(.Call (.Name c p) [] [] pos) none Ks) X.env) R W s:=by
 let#[C,P,N,NP,hE,hm,hk,hi]:=G;let#[#[q,bs,sn,sub,ab,col,dd,k0,k1,k2,k3,k5,lk],_,_]:=id hE.own;rw[arm_exec_Raise];exact Kj (wpAny_standAt (Xc (C:=C) (nm:=c) (q:=q) (N:=N) (bs:=bs) (bm:=.ref P::vF) (hdct:=true) (sn:=sn) (sub:=sub) (ab:=ab) (col:=col) (dd:=dd) (k0:=k0) (k1:=k1) (k2:=k2) (k3:=k3) (k5:=k5) (newId:="ValueError.__new__")
  (by rw[BG,show vF.contains (.type "BaseException")=true from by decide,CB]) (I.ok.hd hc) (Kj (tp ?_ (λ v s₃ h₃=>Kj (wpAny_standAt (Ad h₃))) λ _ _ x=>x))))
 exact zaM (oJ I hg hm ?_ Bc);exact PySem.W.callWith_K0 I.yD hk ?_;let#[hh,g,d,t,os]:=s;have hC:=I.yD _ _ lk;let#[_,hN,hnn]:=hE.own.at I.yD;let#[#[q',JR,Jg,Hv,JS,HH,HM,l0,l1,l2,l3,l5,hP],J_,HS]:=hE.par.at I.yD;have T:OwnTail hh vF (.ref P::vF):=.own hP J_ (PySem.W.ns_none_of I.yD J_ hE.V9) .base;exact Xk PySem.F.excBase_ValueError T hC hN (PySem.W.ns_none_of I.yD hN hi) (λ h' e hle M=>?_) ();let#[va,m1,m2,m3]:=M.there;have I2:Inv X Ff Y (upd H e (Kc e C va)) #[h',g,d,t,os]:=I.laid (t':=t) M.keeps hle #[m1,#[_,m1],λ h1 h2 a b=>b _ a];have en:H e=none:=I.zm.fresh hle;let#[u3,ok3]:=X6 (fs:=X.fs) (ψ:=λ h=>∃ oe vs,h.get? e=↑oe/\oe.cls=.ref C/\oe.dict=none/\oe.data=.fields vs) I2.zm yf #[_,_,m1,rfl,rfl,rfl] (λ h1 h2 #[oe,vs,a,b] k=>#[oe,vs,k _ a,b]);have I4:=I2.un (t':=t) u3 ok3;exact#[e,none,va,_,rfl,I2.yD _ _ lk,m1,hW _ _ #[e,Ff,Y,_,rfl,nofun,I4,#[C,none,yf],.inl #[rfl,_,_,_,m1,rfl,rfl,rfl],h e _ (λ b o z=>?_) #[C,none,#[P,N,NP,hE],yf,rfl,rfl]]];have b1:b≠e:=λ y=>by rw[y,en] at z;cases z
 rw[zO b1,zO b1];show z
def Uv {X:Cx}{c:Str}{p Ah pos:Pos}(G:kK X.K X.mg c) (hg:Gl X c) (hc:X.calm=true) (Bc:(c == ("__debug__":Str))=false):
  rA X false (.Raise ↑(.Call (.Name c p) [] [] Ah) none pos) (aG c "" (dC .zr)):=by
 exact#[λ E E' L S hE z=>hE.rt _ _ z,λ Ff s Y H D Q W hW I #[L,S,r1,r2,z]=>?_];exact Xn G hc hg Bc hW.xp I λ a H' sm #[C,dx,hE,h2,h3]=>?_;exact z.2 rfl a H' ?_ (.same sm) (r2.same sm);simp![zf];show#[a,C,dx,.zr,rfl,#[hE,h2,h3],rfl]
end L3
namespace L5
open PySem PySem.Spec L2 L3
open PyProof.Rows hiding St
@[simp] def fk (i:Nat) (F:Ap) (g:Ev->Option (List T)):Sm:=fun J=>(g J).bind λ ys=>(F ys).map λ y=>match y with
 | .lst ts=>.nx (J.set i ↑(.own (.lst ts)))
 | y=>if wj y=true then .rt y else .nx (J.set i ↑(.im y))
def dX (i:Nat) {F:Ap}{ga:Ev->Option (List T)}{ua:ya}(h:qv ga ua):nY (fk i F ga) (aD i (zJ zE F) ua):=λ S0 Z0 S Z L J o E Fr e P=>by
 let#[ys,e1,e2]:=Al.mp e;let#[y,e3,rfl]:=AM.mp e2;exact h S Z L J ys _ Fr.er e1 λ ds S1 s1 r1=>#[Z,ys,y,(Fr.er.grow s1).zd,r1,e3,λ d S2 s2 r2=>#[λ he=>?_,λ he=>?_]]
 .rw[og (Sr.sn r2)] at he;cases y with
  | err _ _ _=>show P rfl d S2 (s1.trans s2) (Sr.sn r2)
  | _=>cases he
 .rw[og (Sr.sn r2)] at he;cases y with
  | lst ts=>
   let#[p,ds,rfl,h1,h2,h3]:=r2.2 ts rfl;show P S2 _ _ ((Fr.grow s1).jr (ts:=.lst ts) (ds:=.lst ds) s2 i h1 h2 h3)
  | err _ _ _=>cases he
  | _=>show P S2 Z _ ((Fr.grow (s1.trans s2)).rR i (Sr.sn r2))
end L5
namespace L3
open PySem PySem.Spec PyProof.Rows L2
theorem zj.rev {K:Ac}{H:Hp}:∀ {ds:List D}{xs:List V},zj K H ds xs->zj K H ds.reverse xs.reverse
 | [],xs,h=>by simp![zj] at h;subst h;show .nil
 | d::ds,xs,h=>by
  simp![zj] at h;let#[x,r,rfl,h1,h2]:=h;rw[C1,C1];show (zj.rev h2).append (by simp![zj];show#[x,[],rfl,h1,rfl])
section
variable {X:Cx}{K:Ac}{o:Expr}{to:zp}{apos Ah:Pos}
def ny (to:zp):zp:=fun L S Q=>to L S λ x S1=>match x with
 | .ref p=>∃ ds,S1 p=↑(.lst ds)/\Q .zr (ups S1 p (.lst ds.reverse))
 | _=>False
theorem T4 {e0:Expr}(Dp:PE X e0 (fU X.K "list" eX (zD X.K to))) (h:zX to):PD X e0 (ny to):=by
 exact#[fun L S Q Q' hq z=>h L S _ _ (λ x S1 z=>by
  cases x with
  | ref p=>let#[ds,a,b]:=z;show#[ds,a,hq _ _ b]
  | _=>show z) z,PE.imp Dp fun Y H Q hu=>?_]
 let#[L,S,r1,r2,z]:=hu;exact zD.go h r1 r2 z λ x S1 v H1 h1 q1 e1 p1=>?_;cases x with
 | ref p=>
  let#[ds,hd,h1]:=h1;simp![zf] at q1;subst q1;let#[xs,g1,g2]:=p1 _ _ hd;exact#[.inl #[rfl,xs,zG.of g1],p,xs,rfl,rfl,g1,?_];have e4:Ext H1 (upd H1 p (.lst xs.reverse)):=.lst g1 _;show h1 _ _ (by simp![zf]) (e1.trans e4) (p1.ups e4 #[_,yf,zj.ext e4 _ (zj.rev g2)])
 | _=>show h1.elim
def TN (ho:PD X o to) (Fz:attributeBase o "reverse" X.env (eval o X.env)=eval o X.env) (FP:(apos.endLine == Ah.line)=true):
  PD X (.Call (.Attribute o "reverse" apos) [] [] Ah) (ny to):=
 T4 (Ur PySem.F.plainAttrs_list PySem.F.slot_list_reverse PySem.F.type_list_reverse PZ ho.pe Fz FP) ho.mo
end
end L3
namespace L5
open PySem L2 L3
@[simp] def js (i:Nat):Sm:=fun J=>match J[i]? with
 | some ↑(.own (.lst ts))=>↑(.nx (J.set i ↑(.own (.lst ts.reverse))))
 | _=>none
section
variable {R:Rk}
def RB (i:Nat):zW R (js i) (nF (ny (yh i))):=λ S0 Z0 S Z L J o E F e P=>by
 unfold js at e;split at e
 .rename_i ts h;cases e;let#[p,ob,h1,h2,h3,h4]:=F.er.ow i _ h;obtain⟨ds,rfl⟩:∃ ds,ob=.lst ds:=by
   cases ob with
   | lst ds=>show#[ds,rfl]
   | zB _=>show h3.elim
  change ny (yh i) L S _;unfold ny yh;rw[h1];show#[ds,h2,P _ Z L (F.mut (us:=.lst ts.reverse) (es:=.lst ds.reverse) i h h1 (show zi (zK S Z) ts.reverse ds.reverse from zi.rev h3))]
 .cases e
end
end L5
namespace L2
open PySem PySem.Spec PyProof.Rows
section
variable {X:Cx}
def ia (k:Str):Value->Bool
 | .str a _=>a == k
 | _=>false
theorem fy:∀ {ss:List Str}{us:Ae},Vals (ss.map V.str) us->∀ (i:Nat) y,us[i]?=↑y->∃ s t,ss[i]?=↑s/\y=.str s t
 | [],us,h,i,y,e=>by cases h;simp at e
 | s::ss,us,h,i,y,e=>by
  cases h with
  | cons r rr=>
   cases i with
   | zero=>
    let#[t,rfl]:=r;simp at e;show#[s,t,rfl,e.symm]
   | succ i=>show fy rr i y (by exists e)
def Vh (K:Ac):V->List V->Hp->VK->Prop:=λ x vs H Q=>∃ (l:Addr) (ss:List Str) (k:Str),x=.ref l/\vs=[.str k]/\zG K H l (ss.map V.str)/\k∈ss/\Q (.int (ss.idxOf k:Nat)) H
theorem P_:gF X "list.index" (Vh X.K):=by
 intro Ff s Y H x vs v us Q I rx rv h;let#[l,ss,k,rfl,rfl,hq,hk,q]:=h;cases rx;let#[u,rfl,ru]:=rv.one;let#[t,rfl]:=ru;let#[Aa,r,pl,hz]:=I.list hq;let#[#[cls,dd,data,sl],ho,hc,n,hd]:=pl.isList;simp only at hc hd;subst hc hd;have hlen:Aa.length=ss.length:=by have:=r.length;rw[AA] at this;show this.symm
 have hj:ss.idxOf k<ss.length:=List.idxOf_lt_length_iff.mpr hk;have hb:ss.length<=sizeLine:=by exists hz
 have h63:sizeLine<2 ^ 62:=()
 have at':∀ (i:Nat) (hi:i<Aa.length),∃ s' t',ss[i]?=↑s'/\Aa[i]=.str s' t':=λ i hi=>fy r i _ (A7 hi);exact call_meets PySem.F.slot_list_index #[_,ho,rfl] PySem.F.entry_list_index (PySem.F.args_list_index_2 _ _)
  (PySem.SeqAt.list_indexAt l Aa.toArray n dd sl (.str k t) (ia k) (ss.idxOf k) (by simpa [hlen] using hj) ⋯ ?_ ?_) #[ho,λ y hy=>?_,#[.int _,H,I.tok _,#[_,rfl],q]]
 .change ia k Aa[ss.idxOf k]=true;let#[s',t',e1,e2]:=at' (ss.idxOf k) ⋯;rw[e2];rw[A7 hj,List.getElem_idxOf hj] at e1;cases e1;show beq_self_eq_true k
 .intro j hjs AB;change ia k Aa[j]=false;let#[s',t',e1,e2]:=at' j (by exists hjs);rw[e2];have hjn:j<ss.length:=⋯;rw[A7 hjn] at e1;cases e1;have:=List.not_of_lt_findIdx (p:=(· == k)) (xs:=ss) (i:=j) AB;change (ss[j] == k)=false;exists this
 .let#[i,hi,rfl]:=List.getElem_of_mem (show y∈Aa by exists hy);let#[s',t',e1,e2]:=at' i hi;rw[e2];show PySem.SeqAt.EqAt.str_str s' t' k t
end
end L2
namespace L3
open PySem PySem.Spec L2
open PyProof.Rows hiding St
section
variable {X:Cx}{K:Ac}{H:Hp}{o e:Expr}{to te:zp}{apos Ah:Pos}
def sO (d:D) (S:SS) (ss:List Str):Prop:=match d with
 | .xn es=>es=ss.map D.str
 | .ref a=>S a=↑(.lst (ss.map D.str))
 | _=>False
theorem zj.strs:∀ {ss:List Str}{xs:List V},zj K H (ss.map D.str) xs->xs=ss.map V.str
 | [],xs,h=>by simpa only [Bh,zj] using h
 | n::ns,xs,h=>by
  rw[Ar] at h;simp![zj,zf] at h;let#[x,r,h1,h2,h3]:=h;subst h1 h2;rw[Ar,zj.strs h3]
theorem sO.sq {S:SS}{d:D}{v:V}{ss:List Str}(r:zf K H d v) (p:zC K H S) (h:sO d S ss):∃ a,v=.ref a/\zG K H a (ss.map V.str):=by
 unfold sO at h;split at h
 .subst h;simp![zf] at r;let#[a,xs,r1,r2,r3]:=r;rw[r3.strs] at r2;show#[a,r1,r2.sq]
 .rename_i a;simp![zf] at r;let#[xs,x1,x2]:=p a _ h;rw[x2.strs] at x1;show#[a,r,.inl (.inl x1)]
 .show h.elim
def aL (to te:zp):zp:=fun L S Q=>to L S λ x S1=>(∃ ns,sO x S1 ns)/\te L S1 λ y S2=>∃ (ns:List Str) (k:Str),sO x S2 ns/\y=.str k/\k∈ns/\Q (.int (ns.idxOf k:Nat)) S2
def Sj (ho:PD X o to) (he:PD X e te)
  (Fz:attributeBase o "index" X.env (eval o X.env)=eval o X.env)
  (AQ:((backTo Ah (starEach [e] X.env)).all (λ x=>!x.1)&&(backToKw Ah (keywordEach [] X.env)).all (λ x=>x.1.isSome)
   && decide ([e].length+([]:List Keyword).length+(if ([]:List Keyword).isEmpty then 0 else 1)<30))=true)
  (FP:(apos.endLine == Ah.line)=true) (hs:AE X e []) (F4:AI X Ah []):
  PD X (.Call (.Attribute o "index" apos) [e] [] Ah) (aL to te):=by
 exact#[fun L S Q Q' hq z=>ho.mo L S _ _ (λ x S1 z=>#[z.1,he.mo L S1 _ _ (λ y S2 #[ns,k,h1,h2,h3,h4]=>#[ns,k,h1,h2,h3,hq _ _ h4]) z.2]) z,PE.imp (jB PySem.F.plainAttrs_list PySem.F.slot_list_index PySem.F.type_list_index P_ ho.pe (uQ he.pe sL hs) Fz AQ FP hs F4) fun Y H Q hu=>?_];let#[L,S,r1,r2,z]:=hu;exact zD.go ho.mo r1 r2 z λ x S1 v H1 h1 q1 e1 p1=>?_;let#[#[ns,hn],h1]:=h1;let#[a,rfl,sq]:=sO.sq q1 p1 hn;exact#[.inl #[rfl,_,sq],?_];exact zD.go he.mo (r1.ext e1) p1 h1 λ y S2 w H2 h2 q2 e2 p2=>?_;let#[ms,k,g1,rfl,g3,g4]:=h2;let#[b,eb,sq2]:=sO.sq (zf.ext e2 x q1) p2 g1;cases eb;simp![zf] at q2;subst q2;show#[a,ms,k,rfl,rfl,sq2,g3,g4 _ H2 (by simp![zf]) (e1.trans e2) p2]
end
end L3
namespace L5
open PySem PySem.Spec L2 L3
open PyProof.Rows hiding St
def jk:List T->Option (List Str)
 | []=>↑[]
 | .str s::ts=>(jk ts).map (s::·)
 | _::_=>none
theorem fV:∀ {ts:List T}{ss:List Str},jk ts=↑ss->ts=ss.map T.str
 | [],ss,h=>by cases h;rfl
 | t::ts,ss,h=>by
  cases t with
  | str s=>
   let#[r,h1,rfl]:=AM.mp h;rw[fV h1];rfl
  | _=>cases h
theorem jq {S:SS}:∀ {ss:List Str}{ds:List D},zi S (ss.map T.str) ds->ds=ss.map D.str
 | [],ds,h=>by simpa only [Bh,zi] using h
 | s::ss,ds,h=>by
  rw[Ar] at h;simp![zi,Sn] at h;let#[d,r,rfl,rfl,h3]:=h;rw[Ar,jq h3]
def Vw.strs {S:SS}{Z:Addr->Prop}{ss:List Str}{d:D}(h:Vw S Z (.lst (ss.map T.str)) d):sO d S ss:=by
 rcases h with h | ⟨ts,p,ds,e,rfl,h1,h2,_⟩
 .simp![Sn] at h;let#[ds,h1,h2]:=h;have e:=jq h2;subst e;rcases h1 with ⟨rfl,_⟩ | ⟨a,rfl,h3⟩
  .rfl
  .show (uA h3).2
 .cases e;rw[jq h2] at h1;show h1
def ib:T->T->Option T
 | .lst ts,.str k=>(jk ts).bind λ ns=>if k∈ns then ↑(.int (ns.idxOf k:Nat)) else none
 | _,_=>none
def QV {fa fb:Ag}{ta tb:zp}(ha:yi fa ta) (hb:yi fb tb):yY (za ib fa fb) (aL ta tb):=λ S Z L J y Q hE e hq=>by
 unfold za at e;let#[x,e1,e]:=Al.mp e;let#[z,e2,e]:=Al.mp e;unfold ib at e;split at e
 .let#[ns,i1,i2]:=Al.mp e;split at i2
  .rename_i hk;cases i2;have ei:=fV i1;subst ei;exact ha S Z L J _ _ hE e1 λ d S1 s1 r1=>#[#[ns,Vw.strs r1],?_];exact hb S1 Z L J _ _ (hE.grow s1) e2 λ d2 S2 s2 r2=>?_;cases r2.str;show#[ns,_,Vw.strs (Vw.grow r1 s2),rfl,hk,hq _ S2 (s1.trans s2) (Cl.of (λ _=>nofun) xw)]
  .cases i2
 .cases e
end L5
namespace L3
open PySem PySem.Spec L2
open PyProof.Rows hiding St
section
variable {X:Cx}{e:Expr}{es:List Expr}{tA:ya}{pos p:Pos}
def vq (i:Nat) {x:Str}(hN:X.N[i]?=↑x:=by rfl) (hv:k8 X.env.scope x:=by first | show Or.inl rfl | show Or.inr (Or.inl rfl) | show Or.inr (Or.inr rfl)) (hd:(x == ("__debug__":Str))=false:=by decide) (BA:(x == ("__classdict__":Str))=false:=by decide):PD X (.Name x pos) (yh i):=Tt i (pv i hN hv hd BA)
def dM {x:Str}{k k':Nat}{ps:List Str}{sp:wb}(F:FD X.prog X.w X.K X.mg X.base x k ps sp) (hr:yb k' X.A) (ha:yO X (e::es) tA) (hk:k<=k') (hg:Gl X x) (Bc:(x == ("__debug__":Str))=false)
  (he:AE X e es) (Ao:AI X pos es):PD X (.Call (.Name x p) (e::es) [] pos) (lY sp tA):=SE F (hr.mono hk) ha hg Bc he Ao
end
def i7 {N P:List Str}{sc:Scope}(h1:sc.kind=.function:=by rfl) (h2:sc.isCoroutine=false:=by rfl) (h3:sc.isGenerator=false:=by rfl) (h4:N.Nodup:=by decide +kernel) (h5:N.take P.length=P:=by rfl) (h6:∀ x∈P,sc.names.lookup x=↑.local\/sc.names.lookup x=↑.cell:=by decide +kernel) (h7:∀ y∈sc.names,y.2≠.free:=by decide +kernel):vK N P sc:=#[h1,h2,h3,h4,h5,h6,h7]
end L3
namespace L5
open L2 L3
theorem lh {R:Rk}{g:Sm}{t:z_}(h:zW R g t:=by
 repeat' first
  | (with_reducible first | show Qo _ | apply Pq | apply Q3 | apply Q4 | apply QW)
  | (with_reducible first | show dY _ | exact tV (R:=xt) bE ?_ ?_ | exact jI (R:=xt) ?_ | apply dZ | apply d_)
  | ((try first | exact yT.fr ?_ | exact yT.fe ?_);with_reducible first | show QT _ | exact tV (R:=zE) (by with_reducible first | show good_add | show iq | show N6 | show N5 | show N4 | show ir | show iw | show Ny | show bD) ?_ ?_ | exact jI (R:=zE) ?_ | exact Pg (R:=zE) (by with_reducible first | show N3 | show Nv | show N2 | show N0 | show Nz | show N7 | show Nx | show Nw | show N1 | show good_int | show N8) ?_ | apply Qp | apply Qt | apply QA | apply QY | apply QB | show Po _ | show Qu _ | show Q5 | apply QD | apply QU | apply Q8 | exact Pf (by with_reducible first | show iq | show ir | show iw) (by with_reducible first | show iq | show ir | show iw) ?_ ?_ ?_ | apply Qz | apply Qw | show Pc _ | apply QS | apply QX | apply Q9 | apply QV)
  | (exact yT.er ?_;with_reducible first | show dY _ | exact tV (R:=xt) bE ?_ ?_ | exact jI (R:=xt) ?_ | apply dZ | apply d_)
  | (with_reducible first | apply R8 | apply RP | apply RG | show R7 | apply RD | apply RQ | apply RO | apply RI | apply R4 | show jH _ | apply RK | show RE | apply RH | apply R6 | apply RJ | show RB _ | show RM _ | apply RL | apply RF | apply RA | apply RC | apply R5 | apply dX)
  | (exact nY.s ?_;with_reducible first | apply dX)
  | show dW _
  | (with_reducible first | show Qk | apply Ql | show Qi | apply Qj | apply Qq | apply Qs | apply Q_ | apply QZ | apply Pb | show Qr | show Qb _ | show RZ | apply R_ | show Qc | apply Qd | apply RX | apply RT | apply RU | apply RY | apply RS | apply RW | show Qh | apply Qg)
  | (first | show Qf _ | apply Qa | apply Qe)
  | show zW.fv (jH _)
  | show zW.fv (dW _)
  | show Bool.false):zW R g t:=h
end L5
namespace L5
open PySem PySem.Spec L2 L3
open PyProof.Rows hiding St
def Cm (mg:Au) (x:Str) (t:V):Prop:=∃ u,mg x=↑u/\L2.RelV t u
def Hs (_:List (List Str×List (Option Nat))):Prop:=True
def Hq (s:Scope) (n:List Str):Bool:=s.names.all (λ y=>!(decide (y.2=.local)||decide (y.2=.free)||decide (y.2=.cell))||y.1 == ".0"||n.elem y.1)&&(s.names.filter λ y=>decide (y.2=.local)||decide (y.2=.free)||decide (y.2=.cell)).length == n.length+1
def Ht (_:List Str) (_:List (Option Nat)):Prop:=True
section
variable {n:List Str}{p:List (Option Nat)}{x y z:List Str×List (Option Nat)}{r:List (List Str×List (Option Nat))}
def Hs.a (_:Hs ((n,p)::r)):Ht n p:=trivial
def Hs.b (_:Hs (x::(n,p)::r)):Ht n p:=trivial
def Hs.c (_:Hs (x::y::(n,p)::r)):Ht n p:=trivial
def Hs.d (_:Hs (x::y::z::(n,p)::r)):Ht n p:=trivial
end
section
variable {X:Cx}{N' N:List Str}{pick:List (Option Nat)}{scope IX:Scope}{tg iter elt:Expr}{ifs:List Expr}{ti:xZ}{g:yS}{G5:yt}{te:zp}{pos:Pos}
def pl (_:Ht N' pick) (_:X.env.scope=IX) (_:X.N=N) (Sc:sA X N' pick scope) (_:Hq scope N'=true) (hi:uq X tg iter ti) (hg:∀ cl C s H fp,N'.Nodup->vH (yp X N' scope cl C s H fp) tg g) (hf:∀ cl C s H fp,N'.Nodup->pJ (yp X N' scope cl C s H fp) ifs G5) (he:∀ cl C s H fp,N'.Nodup->PD (yp X N' scope cl C s H fp) elt te)
  (nd:N'.Nodup) (hc:X.calm=true) (hs:∀ x,foldedSetIterable iter X.env x=pure x):
  PD X (.ListComp elt [#[tg,iter,ifs,0]] scope pos) (uE pick ti g G5 te):=TU Sc hc hi (λ cl C s H fp=>hg cl C s H fp nd) (λ cl C s H fp=>hf cl C s H fp nd) (λ cl C s H fp=>he cl C s H fp nd) hs
def VP {a b:Expr}{k:Nat}{t:x_}(h:pH X [a,b] t) (hc:X.calm=true) (hn:(assignEach [a,b] X.env).length=2) (AK:(assignEach [a,b] X.env).findIdx? (·.1)=none):vH X (.Tuple [a,b] k pos) (qX 2 t):=dG h hc hn AK
def VO {a b c:Expr}{k:Nat}{t:x_}(h:pH X [a,b,c] t) (hc:X.calm=true) (hn:(assignEach [a,b,c] X.env).length=3) (AK:(assignEach [a,b,c] X.env).findIdx? (·.1)=none):vH X (.Tuple [a,b,c] k pos) (qX 3 t):=dG h hc hn AK
def Sq {x y:Str}(h:Cm X.mg x (.str y)) (hg:Gl X x:=by rfl) (hd:(x == ("__debug__":Str))=false:=by decide):PD X (.Name x pos) (dC (.str y)):=let #[_,a,b]:=h;So a b hg hd
def UK {t:z_}{i j:Nat}{n c:Str}{body:List Stmt}{p1 p2 p3 p4 B4:Pos}(hN:X.N.Nodup) (hb:uo X true body t) (hi:X.N[i]?=↑n) (hj:X.N[j]?=↑c) (A6:i≠j)
  (hg:Gl X "PurseError") (Bl:X.env.kindOf n=↑.local) (Dk:Loc X.env.scope c) (DC:X.fn c=true\/X.env.scope.names.lookup c=↑.local) (BW:(n == ("__debug__":Str))=false) (Ds:(n == ("__classdict__":Str))=false) (Bv:swapsWith (.Name n p3) ↑(.Name c p2) p4.line X.env=pure false)
  (AK:X.stack=X.env::X.outer) (AV:X.env.frame=↑X.env.locals) (hn:∀ v s,¬ X.xe v s):xu X (.Try body [.ExceptHandler ↑(.Name "PurseError" p1) ↑n [.Assign [.Name c p2] (.Name n p3) p4] B4] [] [] pos) (iM i j t):=UL i j hN hb A6 hi hj hg Bl Dk DC BW Ds Bv AK AV hn
def mZ {i:Nat}{y:Str}{py Bk:Pos}(_:Ht N' pick) (_:X.env.scope=IX) (_:X.N=N) (hn:X.N.Nodup) (Sc:sA X N' pick scope)
  (Bv:swapsWith (.ListComp elt [#[tg,iter,ifs,0]] scope pos) ↑(.Name y py) Bk.line X.env=pure true) (_:Hq scope N'=true)
  (hi:uq X tg iter ti) (hg:∀ cl C s H fp,N'.Nodup->vH (yp X N' scope cl C s H fp) tg g) (hf:∀ cl C s H fp,N'.Nodup->pJ (yp X N' scope cl C s H fp) ifs G5) (he:∀ cl C s H fp,N'.Nodup->PD (yp X N' scope cl C s H fp) elt te)
  (nd:N'.Nodup) (hc:X.calm=true) (hy:X.N[i]?=↑y) (hx:Loc X.env.scope y)
  (Ci:X.fn y=true\/X.env.scope.names.lookup y=↑.local) (hs:∀ x,foldedSetIterable iter X.env x=pure x):
  xu X (.Assign [.Name y py] (.ListComp elt [#[tg,iter,ifs,0]] scope pos) Bk) (wO (uE pick ti g G5 te) (hName i)):=UQ Sc hc hi (λ cl C s H fp=>hg cl C s H fp nd) (λ cl C s H fp=>hf cl C s H fp nd) (λ cl C s H fp=>he cl C s H fp nd) hn hy hx Bv Ci hs
end
theorem pA {p:Prop}(h:p:=by
 repeat' first
  | show rfl
  | (change PD _ _ _;first | (change PD _ (.Name _ _) _;first | show vq 0 | show vq 1 | show vq 2 | show vq 3 | show vq 4 | show vq 5 | show vq 6 | show vq 7 | show vq 8 | show vq 9 | show vq 10 | show vq 11 | show vq 12 | show Sq (by assumption)) | show Si | show SG | show Tx | show TB | (change PD _ (.Subscript (.Name "lows" _) _ _) _;apply S8 hr) | (change PD _ (.Call _ [.Name "lows" _] _ _) _;apply S7 T.len) | show S9 | apply SA hr | apply T3 | apply T_ | apply Tv | apply TV | (change PD _ (.Call _ _ _ _) _;first | (apply dM;assumption) | (apply dM;show tJ.no (by assumption)) | apply TZ T.len | apply TX T.list T.range | apply TY T.list | apply Tu T.tuple | apply TL T.max | apply TK T.min | apply SJ T.any | apply Tz hr T.sorted U.set | apply T2 T.sorted | apply Sh T.int | apply Sd T | apply Sf T | apply Sb T | apply SN U.abs | apply TR | apply TQ | apply Sj | apply TN | (apply Sg;assumption) | apply L3.dH JI) | (change PD _ (.BinOp _ _ _ _) _;first | (have:=hB;first | apply Su | apply TH) | apply SM | apply Tw | apply TJ | apply Sv | apply TF | apply T5) | (change PD _ (.Compare _ _ _ _) _;first | apply Sz hr | apply Ss | apply L5.dH | apply SD jE jE fit_le fit_le xH.mo xH.mo) | apply SK | apply T6 | apply T7 | apply T9 | apply TC | apply Sk | (apply pl (Hs.a hc) hS hN;show rn hS hN;decide +kernel) | (apply pl (Hs.b hc) hS hN;show rn hS hN;decide +kernel) | (apply pl (Hs.c hc) hS hN;show rn hS hN;decide +kernel) | (apply pl (Hs.d hc) hS hN;show rn hS hN;decide +kernel))
  | (change yO _ _ _;first | show Tr | apply Ts)
  | (change yX _ _ _;first | (change yX _ (.Compare _ _ _ _) _;first | apply U9 hr | apply UE hr | apply U8 hr | apply UA | apply UD hr | apply U6 hr | apply UC | apply UB) | apply U7 | (apply sg.pt;first | apply dE | apply dF) | apply U5)
  | apply dE | apply dF | apply U3 | apply U4
  | (change wR _ _ _;first | show UH | apply UG | apply UI)
  | (change xu _ _ _;first | apply UO | apply US | apply UT PassesOwn.never rfl | apply UJ PassesOwn.never | (apply mZ (Hs.a hc) hS hN nd;show rn hS hN;rfl;decide +kernel) | (apply mZ (Hs.b hc) hS hN nd;show rn hS hN;rfl;decide +kernel) | (apply mZ (Hs.c hc) hS hN nd;show rn hS hN;rfl;decide +kernel) | (apply mZ (Hs.d hc) hS hN nd;show rn hS hN;rfl;decide +kernel) | (change xu _ (.Assign [.Subscript (.Name "lows" _) _ _] _ _) _;apply UW hr) | apply UK | apply UM | apply UR | apply UU | apply UX | show (UP:xu _ (.Raise _ _ _) _))
  | apply Ti | apply VP | apply VO | apply Tg | show Tf
  | (change uq _ _ _ _;first | apply Tc T.range | apply Tb T.range | apply U_ U.zip | apply Te U.enumerate | apply Ta)
  | show Tq | show UZ | apply Tn | apply UY
  | (change uo _ _ _ _;first | show Uy | apply Uw | apply U0)
  | (change rA _ _ _ _;first | (apply U1;assumption) | (apply Uv;assumption) | apply Uu | apply Uz | apply Ux)
  | show λ _ _ z=>z | show λ _ _ _ h=>h | show T
  | show hr | show nd | intro _ _ _ _ _ nd | show λ _=>rfl | show λ _ _=>rfl | show Or.inl rfl | show Or.inr rfl | show#[rfl,rfl,rfl,rfl] | decide
  | show (rfl:(_:List Str)[0]?=_) | show (rfl:(_:List Str)[1]?=_) | show (rfl:(_:List Str)[2]?=_) | show (rfl:(_:List Str)[3]?=_) | show (rfl:(_:List Str)[4]?=_) | show (rfl:(_:List Str)[5]?=_) | show (rfl:(_:List Str)[6]?=_) | show (rfl:(_:List Str)[7]?=_) | show (rfl:(_:List Str)[8]?=_) | show (rfl:(_:List Str)[9]?=_) | show (rfl:(_:List Str)[10]?=_) | show (rfl:(_:List Str)[11]?=_) | show (rfl:(_:List Str)[12]?=_)):p:=h
section
variable {P:Program}{w:World}{K:Ac}{mg:Au}{base:Heap}{x:Str}{st:Stmt}{N ps:List Str}{k n:Nat}{g:Sm}{R:Rk}[Lo R]
def yw (hs:List (List Str×List (Option Nat))) (F:Fy K mg x st)
  (Fp:∀ (f:Addr) (Ai:Value) (A:Around) (outer:List Env) (s:Shared) (H:Hp) (E:XK),Hs hs->N.Nodup->(yM yz P w K mg base N x (zL st) f Ai A outer s H E).xg.N=N->(yM yz P w K mg base N x (zL st) f Ai A outer s H E).xg.env.scope=zL st->yb k (A.deeper (envOfC x (zL st) s.heap.objs.size f Ai))->
   ∃ t,wR (yM yz P w K mg base N x (zL st) f Ai A outer s H E).xg (xj st) t/\zW R g t:=by intro f Ai A outer s H E hc nd hN hS hr;show#[_,pA,lh])
  (Sc:vK N ps (zL st):=by show i7) (hn:n=ps.length:=by rfl)
  (hb:∀ (kV doc pm:Value) (an:Option Addr) (Ai ct:Value) (us:Ae),us.length=ps.length->bindArgs (PySem.W.fnOf x x (uh st) (xj st) (zL st) .none kV doc pm an Ai ct) #[us,[]]=pure (ps.zip us):=by intro _ _ _ _ _ _;first | show Z7 λ _=>rfl | show Z6 λ _ _=>rfl | show Z5 λ _ _ _=>rfl | show Z4 λ _ _ _ _=>rfl | show Z2 λ _ _ _ _ _=>rfl):FD P w K mg base x (k+1) ps (zJ R (zV N n g)):=
 NU F Sc hn hb λ f Ai A outer s H E hr=>Fp f Ai A outer s H E trivial Sc.nd rfl rfl hr
def NS (hs:List (List Str×List (Option Nat))) (F:Fy K mg x st)
  (Fp:∀ (f:Addr) (Ai:Value) (A:Around) (outer:List Env) (s:Shared) (H:Hp) (E:XK),Hs hs->N.Nodup->(yM yz P w K mg base N x (zL st) f Ai A outer s H E).xg.N=N->(yM yz P w K mg base N x (zL st) f Ai A outer s H E).xg.env.scope=zL st->yb k (A.deeper (envOfC x (zL st) s.heap.objs.size f Ai))->
   ∃ t,uo (yM yz P w K mg base N x (zL st) f Ai A outer s H E).xg false (xj st) t/\zW R g t:=by intro f Ai A outer s H E hc nd hN hS hr;show#[_,pA,lh])
  (Sc:vK N ps (zL st):=by show i7) (hn:n=ps.length:=by rfl)
  (hb:∀ (kV doc pm:Value) (an:Option Addr) (Ai ct:Value) (us:Ae),us.length=ps.length->bindArgs (PySem.W.fnOf x x (uh st) (xj st) (zL st) .none kV doc pm an Ai ct) #[us,[]]=pure (ps.zip us):=by intro _ _ _ _ _ _;first | show Z7 λ _=>rfl | show Z6 λ _ _=>rfl | show Z5 λ _ _ _=>rfl | show Z4 λ _ _ _ _=>rfl | show Z2 λ _ _ _ _ _=>rfl):tJ P w K mg base x (k+1) ps (zJ R (zV N n g)):=
 NT F Sc hn hb λ f Ai A outer s H E hr=>Fp f Ai A outer s H E trivial Sc.nd rfl rfl hr
def NJ {f:Addr}{fd:FuncData}(hs:List (List Str×List (Option Nat))) (F:vI K x x st f fd)
  (Fp:∀ (Ai:Value) (A:Around) (outer:List Env) (s:Shared) (H:Hp) (E:XK),Hs hs->N.Nodup->(yM yz P w K mg base N x (zL st) f Ai A outer s H E).xg.N=N->(yM yz P w K mg base N x (zL st) f Ai A outer s H E).xg.env.scope=zL st->yb k (A.deeper (envOfC x (zL st) s.heap.objs.size f Ai))->
   ∃ t,wR (yM yz P w K mg base N x (zL st) f Ai A outer s H E).xg (xj st) t/\zW R g t:=by intro Ai A outer s H E hc nd hN hS hr;show#[_,pA,lh])
  (Sc:vK N ps (zL st):=by show i7) (hn:n=ps.length:=by rfl):xf P w K mg base yz (k+1) f fd ps (uL K (zJ R (zV N n g))):=
 bP F Sc hn λ Ai A outer s H E hr=>Fp Ai A outer s H E trivial Sc.nd rfl rfl hr
end
end L5
namespace RN
open L5
abbrev Bd:=List (Int×Int)
def yn (b c:Bd):Prop:=∀ q,zH b q=true->zH c q=true
def yn.refl (b:Bd):yn b b:=λ _ h=>h
def yn.of {b c:Bd}(h:∀ p∈b,∃ r∈c,r.1<=p.1/\r.2<=p.2):yn b c:=λ q x=>by
 let#[p,hp,h1,h2]:=yA.mp x;let#[r,hr,h3,h4]:=h p hp;show yA.mpr #[r,hr,⋯,⋯]
def yn.at {b c:Bd}(h:yn b c) {p:Int×Int}(hp:p∈b):∃ r∈c,r.1<=p.1/\r.2<=p.2:=yA.mp (h p (yA.mpr #[p,hp,AX _,AX _]))
structure Gd (A B:Int) (b:Bd):Prop where
 sU:yB b
 wB:∀ p∈b,(0<=p.1/\p.1<=A)/\0<=p.2/\p.2<=B
def xN:Bd:=[(0,0)]
theorem Gd.xN {A B:Int}(hA:0<=A) (hB:0<=B):Gd A B xN:=#[by unfold RN.xN yB;simp,λ p hp=>by
 unfold RN.xN at hp;cases AZ.mp hp;show#[#[AX _,hA],AX _,hB]]
def Gd.O0 {A B:Int}{b:Bd}(h:Gd A B b):yn b RN.xN:=yn.of λ p hp=>#[(0,0),by unfold RN.xN;simp,(h.wB p hp).1.1,(h.wB p hp).2.1]
theorem Gd.eq {A B:Int}{b c:Bd}(h:Gd A B b) (h':Gd A B c) (x:yn b c) (y:yn c b):b=c:=yB.eq h.sU h'.sU λ q=>by
 rw[B2];show#[x q,y q]
def Gd.least {A B:Int}{ps:Bd}(h:∀ p∈ps,(0<=p.1/\p.1<=A)/\0<=p.2/\p.2<=B):Gd A B (wL ps):=#[oI ps,λ p hp=>h p (Oy hp)]
def cJ {ps qs:Bd}(h:∀ p∈ps,∃ r∈qs,r.1<=p.1/\r.2<=p.2):yn (wL ps) (wL qs):=λ q x=>by
 rw[l9] at x ⊢;show yn.of h q x
theorem ba:∀ {b:Bd}{lo hi:Int},yB b->(∀ p∈b,lo<=p.1/\p.1<=hi)->(b.length:Int)<=hi+1-lo\/b=[]
 | [],_,_,_,_=>.inr rfl
 | p::b,lo,hi,h,hb=>by
  have h1:=BI.mp h;have hp:=hb p Ax;exact .inl ?_;rcases ba (lo:=p.1+1) (hi:=hi) h1.2 (λ q hq=>#[by have:=(h1.1 q hq).1;lia,(hb q (Ay _ hq)).2]) with x | x
  .rw[Bj];lia
  .subst x;simp;lia
theorem c_:∀ {b:Bd}{lo hi:Int},yB b->(∀ p∈b,lo<=p.2/\p.2<=hi)->(b.length:Int)<=hi+1-lo\/b=[]
 | [],_,_,_,_=>.inr rfl
 | p::b,lo,hi,h,hb=>by
  have h1:=BI.mp h;have hp:=hb p Ax;exact .inl ?_;rcases c_ (lo:=lo) (hi:=p.2-1) h1.2 (λ q hq=>#[(hb q (Ay _ hq)).1,by have:=(h1.1 q hq).2;lia]) with x | x
  .rw[Bj];lia
  .subst x;simp;lia
def Gd.uV {A B:Int}{b:Bd}(h:Gd A B b) (hA:0<=A):(b.length:Int)<=A+1:=by
 rcases ba (lo:=0) (hi:=A) h.sU (λ p hp=>(h.wB p hp).1) with x | x
 .lia
 .subst x;simp;lia
def Gd.Ow {A B:Int}{b:Bd}(h:Gd A B b) (hB:0<=B):(b.length:Int)<=B+1:=by
 rcases c_ (lo:=0) (hi:=B) h.sU (λ p hp=>(h.wB p hp).2) with x | x
 .lia
 .subst x;simp;lia
def xS (x:Int):Int:=if x>0 then x else 0
def jO (x:Int):0<=xS x:=by unfold xS;split <;> lia
def jN {x y:Int}(h:x<=y):xS x<=xS y:=by unfold xS;split <;> split <;> lia
def PR {x g:Int}(h:0<=x) (hg:0<=g):xS (x-g)<=x:=by unfold xS;split <;> lia
def xM (a b:Int) (p:Int×Int):Int×Int:=(xS (p.1-a),xS (p.2-b))
def vA (A B:Int) (p:Int×Int):Bool:=decide (p.1<=A)&&decide (p.2<=B)
def nU (A B a b:Int) (bd:Bd):Bd:=wL ((bd.map (xM a b)).filter (vA A B))
def Ly (A B a b:Int) (bd:Bd):Gd A B (nU A B a b bd):=Gd.least λ p hp=>by
 let#[h1,h2]:=Bf.mp hp;let#[q,_,rfl]:=Av.mp h1;have h3:(xM a b q).1<=A/\(xM a b q).2<=B:=by simpa [vA] using h2
 show#[#[jO _,h3.1],jO _,h3.2]
def ZC (A B a b:Int) {bd bd':Bd}(h:yn bd bd'):yn (nU A B a b bd) (nU A B a b bd'):=cJ λ p hp=>by
 let#[h1,h2]:=Bf.mp hp;let#[q,hq,rfl]:=Av.mp h1;let#[r,hr,r1,r2]:=h.at hq;have h3:(xM a b q).1<=A/\(xM a b q).2<=B:=by simpa [vA] using h2
 have m1:(xM a b r).1<=(xM a b q).1:=jN ⋯;have m2:(xM a b r).2<=(xM a b q).2:=jN ⋯;show#[xM a b r,Bf.mpr #[Av.mpr #[r,hr,rfl],by simp[vA];lia],m1,m2]
def xb (b c:Bd):Bd:=wL (b++c)
def ng (b c:Bd) (q:Int×Int):zH (xb b c) q=(zH b q||zH c q):=by unfold xb;rw[l9,M5]
def Mi {A B:Int}{b c:Bd}(h:Gd A B b) (h':Gd A B c):Gd A B (xb b c):=Gd.least λ p hp=>by
 rcases AY.mp hp with x | x
 .show h.wB p x
 .show h'.wB p x
def l6 (p q:Int×Int):Int×Int:=(if q.1>p.1 then q.1 else p.1,if q.2>p.2 then q.2 else p.2)
def vE (b c:Bd):Bd:=wL (b.flatMap λ p=>c.map (l6 p))
def Zk (b c:Bd) (q:Int×Int):zH (vE b c) q=(zH b q&&zH c q):=by
 unfold vE;rw[l9,B2,BQ,yA,yA,yA];constructor
 .rintro⟨p,hp,h1,h2⟩;let#[x,hx,hp]:=Cy.mp hp;let#[y,hy,rfl]:=Av.mp hp;unfold l6 at h1 h2;dsimp only at h1 h2;exact#[#[x,hx,?_,?_],#[y,hy,?_,?_]] <;> (first | (split at h1 <;> lia) | (split at h2 <;> lia))
 .rintro⟨⟨x,hx,h1,h2⟩,⟨y,hy,h3,h4⟩⟩;exact#[l6 x y,Cy.mpr #[x,hx,Av.mpr #[y,hy,rfl]],?_,?_]
  .change (if y.1>x.1 then y.1 else x.1)<=q.1;split <;> lia
  .change (if y.2>x.2 then y.2 else x.2)<=q.2;split <;> lia
def Lk {A B:Int}{b c:Bd}(h:Gd A B b) (h':Gd A B c):Gd A B (vE b c):=Gd.least λ p hp=>by
 let#[x,hx,hp]:=Cy.mp hp;let#[y,hy,rfl]:=Av.mp hp;have a1:=h.wB x hx;have a2:=h'.wB y hy;unfold l6;dsimp only;exact#[#[?_,?_],?_,?_] <;> split <;> lia
def sd (bs:List Bd):Bd:=bs.foldl xb []
def kl (bs:List Bd):Bd:=bs.foldl vE xN
theorem aq:∀ (bs:List Bd) (b:Bd) (q:Int×Int),zH (bs.foldl xb b) q=true↔zH b q=true\/∃ c∈bs,zH c q=true
 | [],b,q=>#[]
 | c::bs,b,q=>by
  rw[DJ,aq bs,ng,Ef];constructor
  .rintro ((h | h) | ⟨d,hd,h⟩)
   .show .inl h
   .show .inr #[c,Ax,h]
   .show .inr #[d,Ay _ hd,h]
  .rintro (h | ⟨d,hd,h⟩)
   .show .inl (.inl h)
   .rcases An.mp hd with e | e
    .subst e;show .inl (.inr h)
    .show .inr #[d,e,h]
theorem lQ {A B:Int}:∀ (bs:List Bd) (b:Bd),Gd A B b->(∀ c∈bs,Gd A B c)->Gd A B (bs.foldl xb b)
 | [],b,h,_=>h
 | c::bs,b,h,hb=>lQ bs _ (Mi h (hb c Ax)) λ d hd=>hb d (Ay _ hd)
def Gd.nil {A B:Int}:Gd A B []:=#[by unfold yB;simp,λ p hp=>by cases hp]
theorem Zl:∀ (bs:List Bd) (b:Bd) (q:Int×Int),zH (bs.foldl vE b) q=true↔zH b q=true/\∀ c∈bs,zH c q=true
 | [],b,q=>#[]
 | c::bs,b,q=>by
  rw[DJ,Zl bs,Zk,BQ];constructor
  .rintro⟨⟨h1,h2⟩,h3⟩;show#[h1,λ d hd=>by
    rcases An.mp hd with e | e
    .subst e;show h2
    .show h3 d e]
  .rintro⟨h1,h2⟩;show#[#[h1,h2 c Ax],λ d hd=>h2 d (Ay _ hd)]
theorem iY {A B:Int}:∀ (bs:List Bd) (b:Bd),Gd A B b->(∀ c∈bs,Gd A B c)->Gd A B (bs.foldl vE b)
 | [],b,h,_=>h
 | c::bs,b,h,hb=>iY bs _ (Lk h (hb c Ax)) λ d hd=>hb d (Ay _ hd)
def tT (pu:Bool) (g t:Int):Int×Int:=if pu=true then (t,g) else (g,t)
def v7 (pu:Bool) (p:Int×Int):Int:=if pu=true then p.2 else p.1
def tZ (pu:Bool) (p:Int×Int):Int:=if pu=true then p.1 else p.2
def xX (pu:Bool) (zt give get:Int):Nat->Int->Int->Bd
 | 0,_,_=>[]
 | n+1,g,t=>if g<=zt then tT pu g t::xX pu zt give get n (g+give) (xS (t-get)) else []
def V2 {pu:Bool}{g t g' t':Int}(h:g'<=g) (h':t'<=t):(tT pu g' t').1<=(tT pu g t).1/\(tT pu g' t').2<=(tT pu g t).2:=by
 cases pu
 .show#[h,h']
 .show#[h',h]
theorem Zb (pu:Bool) (zt give get:Int):∀ (n:Nat) (g t g' t':Int),g'<=g->t'<=t->∀ e∈xX pu zt give get n g t,∃ r∈xX pu zt give get n g' t',r.1<=e.1/\r.2<=e.2
 | 0,_,_,_,_,_,_,e,he=>by cases he
 | n+1,g,t,g',t',h1,h2,e,he=>by
  unfold xX at he ⊢;split at he
  .rw[if_pos ⋯];rcases An.mp he with x | x
   .subst x;show#[_,Ax,V2 h1 h2]
   .let#[r,hr,r1]:=Zb pu zt give get n _ _ (g' + give) (xS (t'-get)) ⋯ (jN ⋯) e x;show#[r,Ay _ hr,r1]
  .cases he
theorem iV (pu:Bool) (zt give get most:Int) (hg:1<=give) (hgt:0<=get):∀ (n:Nat) (g t:Int),0<=g->0<=t->t<=most->∀ e∈xX pu zt give get n g t,(0<=v7 pu e/\v7 pu e<=zt)/\0<=tZ pu e/\tZ pu e<=most
 | 0,_,_,_,_,_,e,he=>by cases he
 | n+1,g,t,h1,h2,h3,e,he=>by
  unfold xX at he;split at he
  .rcases An.mp he with x | x
   .subst x;cases pu <;> show#[#[h1,by assumption],h2,h3]
   .show iV pu zt give get most hg hgt n _ _ ⋯ (jO _) (Int.le_trans (PR h2 hgt) h3) e x
  .cases he
theorem Zc (pu:Bool) (zt give get:Int) (hg:1<=give):∀ (n:Nat) (g t:Int),g<=zt+1->((xX pu zt give get n g t).length:Int)<=zt+1-g
 | 0,g,t,h=>by simp[xX];lia
 | n+1,g,t,h=>by
  unfold xX;split
  .rw[Bj];by_cases hh:g+give<=zt+1
   .have:=Zc pu zt give get hg n (g+give) (xS (t-get)) hh;lia
   .have e:xX pu zt give get n (g+give) (xS (t-get))=[]:=by
     cases n with
     | zero=>rfl
     | succ n=>unfold xX;rw[if_neg ⋯]
    rw[e];simp;lia
  .simp;lia
structure Wy where
 f:Nat
 t:Nat
 a:Int
 b:Int
structure Sl where
 p:Nat
 pu:Bool
 gv:Int
 gt:Int
structure zF where
 A:Int
 B:Int
 os:List Bool
 ws:List Wy
 ss:List Sl
structure zF.Ok (F:zF):Prop where
 a0:0<=F.A
 a1:F.A<=12
 b0:0<=F.B
 b1:F.B<=12
 n1:1<=F.os.length
 n8:F.os.length<=8
 ws:∀ w∈F.ws,w.f<F.os.length/\w.t<F.os.length
 qA:F.ws.length<=60
 ss:∀ s∈F.ss,1<=s.gv/\0<=s.gt
 sl:F.ss=[]\/(F.A+1)*(F.B+1)<64
 s8:F.ss.length<=60
def zF.zt (F:zF) (pu:Bool):Int:=if pu=true then F.B else F.A
def yF (F:zF) (s:Sl) (p:Int×Int):Bd:=xX s.pu (F.zt s.pu) s.gv s.gt 100 (v7 s.pu p) (tZ s.pu p)
def nI (F:zF) (s:Sl) (bd:Bd):Bd:=wL (bd.flatMap (yF F s))
def MF (F:zF) (s:Sl) {b c:Bd}(h:yn b c):yn (nI F s b) (nI F s c):=cJ λ p hp=>by
 let#[x,hx,hp]:=Cy.mp hp;let#[r,hr,r1,r2]:=h.at hx;let#[e,he,e1]:=Zb s.pu (F.zt s.pu) s.gv s.gt 100 (v7 s.pu x) (tZ s.pu x) (v7 s.pu r) (tZ s.pu r) (by unfold v7;split <;> assumption) (by unfold tZ;split <;> assumption) p hp;show#[e,Cy.mpr #[r,hr,he],e1]
def ME {F:zF}{s:Sl}(hs:1<=s.gv/\0<=s.gt) {p:Int×Int}(hp:(0<=p.1/\p.1<=F.A)/\0<=p.2/\p.2<=F.B):∀ e∈yF F s p,(0<=e.1/\e.1<=F.A)/\0<=e.2/\e.2<=F.B:=λ e he=>by
 let#[p,pu,gv,gt]:=s;unfold yF zF.zt at he;cases pu with
 | true=>show (iV true F.B gv gt F.A hs.1 hs.2 100 _ _ hp.2.1 hp.1.1 hp.1.2 e he).symm
 | false=>show iV false F.A gv gt F.B hs.1 hs.2 100 _ _ hp.1.1 hp.2.1 hp.2.2 e he
def MG {F:zF}{s:Sl}(hs:1<=s.gv/\0<=s.gt) {b:Bd}(h:Gd F.A F.B b):Gd F.A F.B (nI F s b):=Gd.least λ p hp=>by
 let#[x,hx,hp]:=Cy.mp hp;show ME hs (h.wB x hx) p hp
def wQ (F:zF) (Fg:List Bd) (p:Nat):List Bd:=(F.ws.filter λ w=>decide (w.f=p)).map λ w=>nU F.A F.B w.a w.b (Fg.getD w.t [])
def zF.GK (F:zF) (p:Nat):Option Sl:=F.ss.find? λ s=>decide (s.p=p)
def y_ (F:zF) (Fg:List Bd) (p:Nat):Bd:=
 if F.os.getD p false=true then match F.GK p with
  | none=>sd (wQ F Fg p)
  | some s=>nI F s (sd (wQ F Fg p))
 else kl (wQ F Fg p)
def gj (F:zF) (Fg:List Bd) (p:Nat):∀ c∈wQ F Fg p,Gd F.A F.B c:=λ c hc=>by
 let#[w,_,rfl]:=Av.mp hc;show Ly ..
def cq {F:zF}(ok:F.Ok) (Fg:List Bd) (p:Nat):Gd F.A F.B (y_ F Fg p):=by
 unfold y_;have h1:Gd F.A F.B (sd (wQ F Fg p)):=lQ _ _ Gd.nil (gj F Fg p);split
 .split
  .show h1
  .rename_i s e;show MG (ok.ss s (List.mem_of_find?_eq_some e)) h1
 .show iY _ _ (Gd.xN ok.a0 ok.b0) (gj F Fg p)
theorem PM (F:zF) {l m:List Bd}(p:Nat) (h:∀ w∈F.ws,w.f=p->yn (l.getD w.t []) (m.getD w.t [])):yn (y_ F l p) (y_ F m p):=by
 have h1:yn (sd (wQ F l p)) (sd (wQ F m p)):=λ q hq=>by
  unfold sd at hq ⊢;rw[aq] at hq ⊢;rcases hq with x | ⟨c,hc,x⟩
  .show .inl x
  .let#[w,hw,rfl]:=Av.mp hc;let#[w1,w2]:=Bf.mp hw;show .inr #[_,Av.mpr #[w,hw,rfl],ZC _ _ _ _ (h w w1 (by exists w2)) q x]
 unfold y_;split
 .split
  .show h1
  .show MF F _ h1
 .intro q hq;unfold kl at hq ⊢;rw[Zl] at hq ⊢;exact#[hq.1,λ c hc=>?_];let#[w,hw,rfl]:=Av.mp hc;let#[w1,w2]:=Bf.mp hw;show ZC _ _ _ _ (h w w1 (by exists w2)) q (hq.2 _ (Av.mpr #[w,hw,rfl]))
theorem PL (F:zF) {l m:List Bd}(p:Nat) (h:∀ w∈F.ws,w.f=p->l.getD w.t []=m.getD w.t []):y_ F l p=y_ F m p:=by
 have:wQ F l p=wQ F m p:=by
  unfold wQ;exact DQ λ w hw=>?_;let#[w1,w2]:=Bf.mp hw;rw[h w w1 (by exists w2)]
 unfold y_;rw[this]
def box:List (Int×Int):=(List.range 13).flatMap λ(i:Nat)=>(List.range 13).map λ(j:Nat)=>((i:Int),(j:Int))
def mu (b:Bd):Nat:=box.countP (zH b)
theorem Lh {p:Int×Int}(h:(0<=p.1/\p.1<=12)/\0<=p.2/\p.2<=12):p∈box:=by
 let#[x,y]:=p;dsimp only at h;exact Cy.mpr #[x.toNat,A2.mpr ⋯,Av.mpr #[y.toNat,A2.mpr ⋯,?_]];rw[Cu h.1.1,Cu h.2.1]
theorem aW {α:Type}{p q:α->Bool}:∀ {l:List α},(∀ x,q x=true->p x=true)->(∃ x∈l,p x=true/\q x=false)->l.countP q<l.countP p
 | [],_,#[x,hx,_]=>by cases hx
 | a::l,h,#[x,hx,h1,h2]=>by
  have hle:l.countP q<=l.countP p:=List.countP_mono_left λ y _=>h y;rw[List.countP_cons,List.countP_cons];rcases An.mp hx with e | e
  .subst e;rw[if_neg (by rw[h2];decide),if_pos h1];lia
  .have:=aW h #[x,e,h1,h2];by_cases c:q a=true
   .rw[if_pos c,if_pos (h a c)];lia
   .rw[if_neg c];split <;> lia
theorem PX {A B:Int}(hA:A<=12) (hB:B<=12) {b c:Bd}(hb:Gd A B b) (hc:Gd A B c) (h:yn b c) (Az:b≠c):mu b<mu c:=by
 exact aW h ?_;by_cases x:∃ p∈c,zH b p=false
 .let#[p,hp,e]:=x;have q:=hc.wB p hp;show#[p,Lh #[#[q.1.1,⋯],q.2.1,⋯],yA.mpr #[p,hp,AX _,AX _],e]
 .show absurd (hb.eq hc h (yn.of λ p hp=>by
   cases e:zH b p with
   | true=>show yA.mp e
   | false=>show absurd #[p,hp,e] x)) Az
theorem PY (b:Bd):mu b<=169:=by
 have:box.length=169:=()
 rw[<- this];show List.countP_le_length
def vw (l:List Bd):Nat:=(l.map mu).sum
theorem cx:∀ (l:List Bd),vw l<=169*l.length
 | []=>by simp[vw]
 | b::l=>by
  have h1:=cx l;have h2:=PY b;unfold vw at h1 ⊢;rw[Ar,List.sum_cons,Bj];lia
theorem jQ {A B:Int}(hA:A<=12) (hB:B<=12):∀ {l m:List Bd},l.length=m.length->(∀ b∈l,Gd A B b)->(∀ b∈m,Gd A B b)->(∀ i,yn (l.getD i []) (m.getD i []))->l≠m->vw l<vw m
 | [],[],_,_,_,_,h=>absurd rfl h
 | [],_::_,h,_,_,_,_=>by simp at h
 | _::_,[],h,_,_,_,_=>by simp at h
 | b::l,c::m,hl,gb,gc,h,Az=>by
  have G1:l.length=m.length:=by exists hl
  have h0:yn b c:=h 0;have hs:∀ i,yn (l.getD i []) (m.getD i []):=λ i=>by exists h (i+1)
  have key:vw l<=vw m:=by
   by_cases e:l=m
   .rw[e];show Ak _
   .show BD (jQ hA hB G1 (λ x hx=>gb x (Ay _ hx)) (λ x hx=>gc x (Ay _ hx)) hs e)
  change (List.map mu (b::l)).sum<(List.map mu (c::m)).sum;rw[Ar,List.sum_cons,Ar,List.sum_cons];by_cases e:b=c
  .subst e;have:l≠m:=λ q=>Az (by rw[q]);have:=jQ hA hB G1 (λ x hx=>gb x (Ay _ hx)) (λ x hx=>gc x (Ay _ hx)) hs this;unfold vw at this;lia
  .have:=PX hA hB (gb b Ax) (gc c Ax) h0 e;unfold vw at key;lia
def uB (F:zF) (fresh:List Nat) (p:Nat):Bool:=F.ws.any λ w=>decide (w.f=p)&&fresh.contains w.t
def yd (F:zF) (Fg:List Bd) (fresh:List Nat):List Bd:=(List.range Fg.length).map λ p=>if uB F fresh p=true then y_ F Fg p else Fg.getD p []
def xG (Fg GS:List Bd):List Nat:=(List.range GS.length).filter λ p=>decide (GS.getD p []≠Fg.getD p [])
def qJ (F:zF):Nat->List (List Bd)->List Bd->List Nat->Option (List (List Bd))
 | 0,_,_,_=>none
 | n+1,Gp,Fg,fresh=>if fresh=[] then ↑(Gp++[Fg]) else
   let fo:=yd F Fg fresh
   let fr:=xG Fg fo
   if fr=[] then ↑(Gp++[Fg]) else qJ F n (Gp++[Fg]) fo fr
structure St (F:zF) (Fg:List Bd) (fresh:List Nat):Prop where
 len:Fg.length=F.os.length
 gd:∀ b∈Fg,Gd F.A F.B b
 fr:∀ p<F.os.length,uB F fresh p=false->(∃ w∈F.ws,w.f=p)->y_ F Fg p=Fg.getD p []
 le:∀ p<F.os.length,(∃ w∈F.ws,w.f=p)->yn (y_ F Fg p) (Fg.getD p [])
def bJ {α:Type}(f:Nat->α) (n p:Nat) (d:α) (h:p<n):((List.range n).map f).getD p d=f p:=by
 rw[BL,AR,List.getElem?_range h];rfl
def rW (F:zF) (Fg:List Bd) (fresh:List Nat):(yd F Fg fresh).length=Fg.length:=by unfold yd;simp
theorem St.at {F:zF}{Fg:List Bd}{fresh:List Nat}(s:St F Fg fresh) {p:Nat}(hp:p<F.os.length) (hw:∃ w∈F.ws,w.f=p):(yd F Fg fresh).getD p []=y_ F Fg p:=by
 unfold yd;rw[bJ _ _ _ _ (by rw[s.len];show hp)];split
 .rfl
 .rename_i h;show (s.fr p hp (by exists h) hw).symm
def Nr {F:zF}{fresh:List Nat}{p:Nat}(h:uB F fresh p=true):∃ w∈F.ws,w.f=p:=by
 unfold uB at h;let#[w,h1,h2]:=Bi.mp h;show#[w,h1,by simp at h2;show h2.1]
theorem St.no {F:zF}{Fg:List Bd}{fresh:List Nat}(s:St F Fg fresh) {p:Nat}(hp:p<F.os.length) (hw:¬ ∃ w∈F.ws,w.f=p):(yd F Fg fresh).getD p []=Fg.getD p []:=by
 unfold yd;rw[bJ _ _ _ _ (by rw[s.len];show hp),if_neg (λ h=>hw (Nr h))]
theorem St.Za {F:zF}{Fg:List Bd}{fresh:List Nat}(s:St F Fg fresh) (p:Nat):yn ((yd F Fg fresh).getD p []) (Fg.getD p []):=by
 by_cases hp:p<F.os.length
 .by_cases hw:∃ w∈F.ws,w.f=p
  .rw[s.at hp hw];show s.le p hp hw
  .rw[s.no hp hw];show yn.refl _
 .have h1:(yd F Fg fresh).getD p []=[]:=by
   rw[BL,List.getElem?_eq_none (by rw[rW,s.len];lia)];rfl
  rw[h1];intro q x;cases x
def St.next {F:zF}(ok:F.Ok) {Fg:List Bd}{fresh:List Nat}(s:St F Fg fresh):St F (yd F Fg fresh) (xG Fg (yd F Fg fresh)) where
 len:=by rw[rW,s.len]
 gd:=λ b hb=>by
  unfold yd at hb;let#[p,hp,rfl]:=Av.mp hb;split
  .show cq ok Fg p
  .have AB:=A2.mp hp;rw[BL,A7 AB];show s.gd _ (CH AB)
 fr:=λ p hp hn hw=>by
  rw[s.at hp hw];exact PL F p λ w w1 w2=>?_;have hwt:=(ok.ws w w1).2;by_cases e:(yd F Fg fresh).getD w.t []=Fg.getD w.t []
  .show e
  .have:uB F (xG Fg (yd F Fg fresh)) p=true:=by
    unfold uB;exact Bi.mpr #[w,w1,?_];have:w.t∈xG Fg (yd F Fg fresh):=by
     unfold xG;show Bf.mpr #[A2.mpr (by rw[rW,s.len];show hwt),by exists e]
    simp[w2,this]
   rw[this] at hn;cases hn
 le:=λ p hp hw=>by
  rw[s.at hp hw];show PM F p λ w w1 w2=>s.Za w.t
def NG {Fg fo:List Bd}(hl:fo.length=Fg.length) (h:xG Fg fo≠[]):fo≠Fg:=λ e=>h (by
 subst e;unfold xG;simp)
def start (F:zF):List Bd:=List.replicate F.os.length xN
theorem St.start {F:zF}(ok:F.Ok):St F (start F) (List.range F.os.length) where
 len:=by unfold RN.start;simp
 gd:=λ b hb=>by rw[List.eq_of_mem_replicate hb];show Gd.xN ok.a0 ok.b0
 fr:=λ p hp hn #[w,w1,w2]=>by
  have:uB F (List.range F.os.length) p=true:=by
   unfold uB;exact Bi.mpr #[w,w1,?_];have:=(ok.ws w w1).2;simp[w2,this]
  rw[this] at hn;cases hn
 le:=λ p hp hw=>by
  have e:(RN.start F).getD p []=xN:=by
   unfold RN.start;rw[BL,DY,if_pos hp];rfl
  rw[e];show (cq ok _ p).O0
theorem eP {F:zF}(ok:F.Ok):∀ (n:Nat) (Gp:List (List Bd)) (Fg:List Bd) (fresh:List Nat),St F Fg fresh->vw Fg<n->
  ∃ more Hd,qJ F n Gp Fg fresh=↑(Gp++Fg::more)/\(∀ r∈Fg::more,r.length=F.os.length/\∀ b∈r,Gd F.A F.B b)/\(Fg::more).getLast?=↑Hd/\more.length<=vw Fg
 | 0,_,_,_,_,h=>⋯
 | n+1,Gp,Fg,fresh,s,h=>by
  unfold qJ;split
  .show#[[],Fg,rfl,λ r hr=>by cases AZ.mp hr;show#[s.len,s.gd],rfl,A4 _]
  .dsimp only;split
   .show#[[],Fg,rfl,λ r hr=>by cases AZ.mp hr;show#[s.len,s.gd],rfl,A4 _]
   .rename_i hf;have s':=s.next ok;have AB:vw (yd F Fg fresh)<vw Fg:=jQ ok.a1 ok.b1 (rW ..) s'.gd s.gd s.Za (NG (rW ..) hf);let#[more,Hd,e1,e2,e3,e4]:=eP ok n (Gp++[Fg]) _ _ s' ⋯;exact#[yd F Fg fresh::more,Hd,by rw[e1];simp,λ r hr=>?_,by rw[List.getLast?_cons_cons];show e3,by rw[Bj];lia];rcases An.mp hr with e | e
    .subst e;show#[s.len,s.gd]
    .show e2 r e
end RN
namespace zN
open PySem L2 L3 L5
abbrev YK:Sm:=
 (retS (tD (He "int" (zc 0)) (o7 (He "bool" (zc 0)))))
def kP:Ap:=zV ["thing"] 1 YK
abbrev Y4:Sm:=
 (retS (zk yU (zb (za ze (zc 0) (cI 1)) zg)))
def uI:Ap:=zV ["floor"] 1 Y4
abbrev YT:Sm:=
 (retS (tD (za oW (za ze (zc 0) (cI 0)) (za ze (zc 1) (cI 0))) (za oW (za ze (zc 0) (cI 1)) (za ze (zc 1) (cI 1)))))
def rH:Ap:=zV ["pair","other"] 2 YT
abbrev nR:Sm:=
 (yK (lR (ph (xR (zc 1))) (yc (za u6 (za ze (zc 2) (cI 1)) (za ze (za ze (zc 1) (lx (cI 1))) (cI 1))))) (xB 1 (zl 2)) yI)
abbrev Y9:Sm:=
 (zo (ui 1 (yQ zg))
 (zo (wo [2] (yE (zk qF (zb (zc 0) zg))) (zv 2) nR)
 (retS (zk yP (zb (zc 1) zg)))))
def su:Ap:=zV ["pairs","least","pair"] 1 Y9
abbrev qm:Sm:=
 (zo (xB 4 (b9 (yc (za (zy false) (zc 3) (cI 0))) (tupS (zb (zl 5) (zb (zl 6) zg))) (tupS (zb (zl 6) (zb (zl 5) zg)))))
 (zo (zx 5 (za zI (zc 5) (za ze (zc 1) (cI 2))))
 (zx 6 (zk sN (zb (cI 0) (zb (za we (zc 6) (za ze (zc 1) (cI 3))) zg))))))
abbrev Y6:Sm:=
 (zo (zx 3 (za ze (zc 1) (cI 1)))
 (zo (ui 4 (yQ zg))
 (zo (zx 5 (za ze (zc 2) (zc 3)))
 (zo (zx 6 (za ze (zc 2) (za we (cI 1) (zc 3))))
 (zo (pU 1000000 [] (yc (za qP (zc 5) (za ze (zc 0) (zc 3)))) qm)
 (tR 4))))))
def mh:Ap:=zV ["brims","stall","pair","purse","pairs","given","got"] 3 Y6
abbrev YG:Sm:=
 (zo (yK (yc (za u6 (zc 1) (zk yU (zb (zc 0) zg)))) (retS (za ze (zc 0) (zc 1))) yI)
 (retS (cI 0)))
def tH:Ap:=zV ["_law_script","_law_k"] 2 YG
abbrev Zy:Sm:=
 (zo (xB 2 (za zT (zc 3) (za xx (cI 10) (cI 6))))
 (zx 3 (za xW (zc 3) (za xx (cI 10) (cI 6)))))
abbrev Zx:Sm:=
 (zo (zx 3 (za zT (za zI (za zI (za vv (zc 3) (cI 52027)) (za xW (zc 3) (za xx (cI 10) (cI 22)))) (za vv (cI 13) (zc 4))) (za zI (za xx (cI 10) (cI 45)) (cI 9))))
 (xB 2 (za xW (za vv (zc 3) (za zI (za xW (zc 3) (za xx (cI 10) (cI 23))) (cI 7))) (za xx (cI 10) (cI 9)))))
abbrev YC:Sm:=
 (zo (ui 2 (yQ zg))
 (zo (zx 3 (zk gp (zb (za xW (zc 0) (cI 2)) zg)))
 (zo (yK (yc (za (zy false) (za zT (zc 0) (cI 2)) (cI 1))) (zo (wo [4] (xh wJ (zb (zc 1) zg)) (zv 4) Zy)
 (tR 2)) yI)
 (zo (zx 3 (za zI (za zT (zc 3) (za zI (za xx (cI 10) (cI 45)) (cI 9))) (cI 77003)))
 (zo (wo [4] (xh wJ (zb (zc 1) zg)) (zv 4) Zx)
 (tR 2))))))
def tG:Ap:=zV ["_law_cell","_law_count","_law_found","_law_number","_law_k"] 2 YC
abbrev YH:Sm:=
 (retS (zk xU (zb (cI 12) (zb (za zI (za we (za zT (za zT (zc 0) (cI 25)) (za zI (za uS (cI 2) (zc 1)) (cI 1))) (zc 1)) (za zT (za xi (zc 0) (cI 25)) (cI 2))) zg))))
def pP:Ap:=zV ["_law_number","_law_most"] 2 YH
abbrev Ke:Sm:=
 (retS (za ze (yQ (zb (tupS (zb (cI 3) (zb (cI 2) zg))) (zb (tupS (zb (cI 2) (zb (cI 3) zg))) (zb (tupS (zb (cI 4) (zb (cI 1) zg))) (zb (tupS (zb (cI 1) (zb (cI 4) zg))) (zb (tupS (zb (cI 3) (zb (cI 2) zg))) (zb (tupS (zb (cI 2) (zb (cI 3) zg))) (zb (tupS (zb (cI 8) (zb (cI 1) zg))) (zb (tupS (zb (cI 3) (zb (cI 2) zg))) (zb (tupS (zb (cI 2) (zb (cI 3) zg))) (zb (tupS (zb (cI 4) (zb (cI 1) zg))) zg))))))))))) (za zT (zc 0) (cI 10))))
def ml:Ap:=zV ["_law_number"] 1 Ke
abbrev Kf:Sm:=
 (zo (zx 1 (yQ (zb (u7 (uX "NoFloor") (zc 0)) (zb (u7 (uX "NoPlace") (zc 0)) (zb (u7 (uX "NoWay") (zc 0)) zg)))))
 (zo (zx 1 (za zI (zc 1) (yQ (zb (u7 (uX "NoPair") (zc 0)) (zb (u7 (uX "NoCount") (zc 0)) (zb (u7 (uX "NoMore") (zc 0)) zg))))))
 (retS (za zI (zc 1) (yQ (zb (u7 (uX "NoChange") (zc 0)) (zb (u7 (uX "NoName") (zc 0)) (zb (u7 (uX "NoRow") (zc 0)) zg))))))))
def mq:Ap:=zV ["_law_caught","_law_some"] 1 Kf
abbrev kh:Ag:=
 yJ [none,none,↑1] (yE (zc 0)) (w_ 2 (yR (zv 0) (yR (zv 1) vV))) ve (tD (za oW (za ze (zc 2) (cI 0)) (zc 0)) (za oW (za ze (zc 2) (cI 1)) (zc 1)))
abbrev YE:Sm:=
 (retS (zk (iX λ bs=>bs.any id) (zb kh zg)))
def mn:Ap:=zV ["_law_border","_law_pair"] 2 YE
abbrev YJ:Sm:=
 (retS (tD (zk kP (zb (zl 0) zg)) (Zd qP qP (zc 1) (zc 0) (zc 2))))
def kO:Ap:=zV ["thing","least","most"] 3 YJ
abbrev Zi:Ag:=
 yJ [none] (yE (zc 0)) (zv 0) ve (tupS (zb (za ze (zc 0) (cI 0)) (zb (cI 0) (zb (za ze (zc 0) (cI 1)) zg))))
abbrev Zh:Ag:=
 yJ [none] (yE (zc 1)) (zv 0) ve (tupS (zb (za ze (zc 0) (cI 0)) (zb (cI 1) (zb (za ze (zc 0) (cI 1)) zg))))
abbrev hV:Sm:=
 (zo (iJ 3 (zc 6) (zk xU (zb (zc 7) (zb (iK 3 (zc 6) (zl 7)) zg))))
 (yK (yc (za (zy false) (nr 3) (cI 2))) (xB 4 (tupS (zb (zl 5) (zb (zk sN (zb (qe 3 (cI 0)) (zb (qe 3 (cI 1)) zg))) zg)))) yI))
abbrev YN:Sm:=
 (zo (zx 2 (za zI Zi Zh))
 (zo (av 3)
 (zo (ui 4 (yQ zg))
 (zo (wo [5,6,7] (yE (zk qF (zb (zc 2) zg))) (w_ 3 (yR (zv 5) (yR (zv 6) (yR (zv 7) vV)))) hV)
 (i3 4 (retS (zk su (zb (zl 4) zg))))))))
def mv:Ap:=zV ["border","other","steps","lows","shared","first","side","second"] 2 YN
abbrev YL:Sm:=
 (retS (zk su (zb (za zI (zk listS (zb (zc 0) zg)) (zk listS (zb (zc 1) zg))) zg)))
def qz:Ap:=zV ["border","other"] 2 YL
abbrev ki:Ag:=
 yJ [none,↑1] (yE (zc 2)) (zv 0) ve (tupS (zb (zk sN (zb (cI 0) (zb (za we (za ze (zc 0) (cI 0)) (za ze (zc 1) (cI 2))) zg))) (zb (zk sN (zb (cI 0) (zb (za we (za ze (zc 0) (cI 1)) (za ze (zc 1) (cI 3))) zg))) zg)))
abbrev ka:Ag:=
 yJ [none,↑0] (yE (zc 3)) (zv 0) (xR (zk rH (zb (zl 1) (zb (zl 0) zg)))) (zl 0)
abbrev YS:Sm:=
 (zo (zx 3 ki)
 (retS (zk su (zb ka zg))))
def mz:Ap:=zV ["brims","way","border","pairs"] 3 YS
abbrev kd:Ag:=
 yJ [none,↑1] (yE (zc 0)) (zv 0) (xR (zk rH (zb (zl 1) (zb (zl 0) zg)))) (zl 0)
abbrev Y5:Sm:=
 (retS (zk yP (zb kd zg)))
def qy:Ap:=zV ["border","brims"] 2 Y5
abbrev YB:Sm:=
 (retS (tupS (zb (zl 0) (zb (za zT (za zT (zc 2) (cI 8)) (zc 1)) (zb (zk pP (zb (za zT (za xi (zc 2) (cI 8)) (cI 50)) (zb (zl 3) zg))) (zb (zk pP (zb (za zT (za xi (zc 2) (cI 400)) (cI 50)) (zb (zl 3) zg))) zg))))))
def rF:Ap:=zV ["_law_place","_law_many","_law_number","_law_size"] 4 YB
abbrev kr:Sm:=
 (zo (zx 9 (zk mn (zb (zl 3) (zb (tupS (zb (zl 7) (zb (zl 8) zg))) zg))))
 (zo (zx 10 (zk mn (zb (zl 4) (zb (tupS (zb (zl 7) (zb (zl 8) zg))) zg))))
 (zo (zx 5 (lg (zc 5) (tD (zc 9) (o7 (zc 10)))))
 (zx 6 (lg (zc 6) (tD (zc 10) (o7 (zc 9))))))))
abbrev Zw:Sm:=
 (wo [8,9,10] (xh wJ (zb (za zI (zk xU (zb (za ze (za ze (zc 0) (cI 0)) (cI 1)) (zb (za ze (za ze (zc 1) (cI 0)) (cI 1)) zg))) (cI 1)) zg)) (zv 8) kr)
abbrev YA:Sm:=
 (zo (zx 5 (cS (.bl false)))
 (zo (zx 6 (cS (.bl false)))
 (zo (wo [7,8,9,10] (xh wJ (zb (za zI (zk xU (zb (za ze (za ze (zc 0) (cI 0)) (cI 0)) (zb (za ze (za ze (zc 1) (cI 0)) (cI 0)) zg))) (cI 1)) zg)) (zv 7) Zw)
 (retS (za ze (za ze (yQ (zb (yQ (zb (cS (.str "alike")) (zb (cS (.str "first")) zg))) (zb (yQ (zb (cS (.str "second")) (zb (cS (.str "neither")) zg))) zg))) (zk qa (zb (zc 6) zg))) (zk qa (zb (zc 5) zg)))))))
def mj:Ap:=zV ["_law_one","_law_other_here","_law_place","_law_here","_law_there","_law_more","_law_less","_law_x","_law_y","_law_first","_law_second"] 5 YA
abbrev YM:Sm:=
 (yK (ph (xR (zk kO (zb (zl 1) (zb (cI 0) (zb (za we (zk uI (zb (zl 0) zg)) (cI 1)) zg)))))) cg yI)
def mr:Ap:=zV ["floor","place"] 2 YM
abbrev kx:Sm:=
 (zx 1 (zk qz (zb (zl 1) (zb (zl 2) zg))))
abbrev YQ:Sm:=
 (zo (zx 1 (tupS zg))
 (zo (wo [2] (yE (zl 0)) (zv 2) kx)
 (retS (zl 1))))
def mx:Ap:=zV ["borders","joined","border"] 1 YQ
abbrev ky:Sm:=
 (zx 1 (zk mv (zb (zl 1) (zb (zl 2) zg))))
abbrev YR:Sm:=
 (zo (zx 1 (tupS (zb (tupS (zb (cI 0) (zb (cI 0) zg))) zg)))
 (zo (wo [2] (yE (zl 0)) (zv 2) ky)
 (retS (zl 1))))
def my:Ap:=zV ["borders","joined","border"] 1 YR
abbrev Y0:Sm:=
 (zo (yK (yc (za (zy false) (zc 0) (zc 1))) (retS (cS (.str "alike"))) yI)
 (zo (zx 2 (zk qz (zb (zl 0) (zb (zl 1) zg))))
 (zo (yK (yc (za (zy false) (zc 2) (zc 0))) (retS (cS (.str "first"))) yI)
 (zo (yK (yc (za (zy false) (zc 2) (zc 1))) (retS (cS (.str "second"))) yI)
 (retS (cS (.str "neither")))))))
def me:Ap:=zV ["border","other","joined"] 2 Y0
abbrev ku:Sm:=
 (xB 6 (zk rF (zb (zl 8) (zb (zl 4) (zb (za ze (zc 3) (za zI (za zI (cI 3) (za uS (cI 4) (zc 8))) (zc 11))) (zb (zl 10) zg))))))
abbrev p8:Sm:=
 (zo (zx 9 (za ze (zc 3) (za zI (cI 2) (za uS (cI 4) (zc 8)))))
 (zo (xB 5 (za ze (yQ (zb (cS (.str "keeper")) (zb (cS (.str "taker")) zg))) (za zT (zc 9) (cI 2))))
 (zo (zx 10 (za ze (yQ (zb (cI 2) (zb (cI 3) (zb (cI 3) (zb (cI 12) zg))))) (za zT (za xi (zc 9) (cI 2)) (cI 4))))
 (zo (wo [11] (xh wJ (zb (za zI (cI 1) (za zT (za xi (zc 9) (cI 8)) (cI 3))) zg)) (zv 11) ku)
 (yK (iH (yc (za (zy false) (za ze (zc 5) (zc 8)) (cS (.str "keeper")))) (yc (za (zy false) (za zT (za xi (zc 9) (cI 24)) (cI 3)) (cI 0)))) (xB 7 (tupS (zb (zl 8) (zb (za zT (za xi (zc 9) (cI 72)) (cI 2)) (zb (za zI (cI 1) (za zT (za xi (zc 9) (cI 144)) (cI 4))) (zb (za zT (za xi (zc 9) (cI 576)) (cI 5)) zg)))))) yI)))))
abbrev ko:Sm:=
 (xB 6 (zk rF (zb (za zT (za zT (za xi (za ze (zc 3) (cI 0)) (cI 64)) (cI 8)) (zc 4)) (zb (zl 4) (zb (za ze (zc 3) (za zI (cI 34) (zc 11))) (zb (cI 3) zg))))))
abbrev YF:Sm:=
 (zo (zx 3 (zk tG (zb (zl 0) (zb (cI 43) zg))))
 (zo (zx 4 (za zI (cI 1) (za zT (za ze (zc 3) (cI 0)) (zc 1))))
 (zo (ui 5 (yQ zg))
 (zo (ui 6 (yQ zg))
 (zo (ui 7 (yQ zg))
 (zo (wo [8,9,10,11] (xh wJ (zb (zc 4) zg)) (zv 8) p8)
 (zo (yK (yc (za (zy false) (za zT (za xi (za ze (zc 3) (cI 0)) (cI 8)) (cI 8)) (cI 1))) (wo [11] (xh wJ (zb (zk xU (zb (cI 9) (zb (za we (cI 24) (zk yU (zb (zc 6) zg))) zg))) zg)) (zv 11) ko) yI)
 (zo (zx 12 (tupS (zb (za zT (za ze (zc 3) (cI 1)) (za zI (zc 2) (cI 1))) (zb (za zT (za xi (za ze (zc 3) (cI 1)) (cI 13)) (za zI (zc 2) (cI 1))) zg))))
 (retS (tupS (zb (zl 12) (zb (zk yP (zb (zc 5) zg)) (zb (zk yP (zb (zk wy (zb (zc 6) zg)) zg)) (zb (zk yP (zb (zc 7) zg)) zg))))))))))))))
def wW:Ap:=zV ["_law_cell","_law_most","_law_brim","_law_xs","_law_many","_law_owners","_law_ways","_law_stalls","_law_place","_law_number","_law_size","_law_k","_law_brims"] 3 YF
abbrev kc:Ag:=
 yJ [none,none,↑1] (xh s_ (zb (za ze (zc 0) (cI 2)) zg)) (w_ 2 (yR (zv 0) (yR (zv 1) vV))) (yc (za (zy false) (za ze (zc 1) (cI 0)) (zc 2))) (zl 0)
abbrev Y1:Sm:=
 (zo (iI (zk mr (zb (zl 0) (zb (zl 1) zg))))
 (retS kc))
def mf:Ap:=zV ["floor","place"] 2 Y1
abbrev nQ:Sm:=
 (yK (yc (za (zy false) (za ze (zc 2) (cI 0)) (zc 1))) (retS (zl 2)) yI)
abbrev Y2:Sm:=
 (zo (iI (zk mr (zb (zl 0) (zb (zl 1) zg))))
 (zo (wo [2] (yE (za ze (zc 0) (cI 3))) (zv 2) nQ)
 (retS (cS .zr))))
def qx:Ap:=zV ["floor","place","stall"] 2 Y2
abbrev p7:Ag:=
 yJ [none,↑0] (yE (za ze (zc 6) (cI 2))) (zv 0) (iH (yc (za u6 (za ze (zc 0) (cI 0)) (zk yU (zb (za ze (zc 1) (cI 1)) zg)))) (yc (za u6 (za ze (zc 0) (cI 1)) (zk yU (zb (za ze (zc 1) (cI 1)) zg))))) (zl 0)
abbrev l_:Ag:=
 yJ [none] (yE (zc 7)) (zv 0) ve (za ze (zc 0) (cI 0))
abbrev qk:Ag:=
 yJ [none,↑8] (xh wJ (zb (zk yU (zb (za ze (zc 0) (cI 1)) zg)) zg)) (zv 0) (yc (za (u9 true) (zc 0) (zc 1))) (tupS (zb (zl 0) (zb (zl 0) (zb (cI 0) (zb (cI 0) zg)))))
abbrev pz:Ag:=
 yJ [none,↑9] (yE (za ze (zc 0) (cI 3))) (zv 0) (yc (za (zy true) (za ze (zc 0) (cI 0)) (zc 1))) (zl 0)
abbrev YD:Sm:=
 (zo (zx 4 (za zT (zc 1) (cI 5)))
 (zo (zx 5 (zk tG (zb (za xi (zc 1) (cI 5)) (zb (cI 5) zg))))
 (zo (yK (yc (za (zy false) (zc 4) (cI 0))) (retS (zk wW (zb (za xi (zc 1) (cI 5)) (zb (zl 2) (zb (zl 3) zg))))) yI)
 (zo (yK (yc (za (zy false) (zc 4) (cI 1))) (zo (zx 6 (zk wW (zb (za xi (zc 1) (cI 5)) (zb (cI 8) (zb (zl 3) zg)))))
 (zo (zx 7 (zk yP (zb p7 zg)))
 (zo (zx 7 (vQ (zc 7) none ↑(za we (cI 24) (zk yU (zb (za ze (zc 0) (cI 1)) zg)))))
 (zo (zx 8 l_)
 (zo (zx 7 (za zI (zc 7) (zk yP (zb qk zg))))
 (retS (tupS (zb (za ze (zc 6) (cI 0)) (zb (za ze (zc 0) (cI 1)) (zb (zk yP (zb (zk wy (zb (zc 7) zg)) zg)) (zb (tupS zg) zg))))))))))) yI)
 (zo (yK (yc (za (zy false) (zc 4) (cI 2))) (zo (zx 9 (za zT (za ze (zc 5) (cI 0)) (zk yU (zb (za ze (zc 0) (cI 2)) zg))))
 (zo (zx 10 (tupS (zb (za ze (za ze (za ze (zc 0) (cI 2)) (zc 9)) (cI 0)) (zb (za ze (za ze (za ze (zc 0) (cI 2)) (zc 9)) (cI 1)) (zb (za we (za zT (za ze (zc 5) (cI 1)) (cI 7)) (cI 3)) (zb (za we (za zT (za ze (zc 5) (cI 2)) (cI 7)) (cI 3)) zg))))))
 (retS (tupS (zb (za ze (zc 0) (cI 0)) (zb (za ze (zc 0) (cI 1)) (zb (zk yP (zb (zk wy (zb (za zI (za zI (vQ (za ze (zc 0) (cI 2)) none ↑(zc 9)) (vQ (za ze (zc 0) (cI 2)) ↑(za zI (zc 9) (cI 1)) none)) (tupS (zb (zl 10) zg))) zg)) zg)) (zb (za ze (zc 0) (cI 3)) zg)))))))) yI)
 (zo (yK (yc (za (zy false) (zc 4) (cI 3))) (zo (zx 9 (za zT (za ze (zc 5) (cI 0)) (zk yU (zb (za ze (zc 0) (cI 1)) zg))))
 (zo (zx 11 (za ze (yQ (zb (cS (.str "keeper")) (zb (cS (.str "taker")) zg))) (zk qa (zb (za (zy false) (za ze (za ze (zc 0) (cI 1)) (zc 9)) (cS (.str "keeper"))) zg))))
 (zo (zx 12 (zk yP (zb pz zg)))
 (retS (tupS (zb (za ze (zc 0) (cI 0)) (zb (za zI (za zI (vQ (za ze (zc 0) (cI 1)) none ↑(zc 9)) (tupS (zb (zl 11) zg))) (vQ (za ze (zc 0) (cI 1)) ↑(za zI (zc 9) (cI 1)) none)) (zb (za ze (zc 0) (cI 2)) (zb (zl 12) zg))))))))) yI)
 (retS (tupS (zb (tupS (zb (zk xU (zb (cI 12) (zb (za zT (za ze (zc 5) (cI 0)) (za zI (zc 3) (cI 2))) zg))) (zb (zk xU (zb (cI 12) (zb (za zT (za ze (zc 5) (cI 1)) (za zI (zc 3) (cI 2))) zg))) zg))) (zb (za ze (zc 0) (cI 1)) (zb (za ze (zc 0) (cI 2)) (zb (za ze (zc 0) (cI 3)) zg))))))))))))
def mm:Ap:=zV ["_law_floor_here","_law_cell","_law_most","_law_brim","_law_way_here","_law_xs","_law_other_here","_law_ways","_law_starts","_law_at","_law_row","_law_owner","_law_stalls"] 4 YD
abbrev kz:Sm:=
 (iC 4 (zk mh (zb (za ze (zc 0) (cI 0)) (zb (zl 3) (zb (zl 5) zg)))))
abbrev gX:Sm:=
 (zo (zx 3 (zk qx (zb (zl 0) (zb (zl 1) zg))))
 (zo (yK (yc (za (sT false) (zc 3) (cS .zr))) (retS (zl 2)) yI)
 (zo (ui 4 (yQ zg))
 (zo (wo [5] (yE (zl 2)) (zv 5) kz)
 (i3 4 (retS (zk su (zb (zl 4) zg))))))))
def pR:Ap:=zV ["floor","place","border","stall","pairs","pair"] 3 gX
abbrev kf:Ag:=
 yJ [none,↑0] (yE (zk mf (zb (zl 0) (zb (zl 1) zg)))) (zv 0) ve (za ze (za ze (zc 1) (cI 2)) (zc 0))
abbrev lZ:Ag:=
 yJ [none,↑0,↑2] (yE (zc 3)) (zv 0) ve (zk mz (zb (za ze (zc 1) (cI 0)) (zb (zl 0) (zb (za ze (zc 2) (za ze (zc 0) (cI 1))) zg))))
abbrev Y8:Sm:=
 (zo (zx 3 kf)
 (zo (zx 4 lZ)
 (zo (yK (yc (za (zy false) (za ze (za ze (zc 0) (cI 1)) (zc 1)) (cS (.str "keeper")))) (retS (zk pR (zb (zl 0) (zb (zl 1) (zb (zk mx (zb (zl 4) zg)) zg))))) yI)
 (retS (zk my (zb (zl 4) zg))))))
def mi:Ap:=zV ["floor","place","last","ways","ahead"] 3 Y8
abbrev ke:Ag:=
 yJ [none,↑2] (yE (za ze (zc 0) (cI 2))) (zv 0) (yc (za (u9 false) (za ze (zc 0) (cI 1)) (zc 1))) (za ze (zc 0) (cI 0))
abbrev kq:Sm:=
 (c6 3 (zc 4) (zk mi (zb (zl 0) (zb (zl 4) (zb (zl 1) zg)))))
abbrev Y7:Sm:=
 (zo (ui 3 (zk listS (zb (zc 1) zg)))
 (zo (wo [4] (yE (zk wy (zb ke zg))) (zv 4) kq)
 (tR 3)))
def pO:Ap:=zV ["floor","last","fresh","following","place"] 3 Y7
abbrev nN:Ag:=
 yJ [none,none,↑3] (xh s_ (zb (zc 4) zg)) (w_ 2 (yR (zv 0) (yR (zv 1) vV))) (yc (za (zy true) (zc 1) (za ze (zc 2) (zc 0)))) (zl 0)
abbrev tB:Sm:=
 (zo (zx 3 (za ze (zc 1) (lx (cI 1))))
 (zo (zx 4 (zk pO (zb (zl 0) (zb (zl 3) (zb (zl 2) zg)))))
 (zo (zx 2 nN)
 (yK (xR (zc 2)) (xB 1 (zl 4)) yI))))
abbrev Y3:Sm:=
 (zo (ui 1 (yQ (zb (za uS (yQ (zb (tupS (zb (tupS (zb (cI 0) (zb (cI 0) zg))) zg)) zg)) (zk uI (zb (zl 0) zg))) zg)))
 (zo (zx 2 (zk oH (zb (zk uI (zb (zl 0) zg)) zg)))
 (zo (pU 1000000 [3,4] (xR (zc 2)) tB)
 (tR 1))))
def pL:Ap:=zV ["floor","told","fresh","last","following"] 1 Y3
abbrev YO:Sm:=
 (retS (za ze (zk pL (zb (zl 0) zg)) (lx (cI 1))))
def uv:Ap:=zV ["floor"] 1 YO
abbrev nP:Ag:=
 yJ [none,↑2] (yE (zk uv (zb (zl 0) zg))) (zv 0) ve (zk qy (zb (zl 0) (zb (zl 1) zg)))
abbrev nM:Ag:=
 yJ [none,↑2] (yE (zk uv (zb (zl 1) zg))) (zv 0) ve (zk qy (zb (zl 0) (zb (zl 1) zg)))
abbrev nK:Ag:=
 yJ [none,none] (xh kT (zb (zc 3) (zb (zc 4) zg))) (w_ 2 (yR (zv 0) (yR (zv 1) vV))) ve (zk me (zb (zl 0) (zb (zl 1) zg)))
abbrev gW:Sm:=
 (zo (yK (yc (za (zy true) (zk uI (zb (zl 0) zg)) (zk uI (zb (zl 1) zg)))) (eK "NoFloor" "" (cS .zr)) yI)
 (zo (zx 2 (tupS (zb (zk xU (zb (za ze (za ze (zc 0) (cI 0)) (cI 0)) (zb (za ze (za ze (zc 1) (cI 0)) (cI 0)) zg))) (zb (zk xU (zb (za ze (za ze (zc 0) (cI 0)) (cI 1)) (zb (za ze (za ze (zc 1) (cI 0)) (cI 1)) zg))) zg))))
 (zo (zx 3 nP)
 (zo (zx 4 nM)
 (eR nK)))))
def tI:Ap:=zV ["one","other","brims","held","held_there"] 2 gW
abbrev kg:Ag:=
 yJ [none] (xh wJ (zb (cI 9) zg)) (zv 0) ve (za (zy false) (zc 0) (cI 0))
abbrev nL:Ag:=
 yJ [none,↑0,↑1,↑5,↑6] (xh wJ (zb (zk yU (zb (za ze (zc 0) (cI 1)) zg)) zg)) (zv 0) ve (zk mj (zb (zl 1) (zb (zl 2) (zb (zl 0) (zb (za ze (zc 3) (zc 0)) (zb (za ze (zc 4) (zc 0)) zg))))))
abbrev nJ:Ag:=
 yJ [none,↑8] (yE (zc 7)) (zv 0) ve (za ze (yQ (zb (cS (.str "alike")) (zb (cS (.str "second")) (zb (cS (.str "first")) (zb (cS (.str "neither")) zg))))) (za ib (zc 1) (zc 0)))
abbrev gU:Sm:=
 (zo (ui 2 (cS .zr))
 (zo (zx 3 (cS .zr))
 (zo (fN 4 3 (fk 2 tI (zb (zl 0) (zb (zl 1) zg))))
 (zo (yK (yc (za (zy true) (zk yU (zb (za ze (zc 0) (cI 1)) zg)) (zk yU (zb (za ze (zc 1) (cI 1)) zg)))) (retS (tD (u7 (λ _=>true) (zc 3)) (za (zy false) (zk mq (zb (zl 3) zg)) kg))) yI)
 (zo (zx 5 (zk uv (zb (zl 0) zg)))
 (zo (zx 6 (zk uv (zb (zl 1) zg)))
 (zo (zx 7 nL)
 (zo (yK (lR (yc (za (sT true) (zc 3) (cS .zr))) (lR (ph (xR (He "list" (zc 2)))) (yc (za (zy true) (zc 2) (zc 7))))) (retS (cS (.bl false))) yI)
 (zo (zx 8 (yQ (zb (cS (.str "alike")) (zb (cS (.str "first")) (zb (cS (.str "second")) (zb (cS (.str "neither")) zg))))))
 (zo (zx 9 nJ)
 (zo (xB 2 (cS (.str "first")))
 (zo (js 2)
 (retS (tD (za (zy false) (zk (jM tI) (zb (zl 1) (zb (zl 0) zg))) (zc 9)) (za (zy false) (zk (jM tI) (zb (zl 0) (zb (zl 1) zg))) (zc 7))))))))))))))))
def rG:Ap:=zV ["_law_one","_law_other_here","_law_found","_law_caught","e","_law_here","_law_there","_law_due","_law_names","_law_turned"] 2 gU
abbrev nS:Sm:=
 (yK (ph (xR (zk rG (zb (zl 3) (zb (zk mm (zb (zl 3) (zb (zk tH (zb (zl 0) (zb (zl 4) zg))) (zb (zl 1) (zb (zl 2) zg))))) zg))))) (retS (cS (.bl false))) yI)
abbrev YI:Sm:=
 (zo (fQ (zk ml (zb (zk tH (zb (zl 0) (zb (cI 0) zg))) zg)) (w_ 2 (yR (zv 1) (yR (zv 2) vV))))
 (zo (zx 3 (zk wW (zb (zk tH (zb (zl 0) (zb (cI 1) zg))) (zb (zl 1) (zb (zl 2) zg)))))
 (zo (wo [4] (xh oj (zb (cI 2) (zb (zk sN (zb (cI 3) (zb (zk xU (zb (zk yU (zb (zc 0) zg)) (zb (cI 57) zg))) zg))) (zb (cI 19) zg)))) (zv 4) nS)
 (retS (cS (.bl true))))))
def pQ:Ap:=zV ["_law_script","_law_most","_law_brim","_law_floor_here","_law_k"] 1 YI
def W0 (ps:List (Int×Int)) (h:ps.length<64):qF [.lst (ps.map zq)]=↑(.lst ((tN ps).map zq)):=by
 change (wI (ps.map zq)).bind _=_;rw[WQ,BS,if_pos #[by simpa using h,λ r hr=>by let#[p,_,rfl]:=Av.mp hr;simp[vn]],<- f_,AN];rfl
def Nt {qs p:List (Int×Int)}{x:Int×Int}(hr:∀ r,qs++yy r (qs.getLast?.map (·.2))=yy (p++r) none) (hb:t9 (qs.getLast?.map (·.2)) x.2=true) (r:List (Int×Int)):
  (qs++[x])++yy r ((qs++[x]).getLast?.map (·.2))=yy (p++[x]++r) none:=by
 have:=hr (x::r);rw[show yy (x::r) (qs.getLast?.map (·.2))=x::yy r ↑x.2 by rw[yy,if_pos hb]] at this;exists this
def Nu {qs p:List (Int×Int)}{x:Int×Int}(hr:∀ r,qs++yy r (qs.getLast?.map (·.2))=yy (p++r) none) (hb:t9 (qs.getLast?.map (·.2)) x.2=false) (r:List (Int×Int)):
  qs++yy r (qs.getLast?.map (·.2))=yy (p++[x]++r) none:=by
 have:=hr (x::r);rw[show yy (x::r) (qs.getLast?.map (·.2))=yy r (qs.getLast?.map (·.2)) by rw[yy,if_neg (by rw[hb];nofun)]] at this;exists this
theorem kN (ps:List (Int×Int)) (hl:ps.length<64):su [.lst (ps.map zq)]=↑(.tup ((wL ps).map zq)):=by
 let#[J',h1,qs,h2,h3,h4]:=vx (is:=[2]) (g:=zv 2) (b:=nR) zq (λ p J=>∃ qs:List (Int×Int),J=[↑(.im (.lst (ps.map zq))),↑(.own (.lst (qs.map zq))),none]/\qs.length<=p.length/\
   ∀ r,qs++yy r (qs.getLast?.map (·.2))=yy (p++r) none) (tN ps) [↑(.im (.lst (ps.map zq))),↑(.own (.lst [])),none] #[[],#[],#[],λ r=>#[]] (by
  rintro p x q e J ⟨qs,rfl,hq,hr⟩;have hlen:p.length<64:=by
   have:=congrArg List.length e;rw[(jo ps).length_eq] at this;simp at this;lia
  have app:t9 (qs.getLast?.map (·.2)) x.2=true->∃ HP:List (Int×Int),y9 [2] [↑(.im (.lst (ps.map zq))),↑(.own (.lst (qs.map zq++[zq x]))),↑(.im (zq x))]=[↑(.im (.lst (ps.map zq))),↑(.own (.lst (HP.map zq))),none]/\HP.length<=(p++[x]).length/\∀ r,HP++yy r (HP.getLast?.map (·.2))=yy (p++[x]++r) none:=λ hb=>
   #[qs++[x],#[],by simp;lia,Nt hr hb]
  rcases List.eq_nil_or_concat qs with rfl | ⟨init,l,rfl⟩
  .exact#[_,?_,app (by simp[t9])];simp[turn,nR]
  .simp![List.concat_eq_append] at *;by_cases hb:x.2<l.2
   .exact#[_,?_,app (by simp[t9,hb])];simp at hq;simp[turn,nR,zq,hb,u6];lia
   .exact#[[↑(.im (.lst (ps.map zq))),↑(.own (.lst ((init++[l]).map zq))),↑(.im (zq x))],?_,init++[l],#[],by simp at hq ⊢;lia,Nu hr (by simp[t9];lia)];simp[turn,nR,zq,hb,u6])
 have h5:=h4 [];simp[yy] at h5;unfold su Y9;simp[W0 ps hl,h1,h2,h5,wL]
theorem LU (b o:List (Int×Int)) (hl:b.length+o.length<64):qz [.tup (b.map zq),.tup (o.map zq)]=↑(.tup ((wL (b++o)).map zq)):=by
 have h:=kN (b++o) (by exists hl);rw[BP] at h;have:b.length+o.length<=16777216:=⋯;unfold qz YL;simp[h,this]
def r0 (p:Int×Int):List Int:=[p.1,0,p.2]
def r1 (p:Int×Int):List Int:=[p.1,1,p.2]
def yo (l:Option Int) (v:Int):Int:=match l with
 | none=>v
 | some m=>if m<v then m else v
def vS (l:Option Int) (sh:List (Int×Int)) (f:Int->Int×Int):List (Int×Int):=match l with
 | some m=>sh++[f m]
 | none=>sh
structure Sw (b o:List (Int×Int)) (p:List (List Int)) (l0 l1:Option Int) (sh:List (Int×Int)):Prop where
 jU:∀ x,r0 x∈p->∃ m,l0=↑m/\m<=x.2
 jT:∀ x,r1 x∈p->∃ m,l1=↑m/\m<=x.2
 gf:∀ m,l0=↑m->∃ x,r0 x∈p/\x.2=m
 h_:∀ m,l1=↑m->∃ x,r1 x∈p/\x.2=m
 len:sh.length<=p.length
 snd:∀ s∈sh,(∃ x,r0 x∈p/\x.1<=s.1/\x.2<=s.2)/\∃ x,r1 x∈p/\x.1<=s.1/\x.2<=s.2
 all:∀ x y,r0 x∈p->r1 y∈p->∃ s∈sh,(s.1<=x.1\/s.1<=y.1)/\(s.2<=x.2\/s.2<=y.2)
def mW {x y:Int×Int}(h:r0 x=r0 y):x=y:=by
 unfold r0 at h;injection h with h1 h2;injection h2 with _ h2;injection h2 with h2 _;show Prod.ext h1 h2
def mV {x y:Int×Int}(h:r1 x=r1 y):x=y:=by
 unfold r1 at h;injection h with h1 h2;injection h2 with _ h2;injection h2 with h2 _;show Prod.ext h1 h2
def qK {x y:Int×Int}(h:r0 x=r1 y):False:=by
 unfold r0 r1 at h;injection h with h1 h2;injection h2 with h2 _;lia
def uT {p:List (List Int)}{a x:List Int}(h:a∈p++[x]):a∈p\/a=x:=by exists h
def Sw.Ws {b o:List (Int×Int)}{p:List (List Int)}{l0 l1:Option Int}{sh:List (Int×Int)}(h:Sw b o p l0 l1 sh) (x:Int×Int) (hx:∀ y,r0 y∈p->y.1<=x.1) (hy:∀ y,r1 y∈p->y.1<=x.1):
  Sw b o (p++[r0 x]) ↑(yo l0 x.2) l1 (vS l1 sh λ m=>(x.1,if m>yo l0 x.2 then m else yo l0 x.2)):=by
 have lo:yo l0 x.2<=x.2/\∀ m,l0=↑m->yo l0 x.2<=m:=by
  unfold yo;cases l0 with
  | none=>show#[AX _,nofun]
  | some m=>dsimp only;split <;> exact#[⋯,λ m' e=>?_] <;> cases e <;> lia
 have la:∃ y,r0 y∈p++[r0 x]/\y.2=yo l0 x.2:=by
  unfold yo;cases l0 with
  | none=>show#[x,#[],rfl]
  | some m=>
   dsimp only;split
   .let#[y,h1,h2]:=h.gf m rfl;show#[y,by simp[h1],h2]
   .show#[x,#[],rfl]
 have Hw:∀ s∈sh,(∃ x',r0 x'∈p++[r0 x]/\x'.1<=s.1/\x'.2<=s.2)/\∃ x',r1 x'∈p++[r0 x]/\x'.1<=s.1/\x'.2<=s.2:=λ s hs=>by
  let#[#[a,a1,a2],c,c1,c2]:=h.snd s hs;show#[#[a,by simp[a1],a2],c,by simp[c1],c2]
 exact#[λ y hm=>?_,λ y hm=>?_,λ m e=>?_,λ m e=>?_,?_,λ s hs=>?_,λ y z hm hz=>?_]
 .rcases uT hm with q | q
  .let#[m,e,q2]:=h.jU y q;show#[_,rfl,by have:=lo.2 m e;lia]
  .cases mW q;show#[_,rfl,lo.1]
 .rcases uT hm with q | q
  .show h.jT y q
  .show (qK q.symm).elim
 .cases e;show la
 .let#[y,q1,q2]:=h.h_ m e;show#[y,by simp[q1],q2]
 .have:=h.len;cases l1 <;> simp[vS] <;> lia
 .cases l1 with
  | none=>show Hw s hs
  | some m=>
   rcases AY.mp hs with q | q
   .show Hw s q
   .obtain rfl:s=_:=by exists q
    let#[y,y1,y2]:=la;let#[z,z1,z2]:=h.h_ m rfl;have Ey:=hy z z1;exact#[#[y,y1,?_,by dsimp only;split <;> lia],z,by simp[z1],Ey,by dsimp only;split <;> lia];rcases uT y1 with w | w
    .show hx y w
    .cases mW w;show AX _
 .have J5:r1 z∈p:=by
   rcases uT hz with q | q
   .show q
   .show (qK q.symm).elim
  rcases uT hm with q | q
  .let#[s,s1,s2]:=h.all y z q J5;exact#[s,?_,s2];cases l1 <;> simp[vS,s1]
  .cases mW q;let#[m,e,hm]:=h.jT z J5;subst e;exact#[_,A5 _ Ax,.inl (AX _),?_];have:=lo.1;dsimp only;split <;> lia
def Sw.swap {b o:List (Int×Int)}{p:List (List Int)}{l0 l1:Option Int}{sh:List (Int×Int)}(x:Int×Int) (h:Sw b o p l0 l1 sh) (hx:∀ y,r0 y∈p->y.1<=x.1) (hy:∀ y,r1 y∈p->y.1<=x.1):
  Sw b o (p++[r1 x]) l0 ↑(yo l1 x.2) (vS l0 sh λ m=>(x.1,if yo l1 x.2>m then yo l1 x.2 else m)):=by
 have lo:yo l1 x.2<=x.2/\∀ m,l1=↑m->yo l1 x.2<=m:=by
  unfold yo;cases l1 with
  | none=>show#[AX _,nofun]
  | some m=>dsimp only;split <;> exact#[⋯,λ m' e=>?_] <;> cases e <;> lia
 have la:∃ y,r1 y∈p++[r1 x]/\y.2=yo l1 x.2:=by
  unfold yo;cases l1 with
  | none=>show#[x,#[],rfl]
  | some m=>
   dsimp only;split
   .let#[y,h1,h2]:=h.h_ m rfl;show#[y,by simp[h1],h2]
   .show#[x,#[],rfl]
 have Hw:∀ s∈sh,(∃ x',r0 x'∈p++[r1 x]/\x'.1<=s.1/\x'.2<=s.2)/\∃ x',r1 x'∈p++[r1 x]/\x'.1<=s.1/\x'.2<=s.2:=λ s hs=>by
  let#[#[a,a1,a2],c,c1,c2]:=h.snd s hs;show#[#[a,by simp[a1],a2],c,by simp[c1],c2]
 exact#[λ y hm=>?_,λ y hm=>?_,λ m e=>?_,λ m e=>?_,?_,λ s hs=>?_,λ y z hm hz=>?_]
 .rcases uT hm with q | q
  .show h.jU y q
  .show (qK q).elim
 .rcases uT hm with q | q
  .let#[m,e,q2]:=h.jT y q;show#[_,rfl,by have:=lo.2 m e;lia]
  .cases mV q;show#[_,rfl,lo.1]
 .let#[y,q1,q2]:=h.gf m e;show#[y,by simp[q1],q2]
 .cases e;show la
 .have:=h.len;cases l0 <;> simp[vS] <;> lia
 .cases l0 with
  | none=>show Hw s hs
  | some m=>
   rcases AY.mp hs with q | q
   .show Hw s q
   .obtain rfl:s=_:=by exists q
    let#[y,y1,y2]:=la;let#[z,z1,z2]:=h.gf m rfl;have Ey:=hx z z1;exact#[#[z,by simp[z1],Ey,by dsimp only;split <;> lia],y,y1,?_,by dsimp only;split <;> lia];rcases uT y1 with w | w
    .show hy y w
    .cases mV w;show AX _
 .have IU:r0 y∈p:=by
   rcases uT hm with q | q
   .show q
   .show (qK q).elim
  rcases uT hz with q | q
  .let#[s,s1,s2]:=h.all y z IU q;exact#[s,?_,s2];cases l0 <;> simp[vS,s1]
  .cases mV q;let#[m,e,hm]:=h.jU y IU;subst e;exact#[_,A5 _ Ax,.inr (AX _),?_];have:=lo.1;dsimp only;split <;> lia
structure Lw (d:List (Key×T)) (l0 l1:Option Int):Prop where
 v0:yC d (.inl 0)=l0.map T.int
 v1:yC d (.inl 1)=l1.map T.int
 len:d.length=(if l0.isSome then 1 else 0)+if l1.isSome then 1 else 0
def Lw.Vn {d:List (Key×T)}{l0 l1:Option Int}(h:Lw d l0 l1) (v:Int):Lw (wK d (.inl 0) (.int v)) ↑v l1:=by
 exact#[by rw[mC];simp,by rw[mC];simpa using h.v1,?_];rw[cH,h.v0,h.len];cases l0 <;> cases l1 <;> simp
def Lw.Vm {d:List (Key×T)}{l0 l1:Option Int}(h:Lw d l0 l1) (v:Int):Lw (wK d (.inl 1) (.int v)) l0 ↑v:=by
 exact#[by rw[mC];simpa using h.v0,by rw[mC];simp,?_];rw[cH,h.v1,h.len];cases l0 <;> cases l1 <;> simp
def lK {rows p q:List (List Int)}{x:List Int}(e:L4.yZ rows=p++x::q) {a:List Int}(ha:a∈p) {i j:Int}{as xs:List Int}(h1:a=i::as) (h2:x=j::xs):i<=j:=by
 have h:=L4.mO rows;rw[e,DV] at h;have:=h.2.2 a ha x Ax;subst h1 h2;rw[HT.sP] at this;by_cases c:j=i
 .lia
 .rw[if_neg c] at this;have:=of_decide_eq_false this;lia
def Li {a0 a1 a2:W}{d:List (Key×T)}{S:List T}{x k y:Int}{lk:Option Int}(hv:yC d (.inl k)=lk.map T.int) (hd:d.length<16777216):
  iJ 3 (zc 6) (zk xU (zb (zc 7) (zb (iK 3 (zc 6) (zl 7)) zg))) [↑a0,↑a1,↑a2,↑(.own (.zB d)),↑(.own (.lst S)),↑(.im (.int x)),↑(.im (.int k)),↑(.im (.int y))] =
   ↑(.nx [↑a0,↑a1,↑a2,↑(.own (.zB (wK d (.inl k) (.int (yo lk y))))),↑(.own (.lst S)),↑(.im (.int x)),↑(.im (.int k)),↑(.im (.int y))]):=by
 have hm:xU [.int y,(yC d (.inl k)).getD (.int y)]=↑(.int (yo lk y)):=by rw[hv];cases lk <;> simp[yo]
 change (xU [.int y,(yC d (.inl k)).getD (.int y)]).bind _=_;rw[hm];show if_pos hd
def bS (S:List T) (x:Int):Option Int->Option Int->List T
 | some u,↑v=>S++[.tup [.int x,.int (if v>u then v else u)]]
 | _,_=>S
def Lj {a0 a1 a2:W}{d:List (Key×T)}{S:List T}{x:Int}{f g:Option W}{l0 l1:Option Int}(h:Lw d l0 l1) (hs:S.length<16777216):
  yK (yc (za (zy false) (nr 3) (cI 2))) (xB 4 (tupS (zb (zl 5) (zb (zk sN (zb (qe 3 (cI 0)) (zb (qe 3 (cI 1)) zg))) zg)))) yI [↑a0,↑a1,↑a2,↑(.own (.zB d)),↑(.own (.lst S)),↑(.im (.int x)),f,g] =
   ↑(.nx [↑a0,↑a1,↑a2,↑(.own (.zB d)),↑(.own (.lst (bS S x l0 l1))),↑(.im (.int x)),f,g]):=by
 have ht:zy false (.int d.length) (.int 2)=↑(.bl (l0.isSome&&l1.isSome)):=by
  rw[h.len];cases l0 <;> cases l1 <;> rfl
 have hT:yc (za (zy false) (nr 3) (cI 2)) [↑a0,↑a1,↑a2,↑(.own (.zB d)),↑(.own (.lst S)),↑(.im (.int x)),f,g]=↑(l0.isSome&&l1.isSome):=by
  change ((zy false (.int d.length) (.int 2)).bind _)=_;rw[ht];rfl
 exact (congrArg (Option.bind · _) hT).trans ?_;cases l0 with
 | none=>rfl
 | some u=>
  cases l1 with
  | none=>rfl
  | some v=>
   have hf:tupS (zb (zl 5) (zb (zk sN (zb (qe 3 (cI 0)) (zb (qe 3 (cI 1)) zg))) zg)) [↑a0,↑a1,↑a2,↑(.own (.zB d)),↑(.own (.lst S)),↑(.im (.int x)),f,g]=↑(.tup [.int x,.int (if v>u then v else u)]):=by simp[h.v0,h.v1]
   show (congrArg (Option.bind · _) hf).trans (if_pos hs)
def Zj {a0 a1 a2:W}{d:List (Key×T)}{S:List T}{x k y:Int}{lk l0 l1:Option Int}(hv:yC d (.inl k)=lk.map T.int) (hd:d.length<16777216) (h:Lw (wK d (.inl k) (.int (yo lk y))) l0 l1) (hs:S.length<16777216):
  turn (w_ 3 (yR (zv 5) (yR (zv 6) (yR (zv 7) vV)))) hV (.tup [.int x,.int k,.int y]) [↑a0,↑a1,↑a2,↑(.own (.zB d)),↑(.own (.lst S)),none,none,none] =
   ↑(.nx [↑a0,↑a1,↑a2,↑(.own (.zB (wK d (.inl k) (.int (yo lk y))))),↑(.own (.lst (bS S x l0 l1))),↑(.im (.int x)),↑(.im (.int k)),↑(.im (.int y))]):=
 (congrArg (Option.bind · _) (Li hv hd)).trans (Lj h hs)
theorem L_ (b o:List (Int×Int)) (hl:b.length+o.length<64):∃ sh:List (Int×Int),mv [.tup (b.map zq),.tup (o.map zq)]=↑(.tup ((wL sh).map zq))/\sh.length<64/\∀ q,zH sh q=(zH b q&&zH o q):=by
 let a0:W:=.im (.tup (b.map zq))
 let a1:W:=.im (.tup (o.map zq))
 let rows:=b.map r0++o.map r1
 let a2:W:=.im (.lst (rows.map zS))
 have hlen:rows.length<64:=by simp[rows];show hl
 have hs:qF [.lst (rows.map zS)]=↑(.lst ((L4.yZ rows).map zS)):=by
  change ((wI (rows.map zS)).bind λ rs=>_)=_;rw[mS,BS,if_pos #[hlen,λ r hr=>by
   rcases AY.mp hr with h | h <;> let#[_,_,rfl]:=Av.mp h <;> simp[r0,r1]]]
 have Kt:(L4.yZ rows).length=rows.length:=(L4.vP rows).length_eq;let#[J1,h1,d,l0,l1,sh,e1,w1,s1]:=vx (is:=[5,6,7]) (g:=w_ 3 (yR (zv 5) (yR (zv 6) (yR (zv 7) vV)))) (b:=hV) zS (λ p J=>∃ d l0 l1 sh,J=[↑a0,↑a1,↑a2,↑(.own (.zB d)),↑(.own (.lst (sh.map zq))),none,none,none]/\Lw d l0 l1/\Sw b o p l0 l1 sh) (L4.yZ rows) [↑a0,↑a1,↑a2,↑(.own (.zB [])),↑(.own (.lst [])),none,none,none]
  #[[],none,none,[],#[],#[rfl,rfl,rfl],#[nofun,nofun,nofun,nofun,#[],nofun,nofun]] (by
  rintro p x q e J ⟨d,l0,l1,sh,rfl,hw,Bv⟩;have hx:x∈rows:=(L4.vP rows).mem_iff.mp (by rw[e];simp);have Ao:p.length<64:=by
   have:=congrArg List.length e;rw[Kt] at this;simp at this;lia
  have Bw:sh.length<16777216:=by have:=Bv.len;lia
  have DD:d.length<16777216:=by rw[hw.len];split <;> split <;> lia
  rcases AY.mp hx with hm | hm
  .let#[y,_,rfl]:=Av.mp hm;have st:=Bv.Ws y (λ z hz=>lK e hz rfl rfl) (λ z hz=>lK e hz rfl rfl);have Jr:=hw.Vn (yo l0 y.2);exact#[[↑a0,↑a1,↑a2,↑(.own (.zB (wK d (.inl 0) (.int (yo l0 y.2))))),↑(.own (.lst ((vS l1 sh λ m=>(y.1,if m>yo l0 y.2 then m else yo l0 y.2)).map zq))),↑(.im (.int y.1)),↑(.im (.int 0)),↑(.im (.int y.2))],?_,_,_,_,_,#[],Jr,st];rw[show ((vS l1 sh λ m=>(y.1,if m>yo l0 y.2 then m else yo l0 y.2)).map zq)=bS (sh.map zq) y.1 ↑(yo l0 y.2) l1 by cases l1 <;> simp[vS,bS,zq]];show Zj hw.v0 DD Jr (by exists Bw)
  .let#[y,_,rfl]:=Av.mp hm;have st:=Bv.swap y (λ z hz=>lK e hz rfl rfl) (λ z hz=>lK e hz rfl rfl);have Jr:=hw.Vm (yo l1 y.2);exact#[[↑a0,↑a1,↑a2,↑(.own (.zB (wK d (.inl 1) (.int (yo l1 y.2))))),↑(.own (.lst ((vS l0 sh λ m=>(y.1,if yo l1 y.2>m then yo l1 y.2 else m)).map zq))),↑(.im (.int y.1)),↑(.im (.int 1)),↑(.im (.int y.2))],?_,_,_,_,_,#[],Jr,st];rw[show ((vS l0 sh λ m=>(y.1,if yo l1 y.2>m then yo l1 y.2 else m)).map zq)=bS (sh.map zq) y.1 l0 ↑(yo l1 y.2) by cases l0 <;> simp[vS,bS,zq]];show Zj hw.v1 DD Jr (by exists Bw))
 have D3:sh.length<64:=by have:=s1.len;lia
 exact#[sh,?_,D3,λ q=>?_]
 .subst e1;have IG:Zi [↑a0,↑a1,none,none,none,none,none,none]=↑(.lst ((b.map r0).map zS)):=by
   rw[AN];show vW zq (zS ∘ r0) b (by simp[a0]) ⋯ λ y _=>by simp[zq,zS,r0]
  have GR:Zh [↑a0,↑a1,none,none,none,none,none,none]=↑(.lst ((o.map r1).map zS)):=by
   rw[AN];show vW zq (zS ∘ r1) o (by simp[a1]) ⋯ λ y _=>by simp[zq,zS,r1]
  have hF:=kN sh D3;have z:b.length+o.length<=16777216:=⋯;simp![a0,a1,a2,rows,BP] at IG GR hs h1;unfold mv YN;simp[IG,GR,z,hs,h1,hF] at IG GR hs h1 ⊢;simp[IG,GR,z,hs,h1,hF]
 .have m0:∀ x,r0 x∈L4.yZ rows↔x∈b:=λ x=>by
   rw[(L4.vP rows).mem_iff];constructor
   .intro h;rcases AY.mp h with h | h <;> let#[y,hy,e]:=Av.mp h
    .cases mW e;show hy
    .show (qK e.symm).elim
   .show λ h=>C6 _ (List.mem_map_of_mem h)
  have m1:∀ x,r1 x∈L4.yZ rows↔x∈o:=λ x=>by
   rw[(L4.vP rows).mem_iff];constructor
   .intro h;rcases AY.mp h with h | h <;> let#[y,hy,e]:=Av.mp h
    .show (qK e).elim
    .cases mV e;show hy
   .show λ h=>A5 _ (List.mem_map_of_mem h)
  rw[B2,BQ,yA,yA,yA];constructor
  .rintro⟨s,hs,g1,g2⟩;let#[#[x,x1,x2,x3],y,y1,y2,y3]:=s1.snd s hs;show#[#[x,(m0 x).mp x1,⋯,⋯],y,(m1 y).mp y1,⋯,⋯]
  .rintro⟨⟨x,x1,x2,x3⟩,y,y1,y2,y3⟩;let#[s,s1,g1,g2]:=s1.all x y ((m0 x).mpr x1) ((m1 y).mpr y1);show#[s,s1,⋯,⋯]
theorem lU {α:Type}(enc:α->T) (n:Nat) (h:∀ x,dep (enc x)<=n):∀ xs:List α,xK (xs.map enc)<=n
 | []=>by simp[xK]
 | x::xs=>by
  have:=h x;have:=lU enc n h xs;simp![Ar,xK];lia
def Ms (p:Int×Int):dep (zq p)<=1:=by simp[zq,dep,xK]
def aB (ps:List (Int×Int)):dep (.tup (ps.map zq))<=60:=by
 have:=lU zq 1 Ms ps;simp![dep];lia
end zN
namespace zN
open PySem L2 L3 L5 RN
def bT (b:Bd):T:=.tup (b.map zq)
def rT (r:List Bd):T:=.lst (r.map bT)
def kt (b:Bool):T:=if b=true then .str "keeper" else .str "taker"
def zu (w:Wy):T:=.tup [.int w.f,.int w.t,.int w.a,.int w.b]
def vR (b:Bool):Int:=if b=true then 1 else 0
def yg (s:Sl):T:=.tup [.int s.p,.int (vR s.pu),.int s.gv,.int s.gt]
def zh (F:zF):T:=.tup [.tup [.int F.A,.int F.B],.tup (F.os.map kt),.tup (F.ws.map zu),.tup (F.ss.map yg)]
def eq_int (i j:Int) (neg:Bool):zy neg (.int i) (.int j)=↑(.bl (cond neg (!decide (i=j)) (decide (i=j)))):=by
 simp[zy,dep,eqT];cases neg <;> simp[Bool.beq_eq_decide_eq]
def pN (F:zF):uI [zh F]=↑(.int F.os.length):=by
 simp[uI,Y4,zh]
def Z_ (q p:Int×Int):rH [zq q,zq p]=↑(.bl (yV q p)):=by
 by_cases h1:p.1<=q.1 <;> by_cases h2:p.2<=q.2 <;> simp[rH,YT,zq,yV,h1,h2]
def Ln {α:Type}(g:α->Bool) (xs:List α):ql (xs.map λ x=>T.bl (g x))=↑(xs.map g):=by
 have:=Lp (xs.map g)
 rwa [AN] at this
theorem Kb (A B:Int) (w:Wy) (bd:Bd) (hl:bd.length<64):mz [.tup [.int A,.int B],zu w,bT bd]=↑(bT (nU A B w.a w.b bd)):=by
 have h1:ki [↑(.im (.tup [.int A,.int B])),↑(.im (zu w)),↑(.im (bT bd)),none]=↑(.lst ((bd.map (xM w.a w.b)).map zq)):=by
  rw[AN];unfold ki;exact vW zq _ bd (by simp[bT]) ⋯ λ p _=>?_;simp[zq,zu,xM,xS,qT]
 have h2:ka [↑(.im (.tup [.int A,.int B])),↑(.im (zu w)),↑(.im (bT bd)),↑(.im (.lst ((bd.map (xM w.a w.b)).map zq)))]=↑(.lst (((bd.map (xM w.a w.b)).filter (vA A B)).map zq)):=by
  have:=sQ zq (λ p=>if vA A B p=true then ↑(zq p) else none) (pick:=[none,↑0]) (it:=yE (zc 3)) (g:=zv 0) (c:=xR (zk rH (zb (zl 1) (zb (zl 0) zg)))) (f:=zl 0) (J:=[↑(.im (.tup [.int A,.int B])),↑(.im (zu w)),↑(.im (bT bd)),↑(.im (.lst ((bd.map (xM w.a w.b)).map zq)))]) (bd.map (xM w.a w.b)) #[] (by simp;lia) (λ p _=>by
   have e:T.tup [.int A,.int B]=zq (A,B):=rfl;have ga:yV (A,B) p=vA A B p:=rfl;simp![vy,e];simp[Z_,ga];cases vA A B p <;> simp)
  unfold ka;rw[this,show ∀ l:List (Int×Int),l.filterMap (λ p=>if vA A B p=true then ↑(zq p) else none)=(l.filter (vA A B)).map zq from λ l=>by
   induction l with
   | nil=>rfl
   | cons a l ih=>by_cases h:vA A B a=true <;> simp[CD,h,ih]]
 have h3:=kN ((bd.map (xM w.a w.b)).filter (vA A B)) (Nat.lt_of_le_of_lt (BZ _ _) (by exists hl));unfold mz YS;generalize ki=d1 at h1 ⊢;generalize ka=d2 at h2 ⊢;generalize su=ff at h3 ⊢;generalize (bd.map (xM w.a w.b)).map zq=L1 at h1 h2;generalize (((bd.map (xM w.a w.b)).filter (vA A B)).map zq)=L2 at h2 h3;simp[h1,h2,h3];rfl
def ZW (b c:Bd) (hl:b.length+c.length<64):qz [bT b,bT c]=↑(bT (xb b c)):=LU b c hl
def LZ (b c:Bd) (hl:b.length+c.length<64):mv [bT b,bT c]=↑(bT (vE b c)):=by
 let#[sh,h1,_,h2]:=L_ b c hl;have:wL sh=vE b c:=yB.eq (oI _) (oI _) λ q=>by
  rw[l9,h2,<- Zk]
 rw[<- this];show h1
theorem LS {A B:Int}(hA:0<=A/\A<=12) (bs:List Bd) (h:∀ b∈bs,Gd A B b):mx [.lst (bs.map bT)]=↑(bT (sd bs)):=by
 let#[J',h1,h2]:=vx (is:=[2]) (g:=zv 2) (b:=kx) bT (λ p J=>J=[↑(.im (.lst (bs.map bT))),↑(.im (bT (p.foldl xb []))),none]) bs [↑(.im (.lst (bs.map bT))),↑(.im (bT [])),none] rfl (by
  rintro p x q e J rfl;have g1:Gd A B (p.foldl xb []):=lQ p [] Gd.nil λ c hc=>h c (by rw[e];simp[hc]);have g2:Gd A B x:=h x (by rw[e];simp);have l1:=g1.uV hA.1;have l2:=g2.uV hA.1;exact#[[↑(.im (.lst (bs.map bT))),↑(.im (bT (xb (p.foldl xb []) x))),↑(.im (bT x))],?_,#[]];simp[turn,kx,ZW (p.foldl xb []) x ⋯])
 subst h2;unfold mx YQ;generalize kx=bb at h1 ⊢;have e:bT []=.tup []:=rfl;rw[e] at h1;simp[h1,sd]
theorem LY {A B:Int}(hA:0<=A/\A<=12) (hB:0<=B) (bs:List Bd) (h:∀ b∈bs,Gd A B b):my [.lst (bs.map bT)]=↑(bT (kl bs)):=by
 let#[J',h1,h2]:=vx (is:=[2]) (g:=zv 2) (b:=ky) bT (λ p J=>J=[↑(.im (.lst (bs.map bT))),↑(.im (bT (p.foldl vE xN))),none]) bs [↑(.im (.lst (bs.map bT))),↑(.im (bT xN)),none] rfl (by
  rintro p x q e J rfl;have g1:Gd A B (p.foldl vE xN):=iY p xN (Gd.xN hA.1 hB) λ c hc=>h c (by rw[e];simp[hc]);have g2:Gd A B x:=h x (by rw[e];simp);have l1:=g1.uV hA.1;have l2:=g2.uV hA.1;exact#[[↑(.im (.lst (bs.map bT))),↑(.im (bT (vE (p.foldl vE xN) x))),↑(.im (bT x))],?_,#[]];simp[turn,ky,LZ (p.foldl vE xN) x ⋯])
 subst h2;unfold my YR;generalize ky=bb at h1 ⊢;have e:bT xN=.tup [.tup [.int 0,.int 0]]:=rfl;rw[e] at h1;simp[h1,kl]
theorem c8 {α:Type}{is:List Nat}{g:T->Ev->Option Ev}{b:Sm}(enc ret:α->T) (test:α->Bool) (J0:Ev):∀ (xs:List α) (J:Ev),y9 is J=J0->
  (∀ x∈xs,∃ J',y9 is J'=J0/\turn g b (enc x) J0=↑(if test x=true then .rt (ret x) else .nx J'))->
  xy is g b (xs.map enc) J=↑(match xs.find? test with | some x=>.rt (ret x) | none=>.nx J0)
 | [],J,h,_=>by rw[Bh,List.find?_nil,xy,h]
 | x::xs,J,h,ht=>by
  rw[Ar,c9,h];let#[J',h1,h2]:=ht x Ax;rw[h2,CA];by_cases c:test x=true
  .rw[if_pos c,c];rfl
  .rw[if_neg c];rw[Bool.not_eq_true] at c;rw[c];show c8 enc ret test J0 xs J' h1 λ y hy=>ht y (Ay _ hy)
def LI (i a b:Int):kO [.int i,.int a,.int b]=↑(.bl (decide (a<=i)&&decide (i<=b))):=by
 have h:kP [.int i]=↑(.bl true):=by simp[kP,YK,uW]
 by_cases h1:a<=i <;> by_cases h2:i<=b <;> simp[kO,YJ,h,h1,h2]
theorem ZY (F:zF) (p:Nat) (h:p<F.os.length):mr [zh F,.int p]=↑.zr:=by
 have h1:=LI p 0 ((F.os.length:Int)-1);rw[show decide ((0:Int)<=p)=true from zaA ⋯,show decide ((p:Int)<=(F.os.length:Int)-1)=true from zaA ⋯] at h1;have h2:=pN F;unfold mr YM;generalize zh F=fl at *;simp[h1,h2]
def MD (pu:Bool) (A B:Int) (sp gv gt:Int) (x y:Int) (hg:1<=gv) (b0 b1:T) (hb:ze b0 (.int (vR pu))=↑(.int (if pu=true then B else A))) (Ho:ze b1 (.int 2)=↑(.int gv)) (hs3:ze b1 (.int 3)=↑(.int gt)) (pr:T):
  ∀ (n m:Nat) (g t:Int) (acc:Bd),(if pu=true then B else A)+1-g<=n->n<m->acc.length+n<=1000->
  ∃ g' t',wg [] (yc (za qP (zc 5) (za ze (zc 0) (zc 3)))) qm m [↑(.im b0),↑(.im b1),↑(.im pr),↑(.im (.int (vR pu))),↑(.own (.lst (acc.map zq))),↑(.im (.int g)),↑(.im (.int t))]
   = ↑(.nx [↑(.im b0),↑(.im b1),↑(.im pr),↑(.im (.int (vR pu))),↑(.own (.lst ((acc++xX pu (if pu=true then B else A) gv gt n g t).map zq))),↑(.im (.int g')),↑(.im (.int t'))]):=by
 have Bz:∀ (m:Nat) (g t:Int) (acc:Bd),¬ g<=(if pu=true then B else A)->wg [] (yc (za qP (zc 5) (za ze (zc 0) (zc 3)))) qm (m+1) [↑(.im b0),↑(.im b1),↑(.im pr),↑(.im (.int (vR pu))),↑(.own (.lst (acc.map zq))),↑(.im (.int g)),↑(.im (.int t))]
   = ↑(.nx [↑(.im b0),↑(.im b1),↑(.im pr),↑(.im (.int (vR pu))),↑(.own (.lst (acc.map zq))),↑(.im (.int g)),↑(.im (.int t))]):=λ m g t acc hn=>by
  unfold wg;simp![ze] at hb;simp[hb,hn]
 intro n
 induction n with
 | zero=>
  intro m g t acc h1 h2 h3;obtain⟨m,rfl⟩:∃ k,m=k+1:=#[m-1,⋯];exact#[g,t,?_];rw[Bz m g t acc ⋯];simp[xX]
 | succ n ih=>
  intro m g t acc h1 h2 h3;obtain⟨m,rfl⟩:∃ k,m=k+1:=#[m-1,⋯];by_cases hc:g<=(if pu=true then B else A)
  .let#[g',t',e]:=ih m (g+gv) (xS (t-gt)) (acc++[tT pu g t]) ⋯ ⋯ (by simp;lia);exact#[g',t',?_];have Ik:qm [↑(.im b0),↑(.im b1),↑(.im pr),↑(.im (.int (vR pu))),↑(.own (.lst (acc.map zq))),↑(.im (.int g)),↑(.im (.int t))]=↑(.nx [↑(.im b0),↑(.im b1),↑(.im pr),↑(.im (.int (vR pu))),↑(.own (.lst ((acc++[tT pu g t]).map zq))),↑(.im (.int (g+gv))),↑(.im (.int (xS (t-gt))))]):=by
    simp![ze] at Ho hs3;have hl:acc.length<16777216:=⋯;unfold qm;cases pu <;> simp[vR,eq_int,Ho,hs3,hl,qT,xS,tT,zq]
   unfold wg;simp![ze] at hb;generalize qm=bb at *;have e2:xX pu (if pu=true then B else A) gv gt (n+1) g t=tT pu g t::xX pu (if pu=true then B else A) gv gt n (g+gv) (xS (t-gt)):=by
    rw[xX,if_pos hc]
   rw[e2];simp![DW,List.singleton_append] at e;simp[hb,hc,Ik];exists e
  .exact#[g,t,?_];rw[Bz m g t acc hc,xX,if_neg hc,CC]
theorem LX {F:zF}(ok:F.Ok) (s:Sl) (hs:1<=s.gv/\0<=s.gt) (p:Int×Int) (h0:0<=p.1/\0<=p.2):mh [.tup [.int F.A,.int F.B],yg s,zq p]=↑(.lst ((yF F s p).map zq)):=by
 let#[sp,pu,gv,gt]:=s;have a1:=ok.a1;have b1:=ok.b1;let#[g',t',h]:=MD pu F.A F.B sp gv gt p.1 p.2 hs.1 (.tup [.int F.A,.int F.B]) (yg #[sp,pu,gv,gt]) (by cases pu <;> simp[vR]) (by simp[yg]) (by simp[yg]) (zq p) 100 1000000 (v7 pu p) (tZ pu p) [] (by cases pu <;> simp[v7] <;> lia) () #[];unfold mh Y6 pU;generalize hb:qm=bb at h ⊢;unfold yF zF.zt;simp![Bh,List.nil_append] at h;cases pu <;> simp[yg,vR,zq,v7,tZ] at h ⊢ <;> simp[h]
theorem LK (F:zF) (p:Nat) (h:p<F.os.length) (hl:F.ss.length<=60):qx [zh F,.int p]=↑(match F.GK p with | some s=>yg s | none=>.zr):=by
 have G1:=c8 (is:=[2]) (g:=zv 2) (b:=nQ) yg yg (λ s=>decide (s.p=p)) [↑(.im (zh F)),↑(.im (.int p)),none] F.ss [↑(.im (zh F)),↑(.im (.int p)),none] #[] λ s _=>#[[↑(.im (zh F)),↑(.im (.int p)),↑(.im (yg s))],#[],by
  by_cases c:s.p=p
  .simp[turn,nQ,yg,eq_int,c]
  .have c':¬ ((s.p:Int)=(p:Int)):=⋯;simp[turn,nQ,yg,eq_int,c,c']]
 have h1:=ZY F p h;have h2:ze (zh F) (.int 3)=↑(.tup (F.ss.map yg)):=by simp[zh]
 unfold qx Y2;generalize nQ=bb,zh F=fl at *;simp![ze] at h2;unfold zF.GK;generalize F.ss.find? _=o at *;simp[h1,h2,G1];cases o <;> simp
theorem ai:∀ (ws:List Wy) (k:Nat),sZ k (ws.map zu)=(ws.zipIdx k).map λ wi=>T.tup [.int (wi.2:Int),zu wi.1]
 | [],k=>rfl
 | w::ws,k=>by
  rw[Ar,sZ,ai ws (k+1),DI,Ar]
theorem kS (f:Wy->Bool):∀ (ws:List Wy) (k:Nat),((ws.zipIdx k).filter λ wi=>f wi.1).map (λ wi=>wi.1)=ws.filter f
 | [],k=>rfl
 | w::ws,k=>by
  rw[DI,List.filter_cons,List.filter_cons];by_cases c:f w=true
  .rw[if_pos (by show c),if_pos c,Ar,kS f ws]
  .rw[if_neg (by show c),if_neg c,kS f ws]
theorem LJ (F:zF) (p:Nat) (h:p<F.os.length) (hl:F.ws.length<=60):mf [zh F,.int p]=↑(.lst (((F.ws.zipIdx).filter λ wi=>decide (wi.1.f=p)).map λ wi=>T.int (wi.2:Int))):=by
 have hc:kc [↑(.im (zh F)),↑(.im (.int p))]=↑(.lst (((F.ws.zipIdx).filter λ wi=>decide (wi.1.f=p)).map λ wi=>T.int (wi.2:Int))):=by
  have:=sQ (λ wi:Wy×Nat=>T.tup [.int (wi.2:Int),zu wi.1]) (λ wi=>if wi.1.f=p then ↑(T.int (wi.2:Int)) else none) (pick:=[none,none,↑1]) (it:=xh s_ (zb (za ze (zc 0) (cI 2)) zg)) (g:=w_ 2 (yR (zv 0) (yR (zv 1) vV))) (c:=yc (za (zy false) (za ze (zc 1) (cI 0)) (zc 2))) (f:=zl 0) (J:=[↑(.im (zh F)),↑(.im (.int p))]) (F.ws.zipIdx) (by
   rw[<- ai];simp[zh]) (by simp;lia) (λ wi _=>by
   by_cases c:wi.1.f=p
   .simp[zu,eq_int,c]
   .have c':¬ ((wi.1.f:Int)=(p:Int)):=⋯;simp[zu,eq_int,c,c'])
  unfold kc;rw[this];congr 2
  induction F.ws.zipIdx with
  | nil=>rfl
  | cons a l ih=>by_cases c:a.1.f=p <;> simp[CD,c,ih]
 have h1:=ZY F p h;unfold mf Y1;generalize kc=cc,zh F=fl at *;generalize List.map (λ wi:Wy×Nat=>T.int (wi.2:Int)) _=LL at *;simp[h1,hc]
theorem af:∀ (b c:Bd),xo (b.map zq) (c.map zq)=decide (b=c)
 | [],[]=>by simp[xo]
 | [],_::_=>by simp[xo]
 | _::_,[]=>by simp[xo]
 | p::b,q::c=>by
  have h:=af b c;have e:eqT (zq p) (zq q)=decide (p=q):=by
   let#[p1,p2]:=p;let#[q1,q2]:=q;by_cases h1:p1=q1 <;> by_cases h2:p2=q2 <;> simp[zq,eqT,xo,h1,h2]
  rw[Ar,Ar,xo,e,h];by_cases h1:p=q <;> by_cases h2:b=c <;> simp[h1,h2]
def cu (b c:Bd):zy true (bT b) (bT c)=↑(.bl (decide (b≠c))):=by
 have h1:dep (bT b)<=60:=aB b;have h2:dep (bT c)<=60:=aB c;unfold zy;rw[if_pos #[h1,h2]];change ↑(T.bl (!(xo (b.map zq) (c.map zq))))=_;rw[af];by_cases h:b=c <;> simp[h]
def lD (l:List Bd) (p:Nat) (h:p<l.length):ze (rT l) (.int p)=↑(bT (l.getD p [])):=by
 change L2.zM (l.map bT) (p:Int)=_;exact vG ?_;rw[AR,A7 h,BL,A7 h];rfl
theorem LW {F:zF}(ok:F.Ok) (p:Nat) (hp:p<F.os.length) (b:Bd) (hb:Gd F.A F.B b):pR [zh F,.int p,bT b]=↑(bT (match F.GK p with | none=>b | some s=>nI F s b)):=by
 have h1:=LK F p hp ok.s8;cases hs:F.GK p with
 | none=>
  rw[hs] at h1;unfold pR gX;generalize qx=f1 at h1 ⊢;generalize zh F=fl,bT b=bb at *;have is1:sT false .zr .zr=↑(.bl true):=rfl;simp[h1,is1]
 | some s=>
  rw[hs] at h1;replace h1:qx [zh F,.int p]=↑(yg s):=h1;have Bb:s∈F.ss:=List.mem_of_find?_eq_some hs;have hsz:=ok.ss s Bb;have GJ:(F.A+1)*(F.B+1)<64:=by
   rcases ok.sl with x | x
   .rw[x] at Bb;cases Bb
   .show x
  have a0:=ok.a0;have b0:=ok.b0;have EN:∀ x∈b,((yF F s x).length:Int)<=F.zt s.pu+1:=λ x hx=>by
   have q:=hb.wB x hx;have:=Zc s.pu (F.zt s.pu) s.gv s.gt hsz.1 100 (v7 s.pu x) (tZ s.pu x) (by unfold zF.zt v7;split <;> lia);have g0:0<=v7 s.pu x:=by unfold v7;split <;> lia
   unfold yF;lia
  have AL:∀ q:Bd,(∀ x∈q,x∈b)->((q.flatMap (yF F s)).length:Int)<=q.length*(F.zt s.pu+1):=λ q=>by
   induction q with
   | nil=>intro _;simp
   | cons x q ih=>
    intro hq;have i1:=ih λ y hy=>hq y (Ay _ hy);have i2:=EN x (hq x Ax);rw[List.flatMap_cons,Bs,Bj,Int.natCast_add,Int.natCast_add,Int.add_mul];lia
  have hlen:(b.flatMap (yF F s)).length<64:=by
   have h2:=AL b λ _ h=>h;have l1:=hb.uV a0;have l2:=hb.Ow b0;have:((b.flatMap (yF F s)).length:Int)<64:=by
    exact Ed h2 (Ed ?_ GJ);unfold zF.zt;split
    .show Ee l1 ⋯
    .rw[Int.mul_comm (F.A+1)];show Ee l2 ⋯
   lia
  have hbr:ze (zh F) (.int 0)=↑(.tup [.int F.A,.int F.B]):=by simp[zh]
  let#[J',h2,h3]:=vx (is:=[5]) (g:=zv 5) (b:=kz) zq (λ q J=>J=[↑(.im (zh F)),↑(.im (.int p)),↑(.im (bT b)),↑(.im (yg s)),↑(.own (.lst ((q.flatMap (yF F s)).map zq))),none]) b [↑(.im (zh F)),↑(.im (.int p)),↑(.im (bT b)),↑(.im (yg s)),↑(.own (.lst [])),none] rfl (by
   rintro q x r e J rfl;have hx:x∈b:=by rw[e];simp
   have q1:=hb.wB x hx;have hF:=LX ok s hsz x #[q1.1.1,q1.2.1];have Hu:(q.flatMap (yF F s)).length+(yF F s x).length<=16777216:=by
    have e2:(b.flatMap (yF F s)).length=(q.flatMap (yF F s)).length+((yF F s x).length+(r.flatMap (yF F s)).length):=by rw[e];simp
    lia
   exact#[[↑(.im (zh F)),↑(.im (.int p)),↑(.im (bT b)),↑(.im (yg s)),↑(.own (.lst (((q++[x]).flatMap (yF F s)).map zq))),↑(.im (zq x))],?_,#[]];have e3:((q++[x]).flatMap (yF F s)).map zq=(q.flatMap (yF F s)).map zq++(yF F s x).map zq:=#[];rw[e3];unfold turn kz;have l3:((q.flatMap (yF F s)).map zq).length+((yF F s x).map zq).length<=16777216:=by exists Hu
   generalize mh=ff,(q.flatMap (yF F s)).map zq=L1,(yF F s x).map zq=L2,zh F=fl at *;simp![ze] at hbr;simp[hbr,hF,l3])
  subst h3;have hF:=kN (b.flatMap (yF F s)) hlen;have nn:sT false (yg s) .zr=↑(.bl false):=rfl;unfold pR gX;generalize kz=bb,su=ff,qx=f1,(b.flatMap (yF F s)).map zq=L1 at *;have hbT:xm (bT b)=↑(b.map zq):=rfl;generalize bT b=bt,zh F=fl,yg s=st at *;simp[h1,nn,hbT,h2,hF];rfl
theorem LR {F:zF}(ok:F.Ok) (p:Nat) (hp:p<F.os.length) (l:List Bd) (hl:l.length=F.os.length) (hg:∀ b∈l,Gd F.A F.B b):mi [zh F,.int p,rT l]=↑(bT (y_ F l p)):=by
 have h1:=LJ F p hp ok.qA;have Jq:ze (zh F) (.int 2)=↑(.tup (F.ws.map zu)):=by simp[zh]
 have hw0:ze (zh F) (.int 0)=↑(.tup [.int F.A,.int F.B]):=by simp[zh]
 have KH:ze (zh F) (.int 1)=↑(.tup (F.os.map kt)):=by simp[zh]
 have c1:kf [↑(.im (zh F)),↑(.im (.int p)),↑(.im (rT l)),none,none]=↑(.lst ((F.ws.filter λ w=>decide (w.f=p)).map zu)):=by
  rw[<- kS (λ w=>decide (w.f=p)) F.ws 0,AN];unfold kf;exact vW (λ wi:Wy×Nat=>T.int (wi.2:Int)) _ ((F.ws.zipIdx).filter λ wi=>decide (wi.1.f=p)) ?_ (A9 (BZ _ _) (by rw[List.length_zipIdx];have:=ok.qA;lia)) λ wi C9=>?_
  .generalize mf=ff at *;simp[h1]
  .have hm:=(Bf.mp C9).1;have hg:=List.mem_zipIdx_iff_getElem?.mp hm;have:L2.zM (F.ws.map zu) (wi.2:Int)=↑(zu wi.1):=by
    show vG (by rw[AR,hg];rfl)
   generalize zh F=fl at *;simp![ze] at Jq;simp[Jq,this]
 have c2:lZ [↑(.im (zh F)),↑(.im (.int p)),↑(.im (rT l)),↑(.im (.lst ((F.ws.filter λ w=>decide (w.f=p)).map zu))),none]=↑(.lst ((wQ F l p).map bT)):=by
  unfold wQ;rw[AN];unfold lZ;exact vW zu _ (F.ws.filter λ w=>decide (w.f=p)) #[] (A9 (BZ _ _) (by have:=ok.qA;lia)) λ w hw=>?_;have hm:=(Bf.mp hw).1;have ht:w.t<l.length:=by rw[hl];show (ok.ws w hm).2
  have e1:=lD l w.t ht;have gb:Gd F.A F.B (l.getD w.t []):=by
   rw[BL,A7 ht];show hg _ (CH ht)
  have Kz:=gb.uV ok.a0;have a12:=ok.a1;have hF:=Kb F.A F.B w (l.getD w.t []) ⋯;have e2:ze (zu w) (.int 1)=↑(.int (w.t:Int)):=by simp[zu]
  obtain⟨bd,Bn⟩:∃ bd,l.getD w.t []=bd:=#[_,rfl];rw[Bn] at e1 gb hF;have Fe:(l[w.t]?).getD []=bd:=by rw[<- Bn,BL]
  generalize mz=ff,zh F=fl,rT l=rt,zu w=wt at *;simp![ze] at hw0 e1 e2;simp[hw0,e1,e2,hF,Fe]
 have gah:=gj F l p;have c3:=LS #[ok.a0,ok.a1] (wQ F l p) gah;have c4:=LY #[ok.a0,ok.a1] ok.b0 (wQ F l p) gah;have c5:=LW ok p hp (sd (wQ F l p)) (lQ _ _ Gd.nil gah);have ho:L2.zM (F.os.map kt) (p:Int)=↑(kt (F.os.getD p false)):=by
  exact vG ?_;rw[AR,A7 hp,BL,A7 hp];rfl
 have hk:∀ b:Bool,zy false (kt b) (.str "keeper")=↑(.bl b):=λ b=>by cases b <;> rfl
 unfold mi Y8;generalize kf=d1,lZ=d2,mx=f1,my=f2,pR=f3,((F.ws.filter λ w=>decide (w.f=p)).map zu)=L1,zh F=fl,rT l=rt at *;unfold y_;have Hh:=hk (F.os.getD p false);generalize F.os.getD p false=kb at *;generalize kt kb=ktb at *;generalize (T.str "keeper")=ks at *;simp![ze] at KH;cases kb with
 | true=>
  simp[c1,c2,KH,ho,Hh,c3,c5]
  all_goals (cases F.GK p <;> rfl)
 | false=>simp[c1,c2,KH,ho,Hh,c4]
theorem qc {α β:Type}(c:α->Bool) (g:α->β):∀ l:List α,l.filterMap (λ x=>if c x=true then ↑(g x) else none)=(l.filter c).map g
 | []=>rfl
 | a::l=>by by_cases h:c a=true <;> simp[CD,h,qc c g l]
theorem b7 (t:Nat) (fr:List Nat):u9 false (.int t) (.lst (fr.map λ(k:Nat)=>T.int (k:Int)))=↑(.bl (fr.contains t)):=by
 have d1:xK (fr.map λ(k:Nat)=>T.int (k:Int))<=60:=by
  exact lU _ 60 (λ x=>?_) fr;simp[dep]
 have d0:dep (.int (t:Int))<=60:=by simp[dep]
 unfold u9;change (if dep (.int (t:Int))<=60/\xK (fr.map λ(k:Nat)=>T.int (k:Int))<=60 then _ else _)=_;rw[if_pos #[d0,d1]];change ↑(T.bl ((fr.map λ(k:Nat)=>T.int (k:Int)).any λ x=>eqT x (.int t)))=_;congr 2;rw[B2,Bi,List.contains_iff_mem];constructor
 .rintro⟨x,hx,h⟩;let#[k,hk,rfl]:=Av.mp hx;have:(k:Int)=(t:Int):=by simpa [eqT] using h
  have:k=t:=⋯;subst this;show hk
 .intro h;show#[_,Av.mpr #[t,h,rfl],by simp[eqT]]
def LQ {F:zF}(ok:F.Ok) (Fg:List Bd) (fr:List Nat) (hl:Fg.length=F.os.length) (hg:∀ b∈Fg,Gd F.A F.B b):
  pO [zh F,rT Fg,.lst (fr.map λ(k:Nat)=>T.int (k:Int))]=↑(rT (yd F Fg fr)):=by
 have Jq:ze (zh F) (.int 2)=↑(.tup (F.ws.map zu)):=by simp[zh]
 have c1:ke [↑(.im (zh F)),↑(.im (rT Fg)),↑(.im (.lst (fr.map λ(k:Nat)=>T.int (k:Int)))),↑(.own (.lst (Fg.map bT))),none]=↑(.lst (((F.ws.filter λ w=>fr.contains w.t).map λ w=>(w.f:Int)).map T.int)):=by
  have:=sQ zu (λ w=>if fr.contains w.t=true then ↑(T.int (w.f:Int)) else none) (pick:=[none,↑2]) (it:=yE (za ze (zc 0) (cI 2))) (g:=zv 0) (c:=yc (za (u9 false) (za ze (zc 0) (cI 1)) (zc 1))) (f:=za ze (zc 0) (cI 0)) (J:=[↑(.im (zh F)),↑(.im (rT Fg)),↑(.im (.lst (fr.map λ(k:Nat)=>T.int (k:Int)))),↑(.own (.lst (Fg.map bT))),none]) F.ws (by
    generalize zh F=fl at *;simp![ze] at Jq;simp[Jq]) (by have:=ok.qA;lia) (λ w _=>by
   have hi:=b7 w.t fr;generalize (T.lst (fr.map λ(k:Nat)=>T.int (k:Int)))=ft,fr.contains w.t=cb at *;cases cb <;> simp[zu,hi])
  unfold ke;rw[this];rw[qc (λ w:Wy=>fr.contains w.t) (λ w:Wy=>T.int (w.f:Int)),AN];rfl
 have D2:wy [.lst (((F.ws.filter λ w=>fr.contains w.t).map λ w=>(w.f:Int)).map T.int)]=↑(.lst ((wx ((F.ws.filter λ w=>fr.contains w.t).map λ w=>(w.f:Int))).map T.int)):=by
  change (match vX (((F.ws.filter λ w=>fr.contains w.t).map λ w=>(w.f:Int)).map T.int) with | some ns=>_ | none=>_)=_;rw[bx];exact if_pos ?_;have:=BZ (λ w:Wy=>fr.contains w.t) F.ws;have:=ok.qA;simp![AA];lia
 have Bb:∀ k∈wx ((F.ws.filter λ w=>fr.contains w.t).map λ w=>(w.f:Int)),∃ p:Nat,k=(p:Int)/\p<F.os.length/\uB F fr p=true:=λ k hk=>by
  let#[w,hw,rfl]:=Av.mp (ly.mp hk);let#[w1,w2]:=Bf.mp hw;show#[w.f,rfl,(ok.ws w w1).1,Bi.mpr #[w,w1,by exists w2]]
 have EE:∀ p:Nat,uB F fr p=true->(p:Int)∈wx ((F.ws.filter λ w=>fr.contains w.t).map λ w=>(w.f:Int)):=λ p h=>by
  let#[w,w1,w2]:=Bi.mp h;have w3:w.f=p/\fr.contains w.t=true:=by exists w2
  show ly.mpr (Av.mpr #[w,Bf.mpr #[w1,w3.2],by rw[w3.1]])
 generalize wx ((F.ws.filter λ w=>fr.contains w.t).map λ w=>(w.f:Int))=up at *;have ft:∃ t,(T.lst (fr.map λ(k:Nat)=>T.int (k:Int)))=t:=#[_,rfl];let#[J',h1,h2]:=vx (is:=[4]) (g:=zv 4) (b:=kq) T.int (λ pre J=>J=[↑(.im (zh F)),↑(.im (rT Fg)),↑(.im (.lst (fr.map λ(k:Nat)=>T.int (k:Int)))),↑(.own (.lst (((List.range Fg.length).map λ(p:Nat)=>if (p:Int)∈pre then y_ F Fg p else Fg.getD p []).map bT))),none]) up
   [↑(.im (zh F)),↑(.im (rT Fg)),↑(.im (.lst (fr.map λ(k:Nat)=>T.int (k:Int)))),↑(.own (.lst (Fg.map bT))),none] (by
  have e:(List.range Fg.length).map (λ(p:Nat)=>if (p:Int)∈([]:List Int) then y_ F Fg p else Fg.getD p [])=Fg:=by
   exact Es #[] λ i h1 h2=>?_;simp[h2]
  rw[e];rfl) (by
  rintro pre k q e J rfl;let#[p,rfl,hp,hw]:=Bb k (by rw[e];simp);have hF:=LR ok p hp Fg hl hg;exact#[[↑(.im (zh F)),↑(.im (rT Fg)),↑(.im (.lst (fr.map λ(k:Nat)=>T.int (k:Int)))),↑(.own (.lst (((List.range Fg.length).map λ(i:Nat)=>if (i:Int)∈pre++[(p:Int)] then y_ F Fg i else Fg.getD i []).map bT))),↑(.im (.int p))],?_,#[]];have EK:(((List.range Fg.length).map λ(i:Nat)=>if (i:Int)∈pre then y_ F Fg i else Fg.getD i []).map bT).set p (bT (y_ F Fg p))=((List.range Fg.length).map λ(i:Nat)=>if (i:Int)∈pre++[(p:Int)] then y_ F Fg i else Fg.getD i []).map bT:=by
   exact Es #[] λ i h1 h2=>?_;rw[List.getElem_set];simp![List.getElem_map,DT,AY,AZ];by_cases c:p=i
   .subst c;simp
   .have c':¬ ((i:Int)=(p:Int)):=⋯;simp[c,c']
  have Cw:wM (((List.range Fg.length).map λ(i:Nat)=>if (i:Int)∈pre then y_ F Fg i else Fg.getD i []).map bT).length (p:Int)=↑p:=by
   unfold wM;simp![AA,Cv];rw[if_pos ⋯,if_pos ⋯,Cr]
  rw[<- EK];unfold turn kq;generalize mi=ff,(((List.range Fg.length).map λ(i:Nat)=>if (i:Int)∈pre then y_ F Fg i else Fg.getD i []).map bT)=LL,zh F=fl,rT Fg=rl,(T.lst (fr.map λ(k:Nat)=>T.int (k:Int)))=ftt at *;simp[hF,Cw])
 subst h2;have fin:((List.range Fg.length).map λ(p:Nat)=>if (p:Int)∈up then y_ F Fg p else Fg.getD p [])=yd F Fg fr:=by
  unfold yd;exact DQ λ p hp=>?_;by_cases c:uB F fr p=true
  .rw[if_pos c,if_pos (EE p c)]
  .rw[if_neg c,if_neg λ h=>c (by let#[p',e,_,h']:=Bb _ h;show (show p'=p by lia)▸h')]
 rw[fin] at h1;have JB:listS [rT Fg]=↑(.lst (Fg.map bT)):=rfl;unfold pO Y7;generalize ke=cc,kq=bb,(((F.ws.filter λ w=>fr.contains w.t).map λ w=>(w.f:Int)).map T.int)=L1 at *;generalize hup:up.map T.int=L2 at *;generalize Fg.map bT=L3,zh F=fl at *;have EJ:xm (rT Fg)=↑L3:=by exists JB
 generalize rT Fg=rl,(T.lst (fr.map λ(k:Nat)=>T.int (k:Int)))=ftt at *;simp[EJ,c1,D2,h1,rT]
theorem aj {α:Type}(enc:α->T) (d:α) (fo:List α):∀ (l:List α) (k:Nat),(∀ i,l.getD i d=fo.getD (k+i) d)->sZ k (l.map enc)=(List.range l.length).map λ(p:Nat)=>T.tup [.int ((k+p:Nat):Int),enc (fo.getD (k+p) d)]
 | [],k,_=>rfl
 | b::l,k,h=>by
  have h0:=h 0;rw[Ar,sZ,aj enc d fo l (k+1) λ i=>by have:=h (i+1);rw[show k+1+i=k+(i+1) from by lia];exists this];rw[Bj,Er,Ar,AN];have e:b=fo.getD k d:=by exists h0
  congr 1
  .rw[e];rfl
  .exact DQ λ p _=>?_;simp![Function.comp];rw[show k+1+p=k+Nat.succ p from by lia]
def xa (fr:List Nat):T:=.lst (fr.map λ(k:Nat)=>T.int (k:Int))
theorem Lf (a:T) (b c:Option L5.W) (Fg fo:List Bd) (hl:fo.length=Fg.length) (h16:fo.length<=10000):nN [↑(.im a),b,c,↑(.im (rT Fg)),↑(.im (rT fo))]=↑(xa (xG Fg fo)):=by
 have:=sQ (λ p:Nat=>T.tup [.int (p:Int),bT (fo.getD p [])]) (λ p=>if decide (fo.getD p []≠Fg.getD p [])=true then ↑(T.int (p:Int)) else none) (pick:=[none,none,↑3]) (it:=xh s_ (zb (zc 4) zg)) (g:=w_ 2 (yR (zv 0) (yR (zv 1) vV))) (c:=yc (za (zy true) (zc 1) (za ze (zc 2) (zc 0)))) (f:=zl 0) (J:=[↑(.im a),b,c,↑(.im (rT Fg)),↑(.im (rT fo))]) (List.range fo.length) (by
   have:=aj bT [] fo fo 0 λ i=>by rw[Nat.zero_add]
   simp![Nat.zero_add] at this;have e:s_ [rT fo]=↑(sZ 0 (fo.map bT)):=rfl;rw[<- this];generalize s_=en at *;simp[e]) (by simp;lia) (λ p hp=>by
  have Ia:p<Fg.length:=by rw[<- hl];show A2.mp hp
  have h1:=lD Fg p Ia;have h2:=cu (fo.getD p []) (Fg.getD p []);generalize fo.getD p []=x,Fg.getD p []=y,rT Fg=rl at *;generalize decide (x≠y)=d at *;simp![ze] at h1;cases d <;> simp[h1,h2])
 unfold nN;rw[this,qc (λ p:Nat=>decide (fo.getD p []≠Fg.getD p [])) (λ p:Nat=>T.int (p:Int))];rfl
theorem eO {F:zF}(ok:F.Ok):∀ (n:Nat) (pre:List (List Bd)) (Fg:List Bd) (fr:List Nat) (res:List (List Bd)),St F Fg fr->qJ F n pre Fg fr=↑res->pre.length+n<=10000->∀ (m:Nat),n<m->∀ x3 x4:Option L5.W,
  ∃ Kg,wg [3,4] (xR (zc 2)) tB m [↑(.im (zh F)),↑(.own (.lst ((pre++[Fg]).map rT))),↑(.im (xa fr)),x3,x4]=↑(.nx [↑(.im (zh F)),↑(.own (.lst (res.map rT))),↑(.im Kg),none,none])
 | 0,_,_,_,_,_,h,_,_,_,_,_=>by cases h
 | n+1,pre,Fg,fr,res,s,h,hn,m,hm,x3,x4=>by
  have Bz:∀ (m:Nat) (Gp:List (List Bd)) (x3 x4:Option L5.W),wg [3,4] (xR (zc 2)) tB (m+1) [↑(.im (zh F)),↑(.own (.lst (Gp.map rT))),↑(.im (xa [])),x3,x4]=↑(.nx [↑(.im (zh F)),↑(.own (.lst (Gp.map rT))),↑(.im (xa [])),none,none]):=λ m Gp x3 x4=>by
   unfold wg;simp[xa]
  obtain⟨m,rfl⟩:∃ k,m=k+1:=#[m-1,⋯];unfold qJ at h;by_cases AV:fr=[]
  .rw[if_pos AV] at h;cases h;subst AV;show#[_,Bz m _ x3 x4]
  .rw[if_neg AV] at h;dsimp only at h;have hlen:=s.len;have n8:=ok.n8;have hF:=LQ ok Fg fr s.len s.gd;have GO:ze (.lst ((pre++[Fg]).map rT)) (.int (-1))=↑(rT Fg):=by
    change L2.zM ((pre++[Fg]).map rT) (-1)=_;rw[BP];show hX _ _
   have hc:=λ b c=>Lf (zh F) b c Fg (yd F Fg fr) (rW ..) (by rw[rW,s.len];lia);have Az:sF (xa fr)=↑true:=by
    cases fr with
    | nil=>show absurd rfl AV
    | cons a l=>rfl
   have hb:∃ G_,tB [↑(.im (zh F)),↑(.own (.lst ((pre++[Fg]).map rT))),↑(.im (xa fr)),none,none]=↑(.nx [↑(.im (zh F)),↑(.own (.lst (G_.map rT))),↑(.im (xa (xG Fg (yd F Fg fr)))),↑(.im (rT Fg)),↑(.im (rT (yd F Fg fr)))])/\G_=if xG Fg (yd F Fg fr)=[] then pre++[Fg] else pre++[Fg]++[yd F Fg fr]:=by
    have Hu:((pre++[Fg]).map rT).length<16777216:=by simp;lia
    by_cases hf:xG Fg (yd F Fg fr)=[]
    .exact#[pre++[Fg],?_,by rw[if_pos hf]];have ht:sF (xa (xG Fg (yd F Fg fr)))=↑false:=by rw[hf];rfl
     unfold tB;generalize nN=cc,pO=ff,(pre++[Fg]).map rT=L1,xa (xG Fg (yd F Fg fr))=f2 at *;unfold xa at *;simp![ze] at GO;generalize (T.lst (fr.map λ(k:Nat)=>T.int (k:Int)))=f1,rT (yd F Fg fr)=r2,rT Fg=r1 at *;simp![xm] at GO;simp[-sF,GO,hF,hc,ht]
    .exact#[pre++[Fg]++[yd F Fg fr],?_,by rw[if_neg hf]];have ht:sF (xa (xG Fg (yd F Fg fr)))=↑true:=by
      cases e:xG Fg (yd F Fg fr) with
      | nil=>show absurd e hf
      | cons a l=>rfl
     have e2:(pre++[Fg]++[yd F Fg fr]).map rT=(pre++[Fg]).map rT++[rT (yd F Fg fr)]:=#[];rw[e2];unfold tB;generalize nN=cc,pO=ff,(pre++[Fg]).map rT=L1,xa (xG Fg (yd F Fg fr))=f2 at *;unfold xa at *;simp![ze] at GO;generalize (T.lst (fr.map λ(k:Nat)=>T.int (k:Int)))=f1,rT (yd F Fg fr)=r2,rT Fg=r1 at *;simp![xm] at GO;simp[-sF,GO,hF,hc,ht,Hu]
   let#[G_,Ik,IH]:=hb;have key:∀ R,wg [3,4] (xR (zc 2)) tB m [↑(.im (zh F)),↑(.own (.lst (G_.map rT))),↑(.im (xa (xG Fg (yd F Fg fr)))),↑(.im (rT Fg)),↑(.im (rT (yd F Fg fr)))]=R->wg [3,4] (xR (zc 2)) tB (m+1) [↑(.im (zh F)),↑(.own (.lst ((pre++[Fg]).map rT))),↑(.im (xa fr)),x3,x4]=R:=λ R e=>by
    rw[wg];generalize hbb:tB=bb at *;generalize D4:wg [3,4] (xR (zc 2)) bb m=lw at *;have hf:y9 [3,4] [↑(.im (zh F)),↑(.own (.lst ((pre++[Fg]).map rT))),↑(.im (xa fr)),x3,x4]=[↑(.im (zh F)),↑(.own (.lst ((pre++[Fg]).map rT))),↑(.im (xa fr)),none,none]:=rfl;rw[hf];have ht:xR (zc 2) [↑(.im (zh F)),↑(.own (.lst ((pre++[Fg]).map rT))),↑(.im (xa fr)),none,none]=↑true:=by
     generalize xa fr=f1 at *;simp[-sF,Az]
    rw[ht,BS,if_pos rfl,Ik,BS];show e
   by_cases hf:xG Fg (yd F Fg fr)=[]
   .rw[if_pos hf] at h IH;cases h;subst IH;rw[hf] at key;obtain⟨m,rfl⟩:∃ k,m=k+1:=#[m-1,⋯];show#[_,key _ (Bz m _ _ _)]
   .rw[if_neg hf] at h IH;subst IH;let#[Kg,e]:=eO ok n (pre++[Fg]) (yd F Fg fr) (xG Fg (yd F Fg fr)) res (s.next ok) h (by simp;lia) m ⋯ ↑(.im (rT Fg)) ↑(.im (rT (yd F Fg fr)));show#[Kg,key _ e]
theorem LN {F:zF}(ok:F.Ok):∃ more,pL [zh F]=↑(.lst ((RN.start F::more).map rT))/\(∀ r∈RN.start F::more,r.length=F.os.length/\∀ b∈r,Gd F.A F.B b)/\more.length<=2000/\qJ F 2000 [] (RN.start F) (List.range F.os.length)=↑(RN.start F::more):=by
 have hmu:=cx (RN.start F);have Bw:(RN.start F).length=F.os.length:=by unfold RN.start;simp
 have n8:=ok.n8;have n1:=ok.n1;let#[more,Hd,e1,e2,_,e4]:=eP ok 2000 [] (RN.start F) (List.range F.os.length) (St.start ok) ⋯;let#[Kg,e]:=eO ok 2000 [] (RN.start F) (List.range F.os.length) _ (St.start ok) e1 #[] 1000000 () none none;exact#[more,?_,e2,⋯,e1];have hp:=pN F;have AK:rT (RN.start F)=.lst (List.replicate F.os.length (.tup [.tup [.int 0,.int 0]])):=by
  unfold rT RN.start;rw[List.map_replicate];rfl
 have hmul:uS (.lst [.tup [.tup [.int 0,.int 0]]]) (.int F.os.length)=↑(rT (RN.start F)):=by
  rw[AK];unfold uS;dsimp only;rw[if_pos #[#[],⋯,⋯,Oq (by simp;lia)]];have:∀ n:Nat,(List.replicate n [T.tup [.tup [.int 0,.int 0]]]).flatten=List.replicate n (.tup [.tup [.int 0,.int 0]]):=λ n=>by
   induction n with
   | zero=>rfl
   | succ n ih=>rw[B8,B8,Cq,ih];rfl
  rw[Cr,this]
 have Cd:oH [.int F.os.length]=↑(xa (List.range F.os.length)):=by
  change (if 0<=(F.os.length:Int)/\(F.os.length:Int)<=16777216 then ↑(T.lst (rangeT 0 (F.os.length:Int).toNat)) else none)=_;rw[if_pos #[⋯,⋯]];change ↑(T.lst ((List.range (F.os.length:Int).toNat).map λ(k:Nat)=>T.int (0+(k:Int))))=_;rw[Cr];unfold xa;simp
 unfold pL Y3 pU;generalize tB=bb,uI=ff,oH=lr at *;simp![List.nil_append,Ar,Bh] at e;generalize xa (List.range F.os.length)=f1 at *;rw[Ar];generalize rT (RN.start F)=r0,zh F=fl,D4:wg [3,4] (xR (zc 2)) bb 1000000=lw,uS=mw at *;simp[hp,hmul,Cd,e]
def oB (i j:Int):uS (.int i) (.int j)=if vM i j then ↑(.int (i*j)) else none:=rfl
def Nf {r:List Int}{rs:List (List Int)}:vX ((r::rs).map zS)=none:=rfl
def Wv (rs:List (List Int)) (h0:rs≠[]) (hl:rs.length<64) (hn:∀ r∈rs,r≠[]):wy [.lst (rs.map zS)]=↑(.lst ((L4.yZ (xD rs)).map zS)):=by
 cases rs with
 | nil=>show absurd rfl h0
 | cons r rs=>
  change (match vX ((r::rs).map zS) with
   | some ns=>if ns.length<64 then ↑(T.lst ((wx ns).map T.int)) else none
   | none=>oa [T.lst ((r::rs).map zS)])=_
  rw[Nf];change (wI ((r::rs).map zS)).bind _=_;rw[mS,BS,if_pos #[hl,hn]]
def seq_eq {a b:Sm}{J J':Ev}(h:a J=↑(.nx J')):zo a b J=b J':=by
 change (a J).bind _=_;rw[h];rfl
def dS {f:T->T->Option T}{fa fb:Ag}{J:Ev}{x y:T}{r:Option T}(h1:fa J=↑x) (h2:fb J=↑y) (h:f x y=r):za f fa fb J=r:=by
 change (fa J).bind _=r;rw[h1];change (fb J).bind _=r;rw[h2];show h
theorem V3 (n:Nat) (h:n<=1000):xx (.int 10) (.int (n:Int))=↑(.int (10 ^ n)):=by
 have hc:rM 10 (n:Int):=#[⋯,⋯,()];change (if rM 10 (n:Int) then ↑(T.int (10 ^ (n:Int).toNat)) else none)=_;rw[if_pos hc,Cr]
def ot (n:Nat) (h:n<=1000) (J:Ev):za xx (cI 10) (cS (.int (n:Int))) J=↑(.int (10 ^ n)):=dS rfl rfl (V3 n h)
def Wr (c:Int) (n:Nat) (hn:n<=100) (o6:Ag) (q6:Int) (h6:∀ J,o6 J=↑(.int q6)) (g6:0<q6/\q6<2 ^ 200) (GW:Int):
  ∃ (v:Int) (xs:List Int),xy [4] (zv 4) (zo (xB 2 (za zT (zc 3) o6)) (zx 3 (za xW (zc 3) o6))) ((List.range n).map λ(k:Nat)=>T.int (0+(k:Int))) [↑(.im (.int c)),↑(.im (.int n)),↑(.own (.lst [])),↑(.im (.int GW)),none]
   = ↑(.nx [↑(.im (.int c)),↑(.im (.int n)),↑(.own (.lst (xs.map T.int))),↑(.im (.int v)),none])/\xs.length=n:=by
 let#[J',h1,v,xs,h2,h3]:=vx (is:=[4]) (g:=zv 4) (b:=(zo (xB 2 (za zT (zc 3) o6)) (zx 3 (za xW (zc 3) o6)))) (λ k:Nat=>T.int (0+(k:Int))) (λ p J=>∃ (v:Int) (xs:List Int),J=[↑(.im (.int c)),↑(.im (.int n)),↑(.own (.lst (xs.map T.int))),↑(.im (.int v)),none]/\xs.length=p.length)
   (List.range n) [↑(.im (.int c)),↑(.im (.int n)),↑(.own (.lst [])),↑(.im (.int GW)),none] #[GW,[],rfl,rfl] (by
  rintro p k q e J ⟨v,xs,rfl,r1⟩;have hp:p.length<n:=by have:=congrArg List.length e;simp at this;lia
  have hl:(xs.map T.int).length<16777216:=by simp;lia
  have d6:uJ v q6:=g6;have p6:=g6.1;exact#[[↑(.im (.int c)),↑(.im (.int n)),↑(.own (.lst ((xs++[v%q6]).map T.int))),↑(.im (.int (v/q6))),↑(.im (.int (0+(k:Int))))],?_,v/q6,xs++[v%q6],#[],by simp[r1]];have e2:(xs++[v%q6]).map T.int=xs.map T.int++[.int (v%q6)]:=#[];rw[e2];generalize xs.map T.int=L,(0+(k:Int))=kk at *;simp[turn,h6,hl,d6,p6])
 subst h2;show#[v,xs,h1,by exists h3]
def Wq (c:Int) (n:Nat) (hn:n<=100) (oM Jk Jj o9:Ag) (M Iq Hc q9:Int) (hM:∀ J,oM J=↑(.int M)) (JL:∀ J,Jk J=↑(.int Iq)) (JK:∀ J,Jj J=↑(.int Hc)) (h9:∀ J,o9 J=↑(.int q9))
  (gM:0<M/\M<2 ^ 180) (g22:0<Iq/\Iq<2 ^ 200) (g23:0<Hc/\Hc<2 ^ 200) (g9:0<q9/\q9<2 ^ 200) (GW:Int) (ET:0<=GW/\GW<2 ^ 181):
  ∃ (v:Int) (xs:List Int),xy [4] (zv 4) (zo (zx 3 (za zT (za zI (za zI (za vv (zc 3) (cI 52027)) (za xW (zc 3) Jk)) (za vv (cI 13) (zc 4))) oM)) (xB 2 (za xW (za vv (zc 3) (za zI (za xW (zc 3) Jj) (cI 7))) o9))) ((List.range n).map λ(k:Nat)=>T.int (0+(k:Int))) [↑(.im (.int c)),↑(.im (.int n)),↑(.own (.lst [])),↑(.im (.int GW)),none]
   = ↑(.nx [↑(.im (.int c)),↑(.im (.int n)),↑(.own (.lst (xs.map T.int))),↑(.im (.int v)),none])/\xs.length=n:=by
 let#[J',h1,v,xs,h2,h3,h4]:=vx (is:=[4]) (g:=zv 4) (b:=(zo (zx 3 (za zT (za zI (za zI (za vv (zc 3) (cI 52027)) (za xW (zc 3) Jk)) (za vv (cI 13) (zc 4))) oM)) (xB 2 (za xW (za vv (zc 3) (za zI (za xW (zc 3) Jj) (cI 7))) o9)))) (λ k:Nat=>T.int (0+(k:Int)))
   (λ p J=>∃ (v:Int) (xs:List Int),J=[↑(.im (.int c)),↑(.im (.int n)),↑(.own (.lst (xs.map T.int))),↑(.im (.int v)),none]/\xs.length=p.length/\0<=v/\v<2 ^ 181)
   (List.range n) [↑(.im (.int c)),↑(.im (.int n)),↑(.own (.lst [])),↑(.im (.int GW)),none] #[GW,[],rfl,rfl,ET] (by
  rintro p k q e J ⟨v,xs,rfl,r1,r2,r3⟩;have hp:p.length<n:=by have:=congrArg List.length e;simp at this;lia
  have hk:k<n:=A2.mp (by rw[e];simp);have hl:(xs.map T.int).length<16777216:=by simp;lia
  generalize hu:(v*52027+v/Iq+13*(0+(k:Int)))%M=u;have u0:0<=u:=by rw[<- hu];show Br _ ⋯
  have u1:u<M:=by rw[<- hu];show BK _ gM.1
  have d22:uJ v Iq:=g22;have m1:sC v 52027:=#[⋯,()];have m2:sC 13 (0+(k:Int)):=#[(),⋯];have pM:=gM.1;have d23:uJ u Hc:=g23;have w0:0<=u/Hc:=Int.ediv_nonneg u0 ⋯;have w1:u/Hc<=u:=Int.ediv_le_self _ u0;have m3:sC u (u/Hc+7):=#[⋯,⋯];have d9:uJ (u*(u/Hc+7)) q9:=g9;exact#[[↑(.im (.int c)),↑(.im (.int n)),↑(.own (.lst ((xs++[u*(u/Hc+7)/q9]).map T.int))),↑(.im (.int u)),↑(.im (.int (0+(k:Int))))],?_,u,xs++[u*(u/Hc+7)/q9],#[],by simp[r1],u0,⋯];have e2:(xs++[u*(u/Hc+7)/q9]).map T.int=xs.map T.int++[.int (u*(u/Hc+7)/q9)]:=#[];rw[e2];generalize xs.map T.int=L,(0+(k:Int))=kk at *;simp[turn,hM,JL,JK,h9,hl,d22,m1,m2,pM,hu,d23,m3,d9])
 subst h2;show#[v,xs,h1,by exists h3]
def L8 (i:Int):0<=(if i<0 then -i else i):=by split <;> lia
theorem ZT (c:Int) (n:Nat) (hn:n<=100):∃ xs:List Int,tG [.int c,.int n]=↑(.lst (xs.map T.int))/\xs.length=n:=by
 obtain⟨q6,h6,g6⟩:∃ q:Int,(∀ J,za xx (cI 10) (cI 6) J=↑(.int q))/\0<q/\q<2 ^ 200:=#[_,ot 6 (),AG];obtain⟨q9,h9,g9⟩:∃ q:Int,(∀ J,za xx (cI 10) (cI 9) J=↑(.int q))/\0<q/\q<2 ^ 200:=#[_,ot 9 (),AG];obtain⟨Iq,JL,g22⟩:∃ q:Int,(∀ J,za xx (cI 10) (cI 22) J=↑(.int q))/\0<q/\q<2 ^ 200:=#[_,ot 22 (),AG];obtain⟨Hc,JK,g23⟩:∃ q:Int,(∀ J,za xx (cI 10) (cI 23) J=↑(.int q))/\0<q/\q<2 ^ 200:=#[_,ot 23 (),AG];obtain⟨M,hM,gM⟩:∃ q:Int,(∀ J,za zI (za xx (cI 10) (cI 45)) (cI 9) J=↑(.int q))/\0<q/\q<2 ^ 180:=#[10 ^ 45+9,fun J=>dS (ot 45 () J) rfl rfl,AG];have hr:=sH n ⋯;unfold tG YC Zy Zx;have a0:=L8 (c/2);generalize ha:(if c/2<0 then -(c/2) else c/2)=num at *;have hnm0:0<=num%M:=Br _ ⋯;have hnm1:num%M<M:=BK _ gM.1;have pM:=gM.1;have d2:uJ c 2:=#[(),()];let#[v1,Gq,e1,l1]:=Wr c n hn _ q6 h6 g6 num;let#[v2,IK,e2,l2]:=Wq c n hn _ _ _ _ M Iq Hc q9 hM JL JK h9 gM g22 g23 g9 (num%M+77003) #[⋯,⋯];generalize za zI (za xx (cI 10) (cI 45)) (cI 9)=oM,za xx (cI 10) (cI 6)=o6,za xx (cI 10) (cI 9)=o9,za xx (cI 10) (cI 22)=Jk,za xx (cI 10) (cI 23)=Jj at *;generalize Ik:(zo (xB 2 (za zT (zc 3) o6)) (zx 3 (za xW (zc 3) o6)))=b1 at *;generalize IH:(zo (zx 3 (za zT (za zI (za zI (za vv (zc 3) (cI 52027)) (za xW (zc 3) Jk)) (za vv (cI 13) (zc 4))) oM)) (xB 2 (za xW (za vv (zc 3) (za zI (za xW (zc 3) Jj) (cI 7))) o9)))=b2 at *;by_cases h:c%2=1
 .exact#[Gq,?_,l1];generalize Gq.map T.int=L1,(List.range n).map (λ(k:Nat)=>T.int (0+(k:Int)))=R at *;simp[d2,ha,h,hr,e1,eq_int]
 .exact#[IK,?_,l2];generalize IK.map T.int=L2',(List.range n).map (λ(k:Nat)=>T.int (0+(k:Int)))=R at *;simp[d2,ha,h,hr,hM,pM,e2,eq_int]
theorem ZZ (x:Int) (m:Nat) (h:m<=12):∃ y,pP [.int x,.int m]=↑(.int y)/\-12<=y/\y<=12:=by
 have m1:vM 2 (m:Int):=.inl #[(),()];have m2:(0:Int)<2*(m:Int)+1:=⋯;have d:xC x 25:=#[(),()];have a0:=Br (x%25) (b:=2*(m:Int)+1) ⋯;have b0:0<=x/25%2:=Br _ ();exact#[if x%25%(2*(m:Int)+1)-m+x/25%2<12 then x%25%(2*(m:Int)+1)-m+x/25%2 else 12,by simp[pP,YH,oB,m1,m2,d],?_,?_]
 .split <;> lia
 .split <;> lia
def ux (many:Nat) (r:List Int):Prop:=∃ (f t:Nat) (a b:Int),r=[(f:Int),(t:Int),a,b]/\f<many/\t<many/\(-12<=a/\a<=12)/\-12<=b/\b<=12
theorem ZS (place many:Nat) (num:Int) (sz:Nat) (hp:place<many) (hs:sz<=12):∃ r,(ux many r/\r.head?=↑(place:Int))/\rF [.int place,.int many,.int num,.int sz]=↑(zS r):=by
 have d8:xC num 8:=#[(),()];have d400:xC num 400:=#[(),()];let#[a,ha,a1]:=ZZ (num/8%50) sz hs;let#[b,hb,b1]:=ZZ (num/400%50) sz hs;have Du:(0:Int)<many:=⋯;have t0:0<=num%8%many:=Br _ ⋯;have t1:num%8%many<many:=BK _ Du;have IU:0<many:=⋯;exact#[[(place:Int),((num%8%many).toNat:Int),a,b],#[#[place,(num%8%many).toNat,a,b,rfl,hp,⋯,a1,b1],rfl],?_];rw[Cu t0];have hr:zS [(place:Int),num%8%many,a,b]=.tup [.int place,.int (num%8%many),.int a,.int b]:=rfl;rw[hr];unfold rF YB;generalize pP=fa at *;simp[d8,d400,ha,hb,IU]
def sR {xs:List Int}{j:Nat}(h:j<xs.length):∃ v,L2.zM (xs.map T.int) (j:Int)=↑(.int v):=#[xs.getD j 0,vG (by simp[h])]
theorem cP (b:Bool):zy false (kt b) (.str "keeper")=↑(.bl b):=by
 have h:(("taker":Str) == ("keeper":Str))=false:=()
 cases b
 .change zy false (.str "taker") (.str "keeper")=_;simp[zy,dep,eqT,h]
 .change zy false (.str "keeper") (.str "keeper")=_;simp[zy,dep,eqT]
def Z8 (b:Sm) (n many pl:Nat) (E:List T->Option L5.W->Ev) (hE:∀ r x,y9 [11] (E r x)=E r none) (hn:n<=100)
  (ht:∀ k<n,∀ rows:List T,rows.length<=1000->∃ r,(ux many r/\r.head?=↑(pl:Int))/\turn (zv 11) b (.int (0+(k:Int))) (E rows none)=↑(.nx (E (rows++[zS r]) ↑(.im (.int (0+(k:Int)))))))
  (rows:List (List Int)) (hl:rows.length<=100) (hr:∀ r∈rows,ux many r):
  ∃ Fm:List (List Int),xy [11] (zv 11) b ((List.range n).map λ(k:Nat)=>T.int (0+(k:Int))) (E (rows.map zS) none)=↑(.nx (E (Fm.map zS) none))/\Fm.length=rows.length+n/\(∀ r∈Fm,ux many r)/\(∀ r∈rows,r∈Fm)/\(0<n->∃ r∈Fm,r.head?=↑(pl:Int)):=by
 let#[J',h1,Fm,h2,h3,h4,h5,h6]:=vx (is:=[11]) (g:=zv 11) (b:=b) (λ k:Nat=>T.int (0+(k:Int))) (λ p J=>∃ Fm:List (List Int),J=E (Fm.map zS) none/\Fm.length=rows.length+p.length/\(∀ r∈Fm,ux many r)/\(∀ r∈rows,r∈Fm)/\(0<p.length->∃ r∈Fm,r.head?=↑(pl:Int)))
   (List.range n) (E (rows.map zS) none) #[rows,hE _ _,rfl,hr,λ _ h=>h,λ h=>absurd h #[]] (by
  rintro p k q e J ⟨Fm,rfl,u1,u2,u3,u4⟩;have hp:p.length<n:=by have:=congrArg List.length e;simp at this;lia
  have hk:k<n:=A2.mp (by rw[e];simp);let#[r,#[v1,v3],v2]:=ht k hk (Fm.map zS) (by simp;lia);exact#[_,v2,Fm++[r],by rw[hE];simp,by simp![Bs,List.length_singleton,u1];lia,λ r' IA=>?_,λ r' h=>C6 _ (u3 r' h),λ _=>#[r,#[],v3]];rcases AY.mp IA with h | h
  .show u2 r' h
  .cases AZ.mp h;show v1)
 subst h2;show#[Fm,h1,by simpa using h3,h4,h5,λ h=>h6 (by exists h)]
def V8 (c mo br:T) (xs:List Int) (hx:xs.length=43) (many:Nat) (hm:many<=8) (os:List Bool) (rows:List (List Int)) (GG:List T) (k:Nat) (hk:k<many) (ho:os.length=k) (hrl:rows.length<=3*k) (hr:∀ r∈rows,ux many r) (hs:GG.length<=k):
  ∃ (b:Bool) (Fm:List (List Int)) (GI:List T) (nu sz:Int),turn (zv 8) p8 (.int (0+(k:Int))) [↑(.im c),↑(.im mo),↑(.im br),↑(.im (.lst (xs.map T.int))),↑(.im (.int many)),↑(.own (.lst (os.map kt))),↑(.own (.lst (rows.map zS))),↑(.own (.lst GG)),none,none,none,none,none]
   = ↑(.nx [↑(.im c),↑(.im mo),↑(.im br),↑(.im (.lst (xs.map T.int))),↑(.im (.int many)),↑(.own (.lst ((os++[b]).map kt))),↑(.own (.lst (Fm.map zS))),↑(.own (.lst GI)),↑(.im (.int (0+(k:Int)))),↑(.im (.int nu)),↑(.im (.int sz)),none,none])
   /\ Fm.length<=3*(k+1)/\(∀ r∈Fm,ux many r)/\(∀ r∈rows,r∈Fm)/\(∃ r∈Fm,r.head?=↑(k:Int))/\GI.length<=k+1/\(GI=GG\/(b=true/\∃ s:RN.Sl,(s.p=k/\(1<=s.gv/\s.gv<=12)/\0<=s.gt/\s.gt<=12)/\GI=GG++[yg s])):=by
 let#[v,hv]:=sR (xs:=xs) (j:=2+4*k) ⋯;have HB:L2.zM (xs.map T.int) (2+4*(k:Int))=↑(.int v):=hv;obtain⟨b,hb⟩:∃ b:Bool,L2.zM [T.str "keeper",T.str "taker"] (v%2)=↑(kt b):=by
  rcases Int.emod_two_eq v with h | h <;> rw[h]
  .show#[true,rfl]
  .show#[false,rfl]
 obtain⟨sz,hsz,sz1⟩:∃ sz:Nat,L2.zM [T.int 2,T.int 3,T.int 3,T.int 12] (v/2%4)=↑(.int (sz:Int))/\sz<=12:=by
  have h0:0<=v/2%4:=Br _ ();have h1:v/2%4<4:=BK _ ();generalize v/2%4=z at *;obtain h | h | h | h:z=0\/z=1\/z=2\/z=3:=⋯
  all_goals subst h
  .show#[2,rfl,()]
  .show#[3,rfl,()]
  .show#[3,rfl,()]
  .show#[12,rfl,()]
 obtain⟨n1,Jx,n0,n3⟩:∃ n:Nat,1+v/8%3=(n:Int)/\0<n/\n<=3:=#[(1+v/8%3).toNat,⋯,⋯,⋯];let#[Fm,g1,g2,g3,g4,g5]:=Z8 ku n1 many k (λ rs x=>[↑(.im c),↑(.im mo),↑(.im br),↑(.im (.lst (xs.map T.int))),↑(.im (.int many)),↑(.own (.lst ((os++[b]).map kt))),↑(.own (.lst rs)),↑(.own (.lst GG)),↑(.im (.int (k:Int))),↑(.im (.int v)),↑(.im (.int sz)),x,none]) (λ _ _=>rfl) ⋯
  (λ k' Hh rs hrs=>by
   let#[v2,KI]:=sR (xs:=xs) (j:=3+4*k+k') ⋯;have Iw:L2.zM (xs.map T.int) (3+4*(k:Int)+(0+(k':Int)))=↑(.int v2):=by rw[<- KI];congr 1;lia
   let#[r,KQ,KP]:=ZS k many v2 sz hk ⋯;exact#[r,KQ,?_];have m1:vM 4 (k:Int):=.inl #[(),()];have CI:rs.length<16777216:=⋯;unfold turn ku;generalize rF=fw,xs.map T.int=XL,(os++[b]).map kt=OL,zS r=rr,(0+(k':Int))=kk at *;generalize hk4:(k:Int)=kI at *;simp[oB,m1,Iw,KP,CI])
  rows ⋯ hr
 have Cd:=sH n1 ⋯;have Cf:(os.map kt).length<16777216:=by simp;lia
 have Cw:L2.zM ((os++[b]).map kt) (k:Int)=↑(kt b):=vG (by rw[BP,Ct (by simp;lia)];simp[ho]);have AK:GG.length<16777216:=⋯;have E6:=cP b;have m1:vM 4 (k:Int):=.inl #[(),()];have d2:xC v 2:=#[(),()];have d8:xC v 8:=#[(),()];have d24:xC v 24:=#[(),()];have d72:xC v 72:=#[(),()];have d144:xC v 144:=#[(),()];have d576:xC v 576:=#[(),()];have fin:∀ GI:List T,(if b=true/\v/24%3=0 then GG++[.tup [.int k,.int (v/72%2),.int (1+v/144%4),.int (v/576%5)]] else GG)=GI->turn (zv 8) p8 (.int (0+(k:Int))) [↑(.im c),↑(.im mo),↑(.im br),↑(.im (.lst (xs.map T.int))),↑(.im (.int many)),↑(.own (.lst (os.map kt))),↑(.own (.lst (rows.map zS))),↑(.own (.lst GG)),none,none,none,none,none]
   = ↑(.nx [↑(.im c),↑(.im mo),↑(.im br),↑(.im (.lst (xs.map T.int))),↑(.im (.int many)),↑(.own (.lst ((os++[b]).map kt))),↑(.own (.lst (Fm.map zS))),↑(.own (.lst GI)),↑(.im (.int (0+(k:Int)))),↑(.im (.int v)),↑(.im (.int sz)),none,none]):=λ GI he=>by
  have e2:(os++[b]).map kt=os.map kt++[kt b]:=#[];unfold turn p8;rw[e2] at g1 Cw ⊢;simp![CT] at g1 Cd ⊢;generalize ku=bb,(List.range n1).map (λ(k:Nat)=>T.int (k:Int))=RR,Fm.map zS=L2',rows.map zS=L1',xs.map T.int=XL,os.map kt=OL,(T.str "taker")=s2 at *;generalize hs1:(T.str "keeper")=s1 at *;generalize kt b=kb at *;generalize hkI:(k:Int)=kI at *;generalize D8:zy=ee at *;have ID:ee false (.int (v/24%3)) (.int 0)=↑(.bl (decide (v/24%3=0))):=by rw[<- D8];show eq_int _ _ _
  by_cases Ik:b=true
  .subst Ik;by_cases hz:v/24%3=0
   .rw[if_pos #[rfl,hz]] at he;subst he;rw[hz] at ID;simp[oB,m1,HB,hb,Cf,d2,hsz,d8,Jx,Cd,g1,Cw,E6,d24,ID,hz,AK,d72,d144,d576]
   .rw[if_neg (λ h=>hz h.2)] at he;subst he;simp[oB,m1,HB,hb,Cf,d2,hsz,d8,Jx,Cd,g1,Cw,E6,d24,ID,hz]
  .have IH:b=false:=by exists Ik
   subst IH;rw[if_neg (λ h=>Ik h.1)] at he;subst he;simp[oB,m1,HB,hb,Cf,d2,hsz,d8,Jx,Cd,g1,Cw,E6]
 exact#[b,Fm,_,v,sz,fin _ rfl,⋯,g3,g4,g5 n0,?_,?_]
 .split
  .simp;lia
  .lia
 .split
  .rename_i Fd;have hp:v/72%2=0\/v/72%2=1:=⋯;exact .inr #[Fd.1,#[k,decide (v/72%2=1),1+v/144%4,v/576%5],#[rfl,by dsimp only;lia,by dsimp only;lia,by dsimp only;lia],?_];rcases hp with h | h <;> simp[yg,vR,h]
  .show .inl rfl
def wH (w:Wy):List Int:=[(w.f:Int),(w.t:Int),w.a,w.b]
theorem Xl {w v:Wy}(h:wH w=wH v):w=v:=by
 let#[f,t,a,b]:=w;let#[f',t',a',b']:=v;simp![wH,List.cons.injEq,and_true] at h;let#[h1,h2,rfl,rfl]:=h;have e1:f=f':=⋯;have e2:t=t':=⋯;subst e1 e2;rfl
theorem eN {many:Nat}:∀ l:List (List Int),(∀ r∈l,ux many r)->∃ ws:List Wy,l=ws.map wH/\∀ w∈ws,(w.f<many/\w.t<many)/\(-12<=w.a/\w.a<=12)/\-12<=w.b/\w.b<=12
 | [],_=>#[[],rfl,nofun]
 | r::l,h=>by
  let#[ws,e1,e2]:=eN l λ x hx=>h x (Ay _ hx);let#[f,t,a,b,rfl,hf,ht,hc]:=h r Ax;exact#[#[f,t,a,b]::ws,by rw[e1];rfl,λ w hw=>?_];rcases An.mp hw with x | x
  .subst x;show#[#[hf,ht],hc]
  .show e2 w x
def Ww {many:Nat}(rs:List (List Int)) (h0:rs≠[]) (hl:rs.length<64) (hw:∀ r∈rs,ux many r):
  ∃ ws:List Wy,wy [.lst (rs.map zS)]=↑(.lst (ws.map zu))/\ws.length<=rs.length/\(∀ w∈ws,(w.f<many/\w.t<many)/\(-12<=w.a/\w.a<=12)/\-12<=w.b/\w.b<=12)/\(∀ w:Wy,w∈ws↔wH w∈rs)/\(ws.map wH).Pairwise (λ a b=>HT.lexLt b a=false/\a≠b):=by
 have hn:∀ r∈rs,r≠[]:=λ r hr=>by let#[f,t,a,b,rfl,_]:=hw r hr;simp
 have hm:∀ r,r∈L4.yZ (xD rs)↔r∈rs:=λ r=>by rw[(L4.vP _).mem_iff,qO]
 let#[ws,e1,e2]:=eN (many:=many) (L4.yZ (xD rs)) λ r hr=>hw r ((hm r).mp hr);exact#[ws,?_,?_,e2,λ w=>?_,?_]
 .rw[Wv rs h0 hl hn,e1,AN];rfl
 .have:=congrArg List.length e1;rw[(L4.vP _).length_eq,AA] at this;have:=lq rs;lia
 .rw[<- hm,e1];constructor
  .show λ h=>Av.mpr #[w,h,rfl]
  .intro h;let#[v,hv,e]:=Av.mp h;rw[<- Xl e];show hv
 .rw[<- e1];show (L4.mO _).and ((L4.vP _).nodup_iff.mpr (lj rs))
structure Gf (os:List Bool) (ws:List Wy) (ss:List Sl):Prop where
 n1:1<=os.length
 n8:os.length<=8
 wr:∀ w∈ws,(w.f<os.length/\w.t<os.length)/\(-12<=w.a/\w.a<=12)/\-12<=w.b/\w.b<=12
 wl:ws.length<=24
 wp:(ws.map wH).Pairwise (λ a b=>HT.lexLt b a=false/\a≠b)
 way:∀ x<os.length,∃ w∈ws,w.f=x
 sr:∀ s∈ss,s.p<os.length/\os.getD s.p false=true/\(1<=s.gv/\s.gv<=12)/\0<=s.gt/\s.gt<=12
 sp:ss.Pairwise (λ a b=>a.p<b.p)
 sl:ss.length<=8
def gK (c:Int) (most zt:Nat) (h1:1<=most) (h8:most<=8) (hb:zt<=12):
  ∃ F:zF,wW [.int c,.int most,.int zt]=↑(zh F)/\Gf F.os F.ws F.ss/\(0<=F.A/\F.A<=zt)/\0<=F.B/\F.B<=zt:=by
 let#[xs,EB,hx]:=ZT c 43 ();have Cc:tG [.int c,.int 43]=↑(.lst (xs.map T.int)):=EB;let#[v0,hv0]:=sR (xs:=xs) (j:=0) ⋯;let#[v1,hv1]:=sR (xs:=xs) (j:=1) ⋯;have Iy:L2.zM (xs.map T.int) 0=↑(.int v0):=hv0;have Js:L2.zM (xs.map T.int) 1=↑(.int v1):=hv1;have EV:(0:Int)<most:=⋯;have Jy:0<most:=h1;obtain⟨many,Ib,m1,m8⟩:∃ n:Nat,1+v0%most=(n:Int)/\1<=n/\n<=8:=by
  have:=Br v0 (b:=(most:Int)) ⋯;have:=BK v0 EV;show#[(1+v0%most).toNat,⋯,⋯,⋯]
 let#[J',g1,os,rows,GG,g2,g3,g4,g5,g6,g7,ss,D2,hsg,BV]:=vx (is:=[8,9,10,11]) (g:=zv 8) (b:=p8) (λ k:Nat=>T.int (0+(k:Int)))
   (λ p J=>∃ (os:List Bool) (rows:List (List Int)) (GG:List T),J=[↑(.im (.int c)),↑(.im (.int most)),↑(.im (.int zt)),↑(.im (.lst (xs.map T.int))),↑(.im (.int many)),↑(.own (.lst (os.map kt))),↑(.own (.lst (rows.map zS))),↑(.own (.lst GG)),none,none,none,none,none]
    /\ os.length=p.length/\rows.length<=3*p.length/\(∀ r∈rows,ux many r)/\(∀ x∈p,∃ r∈rows,r.head?=↑(x:Int))/\GG.length<=p.length/\∃ ss:List Sl,GG=ss.map yg/\(∀ s∈ss,s.p<os.length/\os.getD s.p false=true/\(1<=s.gv/\s.gv<=12)/\0<=s.gt/\s.gt<=12)/\ss.Pairwise (λ a b=>a.p<b.p))
   (List.range many) [↑(.im (.int c)),↑(.im (.int most)),↑(.im (.int zt)),↑(.im (.lst (xs.map T.int))),↑(.im (.int many)),↑(.own (.lst [])),↑(.own (.lst [])),↑(.own (.lst [])),none,none,none,none,none] #[[],[],[],rfl,rfl,#[],nofun,nofun,#[],[],rfl,nofun,.nil] (by
  rintro p k q e J ⟨os,rows,GG,rfl,r1,r2,r3,r4,r5,ss,r6,r7,r8⟩;have hk:k<many:=A2.mp (by rw[e];simp);have hpk:p.length=k:=by
   have h2:=congrArg (λ l=>l[p.length]?) e;simp![Ct (Ak _),Nat.sub_self,List.getElem?_cons_zero] at h2;let#[h3,h4]:=AU.mp h2;exists h4
  let#[b,Fm,GI,nu,sz,t1,t2,t3,t4,t5,t6,t7]:=V8 (.int c) (.int most) (.int zt) xs hx many m8 os rows GG k hk ⋯ ⋯ r3 ⋯;have grow:∀ s∈ss,s.p<(os++[b]).length/\(os++[b]).getD s.p false=true/\(1<=s.gv/\s.gv<=12)/\0<=s.gt/\s.gt<=12:=λ s hs=>by
   let#[a1,a2,a3]:=r7 s hs;exact#[by simp;lia,?_,a3];rw[BL,Cs a1,<- BL];show a2
  exact#[_,t1,os++[b],Fm,GI,rfl,by simp[r1],by simp;lia,t3,λ x hx=>?_,by simp;lia,by
   rcases t7 with rfl | ⟨hb,s,⟨s0,s1⟩,rfl⟩
   .show#[ss,r6,grow,r8]
   .exact#[ss++[s],by rw[r6];simp,λ z hz=>?_,DV.mpr #[r8,#[],λ a ha c hc=>?_]]
    .rcases AY.mp hz with h | h
     .show grow z h
     .cases AZ.mp h;exact#[by simp;lia,?_,s1];rw[s0,BL,Ct ⋯,show k-os.length=0 by lia,hb];rfl
    .cases AZ.mp hc;have:=(r7 a ha).1;lia]
  rcases AY.mp hx with h | h
  .let#[r,y1,y2]:=r4 x h;show#[r,t4 r y1,y2]
  .cases AZ.mp h;show t5)
 subst g2;rw[Cv] at g3 g4 g7;obtain⟨n9,hn9,n9'⟩:∃ n:Nat,(if 24-(rows.length:Int)<9 then 24-(rows.length:Int) else 9)=(n:Int)/\n<=9:=by
  split
  .show#[24-rows.length,⋯,⋯]
  .show#[9,rfl,⋯]
 obtain⟨pl,Ao,pl1⟩:∃ n:Nat,v0/64%8%many=(n:Int)/\n<many:=by
  have:=Br (v0/64%8) (b:=(many:Int)) ⋯;have:=BK (v0/64%8) (b:=(many:Int)) ⋯;show#[(v0/64%8%many).toNat,⋯,⋯]
 have d64:xC v0 64:=#[(),()];have Du:0<many:=m1;let#[Hy,k1,k2,k3,k4,_]:=Z8 ko n9 many pl (λ rs x=>[↑(.im (.int c)),↑(.im (.int most)),↑(.im (.int zt)),↑(.im (.lst (xs.map T.int))),↑(.im (.int many)),↑(.own (.lst (os.map kt))),↑(.own (.lst rs)),↑(.own (.lst GG)),none,none,none,x,none]) (λ _ _=>rfl) ⋯
  (λ k' Hh rs hrs=>by
   let#[v2,KI]:=sR (xs:=xs) (j:=34+k') ⋯;have Iw:L2.zM (xs.map T.int) (34+(0+(k':Int)))=↑(.int v2):=by rw[<- KI];congr 1;lia
   let#[r,KQ,KP]:=ZS pl many v2 3 pl1 ⋯;have KO:rF [.int pl,.int many,.int v2,.int 3]=↑(zS r):=KP;exact#[r,KQ,?_];have CI:rs.length<16777216:=⋯;unfold turn ko;generalize rF=fw,xs.map T.int=XL,os.map kt=OL,zS r=rr,(0+(k':Int))=kk at *;simp[Iy,d64,Du,Ao,Iw,KO,CI])
  rows ⋯ g5
 have fin:∃ Gx:List (List Int),(if v0/8%8=1 then Hy else rows)=Gx/\Gx≠[]/\Gx.length<=24/\(∀ r∈Gx,ux many r)/\∀ x<many,∃ r∈Gx,r.head?=↑(x:Int):=by
  exact#[_,rfl,?_];have hx:∀ x<many,∃ r∈rows,r.head?=↑(x:Int):=λ x hx=>g6 x (A2.mpr hx);have J6:∀ x<many,∃ r∈Hy,r.head?=↑(x:Int):=λ x hh=>by
   let#[r,y1,y2]:=hx x hh;show#[r,k4 r y1,y2]
  split
  .exact#[λ e=>?_,⋯,k3,J6];let#[r,y,_]:=J6 0 Du;rw[e] at y;cases y
  .exact#[λ e=>?_,⋯,g5,hx];let#[r,y,_]:=hx 0 Du;rw[e] at y;cases y
 let#[Gx,e3,r0,r1,r2,r3]:=fin;let#[ws,w1,w2,w3,w4,w5]:=Ww Gx r0 ⋯ r2;have Ea:(0:Int)<(zt:Int)+1:=⋯;have A0:=Br v1 (b:=(zt:Int)+1) ⋯;have A1:=BK v1 Ea;have B0:=Br (v1/13) (b:=(zt:Int)+1) ⋯;have B1:=BK (v1/13) Ea;have Bw:ss.length=GG.length:=by rw[D2,AA]
 exact#[#[v1%((zt:Int)+1),v1/13%((zt:Int)+1),os,ws,ss],?_,#[by dsimp only;lia,by dsimp only;lia,λ w hw=>by dsimp only;rw[g3];show w3 w hw,by dsimp only;lia,w5,λ x hx=>?_,hsg,BV,by dsimp only;lia],by dsimp only;lia]
 .have Cd:=sH many ⋯;have KN:=sH n9 ⋯;have d8:xC v0 8:=#[(),()];have d13:xC v1 13:=#[(),()];have hlen:yU [.lst (rows.map zS)]=↑(.int rows.length):=#[];have EX:(os.map kt).length<=16777216:=by simp;lia
  have hls:GG.length<=16777216:=⋯;have D4:(ws.map zu).length<=16777216:=by simp;lia
  have hq:=eq_int (v0/8%8) 1 false;change wW _=↑(.tup [.tup [.int (v1%((zt:Int)+1)),.int (v1/13%((zt:Int)+1))],.tup (os.map kt),.tup (ws.map zu),.tup (ss.map yg)]);rw[<- D2];unfold wW YF;generalize p8=bb2,ko=bb3,tG=fs,xs.map T.int=XL,(List.range many).map (λ(k:Nat)=>T.int (0+(k:Int)))=R1,(List.range n9).map (λ(k:Nat)=>T.int (0+(k:Int)))=R9,os.map kt=OL at *;by_cases h:v0/8%8=1
  .rw[if_pos h] at e3;subst e3;rw[h] at hq;generalize ws.map zu=WL at *;generalize hrr:rows.map zS=RR at *;generalize Hy.map zS=RR2 at *;have CO:RR.length=rows.length:=by rw[<- hrr,AA]
   generalize zy=ee,wy=sv at *;simp[Cc,Iy,EV,Jy,Ib,Cd,g1,d8,hq,h,CO,hn9,KN,k1,Js,Ea,d13,w1,EX,hls,D4]
  .rw[if_neg h] at e3;subst e3;generalize ws.map zu=WL,rows.map zS=RR,zy=ee,wy=sv at *;simp[Cc,Iy,EV,Jy,Ib,Cd,g1,d8,hq,h,Js,Ea,d13,w1,EX,hls,D4]
 .dsimp only at hx;rw[g3] at hx;let#[r,y1,y2]:=r3 x hx;let#[f,t,a,b,rfl,hf,ht,_]:=r2 r y1;exact#[#[f,t,a,b],(w4 _).mpr y1,?_];have:(f:Int)=(x:Int):=by exists y2
  dsimp only;lia
def zQ (a c:Int) (b:Bd):Bd:=b.filter λ q=>yV (a,c) q
theorem ZU (b:Bd) (a c:Int) (hl:b.length<=100):qy [bT b,zq (a,c)]=↑(bT (zQ a c b)):=by
 have hc:kd [↑(.im (bT b)),↑(.im (zq (a,c)))]=↑(.lst ((zQ a c b).map zq)):=by
  have:=sQ zq (λ q=>if yV (a,c) q=true then ↑(zq q) else none) (pick:=[none,↑1]) (it:=yE (zc 0)) (g:=zv 0) (c:=xR (zk rH (zb (zl 1) (zb (zl 0) zg)))) (f:=zl 0) (J:=[↑(.im (bT b)),↑(.im (zq (a,c)))]) b (by simp[bT]) ⋯ (λ q _=>by
   have h:=Z_ (a,c) q;generalize rH=ff,yV (a,c) q=g,zq (a,c)=pa,zq q=pq at *;cases g <;> simp[h])
  unfold kd;rw[this,qc];rfl
 have G1:((zQ a c b).map zq).length<=16777216:=by
  have:=BZ (λ q=>yV (a,c) q) b;unfold zQ;simp;lia
 have e:bT (zQ a c b)=.tup ((zQ a c b).map zq):=rfl;rw[e];unfold qy Y5;generalize kd=cc,(zQ a c b).map zq=LL at *;simp[hc,G1]
def q_ {a c:Int}{b:Bd}(h:yB b):yB (zQ a c b):=List.Pairwise.filter _ h
def yv (b d:Bd):Str:=if b=d then "alike" else if xb b d=b then "first" else if xb b d=d then "second" else "neither"
def iD (b d:Bd):zy false (bT b) (bT d)=↑(.bl (decide (b=d))):=by
 have:=cu b d;unfold zy at this ⊢;split at this
 .rename_i hdp;rw[if_pos hdp];simp![cond_true,cond_false,Option.some.injEq,T.bl.injEq] at this ⊢;by_cases z:b=d <;> simpa [z] using this
 .cases this
def LH (b d:Bd) (hl:b.length+d.length<64):me [bT b,bT d]=↑(.str (yv b d)):=by
 have hj:=ZW b d hl;have e1:=iD b d;have e2:=iD (xb b d) b;have e3:=iD (xb b d) d;unfold me Y0 yv;generalize qz=f1,bT (xb b d)=jt,bT b=bt,bT d=dt,zy false=ee at *;by_cases z1:b=d
 .rw[zaA z1] at e1;rw[if_pos z1];simp[e1]
 .rw[za5 z1] at e1;rw[if_neg z1];by_cases z2:xb b d=b
  .rw[zaA z2] at e2;rw[if_pos z2];simp[e1,e2,hj]
  .rw[za5 z2] at e2;rw[if_neg z2];by_cases z3:xb b d=d
   .rw[zaA z3] at e3;rw[if_pos z3];simp[e1,e2,e3,hj]
   .rw[za5 z3] at e3;rw[if_neg z3];simp[e1,e2,e3,hj]
def Ka {F:zF}{pre:List (List Bd)}{lst:List Bd}(hr:pL [zh F]=↑(.lst ((pre++[lst]).map rT))):uv [zh F]=↑(rT lst):=by
 have Cw:L2.zM ((pre++[lst]).map rT) (-1)=↑(rT lst):=by
  rw[BP];show hX
 unfold uv YO;generalize (pre++[lst]).map rT=L,pL=f1,zh F=fl at *;simp[hr,Cw]
theorem Zm {F:zF}(ok:F.Ok):∃ l,uv [zh F]=↑(rT l)/\l.length=F.os.length/\∀ b∈l,Gd F.A F.B b:=by
 let#[more,hr,hn,_,_]:=LN ok;obtain⟨pre,lst,e⟩:∃ pre lst,RN.start F::more=pre++[lst]:=#[_,_,(List.dropLast_concat_getLast #[]).symm];rw[e] at hr hn;show#[lst,Ka hr,(hn lst #[]).1,(hn lst #[]).2]
theorem ZV (b:Bd) (q:Int×Int) (hl:b.length<=100):mn [bT b,zq q]=↑(.bl (zH b q)):=by
 have hc:kh [↑(.im (bT b)),↑(.im (zq q))]=↑(.lst (b.map λ p=>T.bl (yV q p))):=by
  unfold kh;exact vW zq _ b (by simp[bT]) ⋯ λ p _=>?_;unfold yV;by_cases h:q.1≥p.1 <;> simp[vy,zq,h]
 unfold mn YE;generalize kh=cc,bT b=bt,zq q=pq at *;simp[hc,Ln];rfl
theorem gY:∀ (l m:List Bd),List.zipWith (λ a b=>T.tup [a,b]) (l.map bT) (m.map bT)=(l.zip m).map λ p=>T.tup [bT p.1,bT p.2]
 | [],_=>#[]
 | _::_,[]=>#[]
 | b::l,c::m=>by simp[gY l m]
def vb (a c:Int) (l m:List Bd):List Str:=((l.map (zQ a c)).zip (m.map (zQ a c))).map λ p=>yv p.1 p.2
def yj (a b:Int):Int:=if b<a then b else a
def ZX {F G:zF}{l m:List Bd}(hG:uv [zh G]=↑(rT l)) (hF:uv [zh F]=↑(rT m)) (en:G.os.length=F.os.length) (ln:l.length<=8/\m.length<=8)
  (gl:∀ b∈l,b.length<=13) (gm:∀ b∈m,b.length<=13):tI [zh G,zh F]=↑(.lst ((vb (yj G.A F.A) (yj G.B F.B) l m).map T.str)):=by
 have pG:=pN G;have pF:=pN F;have e2:∀ i j:Int,zy true (.int i) (.int j)=↑(.bl (!decide (i=j))):=λ i j=>eq_int i j true;have k1:ze (zh G) (.int 0)=↑(zq (G.A,G.B)):=rfl;have k2:ze (zh F) (.int 0)=↑(zq (F.A,F.B)):=rfl;have mA:(if F.A<G.A then F.A else G.A)=yj G.A F.A:=rfl;have mB:(if F.B<G.B then F.B else G.B)=yj G.B F.B:=rfl;generalize yj G.A F.A=Am,yj G.B F.B=Bm at *;have c1:nP [↑(.im (zh G)),↑(.im (zh F)),↑(.im (zq (Am,Bm))),none,none]=↑(rT (l.map (zQ Am Bm))):=by
  unfold nP;rw[show rT (l.map (zQ Am Bm))=.lst (l.map λ b=>bT (zQ Am Bm b)) by unfold rT;rw[AN];rfl];have hq:xm (rT l)=↑(l.map bT):=rfl;exact vW bT _ l (by simp[hG,hq]) ⋯ λ b hb=>?_;have:=ZU b Am Bm (by have:=gl b hb;lia);generalize qy=ff,bT b=bt,zq (Am,Bm)=pp at *;simp[this]
 have c2:nM [↑(.im (zh G)),↑(.im (zh F)),↑(.im (zq (Am,Bm))),↑(.im (rT (l.map (zQ Am Bm)))),none]=↑(rT (m.map (zQ Am Bm))):=by
  unfold nM;rw[show rT (m.map (zQ Am Bm))=.lst (m.map λ b=>bT (zQ Am Bm b)) by unfold rT;rw[AN];rfl];have hq:xm (rT m)=↑(m.map bT):=rfl;exact vW bT _ m (by simp[hF,hq]) ⋯ λ b hb=>?_;have:=ZU b Am Bm (by have:=gm b hb;lia);generalize qy=ff,bT b=bt,zq (Am,Bm)=pp at *;simp[this]
 have c3:nK [↑(.im (zh G)),↑(.im (zh F)),↑(.im (zq (Am,Bm))),↑(.im (rT (l.map (zQ Am Bm)))),↑(.im (rT (m.map (zQ Am Bm))))]=↑(.lst ((vb Am Bm l m).map T.str)):=by
  unfold nK vb;rw[AN];have hq:∀ x:List Bd,xm (rT x)=↑(x.map bT):=λ _=>rfl;exact vW (λ p:Bd×Bd=>T.tup [bT p.1,bT p.2]) _ _ ?_ (by simp;lia) λ p hp=>?_
  .have:=gY (l.map (zQ Am Bm)) (m.map (zQ Am Bm));have h1:=hq (l.map (zQ Am Bm));have h2:=hq (m.map (zQ Am Bm));generalize (l.map (zQ Am Bm))=L,(m.map (zQ Am Bm))=M at *;generalize rT L=lt at *;generalize rT M=mt at *;simp[h1,h2,this]
  .rw[List.zip_map] at hp;let#[r,hr,rfl]:=Av.mp hp;have r1:=gl _ (C4 hr).1;have r2:=gm _ (C4 hr).2;have:=LH (zQ Am Bm r.1) (zQ Am Bm r.2) (by
    have:=BZ (λ q=>yV (Am,Bm) q) r.1;have:=BZ (λ q=>yV (Am,Bm) q) r.2;unfold zQ;lia)
   dsimp only[Prod.map,Function.comp];generalize me=ff,yv (zQ Am Bm r.1) (zQ Am Bm r.2)=w,bT (zQ Am Bm r.1)=b1,bT (zQ Am Bm r.2)=b2 at *;simp[vy,this]
 have ep:∀ a b:Int,zq (a,b)=.tup [.int a,.int b]:=λ _ _=>rfl;rw[ep] at k1 k2 c1 c2 c3;unfold tI gW;generalize nP=cc1,nM=cc2,nK=cc3,uI=f1,zh G=gt,zh F=ft,zy true=ee at *;simp![ze] at k1 k2;simp[pG,pF,en,e2,k1,k2,mA,mB,c1,c2,c3]
theorem LV {F G:zF}(en:G.os.length≠F.os.length):tI [zh G,zh F]=↑(.err "NoFloor" "" .zr):=by
 have pG:=pN G;have pF:=pN F;have e2:∀ i j:Int,zy true (.int i) (.int j)=↑(.bl (!decide (i=j))):=λ i j=>eq_int i j true;have JO:¬ (G.os.length:Int)=F.os.length:=⋯;unfold tI gW;generalize nP=cc1,nM=cc2,nK=cc3,uI=f1,zh G=gt,zh F=ft,zy true=ee at *;simp[pG,pF,JO,e2]
def yN {i:Nat}{f:Ag}{J:Ev}{y:T}(h:f J=↑y):zx i f J=↑(.nx (J.set i ↑(.im y))):=by
 change (f J).map _=_;rw[h];rfl
def bN {is:List Nat}{it:Ev->Option (List T)}{g:T->Ev->Option Ev}{b:Sm}{J:Ev}{xs:List T}{r:Option Out}(h:it J=↑xs) (hl:xy is g b xs J=r):wo is it g b J=r:=by
 change (it J).bind _=_;rw[h];show hl
def dQ {f g:Ag}{J:Ev}{a b:Bool}(hf:f J=↑(.bl a)) (hg:g J=↑(.bl b)):lg f g J=↑(.bl (a||b)):=by
 change (f J).bind _=_;rw[hf];cases a
 .show hg
 .rfl
def ZA {f g:Ag}{J:Ev}{a b:Bool}(hf:f J=↑(.bl a)) (hg:g J=↑(.bl b)):tD f (o7 g) J=↑(.bl (a&&!b)):=by
 change (f J).bind _=_;rw[hf];cases a
 .rfl
 .change (g J).bind _=_;rw[hg];rfl
abbrev uw (o t p:T) (b d:Bd) (m l:Bool) (x y h k:Option L5.W):Ev:=[↑(.im o),↑(.im t),↑(.im p),↑(.im (bT b)),↑(.im (bT d)),↑(.im (.bl m)),↑(.im (.bl l)),x,y,h,k]
def Xq (o t p:T) (b d:Bd) (hb:b.length<=100) (hd:d.length<=100) (m l:Bool) (x y:Int):
  turn (zv 8) kr (.int y) (uw o t p b d m l ↑(.im (.int x)) none none none)=↑(.nx (uw o t p b d (m||(zH b (x,y)&&!zH d (x,y))) (l||(zH d (x,y)&&!zH b (x,y))) ↑(.im (.int x)) ↑(.im (.int y)) ↑(.im (.bl (zH b (x,y)))) ↑(.im (.bl (zH d (x,y)))))):=by
 have h1:=ZV b (x,y) hb;have h2:=ZV d (x,y) hd;show (seq_eq (yN h1)).trans ((seq_eq (yN h2)).trans ((seq_eq (yN (dQ rfl (ZA rfl rfl)))).trans (yN (dQ rfl (ZA rfl rfl)))))
def tw (b d:Bd) (x:Int) (ys:List Nat):Bool:=ys.any λ y=>zH b (x,(y:Int))&&!zH d (x,(y:Int))
def aw (b d:Bd) (x:Int) (p:List Nat) (y:Nat):tw b d x (p++[y])=(tw b d x p||(zH b (x,(y:Int))&&!zH d (x,(y:Int)))):=by
 unfold tw;rw[Ep,BH,List.any_nil,Di]
def Xs (o t p:T) (b d:Bd) (hb:b.length<=100) (hd:d.length<=100) (m l:Bool) (x:Int) (n:Nat):
  xy [8,9,10] (zv 8) kr ((List.range n).map λ k:Nat=>T.int (0+(k:Int))) (uw o t p b d m l ↑(.im (.int x)) none none none)=↑(.nx (uw o t p b d (m||tw b d x (List.range n)) (l||tw d b x (List.range n)) ↑(.im (.int x)) none none none)):=by
 let#[J',h1,h2]:=vx (is:=[8,9,10]) (g:=zv 8) (b:=kr) (λ k:Nat=>T.int (0+(k:Int))) (λ q J=>J=uw o t p b d (m||tw b d x q) (l||tw d b x q) ↑(.im (.int x)) none none none) (List.range n) (uw o t p b d m l ↑(.im (.int x)) none none none) (by
   change _=uw o t p b d (m||false) (l||false) _ _ _ _;rw[Di,Di];rfl) (by
  rintro q y r e J rfl;exact#[_,Xq o t p b d hb hd _ _ x (0+(y:Int)),?_];rw[aw,aw,CT,Bool.or_assoc,Bool.or_assoc];rfl)
 rw[h1,h2]
def xJ (b d:Bd) (n:Nat) (xs:List Nat):Bool:=xs.any λ x=>tw b d (x:Int) (List.range n)
def ax (b d:Bd) (n:Nat) (p:List Nat) (x:Nat):xJ b d n (p++[x])=(xJ b d n p||tw b d (x:Int) (List.range n)):=by
 unfold xJ;rw[Ep,BH,List.any_nil,Di]
def m9 (more less:Bool):Str:=if less then (if more then "neither" else "second") else if more then "first" else "alike"
def LG {F G:zF}(p:T) (b d:Bd) (hb:b.length<=100) (hd:d.length<=100) (na nc:Nat) (ha:yj F.A G.A+1=na) (hc:yj F.B G.B+1=nc) (n1:na<=100) (n2:nc<=100):
  mj [zh F,zh G,p,bT b,bT d]=↑(.str (m9 (xJ b d nc (List.range na)) (xJ d b nc (List.range na)))):=by
 have r1:=sH na ⋯;have r2:=sH nc ⋯;have k1:ze (zh F) (.int 0)=↑(.tup [.int F.A,.int F.B]):=rfl;have k2:ze (zh G) (.int 0)=↑(.tup [.int G.A,.int G.B]):=rfl;have mA:(if G.A<F.A then G.A else F.A)+1=(na:Int):=ha;have mB:(if G.B<F.B then G.B else F.B)+1=(nc:Int):=hc;have i1:xh wJ (zb (za zI (zk xU (zb (za ze (za ze (zc 0) (cI 0)) (cI 0)) (zb (za ze (za ze (zc 1) (cI 0)) (cI 0)) zg))) (cI 1)) zg) (uw (zh F) (zh G) p b d false false none none none none)=↑((List.range na).map λ k:Nat=>T.int (0+(k:Int))):=by
  generalize zh F=ft,zh G=gt,bT b=bt,bT d=dt at *;simp![ze] at k1 k2;simp[k1,k2,mA];exists r1
 have i2:∀ (m l:Bool) (x:Option L5.W),xh wJ (zb (za zI (zk xU (zb (za ze (za ze (zc 0) (cI 0)) (cI 1)) (zb (za ze (za ze (zc 1) (cI 0)) (cI 1)) zg))) (cI 1)) zg) (uw (zh F) (zh G) p b d m l x none none none)=↑((List.range nc).map λ k:Nat=>T.int (0+(k:Int))):=λ m l x=>by
  generalize zh F=ft,zh G=gt,bT b=bt,bT d=dt at *;simp![ze] at k1 k2;simp[k1,k2,mB];exists r2
 let#[J',h1,h2]:=vx (is:=[7,8,9,10]) (g:=zv 7) (b:=Zw) (λ k:Nat=>T.int (0+(k:Int))) (λ q J=>J=uw (zh F) (zh G) p b d (xJ b d nc q) (xJ d b nc q) none none none none) (List.range na) (uw (zh F) (zh G) p b d false false none none none none) rfl (by
  rintro q x r e J rfl;exact#[_,bN (i2 _ _ _) (Xs (zh F) (zh G) p b d hb hd _ _ (0+(x:Int)) nc),?_];rw[ax,ax,CT];rfl)
 subst h2
 suffices h:YA [↑(.im (zh F)),↑(.im (zh G)),↑(.im p),↑(.im (bT b)),↑(.im (bT d)),none,none,none,none,none,none]=↑(.rt (.str (m9 (xJ b d nc (List.range na)) (xJ d b nc (List.range na))))) by
  unfold mj zV;show (if_pos rfl).trans (congrArg lb h)
 exact (seq_eq (yN rfl)).trans ((seq_eq (yN rfl)).trans ((seq_eq (bN i1 h1)).trans ?_));cases xJ b d nc (List.range na) <;> cases xJ d b nc (List.range na) <;> rfl
def lJ {a c:Int}{b:Bd}{p:Int×Int}:p∈zQ a c b↔p∈b/\p.1<=a/\p.2<=c:=by
 unfold zQ;rw[Bf];unfold yV;simp
def ay {b d:Bd}{na nc:Nat}:xJ b d nc (List.range na)=true↔∃ x<na,∃ y<nc,zH b ((x:Int),(y:Int))=true/\zH d ((x:Int),(y:Int))=false:=by
 unfold xJ tw;simp[Bi]
theorem a_ {b d:Bd}{a c:Int}{na nc:Nat}(ha:a+1=na) (hc:c+1=nc) (h0:∀ p∈b,0<=p.1/\0<=p.2):xJ b d nc (List.range na)=false↔yn (zQ a c b) (zQ a c d):=by
 constructor
 .intro h;exact yn.of λ p hp=>?_;let#[p1,p2,p3]:=lJ.mp hp;let#[z1,z2]:=h0 p p1;have Fc:zH d p=true:=by
   cases q:zH d p with
   | true=>rfl
   | false=>
    exact absurd ((ay (b:=b) (d:=d) (na:=na) (nc:=nc)).mpr #[p.1.toNat,⋯,p.2.toNat,⋯,?_,?_]) (by rw[h];decide)
    .rw[Cu z1,Cu z2];show yA.mpr #[p,p1,AX _,AX _]
    .rw[Cu z1,Cu z2];show q
  let#[r,r1,r2,r3]:=yA.mp Fc;show#[r,lJ.mpr #[r1,⋯,⋯],r2,r3]
 .intro h;cases q:xJ b d nc (List.range na) with
  | false=>rfl
  | true=>
   let#[x,hx,y,hy,c1,c2]:=ay.mp q;let#[p,p1,p2,p3]:=yA.mp c1;have:=h ((x:Int),(y:Int)) (yA.mpr #[p,lJ.mpr #[p1,by dsimp only at p2;lia,by dsimp only at p3;lia],p2,p3]);let#[r,r1,r2,r3]:=yA.mp this;rw[yA.mpr #[r,(lJ.mp r1).1,r2,r3]] at c2;cases c2
def rf {b d:Bd}(hb:yB b):xb b d=b↔yn d b:=by
 constructor
 .intro h q hq;have:=ng b d q;rw[h,hq,CB] at this;show this
 .intro h;exact yB.eq (oI _) hb λ q=>?_;rw[ng];cases h1:zH b q with
  | true=>rfl
  | false=>
   cases h2:zH d q with
   | false=>rfl
   | true=>rw[h q h2] at h1;cases h1
def pb {b d:Bd}(hd:yB d):xb b d=d↔yn b d:=by
 constructor
 .intro h q hq;have:=ng b d q;rw[h,hq,Bool.true_or] at this;show this
 .intro h;exact yB.eq (oI _) hd λ q=>?_;rw[ng];cases h1:zH d q with
  | true=>rw[CB]
  | false=>
   cases h2:zH b q with
   | false=>rfl
   | true=>rw[h q h2] at h1;cases h1
def lO {b d:Bd}(hb:yB b) (hd:yB d):b=d↔yn d b/\yn b d:=by
 constructor
 .rintro rfl;show#[λ _ h=>h,λ _ h=>h]
 .rintro⟨h1,h2⟩;rw[<- (rf hb).mpr h1,(pb hd).mpr h2]
def Xr {b d:Bd}{a c:Int}{na nc:Nat}(hb:yB b) (hd:yB d) (ha:a+1=na) (hc:c+1=nc) (b0:∀ p∈b,0<=p.1/\0<=p.2) (d0:∀ p∈d,0<=p.1/\0<=p.2):
  yv (zQ a c b) (zQ a c d)=m9 (xJ b d nc (List.range na)) (xJ d b nc (List.range na)):=by
 have m:=a_ (d:=d) ha hc b0;have l:=a_ (d:=b) ha hc d0;unfold yv m9;have e0:(zQ a c b=zQ a c d)=_:=propext (lO (q_ (a:=a) (c:=c) hb) (q_ hd));have e1:(xb (zQ a c b) (zQ a c d)=zQ a c b)=_:=propext (rf (q_ hb));have e2:(xb (zQ a c b) (zQ a c d)=zQ a c d)=_:=propext (pb (q_ hd));simp![e0,e1,e2,<- m,<- l];cases xJ b d nc (List.range na) <;> cases xJ d b nc (List.range na) <;> simp
def Xt (b d:Bd) (hb:yB b) (hd:yB d):yv d b=(if yv b d="first" then ("second":Str) else if yv b d="second" then ("first":Str) else yv b d):=by
 by_cases h1:yn b d
 .by_cases h2:yn d b
  .cases (lO hb hd).mpr #[h2,h1];have:yv b b="alike":=if_pos rfl;rw[this];rfl
  .have n:b≠d:=λ e=>h2 ((lO hb hd).mp e).1;have w1:yv d b="first":=by unfold yv;rw[if_neg n.symm,if_pos ((rf hd).mpr h1)]
   have w2:yv b d="second":=by unfold yv;rw[if_neg n,if_neg λ e=>h2 ((rf hb).mp e),if_pos ((pb hd).mpr h1)]
   rw[w1,w2];rfl
 .have n:b≠d:=λ e=>h1 ((lO hb hd).mp e).2;by_cases h2:yn d b
  .have w1:yv d b="second":=by unfold yv;rw[if_neg n.symm,if_neg λ e=>h1 ((rf hd).mp e),if_pos ((pb hb).mpr h2)]
   have w2:yv b d="first":=by unfold yv;rw[if_neg n,if_pos ((rf hb).mpr h2)]
   rw[w1,w2];rfl
  .have w1:yv d b="neither":=by unfold yv;rw[if_neg n.symm,if_neg λ e=>h1 ((rf hd).mp e),if_neg λ e=>h2 ((pb hb).mp e)]
   have w2:yv b d="neither":=by unfold yv;rw[if_neg n,if_neg λ e=>h2 ((rf hb).mp e),if_neg λ e=>h1 ((pb hd).mp e)]
   rw[w1,w2];rfl
def lN (neg:Bool) {t:T}(h:dep t<=60):zy neg t t=↑(.bl (!neg)):=by
 unfold zy;rw[if_pos #[h,h],iG];cases neg <;> rfl
def rN (ws:List Str):T:=.lst (ws.map T.str)
def iL (ws:List Str):dep (rN ws)<=60:=by
 have:=lU T.str 1 (λ x=>by simp[dep]) ws;change dep (.lst (ws.map T.str))<=60;simp![dep];lia
def qC (w:Str):Str:=if w="first" then "second" else if w="second" then "first" else w
def cz (a b:Int):yj a b=yj b a:=by unfold yj;split <;> split <;> lia
def Xu (b d:Bd):yv b d="alike"\/yv b d="first"\/yv b d="second"\/yv b d="neither":=by
 unfold yv;split
 .show .inl rfl
 .split
  .show .inr (.inl rfl)
  .split
   .show .inr (.inr (.inl rfl))
   .show .inr (.inr (.inr rfl))
theorem fP {a c:Int}:∀ {l m:List Bd},(∀ b∈l,yB b)->(∀ b∈m,yB b)->vb a c m l=(vb a c l m).map qC
 | [],m,_,_=>by cases m <;> rfl
 | b::l,[],_,_=>rfl
 | b::l,d::m,h1,h2=>by
  change yv (zQ a c d) (zQ a c b)::vb a c m l=qC (yv (zQ a c b) (zQ a c d))::(vb a c l m).map qC;rw[fP (λ x hx=>h1 x (Ay _ hx)) (λ x hx=>h2 x (Ay _ hx)),Xt _ _ (q_ (h1 b Ax)) (q_ (h2 d Ax))];rfl
theorem je {a c:Int}:∀ {l m:List Bd}{n:Nat},l.length=n->m.length=n->vb a c l m=(List.range n).map λ k=>yv (zQ a c (l.getD k [])) (zQ a c (m.getD k []))
 | [],m,n,h1,h2=>by cases h1;cases m <;> rfl
 | b::l,[],n,h1,h2=>by cases h2;cases h1
 | b::l,d::m,n,h1,h2=>by
  obtain⟨k,rfl⟩:∃ k,n=k+1:=#[l.length,h1.symm];rw[Er,Ar,AN];change yv (zQ a c b) (zQ a c d)::vb a c l m=_;rw[je (n:=k) (by exists h1) (by exists h2)];rfl
def XM {a c:Int}{l m:List Bd}{n:Nat}(h1:l.length=n) (h2:m.length=n):(vb a c l m).length=n:=by rw[je h1 h2];simp
def XN {a c:Int}{l m:List Bd}{w:Str}(h:w∈vb a c l m):w="alike"\/w="first"\/w="second"\/w="neither":=by
 let#[p,_,rfl]:=Av.mp h;show Xu _ _
def NL:mq [.err "NoFloor" "" .zr]=↑(.lst [.bl true,.bl false,.bl false,.bl false,.bl false,.bl false,.bl false,.bl false,.bl false]):=by rfl
def Lg (J:Ev):kg J=↑(.lst [.bl true,.bl false,.bl false,.bl false,.bl false,.bl false,.bl false,.bl false,.bl false]):=by rfl
theorem WU {F G:zF}(en:F.os.length≠G.os.length):rG [zh F,zh G]=↑(.bl true):=by
 have hc:=LV (G:=F) (F:=G) en;have k1:ze (zh F) (.int 1)=↑(.tup (F.os.map kt)):=rfl;have k2:ze (zh G) (.int 1)=↑(.tup (G.os.map kt)):=rfl;have l1:(F.os.map kt).length=F.os.length:=#[];have l2:(G.os.map kt).length=G.os.length:=#[];have e2:∀ i j:Int,zy true (.int i) (.int j)=↑(.bl (!decide (i=j))):=λ i j=>eq_int i j true;have DB:=NL;have IG:=Lg;have e3:=lN false (t:=.lst [.bl true,.bl false,.bl false,.bl false,.bl false,.bl false,.bl false,.bl false,.bl false]) ();have JO:¬ (F.os.length:Int)=G.os.length:=⋯;unfold rG gU;generalize (T.lst [.bl true,.bl false,.bl false,.bl false,.bl false,.bl false,.bl false,.bl false,.bl false])=FL,kg=cc1,nL=cc2,nJ=cc3,mq=f1,tI=f2,uv=f3,F.os.map kt=O1,G.os.map kt=O2,zh F=ft,zh G=gt,zy false=ee,zy true=en at *;simp![ze] at k1 k2;simp[hc,k1,k2,l1,l2,e2,DB,IG,e3,JO,wj]
def Ld {F G:zF}(GZ:F.Ok) (G7:G.Ok) (en:F.os.length=G.os.length) {l m:List Bd}(nl:l.length=F.os.length) (nm:m.length=G.os.length) (gl:∀ b∈l,Gd F.A F.B b) (gm:∀ b∈m,Gd G.A G.B b) (x2 x3 x4 x7 x8 x9:Option L5.W):
  nL [↑(.im (zh F)),↑(.im (zh G)),x2,x3,x4,↑(.im (rT l)),↑(.im (rT m)),x7,x8,x9]=↑(rN (vb (yj F.A G.A) (yj F.B G.B) l m)):=by
 have hr:=sH F.os.length (by have:=GZ.n8;lia);have k1:ze (zh F) (.int 1)=↑(.tup (F.os.map kt)):=rfl;have l1:(F.os.map kt).length=F.os.length:=#[];unfold rN;rw[je nl (nm.trans en.symm),AN];unfold nL;have a0:0<=yj F.A G.A/\yj F.A G.A<=12:=by unfold yj;have:=GZ.a0;have:=G7.a0;have:=GZ.a1;have:=G7.a1;split <;> lia
 have c0:0<=yj F.B G.B/\yj F.B G.B<=12:=by unfold yj;have:=GZ.b0;have:=G7.b0;have:=GZ.b1;have:=G7.b1;split <;> lia
 exact vW (λ k:Nat=>T.int (0+(k:Int))) _ (List.range F.os.length) ?_ (by rw[Cv];have:=GZ.n8;lia) λ k hk=>?_
 .generalize F.os.map kt=O1,zh F=ft,rT l=lt,rT m=mt at *;simp![ze] at k1;simp[k1,l1];exists hr
 .have Hh:=A2.mp hk;have E5:k<l.length:=⋯;have E4:k<m.length:=⋯;have g1:=gl (l.getD k []) (by rw[BL,A7 E5];show CH E5);have g2:=gm (m.getD k []) (by rw[BL,A7 E4];show CH E4);have n1:=g1.uV GZ.a0;have n2:=g2.uV G7.a0;have hw:=LG (F:=F) (G:=G) (.int (0+(k:Int))) (l.getD k []) (m.getD k []) (by have:=GZ.a1;lia) (by have:=G7.a1;lia) (yj F.A G.A+1).toNat (yj F.B G.B+1).toNat ⋯ ⋯ ⋯ ⋯;rw[<- Xr (a:=yj F.A G.A) (c:=yj F.B G.B) g1.sU g2.sU ⋯ ⋯ (λ p hp=>#[(g1.wB p hp).1.1,(g1.wB p hp).2.1]) (λ p hp=>#[(g2.wB p hp).1.1,(g2.wB p hp).2.1])] at hw;have i1:=lD l k E5;have i2:=lD m k E4;rw[<- CT (k:Int)] at i1 i2;dsimp only[Function.comp];generalize yv _ _=wd at *;generalize bT (l.getD k [])=b1 at *;generalize bT (m.getD k [])=b2,rT l=lt,rT m=mt,zh F=ft,zh G=gt,mj=fw,(0+(k:Int))=kk at *;simp![ze] at i1 i2;simp[vy,i1,i2,hw]
abbrev PK:T:=.lst [.str "alike",.str "first",.str "second",.str "neither"]
def Lc (x0 x1 x2 x3 x4 x5 x6 x9:Option L5.W) (ws:List Str) (hl:ws.length<=100) (h:∀ w∈ws,w="alike"\/w="first"\/w="second"\/w="neither"):
  nJ [x0,x1,x2,x3,x4,x5,x6,↑(.im (rN ws)),↑(.im PK),x9]=↑(rN (ws.map qC)):=by
 unfold rN;rw[AN];unfold nJ;exact vW T.str _ ws #[] ⋯ λ w hw=>?_;rcases h w hw with rfl | rfl | rfl | rfl <;> rfl
theorem WT {F G:zF}(GZ:F.Ok) (G7:G.Ok) (en:F.os.length=G.os.length):rG [zh F,zh G]=↑(.bl true):=by
 let#[l,hF,nl,gl]:=Zm GZ;let#[m,hG,nm,gm]:=Zm G7;have Kz:∀ b∈l,b.length<=13:=λ b hb=>by have:=(gl b hb).uV GZ.a0;have:=GZ.a1;lia
 have m13:∀ b∈m,b.length<=13:=λ b hb=>by have:=(gm b hb).uV G7.a0;have:=G7.a1;lia
 have n8:=GZ.n8;have h1:=ZX (G:=F) (F:=G) hF hG en #[⋯,⋯] Kz m13;have h2:=ZX (G:=G) (F:=F) hG hF en.symm #[⋯,⋯] m13 Kz;rw[fP (λ b hb=>(gl b hb).sU) (λ b hb=>(gm b hb).sU),cz G.A,cz G.B] at h2;have GR:=λ x2 x3 x4 x7 x8 x9=>Ld GZ G7 en nl nm gl gm x2 x3 x4 x7 x8 x9;have Bl:∀ w∈vb (yj F.A G.A) (yj F.B G.B) l m,_:=λ w hw=>XN hw;have hlen:=XM (a:=yj F.A G.A) (c:=yj F.B G.B) nl (nm.trans en.symm);generalize vb (yj F.A G.A) (yj F.B G.B) l m=ws at *;have hc3:=λ x0 x1 x2 x3 x4 x5 x6 x9=>Lc x0 x1 x2 x3 x4 x5 x6 x9 ws ⋯ Bl;have k1:ze (zh F) (.int 1)=↑(.tup (F.os.map kt)):=rfl;have k2:ze (zh G) (.int 1)=↑(.tup (G.os.map kt)):=rfl;have o1:(F.os.map kt).length=F.os.length:=#[];have o2:(G.os.map kt).length=G.os.length:=#[];have e2:∀ i j:Int,zy true (.int i) (.int j)=↑(.bl (!decide (i=j))):=λ i j=>eq_int i j true;have e3:=lN true (iL ws);have e4:=lN false (iL ws);have e5:=lN false (iL (ws.map qC));have Hu:(ws.map T.str).length<16777216:=by simp;lia
 unfold rN at *;have in1:sT true .zr .zr=↑(.bl false):=rfl;have JO:(F.os.length:Int)=G.os.length:=⋯;unfold rG gU;generalize kg=cc1,nL=cc2,nJ=cc3,mq=f1,tI=f2,uv=f3,F.os.map kt=O1,G.os.map kt=O2,rT l=lt,rT m=mt,zh F=ft,zh G=gt,zy false=ee,zy true=en,sT true=ii,(ws.map qC).map T.str=W2,ws.map T.str=W1 at *;simp![ze] at k1 k2;simp[h1,h2,k1,k2,o1,o2,e2,e3,e4,e5,JO,hF,hG,GR,hc3,in1,Hu,wj,fM,uW]
def WG {a b:Sm}{J:Ev}{y:T}(h:a J=↑(.rt y)):zo a b J=↑(.rt y):=by
 change (a J).bind _=_;rw[h];rfl
def bA {g:Sm}{J:Ev}{i k:Int}(h:zc 4 J=↑(.int i)):yK (yc (za (zy false) (zc 4) (cS (.int k)))) g yI J=if i=k then g J else ↑(.nx J):=by
 have e:=eq_int i k false;have ht:yc (za (zy false) (zc 4) (cS (.int k))) J=↑(decide (i=k)):=by
  change (((zc 4 J).bind λ x=>((cS (.int k):Ag) J).bind λ y=>zy false x y).bind _)=_;rw[h];change ((zy false (.int i) (.int k)).bind _)=_;rw[e];rfl
 change (yc (za (zy false) (zc 4) (cS (.int k))) J).bind _=_;rw[ht];by_cases z:i=k <;> simp[z]
def eF (n d k:Nat) (h:k<=n):HT.zA n d ↑(k:Int)=k:=by
 rw[HT.WJ];lia
def aQ {α:Type}(xs:List α) (k:Nat) (h:k<=xs.length):yW xs none ↑(k:Int)=xs.take k:=by
 unfold yW;rw[eF _ _ _ h];rfl
theorem aR {α:Type}(xs:List α) (k:Nat) (h:k<=xs.length):yW xs ↑(k:Int) none=xs.drop k:=by
 unfold yW;rw[eF _ _ _ h];show List.take_of_length_le (by rw[B9];show Ak _)
def M0 {α β:Type}(f:α->β) (xs:List α) (lo hi:Option Int):yW (xs.map f) lo hi=(yW xs lo hi).map f:=by unfold yW;simp
def Mz {α:Type}{xs:List α}{lo hi:Option Int}{x:α}(h:x∈yW xs lo hi):x∈xs:=DM (Ej h)
def M1 {α:Type}(xs:List α) (lo hi:Option Int):(yW xs lo hi).length<=xs.length:=by
 unfold yW;rw[BO,B9];lia
theorem fq {ws:List Wy}:∀ rs:List (List Int),(∀ r∈rs,∃ w∈ws,wH w=r)->∃ vs:List Wy,rs=vs.map wH/\∀ w∈vs,w∈ws
 | [],_=>#[[],rfl,nofun]
 | r::rs,h=>by
  let#[w,hw,e]:=h r Ax;let#[vs,e1,e2]:=fq rs λ r hr=>h r (Ay _ hr);exact#[w::vs,by rw[Ar,e,e1],λ x hx=>?_];rcases An.mp hx with rfl | hx
  .show hw
  .show e2 x hx
def fX (ws:List Wy) (hl:ws.length<64):∃ vs:List Wy,wy [.tup (ws.map zu)]=↑(.lst (vs.map zu))/\vs.length<=ws.length/\∀ w∈vs,w∈ws:=by
 have hm:∀ r,r∈L4.yZ (xD (ws.map wH))↔r∈ws.map wH:=λ r=>by rw[(L4.vP _).mem_iff,qO]
 let#[vs,e1,e2]:=fq (ws:=ws) (L4.yZ (xD (ws.map wH))) λ r hr=>Av.mp ((hm r).mp hr);exact#[vs,?_,?_,e2]
 .change ((wI (ws.map zu)).bind λ rs=>_)=_;rw[show ws.map zu=(ws.map wH).map zS by rw[AN];rfl,mS,BS,if_pos #[by simpa using hl,λ r hr=>by let#[w,_,rfl]:=Av.mp hr;simp[wH]],e1,AN];rfl
 .have:=congrArg List.length e1;rw[(L4.vP _).length_eq,AA] at this;have:=lq (ws.map wH);rw[AA] at this;lia
theorem mH (xs:List T) (h:xs.length<=1000):yP [.lst xs]=↑(.tup xs):=by
 have:xs.length<=16777216:=⋯;simp[this]
abbrev oE (ft:T) (c most zt w:Int) (xs:List T) (x6 x7 x8 x9 x10 x11 x12:Option L5.W):Ev:=[↑(.im ft),↑(.im (.int c)),↑(.im (.int most)),↑(.im (.int zt)),↑(.im (.int w)),↑(.im (.lst xs)),x6,x7,x8,x9,x10,x11,x12]
section
variable {F:zF}{c most w:Int}{zt:Nat}{xs:List T}{v0 v1:Int}
def other4 (h0:L2.zM xs 0=↑(.int v0)) (h1:L2.zM xs 1=↑(.int v1)):
  retS (tupS (zb (tupS (zb (zk xU (zb (cI 12) (zb (za zT (za ze (zc 5) (cI 0)) (za zI (zc 3) (cI 2))) zg))) (zb (zk xU (zb (cI 12) (zb (za zT (za ze (zc 5) (cI 1)) (za zI (zc 3) (cI 2))) zg))) zg))) (zb (za ze (zc 0) (cI 1)) (zb (za ze (zc 0) (cI 2)) (zb (za ze (zc 0) (cI 3)) zg))))) (oE (zh F) c most zt w xs none none none none none none none) =
   ↑(.rt (zh #[yj 12 (v0%((zt:Int)+2)),yj 12 (v1%((zt:Int)+2)),F.os,F.ws,F.ss])):=by
 have k1:ze (zh F) (.int 1)=↑(.tup (F.os.map kt)):=rfl;have k2:ze (zh F) (.int 2)=↑(.tup (F.ws.map zu)):=rfl;have k3:ze (zh F) (.int 3)=↑(.tup (F.ss.map yg)):=rfl;have hb:(0:Int)<(zt:Int)+2:=⋯;have e:zh #[yj 12 (v0%((zt:Int)+2)),yj 12 (v1%((zt:Int)+2)),F.os,F.ws,F.ss]=.tup [.tup [.int (yj 12 (v0%((zt:Int)+2))),.int (yj 12 (v1%((zt:Int)+2)))],.tup (F.os.map kt),.tup (F.ws.map zu),.tup (F.ss.map yg)]:=rfl;rw[e];generalize zh F=ft,F.os.map kt=O,F.ws.map zu=W,F.ss.map yg=S at *;simp![ze] at k1 k2 k3;simp[k1,k2,k3,h0,h1,hb,yj]
def SR (n:Nat) (hn:F.os.length=n) (Jx:1<=n) (hn8:n<=8) (hs:F.ss.length<=60) (h0:L2.zM xs 0=↑(.int v0)):∃ a:Nat,a<n/\
  zo (zx 9 (za zT (za ze (zc 5) (cI 0)) (zk yU (zb (za ze (zc 0) (cI 1)) zg))))
 (zo (zx 11 (za ze (yQ (zb (cS (.str "keeper")) (zb (cS (.str "taker")) zg))) (zk qa (zb (za (zy false) (za ze (za ze (zc 0) (cI 1)) (zc 9)) (cS (.str "keeper"))) zg))))
 (zo (zx 12 (zk yP (zb pz zg)))
 (retS (tupS (zb (za ze (zc 0) (cI 0)) (zb (za zI (za zI (vQ (za ze (zc 0) (cI 1)) none ↑(zc 9)) (tupS (zb (zl 11) zg))) (vQ (za ze (zc 0) (cI 1)) ↑(za zI (zc 9) (cI 1)) none)) (zb (za ze (zc 0) (cI 2)) (zb (zl 12) zg)))))))) (oE (zh F) c most zt w xs none none none none none none none) =
   ↑(.rt (zh #[F.A,F.B,F.os.take a++[!F.os.getD a false]++F.os.drop (a+1),F.ws,F.ss.filter λ s=>!decide (s.p=a)])):=by
 have p0:=Br v0 (b:=(n:Int)) ⋯;have p1:=BK v0 (b:=(n:Int)) ⋯;obtain⟨a,ha⟩:∃ a:Nat,v0%(n:Int)=(a:Int):=#[(v0%(n:Int)).toNat,⋯];have Eb:a<n:=⋯;exact#[a,Eb,?_];have k0:ze (zh F) (.int 0)=↑(.tup [.int F.A,.int F.B]):=rfl;have k1:ze (zh F) (.int 1)=↑(.tup (F.os.map kt)):=rfl;have k2:ze (zh F) (.int 2)=↑(.tup (F.ws.map zu)):=rfl;have k3:ze (zh F) (.int 3)=↑(.tup (F.ss.map yg)):=rfl;have l1:(F.os.map kt).length=n:=by simp[hn]
 have EU:(0:Int)<(n:Int):=⋯;have s1:za zT (za ze (zc 5) (cI 0)) (zk yU (zb (za ze (zc 0) (cI 1)) zg)) (oE (zh F) c most zt w xs none none none none none none none)=↑(.int a):=by
  generalize zh F=ft,F.os.map kt=O at *;simp![ze] at k1;have K0:¬ n=0:=⋯;simp[k1,h0,l1,EU,K0,ha]
 have Ck:L2.zM (F.os.map kt) (a:Int)=↑(kt (F.os.getD a false)):=vG (by simp[hn,Eb]);have hk:=cP (F.os.getD a false);have s2:za ze (yQ (zb (cS (.str "keeper")) (zb (cS (.str "taker")) zg))) (zk qa (zb (za (zy false) (za ze (za ze (zc 0) (cI 1)) (zc 9)) (cS (.str "keeper"))) zg)) (oE (zh F) c most zt w xs none none none ↑(.im (.int a)) none none none)=↑(kt (!F.os.getD a false)):=by
  generalize zh F=ft,F.os.map kt=O,F.os.getD a false=b,zy false=ee at *;generalize BX:kt b=kb at *;simp![ze] at k1;cases b <;> simp[k1,Ck,hk] <;> rfl
 have s3:zk yP (zb pz zg) (oE (zh F) c most zt w xs none none none ↑(.im (.int a)) none ↑(.im (kt (!F.os.getD a false))) none)=↑(.tup ((F.ss.filter λ s=>!decide (s.p=a)).map yg)):=by
  have hc:pz (oE (zh F) c most zt w xs none none none ↑(.im (.int a)) none ↑(.im (kt (!F.os.getD a false))) none)=↑(.lst ((F.ss.filter λ s=>!decide (s.p=a)).map yg)):=by
   unfold pz;exact (sQ yg (λ s=>if (!decide (s.p=a))=true then ↑(yg s) else none) F.ss ?_ ⋯ λ s _=>?_).trans ?_
   .generalize zh F=ft,F.ss.map yg=S at *;simp![ze] at k3;simp[k3]
   .have e:zy true (.int (s.p:Int)) (.int (a:Int))=↑(.bl (!decide (s.p=a))):=by
     rw[eq_int];by_cases z:s.p=a
     .simp[z]
     .have z':¬ (s.p:Int)=a:=⋯;simp[z,z']
    have i0:ze (yg s) (.int 0)=↑(.int s.p):=rfl;generalize yg s=st,zy true=ee,(s.p:Int)=sp,decide (s.p=a)=q at *;simp![ze] at i0;cases q <;> simp[vy,i0,e]
   .rw[qc]
  have hl:=mH ((F.ss.filter λ s=>!decide (s.p=a)).map yg) (by rw[AA];have:=BZ (λ s:Sl=>!decide (s.p=a)) F.ss;lia);change ((pz _).bind λ x=>_).bind _=_;rw[hc];show hl
 have c1:=aQ (F.os.map kt) a ⋯;have c2:yW (F.os.map kt) ↑((a:Int)+1) none=(F.os.map kt).drop (a+1):=aR (F.os.map kt) (a+1) ⋯;exact (seq_eq (yN s1)).trans ((seq_eq (yN s2)).trans ((seq_eq (yN s3)).trans ?_));have e:zh #[F.A,F.B,F.os.take a++[!F.os.getD a false]++F.os.drop (a+1),F.ws,F.ss.filter λ s=>!decide (s.p=a)]=.tup [.tup [.int F.A,.int F.B],.tup ((F.os.map kt).take a++[kt (!F.os.getD a false)]++(F.os.map kt).drop (a+1)),.tup (F.ws.map zu),.tup ((F.ss.filter λ s=>!decide (s.p=a)).map yg)]:=by
  unfold zh;simp![BP,CW,CV,Ar,Bh]
 rw[e];have GP:((F.os.map kt).take a).length+1<=16777216:=by rw[BO,l1];lia
 have Hu:((F.os.map kt).take a).length+1+((F.os.map kt).drop (a+1)).length<=16777216:=by rw[BO,B9,l1];lia
 clear s1 s2 s3 Ck hk l1;generalize (F.os.map kt).take a=TA,(F.os.map kt).drop (a+1)=DA,kt (!F.os.getD a false)=kb,(F.ss.filter λ s=>!decide (s.p=a)).map yg=S at *;generalize F.os.map kt=O at *;generalize F.ws.map zu=W,zh F=ft at *;simp![ze] at k0 k1 k2;simp[k0,k1,k2,c1,c2,GP,Hu]
end
section
variable {F:zF}{c most w:Int}{zt:Nat}{xs:List T}{v0 v1 v2:Int}
def eQ (vs:List Wy) (hv:vs.length<=60):yP [.lst (vs.map zu)]=↑(.tup (vs.map zu)):=mH _ (by rw[AA];lia)
def SU (n:Nat) (hn:F.ws.length=n) (Jx:1<=n) (hn8:n<=24) (h0:L2.zM xs 0=↑(.int v0)) (h1:L2.zM xs 1=↑(.int v1)) (h2:L2.zM xs 2=↑(.int v2)):∃ vs:List Wy,vs.length<=60/\(∀ v∈vs,∃ u∈F.ws,u.f=v.f/\u.t=v.t)/\
  zo (zx 9 (za zT (za ze (zc 5) (cI 0)) (zk yU (zb (za ze (zc 0) (cI 2)) zg))))
 (zo (zx 10 (tupS (zb (za ze (za ze (za ze (zc 0) (cI 2)) (zc 9)) (cI 0)) (zb (za ze (za ze (za ze (zc 0) (cI 2)) (zc 9)) (cI 1)) (zb (za we (za zT (za ze (zc 5) (cI 1)) (cI 7)) (cI 3)) (zb (za we (za zT (za ze (zc 5) (cI 2)) (cI 7)) (cI 3)) zg))))))
 (retS (tupS (zb (za ze (zc 0) (cI 0)) (zb (za ze (zc 0) (cI 1)) (zb (zk yP (zb (zk wy (zb (za zI (za zI (vQ (za ze (zc 0) (cI 2)) none ↑(zc 9)) (vQ (za ze (zc 0) (cI 2)) ↑(za zI (zc 9) (cI 1)) none)) (tupS (zb (zl 10) zg))) zg)) zg)) (zb (za ze (zc 0) (cI 3)) zg))))))) (oE (zh F) c most zt w xs none none none none none none none) =
   ↑(.rt (zh #[F.A,F.B,F.os,vs,F.ss])):=by
 have p0:=Br v0 (b:=(n:Int)) ⋯;have p1:=BK v0 (b:=(n:Int)) ⋯;obtain⟨a,ha⟩:∃ a:Nat,v0%(n:Int)=(a:Int):=#[(v0%(n:Int)).toNat,⋯];have Eb:a<F.ws.length:=⋯;obtain⟨u,hu⟩:∃ u,F.ws[a]?=↑u:=#[_,A7 Eb];have hum:u∈F.ws:=BU hu;let#[vs,g1,g2,g3]:=fX (F.ws.take a++F.ws.drop (a+1)++[#[u.f,u.t,v1%7-3,v2%7-3]]) (by
  rw[Bs,Bs,BO,B9];simp;lia)
 have Dl:vs.length<=60:=by
  rw[Bs,Bs,BO,B9] at g2;simp at g2;lia
 exact#[vs,Dl,λ v hv=>?_,?_]
 .rcases AY.mp (g3 v hv) with h | h
  .rcases AY.mp h with h | h
   .show#[v,Ej h,rfl,rfl]
   .show#[v,DM h,rfl,rfl]
  .rw[AZ.mp h];show#[u,hum,rfl,rfl]
 have k0:ze (zh F) (.int 0)=↑(.tup [.int F.A,.int F.B]):=rfl;have k1:ze (zh F) (.int 1)=↑(.tup (F.os.map kt)):=rfl;have k2:ze (zh F) (.int 2)=↑(.tup (F.ws.map zu)):=rfl;have k3:ze (zh F) (.int 3)=↑(.tup (F.ss.map yg)):=rfl;have l1:(F.ws.map zu).length=n:=by simp[hn]
 have EU:(0:Int)<(n:Int):=⋯;have K0:¬ n=0:=⋯;have s1:za zT (za ze (zc 5) (cI 0)) (zk yU (zb (za ze (zc 0) (cI 2)) zg)) (oE (zh F) c most zt w xs none none none none none none none)=↑(.int a):=by
  generalize zh F=ft,F.ws.map zu=O at *;simp![ze] at k2;simp[k2,h0,l1,EU,K0,ha]
 have Ck:L2.zM (F.ws.map zu) (a:Int)=↑(.tup [.int u.f,.int u.t,.int u.a,.int u.b]):=vG (by rw[AR,hu];rfl);have s2:tupS (zb (za ze (za ze (za ze (zc 0) (cI 2)) (zc 9)) (cI 0)) (zb (za ze (za ze (za ze (zc 0) (cI 2)) (zc 9)) (cI 1)) (zb (za we (za zT (za ze (zc 5) (cI 1)) (cI 7)) (cI 3)) (zb (za we (za zT (za ze (zc 5) (cI 2)) (cI 7)) (cI 3)) zg)))) (oE (zh F) c most zt w xs none none none ↑(.im (.int a)) none none none)=↑(zu #[u.f,u.t,v1%7-3,v2%7-3]):=by
  have e:zu #[u.f,u.t,v1%7-3,v2%7-3]=.tup [.int u.f,.int u.t,.int (v1%7-3),.int (v2%7-3)]:=rfl;rw[e];generalize zh F=ft,F.ws.map zu=O at *;simp![ze] at k2;simp[k2,Ck,h1,h2]
 exact (seq_eq (yN s1)).trans ((seq_eq (yN s2)).trans ?_);have c1:=aQ (F.ws.map zu) a ⋯;have c2:yW (F.ws.map zu) ↑((a:Int)+1) none=(F.ws.map zu).drop (a+1):=aR (F.ws.map zu) (a+1) ⋯;rw[BP,BP,CW,CV,Ar,Bh] at g1;have GP:((F.ws.map zu).take a).length+((F.ws.map zu).drop (a+1)).length<=16777216:=by rw[BO,B9,l1];lia
 have Hu:((F.ws.map zu).take a).length+((F.ws.map zu).drop (a+1)).length+1<=16777216:=by rw[BO,B9,l1];lia
 have e:zh #[F.A,F.B,F.os,vs,F.ss]=.tup [.tup [.int F.A,.int F.B],.tup (F.os.map kt),.tup (vs.map zu),.tup (F.ss.map yg)]:=rfl;rw[e];have hv:=eQ vs Dl;clear s1 s2 Ck;generalize zu #[u.f,u.t,v1%7-3,v2%7-3]=row,(F.ws.map zu).take a=TA,(F.ws.map zu).drop (a+1)=DA at *;generalize F.ws.map zu=O at *;generalize vs.map zu=V,F.os.map kt=K,F.ss.map yg=S,zh F=ft,wy=Kn,yP=tpl at *;rw[DW] at g1;simp![ze] at k0 k1 k2 k3;simp[k0,k1,k2,k3,c1,c2,GP,Hu,g1,hv]
end
def Pz {x y:T}{b:Bool}(h:u9 false x y=↑(.bl b)):u9 true x y=↑(.bl (!b)):=by
 unfold u9 at h ⊢;split at h
 .split at h
  .rename_i hd;cases h;rw[if_pos hd];rfl
  .cases h
 .cases h
section
variable {F H:zF}{c most w:Int}{zt:Nat}{xs:List T}{n:Nat}{x7 x8 x9 x10 x11 x12:Option L5.W}
theorem Px (hn:F.os.length=n) (hw:H.ws.length<=24):p7 (oE (zh F) c most zt w xs ↑(.im (zh H)) x7 x8 x9 x10 x11 x12)=↑(.lst ((H.ws.filter λ v=>decide (v.f<n)&&decide (v.t<n)).map zu)):=by
 have k1:ze (zh F) (.int 1)=↑(.tup (F.os.map kt)):=rfl;have k2:ze (zh H) (.int 2)=↑(.tup (H.ws.map zu)):=rfl;have l1:(F.os.map kt).length=n:=by simp[hn]
 unfold p7;exact (sQ zu (λ v=>if (decide (v.f<n)&&decide (v.t<n))=true then ↑(zu v) else none) H.ws ?_ ⋯ λ v _=>?_).trans ?_
 .generalize zh F=ft,zh H=ht,H.ws.map zu=O at *;simp![ze] at k2;simp[k2]
 .have i0:ze (zu v) (.int 0)=↑(.int v.f):=rfl;have i1:ze (zu v) (.int 1)=↑(.int v.t):=rfl;have lt:∀ i j:Nat,u6 (.int (i:Int)) (.int (j:Int))=↑(.bl (decide (i<j))):=λ i j=>by
   change ↑(T.bl (decide ((i:Int)<j)))=_;simp
  have lt1:=lt v.f n;have lt2:=lt v.t n;generalize zu v=vt,zh F=ft,zh H=ht,F.os.map kt=O at *;simp![ze] at i0 i1 k1;by_cases z1:v.f<n
  .by_cases z2:v.t<n <;> simp[vy,i0,i1,k1,l1,lt1,lt2,z1,z2]
  .simp[vy,i0,k1,l1,lt1,z1]
 .rw[qc]
theorem Pw {ws:List Wy}(hl:ws.length<=100) {x6:Option L5.W}:l_ (oE (zh F) c most zt w xs x6 ↑(.im (.tup (ws.map zu))) x8 x9 x10 x11 x12)=↑(.lst ((ws.map (·.f)).map λ k:Nat=>T.int (k:Int))):=by
 unfold l_;rw[AN];exact vW zu _ ws ?_ ⋯ λ v _=>rfl;generalize zh F=ft at *;simp
theorem Pu (hn:F.os.length=n) (h8:n<=8) (st:List Nat) {x6:Option L5.W}:qk (oE (zh F) c most zt w xs x6 x7 ↑(.im (.lst (st.map λ k:Nat=>T.int (k:Int)))) x9 x10 x11 x12)=↑(.lst ((((List.range n).filter λ k=>!st.contains k).map λ k=>(#[k,k,0,0]:Wy)).map zu)):=by
 have k1:ze (zh F) (.int 1)=↑(.tup (F.os.map kt)):=rfl;have l1:(F.os.map kt).length=n:=by simp[hn]
 have hr:=sH n ⋯;unfold qk;rw[AN];exact (sQ (λ k:Nat=>T.int (0+(k:Int))) (λ k=>if (!st.contains k)=true then ↑((zu ∘ λ k=>(#[k,k,0,0]:Wy)) k) else none) (List.range n) ?_ (by simp;lia) λ k _=>?_).trans ?_
 .generalize zh F=ft,F.os.map kt=O,(st.map λ k:Nat=>T.int (k:Int))=S at *;simp![ze] at k1;simp[k1,l1];exists hr
 .have hi:=Pz (b7 k st);have e:(zu ∘ λ k=>(#[k,k,0,0]:Wy)) k=.tup [.int (k:Int),.int (k:Int),.int 0,.int 0]:=rfl;rw[e,CT];generalize (st.map λ k:Nat=>T.int (k:Int))=S at *;generalize (k:Int)=kk at *;generalize st.contains k=q,u9 true=ii at *;cases q <;> simp[vy,hi]
 .rw[qc]
def SV (hn:F.os.length=n) (h8:n<=8) (hH:wW [.int (c/5),.int 8,.int zt]=↑(zh H)) (hw:H.ws.length<=24):∃ vs:List Wy,vs.length<=60/\(∀ v∈vs,v.f<n/\v.t<n)/\
  zo (zx 6 (zk wW (zb (za xi (zc 1) (cI 5)) (zb (cI 8) (zb (zl 3) zg)))))
 (zo (zx 7 (zk yP (zb p7 zg)))
 (zo (zx 7 (vQ (zc 7) none ↑(za we (cI 24) (zk yU (zb (za ze (zc 0) (cI 1)) zg)))))
 (zo (zx 8 l_)
 (zo (zx 7 (za zI (zc 7) (zk yP (zb qk zg))))
 (retS (tupS (zb (za ze (zc 6) (cI 0)) (zb (za ze (zc 0) (cI 1)) (zb (zk yP (zb (zk wy (zb (zc 7) zg)) zg)) (zb (tupS zg) zg)))))))))) (oE (zh F) c most zt w xs none none none none none none none) =
   ↑(.rt (zh #[H.A,H.B,F.os,vs,[]])):=by
 have k1:ze (zh F) (.int 1)=↑(.tup (F.os.map kt)):=rfl;have q0:ze (zh H) (.int 0)=↑(.tup [.int H.A,.int H.B]):=rfl;have l1:(F.os.map kt).length=n:=by simp[hn]
 have d5:xC c 5:=#[(),()];have s1:zk wW (zb (za xi (zc 1) (cI 5)) (zb (cI 8) (zb (zl 3) zg))) (oE (zh F) c most zt w xs none none none none none none none)=↑(zh H):=by
  generalize zh F=ft,zh H=ht,wW=ff at *;simp[d5,hH]
 let R1:=H.ws.filter λ v=>decide (v.f<n)&&decide (v.t<n)
 have r1:R1.length<=24:=A9 (BZ _ _) hw;have s2:zk yP (zb p7 zg) (oE (zh F) c most zt w xs ↑(.im (zh H)) none none none none none none)=↑(.tup (R1.map zu)):=by
  change ((p7 _).bind λ x=>_).bind _=_;rw[Px hn hw];show mH _ (by rw[AA];show A9 r1 ())
 let R2:=yW R1 none ↑(24-(n:Int))
 have r2:R2.length<=24:=A9 (M1 _ _ _) r1;have s3:vQ (zc 7) none ↑(za we (cI 24) (zk yU (zb (za ze (zc 0) (cI 1)) zg))) (oE (zh F) c most zt w xs ↑(.im (zh H)) ↑(.im (.tup (R1.map zu))) none none none none none)=↑(.tup (R2.map zu)):=by
  have hc:=M0 zu R1 none ↑(24-(n:Int));change _=↑(T.tup ((yW R1 none ↑(24-(n:Int))).map zu));rw[<- hc];generalize zh F=ft,zh H=ht,R1.map zu=W1,F.os.map kt=O at *;simp![ze] at k1;simp[k1,l1]
 have s4:=Pw (F:=F) (c:=c) (most:=most) (zt:=zt) (w:=w) (xs:=xs) (ws:=R2) (x6:=↑(.im (zh H))) (x8:=none) (x9:=none) (x10:=none) (x11:=none) (x12:=none) ⋯;let L:=((List.range n).filter λ k=>!(R2.map (·.f)).contains k).map λ k=>(#[k,k,0,0]:Wy)
 have r3:L.length<=8:=by
  have:=BZ (λ k=>!(R2.map (·.f)).contains k) (List.range n);rw[Cv] at this;rw[AA];lia
 have s5:za zI (zc 7) (zk yP (zb qk zg)) (oE (zh F) c most zt w xs ↑(.im (zh H)) ↑(.im (.tup (R2.map zu))) ↑(.im (.lst ((R2.map (·.f)).map λ k:Nat=>T.int (k:Int)))) none none none none)=↑(.tup ((R2++L).map zu)):=by
  have h3:=Pu (c:=c) (most:=most) (zt:=zt) (w:=w) (xs:=xs) (x7:=↑(.im (.tup (R2.map zu)))) (x9:=none) (x10:=none) (x11:=none) (x12:=none) (x6:=↑(.im (zh H))) hn h8 (R2.map (·.f));have h4:=mH (L.map zu) (by rw[AA];lia);have h5:(R2.map zu).length+(L.map zu).length<=16777216:=by rw[AA,AA];lia
  rw[BP];change qk _=↑(.lst (L.map zu)) at h3;generalize L.map zu=LL,R2.map zu=RR,((R2.map (·.f)).map λ k:Nat=>T.int (k:Int))=SS,qk=cc,zh F=ft,zh H=ht,yP=tpl at *;simp[h3,h4,h5]
 let#[vs,g1,g2,g3]:=fX (R2++L) (by rw[Bs];lia);have Dl:vs.length<=60:=by rw[Bs] at g2;lia
 exact#[vs,Dl,λ v hv=>?_,?_]
 .rcases AY.mp (g3 v hv) with h | h
  .have:=(Bf.mp (Mz h)).2;exists this
  .let#[k,hk,rfl]:=Av.mp h;have:=A2.mp (Bf.mp hk).1;show#[this,this]
 exact (seq_eq (yN s1)).trans ((seq_eq (yN s2)).trans ((seq_eq (yN s3)).trans ((seq_eq (yN s4)).trans ((seq_eq (yN s5)).trans ?_))));have e:zh #[H.A,H.B,F.os,vs,[]]=.tup [.tup [.int H.A,.int H.B],.tup (F.os.map kt),.tup (vs.map zu),.tup []]:=rfl;rw[e];have hv:=eQ vs Dl;clear s1 s2 s3 s4 s5 g3 g2;generalize (R2++L).map zu=RR,vs.map zu=V,F.os.map kt=K,zh F=ft,zh H=ht,wy=Kn,yP=tpl at *;simp![ze] at k1 q0;simp[k1,q0,g1,hv]
end
def Gf.ok {os:List Bool}{ws:List Wy}{ss:List Sl}(g:Gf os ws ss) {A B:Int}(a:0<=A/\A<=5) (b:0<=B/\B<=5):zF.Ok #[A,B,os,ws,ss]:=
 #[a.1,by dsimp only;lia,b.1,by dsimp only;lia,g.n1,g.n8,λ w hw=>(g.wr w hw).1,by have:=g.wl;dsimp only;lia,λ s hs=>#[(g.sr s hs).2.2.1.1,(g.sr s hs).2.2.2.1],
  .inr (Ed (Int.mul_le_mul (c:=6) (by dsimp only;lia) (by dsimp only;lia:_<=(6:Int)) (by dsimp only;lia) ⋯) ()),by have:=g.sl;dsimp only;lia]
def pick {i k:Int}{g b:Sm}{J:Ev}{y:T}(h:zc 4 J=↑(.int i)) (h1:i=k->g J=↑(.rt y)) (h2:i≠k->b J=↑(.rt y)):zo (yK (yc (za (zy false) (zc 4) (cS (.int k)))) g yI) b J=↑(.rt y):=by
 by_cases z:i=k
 .show WG ((bA h).trans ((if_pos z).trans (h1 z)))
 .show (seq_eq ((bA h).trans (if_neg z))).trans (h2 z)
def LP {F:zF}{most zt:Nat}(g:Gf F.os F.ws F.ss) (hA:0<=F.A/\F.A<=zt) (hB:0<=F.B/\F.B<=zt) (hm:1<=most/\most<=8) (hb:zt<=4) (c:Int):
  ∃ G:zF,mm [zh F,.int c,.int most,.int zt]=↑(zh G)/\G.Ok:=by
 let#[xs,EB,hxl]:=ZT (c/5) 5 ();let#[v0,h0]:=sR (xs:=xs) (j:=0) ⋯;let#[v1,h1]:=sR (xs:=xs) (j:=1) ⋯;let#[v2,h2]:=sR (xs:=xs) (j:=2) ⋯;have d5:xC c 5:=#[(),()];have Cc:tG [.int (c/5),.int 5]=↑(.lst (xs.map T.int)):=EB;have s1:za zT (zc 1) (cI 5) [↑(.im (zh F)),↑(.im (.int c)),↑(.im (.int most)),↑(.im (.int zt)),none,none,none,none,none,none,none,none,none]=↑(.int (c%5)):=by
  generalize zh F=ft at *;simp
 have s2:zk tG (zb (za xi (zc 1) (cI 5)) (zb (cI 5) zg)) [↑(.im (zh F)),↑(.im (.int c)),↑(.im (.int most)),↑(.im (.int zt)),↑(.im (.int (c%5))),none,none,none,none,none,none,none,none]=↑(.lst (xs.map T.int)):=by
  generalize zh F=ft,xs.map T.int=XL,tG=fs at *;simp[d5,Cc]
 suffices h:∃ G:zF,YD [↑(.im (zh F)),↑(.im (.int c)),↑(.im (.int most)),↑(.im (.int zt)),none,none,none,none,none,none,none,none,none]=↑(.rt (zh G))/\G.Ok by
  let#[G,h,ok]:=h;exact#[G,?_,ok];unfold mm zV;show (if_pos rfl).trans (congrArg lb h)
 have n1:=g.n1;have n8:=g.n8;have wl:=g.wl;have w1:1<=F.ws.length:=by
  let#[v,hv,_]:=g.way 0 n1;show En hv
 have c5:c%5=0\/c%5=1\/c%5=2\/c%5=3\/c%5=4:=⋯;have GZ:∀ vs:List Wy,vs.length<=60->(∀ v∈vs,v.f<F.os.length/\v.t<F.os.length)->zF.Ok #[F.A,F.B,F.os,vs,F.ss]:=λ vs hl hv=>by
  have:=g.ok (A:=F.A) (B:=F.B) ⋯ ⋯;show#[this.a0,this.a1,this.b0,this.b1,this.n1,this.n8,hv,hl,this.ss,this.sl,this.s8]
 rcases c5 with e | e | e | e | e
 .let#[G,hG,gG,gA,gB]:=gK (c/5) most zt hm.1 hm.2 ⋯;exact#[G,(seq_eq (yN s1)).trans ((seq_eq (yN s2)).trans (pick (i:=c%5) rfl (λ _=>?_) λ z=>absurd e z)),gG.ok ⋯ ⋯];have hd:za xi (zc 1) (cI 5) (oE (zh F) c most zt (c%5) (xs.map T.int) none none none none none none none)=↑(.int (c/5)):=by
   generalize zh F=ft,xs.map T.int=XL at *;simp[d5]
  change (zk wW (zb (za xi (zc 1) (cI 5)) (zb (zl 2) (zb (zl 3) zg))) (oE (zh F) c most zt (c%5) (xs.map T.int) none none none none none none none)).map Out.rt=_;have hc:zk wW (zb (za xi (zc 1) (cI 5)) (zb (zl 2) (zb (zl 3) zg))) (oE (zh F) c most zt (c%5) (xs.map T.int) none none none none none none none)=↑(zh G):=by
   generalize zh F=ft,zh G=gt,xs.map T.int=XL,wW=ff at *;simp[d5,hG]
  rw[hc];rfl
 .let#[H,hH,gH,hHA,hHB]:=gK (c/5) 8 zt () () ⋯;let#[vs,l1,l2,l3]:=SV (F:=F) (H:=H) (c:=c) (most:=most) (zt:=zt) (w:=c%5) (xs:=xs.map T.int) (n:=F.os.length) rfl n8 hH gH.wl;exact#[_,(seq_eq (yN s1)).trans ((seq_eq (yN s2)).trans (pick (i:=c%5) rfl (λ z=>absurd z ⋯) λ _=>pick (i:=c%5) rfl (λ _=>l3) λ z=>absurd e z)),?_];show#[hHA.1,by dsimp only;lia,hHB.1,by dsimp only;lia,n1,n8,l2,l1,nofun,.inl rfl,#[]]
 .let#[vs,l1,l2,l3]:=SU (F:=F) (c:=c) (most:=most) (zt:=zt) (w:=c%5) (xs:=xs.map T.int) F.ws.length rfl w1 wl h0 h1 h2;exact#[_,(seq_eq (yN s1)).trans ((seq_eq (yN s2)).trans (pick (i:=c%5) rfl (λ z=>absurd z ⋯) λ _=>pick (i:=c%5) rfl (λ z=>absurd z ⋯) λ _=>pick (i:=c%5) rfl (λ _=>l3) λ z=>absurd e z)),GZ vs l1 λ v hv=>?_];let#[u,hu,e1,e2]:=l2 v hv;rw[<- e1,<- e2];show (g.wr u hu).1
 .let#[a,l1,l3]:=SR (F:=F) (c:=c) (most:=most) (zt:=zt) (w:=c%5) (xs:=xs.map T.int) F.os.length rfl n1 n8 (by have:=g.sl;lia) h0;exact#[_,(seq_eq (yN s1)).trans ((seq_eq (yN s2)).trans (pick (i:=c%5) rfl (λ z=>absurd z ⋯) λ _=>pick (i:=c%5) rfl (λ z=>absurd z ⋯) λ _=>pick (i:=c%5) rfl (λ z=>absurd z ⋯) λ _=>pick (i:=c%5) rfl (λ _=>l3) λ z=>absurd e z)),?_];have ok:=g.ok (A:=F.A) (B:=F.B) ⋯ ⋯;have hl:(F.os.take a++[!F.os.getD a false]++F.os.drop (a+1)).length=F.os.length:=by simp;lia
  exact#[ok.a0,ok.a1,ok.b0,ok.b1,by dsimp only;rw[hl];show n1,by dsimp only;rw[hl];show n8,λ v hv=>by dsimp only;rw[hl];show (g.wr v hv).1,ok.qA,λ s hs=>ok.ss s (Bf.mp hs).1,?_,A9 (BZ _ _) ok.s8];rcases ok.sl with z | z
  .exact .inl ?_;dsimp only at z ⊢;rw[z];rfl
  .show .inr z
 .exact#[_,(seq_eq (yN s1)).trans ((seq_eq (yN s2)).trans (pick (i:=c%5) rfl (λ z=>absurd z ⋯) λ _=>pick (i:=c%5) rfl (λ z=>absurd z ⋯) λ _=>pick (i:=c%5) rfl (λ z=>absurd z ⋯) λ _=>pick (i:=c%5) rfl (λ z=>absurd z ⋯) λ _=>other4 h0 h1)),?_];have a0:=Br v0 (b:=(zt:Int)+2) ⋯;have a1:=BK v0 (b:=(zt:Int)+2) ⋯;have b0:=Br v1 (b:=(zt:Int)+2) ⋯;have b1:=BK v1 (b:=(zt:Int)+2) ⋯;show g.ok (by unfold yj;split <;> lia) (by unfold yj;split <;> lia)
theorem gL (ns:List Int) (k:Nat):∃ v,tH [vm ns,.int (k:Int)]=↑(.int v):=by
 unfold tH YG vm;by_cases h:k<ns.length
 .have e:L2.zM (ns.map T.int) (k:Int)=↑(.int (ns.getD k 0)):=vG (by simp[h]);show#[_,by simp[h,e,u6];rfl]
 .show#[0,by simp[h,u6]]
theorem LM (v:Int):∃ most zt:Nat,ml [.int v]=↑(.tup [.int (most:Int),.int (zt:Int)])/\(1<=most/\most<=8)/\zt<=4:=by
 obtain⟨m,hm,m10⟩:∃ m:Nat,v%10=(m:Int)/\m<10:=#[(v%10).toNat,⋯,⋯];have hx:∀ (L:List T),L.length=10->zV ["_law_number"] 1 (retS (za ze (λ _=>↑(.lst L)) (za zT (zc 0) (cI 10)))) [.int v]=L[m]?:=λ L hL=>by
  have:L2.zM L (m:Int)=L[m]?:=by
   rw[A7 ⋯];show vG (A7 ⋯)
  simp[hm,this];rw[A7 ⋯];rfl
 have h3:∀ (a b:Int),(T.tup [.int a,.int b])=zq (a,b):=λ _ _=>rfl;have hF:ml [.int v]=([(3,2),(2,3),(4,1),(1,4),(3,2),(2,3),(8,1),(3,2),(2,3),(4,1)].map zq)[m]?:=hx ([(3,2),(2,3),(4,1),(1,4),(3,2),(2,3),(8,1),(3,2),(2,3),(4,1)].map zq) rfl;rw[hF]
 match m,m10 with
 | 0,_=>show#[3,2,rfl,(),()]
 | 1,_=>show#[2,3,rfl,(),()]
 | 2,_=>show#[4,1,rfl,(),()]
 | 3,_=>show#[1,4,rfl,(),()]
 | 4,_=>show#[3,2,rfl,(),()]
 | 5,_=>show#[2,3,rfl,(),()]
 | 6,_=>show#[8,1,rfl,(),()]
 | 7,_=>show#[3,2,rfl,(),()]
 | 8,_=>show#[2,3,rfl,(),()]
 | 9,_=>show#[4,1,rfl,(),()]
def LO {F G:zF}(GZ:F.Ok) (G7:G.Ok):rG [zh F,zh G]=↑(.bl true):=by
 by_cases h:F.os.length=G.os.length
 .show WT GZ G7 h
 .show WU h
theorem O6 (ns:List Int) {F:zF}{most zt:Nat}(g:Gf F.os F.ws F.ss) (hA:0<=F.A/\F.A<=zt) (hB:0<=F.B/\F.B<=zt) (hm:1<=most/\most<=8) (hb:zt<=4) (k:Nat):turn (zv 4) nS (.int (k:Int)) [↑(.im (vm ns)),↑(.im (.int (most:Int))),↑(.im (.int (zt:Int))),↑(.im (zh F)),none]=↑(.nx [↑(.im (vm ns)),↑(.im (.int (most:Int))),↑(.im (.int (zt:Int))),↑(.im (zh F)),↑(.im (.int (k:Int)))]):=by
 let#[c,hc]:=gL ns k;let#[G,hG,G7]:=LP g hA hB hm hb c;have hr:=LO (F:=F) (G:=G) (g.ok ⋯ ⋯) G7;unfold turn nS;generalize tH=f1,mm=f2,rG=f3,zh F=ft,zh G=gt,vm ns=sc at *;simp[hc,hG,hr]
theorem O7 (ns:List Int) (CN:ns.length<=63):pQ [vm ns]=↑(.bl true):=by
 let#[v,hv]:=gL ns 0;let#[c,hc]:=gL ns 1;have HB:tH [vm ns,.int 0]=↑(.int v):=hv;have JG:tH [vm ns,.int 1]=↑(.int c):=hc;let#[most,zt,hz,hm,hb]:=LM v;let#[F,hF,g,hA,hB]:=gK c most zt hm.1 hm.2 ⋯;obtain⟨n,hn⟩:∃ n:Nat,oj [.int 2,.int (if (if (57:Int)<ns.length then 57 else (ns.length:Int))>3 then (if (57:Int)<ns.length then 57 else (ns.length:Int)) else 3),.int 19]=↑((List.range n).map λ(k:Nat)=>T.int (2+(k:Int)*19)):=by
  generalize hz:(if (if (57:Int)<ns.length then 57 else (ns.length:Int))>3 then (if (57:Int)<ns.length then 57 else (ns.length:Int)) else 3)=z;have HR:0<=z/\z<=60:=by rw[<- hz];split <;> split <;> lia
  exact#[u5 2 z 19,?_];change (if (sV 2=true/\sV z=true)/\sV 19=true/\(0:Int)<19 then ↑(mU 2 19 (u5 2 z 19)) else none)=_;rw[if_pos #[#[(),by simp[sV];lia],(),()]];rfl
 let#[J',Jz,e]:=vx (is:=[4]) (g:=zv 4) (b:=nS) (λ k:Nat=>T.int (2+(k:Int)*19))
  (λ _ J=>J=[↑(.im (vm ns)),↑(.im (.int (most:Int))),↑(.im (.int (zt:Int))),↑(.im (zh F)),none]) (List.range n)
  [↑(.im (vm ns)),↑(.im (.int (most:Int))),↑(.im (.int (zt:Int))),↑(.im (zh F)),none] rfl (by
   rintro _ k _ _ J rfl;have r1:=O6 ns g hA hB hm hb (2+k*19);have e:((2+k*19:Nat):Int)=2+(k:Int)*19:=⋯;rw[e] at r1;show#[_,r1,rfl])
 subst e;have hlen:yU [vm ns]=↑(.int (ns.length:Int)):=by simp[vm]
 unfold pQ YI;generalize nS=bb,tH=f1,ml=f2,wW=f3,(List.range n).map (λ(k:Nat)=>T.int (2+(k:Int)*19))=RR,zh F=ft,vm ns=sc,yU=ll,oj=rr at *;simp[HB,JG,hz,hF,hlen,hn,Jz]
end zN
namespace PySem.W.Fast
def te6846926219908433609:=0
local macro_rules|`(command|example:=$s:str)=>do
 let mut r:Array Lean.Syntax:=.empty
 let mut n:=0
 let mut k:=0
 for c in s.getString.toList do
  let a:=c.toNat
  n:=n*62+(if a>96 then a-61 else if a>64 then a-55 else a-48)
  k:=k+1
  if k==11 then
   let i:=Lean.mkIdent (.mkSimple s!"tw{n}")
   r:=r.push (<-`(command|theorem $i:ident:True:=trivial))
   n:=0
   k:=0
 return Lean.mkNullNode r
example:="HfRs1AW5igm0WNJbln9H5TBk6uyHFqkgQAjiAK8Rgs86GVc9yH0uMoSCfLpzmgxeGS60MagHqphkcI5pmMpBapjRCwgX6wTqnam8u0g1oQPFhYDtIwjrL95IXKUNtFgSaPCaIn9kQCFToWZ6cpkOCl42tXEsz2aIDkbxzJhWG2c57r84L7DF9eqvlry9buRRr2hI7FEgeWMt2chGb7mCGv9kzbRo6awWTKFLmb6IS78jNUOqFwIuRNL6IEqHBGg1T7hBMaRi8CH7bJfFxTbL2Eb7Jtb8IW8uUF4NDOjFI9CPMZ317cWCBrl4PiGNFzL7G5LEFvy4cjC2ORfPhaxt4JFvS86RnP3oD2b1Y65S1ANGEqVUVVSJTC9OX3f4A2verJQmRP6ELXULKKR2XizFD9W8B0z7rWE7so56tG3tXGmUi4gDA36rb1le5U3UfG5Tmsi2UVVP6reepX2vus6ZZL76G3EBWG498DqfCtZk6dFmPWXFskFe2y6Zj9Jp6e1RbxK1k0CdV58Owcf97DK9X9pN98IBZZJ7DYpO70CByPKSBZjYNIqvQZAGy3cc2PaADnjnl2BB0lUDvupSIoLCjuktLneHhBqTBqReZQzLHm7xSKfsYueAP93Z8YwcBFBDoZQX4C2ix9h87e4skMFC8k43j6pLukW5iGc3m8AJtFDZ2BFC3OIHiAM3VpaNKZ5AISIJKjetTpg6RCi074GnQ7LWAwmDV9P2E14kKthZ4hnW2ka3np2zXxwGa9y7WMwWkk5VHLBLiw6H8Is6vrforJ3z396qDF6DoAEB48HY7nLNMB7M9xDciXhVN0NwbwrHi2HFLAEWt4oTAfr2wmwf8CuxY183csdNa6Qqc4BLc4liV5734skqDhIu4h3HCXnO1RseKfLyF5Ogjgo5FATQuWn29I8aBTyO6Sld17aCKgdLNeoHFR66Ok5Tq0mPg91hMv59c4quBLNzNtbHbwa8SjWTahenVFAZUcqrVX9Yw1LXBMGYDlPv1wyl0QkxTR3JevIVsv3FtrKEn9ESKHRWpLnOA1OHkp5p4Year6Z6vwID9eVceiVpYWLhHOkWoMQ3R34MrW9LtkqJDNmqHsRTEnuJsoWLA1kXjF4p7q3FUTC8U6FukMFFqbbfAfVz5fb7lIo3DgpSodqvDV3mX4TbOBLLSEID9nUXmT6eHNweAKXE1XT05Kx4ON6yOKACVweEX0AWDDMj8CTxbWTmFeoK9u7CWlY2wJpNDL53atEbM094XeP78ADNzzF1W5cLB8rmg6V7cCWC4zmlhhZWV4DSInJtzDaocHtStZNTPehm1guCZXjIKbyF2NQEcQQfrI6PMOmF3qKCD6tGa6NDotkIEk8tOLbSQq5Dzzfkp9P4P67NaDHdwOAUmGQ3p4GJAnysI3aIXDNzJfQJEN0FBkXLSiA1bf8Ce1rjb0qvhHNebKPRBksF4TV18qTKHPsdercVysBU9gTUOxi4ULZgQZUHEOXM3ta2oEXfwtIEhohNqRGYih16GsKIGIKpd0CONMFEWIv04Rlm0n7Ys9aBpgtdBJYgAGFmsCaRjWXEl7o3pBGXptx4J4OX3qo7OcaIJzOAJW3mDP7AC8Mqdxt86FoRXfV4jJdlIYTTA71drB6LZ7wGJ8qSgLLKd8yAQAXQeC01Gv9dXsToGsU6rh0yB4SKp5EpGW3v40KHwddqt9PsL6dDRgOlwCBo220rArxXVQg8rS3SuYKAHpD8qMkgMk0J0L7EMtsdRYGmI4OWno6BP81DCD3qTenmF92WY8DcSbYnA0uxN1dOYQ3u4ZkgVRK0zBOCGgt0k4mSf28xdo6nQeCH7DXgMnzli10P39o8XSbDhSHDbxttTBlB57HdjHTVIhNfq6PhKyLDeMocLZNpAsfuKd75gxfHdeayPdAtVouT0NRS9K89ZP3FM3lE04z4uyJEJ889DaI3KF0ggS2cTlLnWXeD1LFCV3ttdY9j11bpaLDcP7t7FaPICZDGHuKAsWiqcIqbb3bG5eRDb5Fp8ThTfHjfWnkHXbGnF4RXu384vrL1K1PS9AP8X0V3Lm6QJYepgK7wMjuAUhI9R603lBGuzvp4R1GWCJDtg2yahqzzJunV9cdQ7cm01oteH61eKGEkSQtXwHS0KAVksniJa89B1OeXXf09QIBHRJkMnQsBflBnoZqifTBQYJ02enZrZE04Fgx5B6ViL8X3Nt716KAqZwHMKlsKKiiYhIgVlPmRmwhLG4CzkjLAaPJBI8UKWUNnmIG3LiWPCBRHu87GxKBuPy83Bv9MhVtigqTEAyPt5RL8cwGgc4MTYPbjcAydqzgAMmZC1HgiZoKSvU4JMx3fVZC0yc0KQQBOzAKh3H4LAPCaMshKC5i9KZg3kWCAmXSbMMDRQtGBD0eSPFX0y9c6wcLpxIYL45KnGLQmhZI32mGEFdpg0wGOIxUEtOoNt4Q5KT5TkzGU6GgJwZNt1TO96QjOqnR5xY9TlRUsjBre4FDtyx94rDonC9xNfvIPQ5FJGh2mQjXcK88oq10U7QkjsDi9BWb9oBI0Fenf8PifBgs7C84vg0NDvYHv1QQxsTrHNBvUqg7fBY9J17rA2PYct0lJlEyZ8CcPgK6otULzbGh0o2IKK1SgktN1FgyWBXbnBxa3M1VXdzeELOJvHmBDJGDAv75nDnauQQ9rJNMnrC5faJGD1rSZSneHmLGX0bJl2LYG7EKlkVdSa6Fq3nYsVW05mLh1B7xGmMGfD91RWxNrviQKPBUy480C1OTsHrX2m15lMm4EXpdgxvtIT3ArP7aTIGamM4lzRakHbL6Z7C4rWb3nELZBcXoFIs9BLTJ8tpbctYIJz8rdve7iWIEp4tmnaaUy1St4BT94V9ypIP83IwunSvIbn39QD2MkqVwREspwkKDdfDa4MdJOmG5LIN2VltbfFFYQDJKzofPRsekWLI2y077d0jVGWJPbKeUhmsBdDd7cwCx4aBiuOomzjSXRBkfW5oDim8J8gCY7tXEhcl9mMRQVsKiXvHz454aphiOz0WF1JPbsf0nEo9vijkKYPM8xG9XikHsN53OKG6QMN6pnIKcPX0fxYZ95hKUdM7SvfSDNbzg5FrROL8YSpjDGl8QrF67dojuk4UFBnmuiucnbax7CASYWL7E8HBYQH2ChMQMkGh22JflaH0uI1HsaFXQ5l39vHr28u9eVbIp8BPokxaEo5K1rLMWiEgH4OZdd6E7AzPGqtkNxvwbZECiLcB8qip9pC83j9HRCryZIQ63jrqyEOp5T2WxLpGcO7189R7NPfMbVKk6gHVzugcqKgzitBMm0gZFt0elZ6miXt2HegBh2BxuPGNlT4TGCC6mGz0b9EXhBdrGBkwUGSREcsE8pCO5gaFNUI6z1kjqCchAIVqSkfdj1Rj1p0Le5JWGsy2VWye9eMt6iC5KYqDErMf68nPiK0pZqhv5wCCAvMfZPYDT7dv3ZG197Br20WnGV0l14gyzUzw8zLGI4tYstESx7S3HfoDgAlM1hLCqSBWPldt6Bh4pWmVQ9RD2xfsSAYdg0y59XFn1uH9xODEU5luD3qVsCZnKK1vUvFPLdfu3WiGUJH5VBLstvnNrSDOZ3DIIXXif9lHAJ0Xw7Jf475OIuVLeDCGhAX5oUcNfcB9Pt1yNMMpTDRgmRDFCIuN7EdSg7YQ7Y3L2sRhmvMTXY2pUEqWSD5rZ4X6UF6gefAEDLubTEw0BRuBopkM4u3QYRGcXMPXdr8u2Dx1hv9r48jE76md9UKiQtDBPtfDDVTM682eKlMhTRK8aGmL6Dd1zRGL99BYHoUI9R75a8LlBCBCgWC9Np0rLABDm1VutHhTcQFg2UD3b9h5CM4Kmzh0ZpOFthD5DyTrSTihW9F3XPmxqOJu1dqvWPkF4lQ1MFDJspdrBGClMveDpprhfJoQFXvptmp2JIkVgMTHI1y81ejmtjiXRlCjglbosH2xeFlODxiEbmMW6yPFuWb3twDLUuTxJz7MD0KrZDuT8b1wr0XfQ0aTJQCSId9q8yZgDf76a9405khiav1OqkXJFTPU4Iwwsb6SmdV5GoHOsyL9HIFEFv3DMvQ57kERZ3L6nR8Sw2Ps3LRRIviE8mjgQAYopAY2LTZNklc7YiLPVxwu0dOLlGzTSWrBRlfx7ZCCde0xF4KHN99kios60L2qhNIq6uxuNGvS6CVPRFaOBeL8Ug0DcW0IGrT26Ailte6dSgzqtMOyCEIwOUP6J32IH4KjdndJqCgBefSz4vucjt7zKDwiEzp6h3s7qmjoOVTB9gE069A634X"
end PySem.W.Fast
namespace zN
open PySem L2 L3 L5
open PyProof.Rows hiding St
def top (i:Nat):Stmt:=PySem.Challenge.pw_purseborder_k63_floors_compared.main.body.getD i (.Pass #[0,0,0,0])
set_option maxHeartbeats 0
section
variable (P:Program)(w:World)(K:Ac)(mg:Au)(base:Heap)
abbrev Ys:=FD P w K mg base "is_whole" 1 ["thing"] (zJ zE kP)
abbrev kR:=FD P w K mg base "places_of" 1 ["floor"] (zJ zE uI)
abbrev gS:=FD P w K mg base "at_or_above" 1 ["pair","other"] (zJ zE rH)
abbrev m5:=FD P w K mg base "least_pairs" 1 ["pairs"] (zJ zE su)
abbrev Yf:=FD P w K mg base "pairs_ahead_of_changes" 1 ["brims","stall","pair"] (zJ zE mh)
abbrev Yp:=FD P w K mg base "_law_cell_at" 1 ["_law_script","_law_k"] (zJ xt tH)
abbrev gN:=FD P w K mg base "_law_stirred" 1 ["_law_cell","_law_count"] (zJ zE tG)
abbrev Yq:=FD P w K mg base "_law_amount" 1 ["_law_number","_law_most"] (zJ zE pP)
abbrev Yk:=FD P w K mg base "_law_sized" 1 ["_law_number"] (zJ xt ml)
abbrev Yo:=FD P w K mg base "_law_flags" 1 ["_law_caught"] (zJ zE mq)
abbrev Yn:=FD P w K mg base "_law_held" 1 ["_law_border","_law_pair"] (zJ zE mn)
abbrev Yr:=FD P w K mg base "is_whole_within" 2 ["thing","least","most"] (zJ zE kO)
abbrev Yu:=FD P w K mg base "both" 2 ["border","other"] (zJ zE mv)
abbrev gP:=FD P w K mg base "either" 2 ["border","other"] (zJ zE qz)
abbrev Yx:=FD P w K mg base "border_ahead_of_way" 2 ["brims","way","border"] (zJ zE mz)
abbrev Ye:=FD P w K mg base "pairs_inside" 2 ["border","brims"] (zJ zE qy)
abbrev Yj:=FD P w K mg base "_law_way" 2 ["_law_place","_law_many","_law_number","_law_size"] (zJ zE rF)
abbrev Yi:=FD P w K mg base "_law_word" 2 ["_law_one","_law_other_here","_law_place","_law_here","_law_there"] (zJ xt mj)
abbrev gQ:=FD P w K mg base "check_place" 3 ["floor","place"] (zJ zE mr)
abbrev Yv:=FD P w K mg base "border_of_either" 3 ["borders"] (zJ xt mx)
abbrev Yw:=FD P w K mg base "border_of_all" 3 ["borders"] (zJ xt my)
abbrev Ya:=FD P w K mg base "word_for" 3 ["border","other"] (zJ xt me)
abbrev gO:=FD P w K mg base "_law_floor" 3 ["_law_cell","_law_most","_law_brim"] (zJ zE wW)
abbrev Yb:=FD P w K mg base "ways_from" 4 ["floor","place"] (zJ zE mf)
abbrev Yc:=FD P w K mg base "stall_at" 4 ["floor","place"] (zJ xt qx)
abbrev Ym:=FD P w K mg base "_law_other" 4 ["_law_floor_here","_law_cell","_law_most","_law_brim"] (zJ zE mm)
abbrev Yy:=FD P w K mg base "border_ahead_of_changes" 5 ["floor","place","border"] (zJ xt pR)
abbrev Yh:=FD P w K mg base "next_border" 6 ["floor","place","last"] (zJ xt mi)
abbrev Yg:=FD P w K mg base "next_round" 7 ["floor","last","fresh"] (zJ zE pO)
abbrev Yd:=FD P w K mg base "rounds" 8 ["floor"] (zJ zE pL)
abbrev gR:=FD P w K mg base "borders" 9 ["floor"] (zJ xt uv)
abbrev Yt:=tJ P w K mg base "compare" 10 ["one","other"] (zJ zE tI)
abbrev Yl:=FD P w K mg base "_law_right" 11 ["_law_one","_law_other_here"] (zJ zE rG)
variable {K mg}(T:Bt mg)(U:Yz mg)
include T U
theorem QR (F:Fy K mg "is_whole" (top 13)):Ys P w K mg base:=
 yw [] F
theorem Q0 (F:Fy K mg "places_of" (top 15)):kR P w K mg base:=
 yw [] F
theorem Pp (F:Fy K mg "at_or_above" (top 20)):gS P w K mg base:=
 yw [] F
theorem QC (F:Fy K mg "least_pairs" (top 21)):m5 P w K mg base:=
 yw [] F
theorem Q2 (F:Fy K mg "pairs_ahead_of_changes" (top 26)):Yf P w K mg base:=
 yw [] F
theorem QN (F:Fy K mg "_law_cell_at" (top 44)):Yp P w K mg base:=
 yw [] F
theorem QG (F:Fy K mg "_law_stirred" (top 45)):gN P w K mg base:=
 yw [] F (by intro f Ai A outer s H E hc nd hN hS hr;have hB:=trivial;show#[_,pA,lh])
theorem QO (F:Fy K mg "_law_amount" (top 46)):Yq P w K mg base:=
 yw [] F
theorem QH (F:Fy K mg "_law_sized" (top 49)):Yk P w K mg base:=
 yw [] F
theorem QM (F:Fy K mg "_law_flags" (top 50)) (FI:Og K mg "NoChange") (FV:Og K mg "NoCount") (FU:Og K mg "NoFloor") (F8:Og K mg "NoMore") (F7:Og K mg "NoName") (F6:Og K mg "NoPair") (FT:Og K mg "NoPlace") (Gs:Og K mg "NoRow") (Gr:Og K mg "NoWay"):Yo P w K mg base:=
 yw [] F
theorem QK (F:Fy K mg "_law_held" (top 51)):Yn P w K mg base:=
 yw [(["_law_x","_law_y","_law_pair"],[none,none,↑1])] F
theorem QQ (F:Fy K mg "is_whole_within" (top 14)) (GF:Ys P w K mg base):Yr P w K mg base:=
 yw [] F
theorem Ph (F:Fy K mg "both" (top 22)) (Fi:m5 P w K mg base):Yu P w K mg base:=
 yw [(["pair"],[none])] F
theorem Pa (F:Fy K mg "either" (top 23)) (Fi:m5 P w K mg base):gP P w K mg base:=
 yw [] F
theorem Pm (F:Fy K mg "border_ahead_of_way" (top 25)) (Fi:m5 P w K mg base) (Fw:gS P w K mg base):Yx P w K mg base:=
 yw [(["pair","way"],[none,↑1]),(["pair","brims"],[none,↑0])] F
theorem Q1 (F:Fy K mg "pairs_inside" (top 40)) (Fw:gS P w K mg base):Ye P w K mg base:=
 yw [(["pair","brims"],[none,↑1])] F
theorem QF (F:Fy K mg "_law_way" (top 47)) (Gb:Yq P w K mg base):Yj P w K mg base:=
 yw [] F
theorem QE (F:Fy K mg "_law_word" (top 52)) (GD:Yn P w K mg base):Yi P w K mg base:=
 yw [] F
theorem Pe (F:Fy K mg "check_place" (top 16)) (FF:Yr P w K mg base) (Fs:kR P w K mg base):gQ P w K mg base:=
 yw [] F
theorem Pk (F:Fy K mg "border_of_either" (top 28)) (Ge:gP P w K mg base):Yv P w K mg base:=
 yw [] F
theorem Pl (F:Fy K mg "border_of_all" (top 29)) (HI:Yu P w K mg base):Yw P w K mg base:=
 yw [] F
theorem Qm (F:Fy K mg "word_for" (top 41)) (Gv:Cm mg "ALIKE" (.str "alike")) (Gu:Cm mg "FIRST" (.str "first")) (FX:Cm mg "NEITHER" (.str "neither")) (F9:Cm mg "SECOND" (.str "second")) (Ge:gP P w K mg base):Ya P w K mg base:=
 yw [] F
theorem QL (F:Fy K mg "_law_floor" (top 48)) (Fu:gN P w K mg base) (GU:Yj P w K mg base):gO P w K mg base:=
 yw [] F
theorem Qn (F:Fy K mg "ways_from" (top 17)) (Fv:gQ P w K mg base):Yb P w K mg base:=
 yw [(["number","way","place"],[none,none,↑1])] F
theorem Qv (F:Fy K mg "stall_at" (top 18)) (Fv:gQ P w K mg base):Yc P w K mg base:=
 yw [] F
theorem QJ (F:Fy K mg "_law_other" (top 53)) (Fu:gN P w K mg base) (FE:gO P w K mg base):Ym P w K mg base:=
 yw [(["_law_row","_law_floor_here"],[none,↑0]),(["_law_row"],[none]),(["_law_place","_law_starts"],[none,↑8]),(["_law_stall","_law_at"],[none,↑9])] F
theorem Pn (F:Fy K mg "border_ahead_of_changes" (top 27)) (GB:Yc P w K mg base) (Fi:m5 P w K mg base) (Fq:Yf P w K mg base):Yy P w K mg base:=
 yw [] F
theorem Q7 (F:Fy K mg "next_border" (top 30)) (F_:Cm mg "KEEPER" (.str "keeper")) (FK:Yw P w K mg base) (Ft:Yx P w K mg base) (Fn:Yy P w K mg base) (Gi:Yb P w K mg base) (FC:Yv P w K mg base):Yh P w K mg base:=
 yw [(["number","floor"],[none,↑0]),(["way","floor","last"],[none,↑0,↑2])] F
theorem Q6 (F:Fy K mg "next_round" (top 31)) (FZ:Yh P w K mg base):Yg P w K mg base:=
 yw [(["way","fresh"],[none,↑2])] F
theorem Qy (F:Fy K mg "rounds" (top 32)) (Ga:Yg P w K mg base) (Fs:kR P w K mg base):Yd P w K mg base:=
 yw [(["place","border","last"],[none,none,↑3])] F
theorem Pj (F:Fy K mg "borders" (top 34)) (G2:Yd P w K mg base):gR P w K mg base:=
 yw [] F
theorem Pd (F:Fy K mg "compare" (top 42)) (FW:kK K mg "NoFloor") (Fs:kR P w K mg base) (FQ:Ye P w K mg base) (GA:Ya P w K mg base) (FY:gR P w K mg base):Yt P w K mg base:=
 NS [(["border","brims"],[none,↑2]),(["here","there"],[none,none])] F
theorem QI (F:Fy K mg "_law_right" (top 54)) (JI:mg "ValueError"=none) (FY:gR P w K mg base) (GV:Yt P w K mg base) (GC:Yi P w K mg base) (Gn:Yo P w K mg base):Yl P w K mg base:=
 yw [(["_law_k"],[none]),(["_law_k","_law_one","_law_other_here","_law_here","_law_there"],[none,↑0,↑1,↑5,↑6]),(["_law_word_here","_law_names"],[none,↑8])] F
theorem QP {f:Addr}{fd:FuncData}(F:vI K "law" "law" (top 55) f fd) (Gj:Yk P w K mg base) (FE:gO P w K mg base) (F0:Yp P w K mg base) (Gk:Yl P w K mg base) (Gm:Ym P w K mg base):xf P w K mg base yz 12 f fd ["_law_script"] (uL K (zJ zE pQ)):=
 NJ [] F
end
def all_mk {l:PySem.W.OpenLaw}{w:World}{K:Ac}{h:Heap}{mg:Au}{fa:Addr}(X:K.In h) (G:h.Ns mainGlobals mg) (E_:mg "law"=↑(.ref fa))
  (h0:Fx K "is_whole" (top 13)) (h1:Fx K "is_whole_within" (top 14)) (h2:Fx K "places_of" (top 15)) (h3:Fx K "check_place" (top 16)) (h4:Fx K "ways_from" (top 17)) (h5:Fx K "stall_at" (top 18)) (h6:Fx K "at_or_above" (top 20)) (h7:Fx K "least_pairs" (top 21)) (h8:Fx K "both" (top 22)) (h9:Fx K "either" (top 23)) (h10:Fx K "border_ahead_of_way" (top 25)) (h11:Fx K "pairs_ahead_of_changes" (top 26)) (h12:Fx K "border_ahead_of_changes" (top 27)) (h13:Fx K "border_of_either" (top 28)) (h14:Fx K "border_of_all" (top 29)) (h15:Fx K "next_border" (top 30)) (h16:Fx K "next_round" (top 31)) (h17:Fx K "rounds" (top 32)) (h18:Fx K "borders" (top 34)) (h19:Fx K "pairs_inside" (top 40)) (h20:Fx K "word_for" (top 41)) (h21:Fx K "compare" (top 42)) (JL:Fx K "_law_cell_at" (top 44)) (JK:Fx K "_law_stirred" (top 45)) (h24:Fx K "_law_amount" (top 46)) (h25:Fx K "_law_way" (top 47)) (h26:Fx K "_law_floor" (top 48)) (h27:Fx K "_law_sized" (top 49)) (h28:Fx K "_law_flags" (top 50)) (h29:Fx K "_law_held" (top 51)) (h30:Fx K "_law_word" (top 52)) (h31:Fx K "_law_other" (top 53)) (h32:Fx K "_law_right" (top 54)) (h33:Fx K "law" (top 55))
  (Gv:Cn K "ALIKE" (.str "alike"))
  (Gu:Cn K "FIRST" (.str "first"))
  (F_:Cn K "KEEPER" (.str "keeper"))
  (FX:Cn K "NEITHER" (.str "neither"))
  (F9:Cn K "SECOND" (.str "second"))
  (FW:Ez K "NoFloor")
  (FI:Ec K "NoChange")
  (FV:Ec K "NoCount")
  (FU:Ec K "NoFloor")
  (F8:Ec K "NoMore")
  (F7:Ec K "NoName")
  (F6:Ec K "NoPair")
  (FT:Ec K "NoPlace")
  (Gs:Ec K "NoRow")
  (Gr:Ec K "NoWay")
  (JI:PySem.W.nsIn K mainGlobals "ValueError"=↑none)
  (y0:PySem.W.nsIn K mainGlobals "set"=↑none) (y1:PySem.W.nsIn K mainGlobals "zip"=↑none) (y2:PySem.W.nsIn K mainGlobals "enumerate"=↑none) (y3:PySem.W.nsIn K mainGlobals "abs"=↑none)
  (z0:PySem.W.nsIn K mainGlobals "len"=↑none) (z1:PySem.W.nsIn K mainGlobals "range"=↑none) (z2:PySem.W.nsIn K mainGlobals "any"=↑none) (z3:PySem.W.nsIn K mainGlobals "all"=↑none) (z4:PySem.W.nsIn K mainGlobals "sorted"=↑none) (z5:PySem.W.nsIn K mainGlobals "isinstance"=↑none) (z6:PySem.W.nsIn K mainGlobals "bool"=↑none) (z7:PySem.W.nsIn K mainGlobals "int"=↑none) (z8:PySem.W.nsIn K mainGlobals "str"=↑none) (z9:PySem.W.nsIn K mainGlobals "list"=↑none) (z10:PySem.W.nsIn K mainGlobals "tuple"=↑none) (z11:PySem.W.nsIn K mainGlobals "max"=↑none) (z12:PySem.W.nsIn K mainGlobals "min"=↑none):
  ∃ fd:FuncData,(∀ (s:Shared) (v:Value),BindsTo s fd #[[v],[]] [("_law_script",v)])/\∀ base:Heap,K.In base->base.Ns mainGlobals mg->xf l.prog w K mg base yz 12 fa fd ["_law_script"] (uL K (zJ zE pQ)):=by
 have T:Bt mg:=#[Bg X G z0,Bg X G z1,Bg X G z2,Bg X G z3,Bg X G z4,Bg X G z5,Bg X G z6,Bg X G z7,Bg X G z8,Bg X G z9,Bg X G z10,Bg X G z11,Bg X G z12];have U:Yz mg:=#[#[Bg X G y0,Bg X G y1,Bg X G y2],Bg X G y3];replace Gv:=Gv.mk X G;replace Gu:=Gu.mk X G;replace F_:=F_.mk X G;replace FX:=FX.mk X G;replace F9:=F9.mk X G;replace FW:=FW.mk X G;replace FI:=FI.mk X G;replace FV:=FV.mk X G;replace FU:=FU.mk X G;replace F8:=F8.mk X G;replace F7:=F7.mk X G;replace F6:=F6.mk X G;replace FT:=FT.mk X G;replace Gs:=Gs.mk X G;replace Gr:=Gr.mk X G;replace JI:=Bg X G JI;let#[fd,Fl,hb]:=h33.law X G E_ λ _ _ _ _ _ _ _ _=>.of_eq rfl;exact#[fd,hb,λ base _ _=>?_];have GF:=QR l.prog w base T U (h0.mk X G);have Fs:=Q0 l.prog w base T U (h2.mk X G);have Fw:=Pp l.prog w base T U (h6.mk X G);have Fi:=QC l.prog w base T U (h7.mk X G);have Fq:=Q2 l.prog w base T U (h11.mk X G);have F0:=QN l.prog w base T U (JL.mk X G);have Fu:=QG l.prog w base T U (JK.mk X G);have Gb:=QO l.prog w base T U (h24.mk X G);have Gj:=QH l.prog w base T U (h27.mk X G);have Gn:=QM l.prog w base T U (h28.mk X G) FI FV FU F8 F7 F6 FT Gs Gr;have GD:=QK l.prog w base T U (h29.mk X G);have FF:=QQ l.prog w base T U (h1.mk X G) GF;have HI:=Ph l.prog w base T U (h8.mk X G) Fi;have Ge:=Pa l.prog w base T U (h9.mk X G) Fi;have Ft:=Pm l.prog w base T U (h10.mk X G) Fi Fw;have FQ:=Q1 l.prog w base T U (h19.mk X G) Fw;have GU:=QF l.prog w base T U (h25.mk X G) Gb;have GC:=QE l.prog w base T U (h30.mk X G) GD;have Fv:=Pe l.prog w base T U (h3.mk X G) FF Fs;have FC:=Pk l.prog w base T U (h13.mk X G) Ge;have FK:=Pl l.prog w base T U (h14.mk X G) HI;have GA:=Qm l.prog w base T U (h20.mk X G) Gv Gu FX F9 Ge;have FE:=QL l.prog w base T U (h26.mk X G) Fu GU;have Gi:=Qn l.prog w base T U (h4.mk X G) Fv;have GB:=Qv l.prog w base T U (h5.mk X G) Fv;have Gm:=QJ l.prog w base T U (h31.mk X G) Fu FE;have Fn:=Pn l.prog w base T U (h12.mk X G) GB Fi Fq;have FZ:=Q7 l.prog w base T U (h15.mk X G) F_ FK Ft Fn Gi FC;have Ga:=Q6 l.prog w base T U (h16.mk X G) FZ;have G2:=Qy l.prog w base T U (h17.mk X G) Ga Fs;have FY:=Pj l.prog w base T U (h18.mk X G) G2;have GV:=Pd l.prog w base T U (h21.mk X G) FW Fs FQ GA FY;have Gk:=QI l.prog w base T U (h32.mk X G) JI FY GV GC Gn;show QP l.prog w base T U Fl Gj FE F0 Gk Gm
def walk {l:PySem.W.OpenLaw}{q:Program}{loose:List Str}{XP:(Str->Option Value)->Heap->Prop}{YP:World->Heap->Prop}{d:DefRec}{K:Params->Ac}(hn:l.most=↑63) (DE:d.params.defaults=[])
  (hY:∀ (w:World) (h:Heap),YP w h->(K w.params).In h)
  (F:∀ (w:World) (mg:Au) (fa:Addr) (h:Heap),(K w.params).In h->h.Ns mainGlobals mg->mg d.name=↑(.ref fa)->
   ∃ fd:FuncData,(∀ (s:Shared) (u:Value),BindsTo s fd #[[u],[]] [("_law_script",u)])/\∀ base:Heap,(K w.params).In base->base.Ns mainGlobals mg->xf l.prog w (K w.params) mg base yz 12 fa fd ["_law_script"] (uL (K w.params) (zJ zE pQ))):
  PySem.W.WalkO q loose XP YP l.row.toRowW d [] (λ f vs=>PySem.call f vs):=
 L2.Xx (n:=63) (k:=12) (x:="_law_script") (CX:=λ _=>yz) (sp:=λ w=>uL (K w.params) (zJ zE pQ)) hn () DE #[rfl,(),()] hY F (λ _ _ a ns hl hO hS=>O9 O7 hO hS hl) λ _ _ _ _ _ z=>z
end zN
open PySem PySem.W PyProof.Rows
set_option maxHeartbeats 0 in
theorem PySem.Challenge.cw_purseborder_k63_floors_compared_holds : PySem.Challenge.rw_purseborder_k63_floors_compared.Holds := by
 w_on;o_law;k_head;(case hw=>w_witness2)
 k_fill
 refine zN.walk (l:=PySem.Challenge.rw_purseborder_k63_floors_compared) rfl rfl (λ w h Y=>PySem.W.kIn_of Y) ?F
 case F=>
  intro w mg fa h KX G Dv;refine' zN.all_mk KX G Dv ?_ ?_ ?_ ?_ ?_ ?_ ?_ ?_ ?_ ?_ ?_ ?_ ?_ ?_ ?_ ?_ ?_ ?_ ?_ ?_ ?_ ?_ ?_ ?_ ?_ ?_ ?_ ?_ ?_ ?_ ?_ ?_ ?_ ?_ ?_ ?_ ?_ ?_ ?_ ?_ ?_ ?_ ?_ ?_ ?_ ?_ ?_ ?_ ?_ ?_ ?_ ?_ ?_ ?_ ?_ ?_ ?_ ?_ ?_ ?_ ?_ ?_ ?_ ?_ ?_ ?_ ?_
  all_goals first | exact L3.Ei.i (by k_is) (by k_is) (by k_is) (by k_is) (by kernel_rfl) (by k_is) (by k_is) (by k_is) (by k_is) (by k_is) (by k_is) | exact L3.Ec.i (by k_is) (by k_is) (by k_is) (by k_is) (by kernel_rfl) | exact L3.Ez.i (by k_is) (by k_is) (by k_is) (by k_is) (by kernel_rfl) (by k_is) (by k_is) | exact L5.Fx.i (by k_is) (by k_is) (by k_is) (by k_is) | k_is | exact L5.Cn.i (by k_is) (by exact⟨_,rfl⟩)
