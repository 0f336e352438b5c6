import PyProof.Rows.All
import Wide.All
import OpenK.AllK
import Wide.FinOn
import Lean
import PyProof.EqAt
import PyProof.EqKinds
import PyProof.TupleCall
import PySem.SetOps
import PyProof.SetScanFacts
import PyProof.TupleKey
import PyProof.SetKind
import PyProof.SetRoads
import PyProof.IsRules
import PyProof.ZipIter
import PyProof.TupleIter
import PyProof.ListMulRoad
import PyProof.FactsAll.tuple
import PyProof.ListRange
import PyProof.Draws
import PyProof.EnumFor
import PyProof.Rows.ListMul
import PyProof.AutoListH
import PyProof.ExcInit
import PyProof.ExcClass2
import PyProof.InstStore
import PyProof.InstStoreFacts
import PyProof.ExcArgsOwn
import PyProof.IsInstance
import PyProof.IsInstanceH
import PyProof.StationsW
import PyProof.Rows.CatchOwn
import PyProof.FactsAll.dict_1
import PyProof.Rows.Range3
import PyProof.FitsBits
import PyProof.EqKinds
import PyProof.StrCalls2
import PyProof.StrCalls6
import PyProof.CallStr
import PyProof.StrBlockG
import PyProof.SliceStr2
import PyProof.IsInstanceT
import PyProof.StrLawsReplace
import PyProof.Rows.StrSplitJoin
import PySem.Challenge.RW_purseborder_k03_floors_written
set_option Elab.async false
set_option linter.all false
set_option maxRecDepth 100000
set_option genSizeOf false
set_option compiler.extract_closed false
set_option bootstrap.genMatcherCode false
abbrev Af:=PySem.Value->PySem.Shared->Prop
abbrev Ah:=List (PySem.Addr×PySem.Obj)
abbrev Ad:=List PySem.Value
abbrev Au:=PySem.Str->Option PySem.Value
abbrev Av:=Array PySem.Value
def AM {p:Prop}[Decidable p](h:decide p=true:=by decide +kernel):p:=of_decide_eq_true h
noncomputable section
def IC:=@PySem.wpAny_bind
def JH:=@PySem.Heap.get?_push_of_some
def JI:=@PySem.wpAny_loadPart_at
def JJ:=@PySem.wpAny_field
def JK:=@PySem.wpAny_mono
def JM:=@decide_eq_false
def JL:=@PySem.Heap.get?_update_other
def JO:=@PySem.wpAny_holding
def JN:=@PySem.Heap.get?_update_self
def JP:=@PySem.wpAny_newObj_type
def JQ:=@PySem.wpAny_call_entry
def JR:=@PySem.wpAny_setState_of
def JS:=@PySem.wpAny_setField
def JU:=@PySem.wpAny_seqItems
def JT:=@PySem.wpAny_isSubtype_exc
def JV:=@PySem.wpAny_truthy_bool
def JW:=@PySem.wpAny_callSpecial?_slot
def JZ:=@PySem.wpAny_execs_nil
def JY:=@decide_eq_true
def JX:=@PySem.wpAny_typeOf
def J7:=@PySem.wpAny_Call_Name_kw
def J6:=@PySem.wpAny_Call_method_late
def J4:=@PySem.wpAny_setField_rec
def J_:=@PySem.wpAny_execs_cons
def J9:=@PySem.wpAny_passesOwn
def J8:=@PySem.wpAny_askSetting
def Kb:=@PySem.Heap.get?_none_of_le
def Ka:=@PySem.wpAny_getItem_str_slice
def Am:=@Option.bind_eq_some_iff
def Az:=@List.mem_cons_self
def AG:=@List.mem_cons_of_mem
def AO:=@Option.map_eq_some_iff
def A5:=@List.not_mem_nil
def A8:=@List.map_nil
def Bd:=@Bool.false_ne_true
def Bk:=@Nat.ne_of_gt
def Bj:=@List.nodup_cons
def Br:=@Nat.lt_or_ge
def Bp:=@List.forall_mem_cons
def Bx:=@List.append_nil
def Bw:=@List.lookup_cons
def Bv:=@List.contains_cons
def BP:=@List.replicate_succ
def BO:=@Nat.lt_trans
def BV:=@List.length_nil
def BU:=@List.length_drop
def B3:=@List.flatten_cons
def B2:=@Bool.and_false
def B1:=@List.mem_iff_getElem
def B0:=@List.map_drop
def Ca:=@List.getElem?_append_left
def B_:=@List.pairwise_cons
def B9:=@Array.getElem_toList
def B8:=@List.take_append_drop
def B7:=@Nat.lt_succ_of_lt
def Cw:=@List.mem_filterMap
def Cv:=@List.length_take
def Cu:=@List.length_set
def Cs:=@List.getElem?_set
def Cr:=@List.foldl_cons
def Cp:=@Array.getElem?_eq_none
def Co:=@Nat.le_add_right
def CY:=@List.mem_append_left
def CW:=@List.of_mem_zip
def CV:=@List.getElem?_append_right
def CU:=@List.forIn_cons
def CT:=@Bool.or_true
def CS:=@Array.size_map
def CQ:=@List.pairwise_iff_getElem
def CP:=@Bool.and_self
def CO:=@List.all_cons
def CN:=@List.all_map
def CM:=@Nat.mul_le_mul_right
def CL:=@Nat.mod_lt
def CK:=@Nat.lt_trichotomy
def CJ:=@List.toList_toArray
def CI:=@List.map_take
def CH:=@List.map_congr_left
def Dt:=@List.filterMap_cons
def Ds:=@List.zip_cons_cons
def Dr:=@List.lookup_append
def Dq:=@Bool.not_eq_true'
def Dp:=@Array.getD_eq_getD_getElem?
def Dn:=@List.pairwise_map
def Dm:=@List.any_eq_true
def Dl:=@List.drop_eq_getElem_cons
def Dk:=@Nat.mul_comm
def Dj:=@Array.getElem?_setIfInBounds
def Di:=@Bool.or_eq_true
def Dh:=@Bool.not_eq_true
def DW:=@List.mem_filter
def DV:=@List.getElem?_set_self
def DU:=@List.getElem?_set_ne
def DT:=@Option.isSome_iff_exists
def DS:=@List.getElem?_replicate
def DR:=@List.pairwise_singleton
def DQ:=@Bool.eq_iff_iff
def DP:=@List.nodup_range
def DN:=@List.mem_of_mem_drop
def DM:=@List.perm_ext_iff_of_nodup
def DL:=@List.mem_iff_getElem?
def DJ:=@Int.toNat_natCast
def DI:=@Int.toNat_of_nonneg
def DH:=@List.take_of_length_le
def DG:=@List.cons_append
def DF:=@List.foldl_append
def DE:=@Nat.le_add_left
def zc7:=@Array.getElem?_setIfInBounds_ne
def Ax:=@List.size_toArray
def BC:=@List.getElem?_eq_getElem
def A1:=@List.getElem?_eq_some_iff
def A0:=@List.getElem?_map
def Aj:=@Nat.le_refl
def Ao:=@List.mem_cons
def AD:=@List.map_cons
def An:=@List.length_map
def Ar:=@PySem.Heap.lt_size
def AQ:=@PySem.Heap.get?_push_size
def AA:=@List.mem_map
def CD:=@Bool.not_false
def AI:=@Nat.ne_of_lt
def Bb:=@List.mem_append_right
def CC:=@Bool.not_true
def AK:=@List.mem_singleton
def BH:=@List.mem_of_getElem?
def Bm:=@Array.getElem?_eq_getElem
def AV:=@List.mem_append
def Ba:=@List.length_cons
def A6:=@List.mem_range
def Be:=@PySem.W.mg_none_of
def A_:=@Nat.lt_of_lt_of_le
def Bi:=@Bool.false_eq_true
def CB:=@List.length_range
def BQ:=@Option.bind_some
def Ac:=@PySem.wpAny_pure
def Bl:=@Array.length_toList
def BB:=@Array.getElem?_toList
def AZ:=@Nat.zero_le
def Bh:=@Option.some.inj
def AY:=@List.map_map
def Bg:=@List.length_append
def CZ:=@List.getElem_mem
def AF:=@Nat.le_trans
def Cb:=@Nat.lt_irrefl
def CA:=@Nat.lt_succ_self
def BA:=@Nat.le_of_lt
def A9:=@List.all_eq_true
def AX:=@Bool.and_eq_true
def Bf:=@List.map_append
def Bz:=@List.append_assoc
def Cz:=@Int.emod_nonneg
def Cy:=@Int.emod_lt_of_pos
open Lean in
def zRc:Nat->Term->MacroM (TSyntax `rcasesPat)
|0,_=>Macro.throwUnsupported
|n+1,t=>match t with
 |`(#[$xs,*])=>do let ys<-xs.getElems.mapM (zRc n);`(rcasesPat|⟨$[$ys:rcasesPat],*⟩)
 |`(_)=>`(rcasesPat|_)
 |`($x:ident)=>`(rcasesPat|$x:ident)
 |_=>Macro.throwUnsupported
local macro_rules|`(tactic|let $p:term:=$e)=>do let q<-zRc 9 p;`(tactic|obtain $q:rcasesPat:=$e)
local macro_rules|`(tactic|simp! [$a,*] $[$l:location]?)=>`(tactic|simp only [$a,*] $[$l:location]?)
local macro_rules|`(tactic|exists $e)=>`(tactic|simpa using $e)
local macro_rules|`(tactic|show $e)=>`(tactic|refine $e)
local macro_rules|`(tactic|exact $e)=>`(tactic|refine $e)
local macro_rules|`(#[])=>`(by simp)|`(#[$xs,*])=>`(⟨$xs,*⟩)
local macro_rules|`(↑$x)=>`(some $x)
local macro_rules|`(⋯)=>`(by lia)
local macro_rules|`(())=>`(by decide)
abbrev Ab:=PySem.W.Frag
local macro_rules(kind:=Lean.Parser.Command.declaration)|s=>do
 if s[0][4].getNumArgs>0||![``Lean.Parser.Command.definition,``Lean.Parser.Command.abbrev].contains s[1].getKind then Lean.Macro.throwUnsupported
 return s.setArg 0 (s[0].setArg 4 (Lean.mkNullNode [Lean.mkNode ``Lean.Parser.Command.noncomputable [Lean.mkAtom "noncomputable"].toArray].toArray))
namespace L2
open PySem PySem.Spec PyProof.Rows
abbrev Key:=Sum Int Str
def dI:Key->Value->Bool
 | .inl k,v=>Value.isInt k v
 | .inr x,v=>Value.isStrOf x v
def Qf (w:World):Key->Int
 | .inl k=>hashInt k
 | .inr x=>hashStr w x
theorem tH:∀ {k:Key}{v:Value},dI k v=true->(∃ i t,k=Sum.inl i/\v=Value.int i t)\/(∃ x t,k=Sum.inr x/\v=Value.str x t)
 | .inl i,v,h=>by
  let#[t,e]:=Value.isInt_shape (k:=i) (v:=v) h;show .inl #[i,t,rfl,e]
 | .inr x,v,h=>by
  let#[t,e]:=Value.isStrOf_shape (x:=x) (v:=v) h;show .inr #[x,t,rfl,e]
def Qe (a b:Int):decide ((Sum.inl a:Key)=Sum.inl b)=(a == b):=by
 by_cases e:a=b
 .subst e;simp
 .have h:¬ (Sum.inl a:Key)=Sum.inl b:=λ q=>e (Sum.inl.inj q);rw[JM h];show (beq_eq_false_iff_ne.mpr e).symm
def Qb (a b:Str):decide ((Sum.inr a:Key)=Sum.inr b)=decide (a=b):=by
 by_cases e:a=b
 .subst e;simp
 .have h:¬ (Sum.inr a:Key)=Sum.inr b:=λ q=>e (Sum.inr.inj q);rw[JM h,JM e]
def Qd (a:Int) (b:Str):decide ((Sum.inl a:Key)=Sum.inr b)=false:=JM (λ q=>nomatch q)
def Qc (a:Str) (b:Int):decide ((Sum.inr a:Key)=Sum.inl b)=false:=JM (λ q=>nomatch q)
def kO (prog:Program) (w:World):PySem.KeyKind prog w Key where
 is:=dI
 hash:=Qf w
 inj:=λ v a b ha hb=>by
  rcases tH ha with ⟨i,t,rfl,rfl⟩ | ⟨x,t,rfl,rfl⟩
  .rcases tH hb with ⟨j,u,rfl,e⟩ | ⟨y,u,rfl,e⟩
   .injection e with e1 _;rw[e1]
   .show nomatch e
  .rcases tH hb with ⟨j,u,rfl,e⟩ | ⟨y,u,rfl,e⟩
   .show nomatch e
   .injection e with e1 _;rw[e1]
 byValue:=λ k v h=>by
  rcases tH h with ⟨i,t,rfl,rfl⟩ | ⟨x,t,rfl,rfl⟩ <;> rfl
 pyHash:=λ hv h=>by
  rcases tH hv with ⟨i,t,rfl,rfl⟩ | ⟨x,t,rfl,rfl⟩
  .show wpAny_pyHash_int h
  .show wpAny_pyHash_str h
 eqBool:=λ hu hv h=>by
  rcases tH hu with ⟨i,t,rfl,rfl⟩ | ⟨x,t,rfl,rfl⟩
  .rcases tH hv with ⟨j,u,rfl,rfl⟩ | ⟨y,u,rfl,rfl⟩
   .rw[Qe] at h;show wpAny_eqBool_int h
   .rw[Qd] at h;show SeqAt.EqAt.int_str i t y u _ _ _ _ h
  .rcases tH hv with ⟨j,u,rfl,rfl⟩ | ⟨y,u,rfl,rfl⟩
   .rw[Qc] at h;show SeqAt.EqAt.str_int x t j u _ _ _ _ h
   .rw[Qb] at h;show wpAny_eqBool_str h
 «strs»:=λ k x t v h=>by
  rcases tH h with ⟨i,u,rfl,e⟩ | ⟨y,u,rfl,e⟩
  .show nomatch e
  .injection e with e1 _
   subst e1;cases v <;> rfl
inductive V where
 | zk | bl (b:Bool) | int (i:Int) | str (x:Str) | mF (b:Array UInt8) | cQ (b:UInt64) | ref (a:Addr) | ty (n:String)
 deriving DecidableEq
def RelV:V->Value->Prop
 | .zk,u=>u=Value.none
 | .bl b,u=>u=Value.bool b
 | .int i,u=>∃ t,u=Value.int i t
 | .str x,u=>∃ t,u=Value.str x t
 | .mF b,u=>∃ t,u=Value.bytes b t
 | .cQ b,u=>∃ t,u=Value.float b t
 | .ref a,u=>u=Value.ref a
 | .ty n,u=>u=Value.type n
abbrev Vals:List V->List Value->Prop:=Paired RelV
theorem Vals.length {xs:List V}{us:Ad}(r:Vals xs us):xs.length=us.length:=Paired.length r
theorem Vals.get:∀ {xs:List V}{us:Ad}{i:Nat}{x:V},Vals xs us->xs[i]?=↑x->∃ u,us[i]?=↑u/\RelV x u
 | _,_,_,_,.nil,e=>by simp at e
 | _,_,0,_,.cons r _,e=>by simp at e;subst e;show#[_,rfl,r]
 | _,_,i+1,x,.cons _ t,e=>by
  let#[u,h1,h2]:=Vals.get (i:=i) (x:=x) t (by exists e);show#[u,by simpa using h1,h2]
theorem Vals.set {x:V}{u:Value}(r:RelV x u):∀ {xs:List V}{us:Ad}(i:Nat),Vals xs us->Vals (xs.set i x) (us.set i u)
 | _,_,_,.nil=>.nil
 | _,_,0,.cons _ t=>.cons r t
 | _,_,i+1,.cons q t=>.cons q (Vals.set r i t)
theorem Vals.append:∀ {xs ys:List V}{us ws:Ad},Vals xs us->Vals ys ws->Vals (xs++ys) (us++ws)
 | _,_,_,_,.nil,s=>s
 | _,_,_,_,.cons r t,s=>.cons r (Vals.append t s)
theorem Vals.take:∀ {xs:List V}{us:Ad}(n:Nat),Vals xs us->Vals (xs.take n) (us.take n)
 | _,_,0,_=>.nil
 | _,_,_+1,.nil=>.nil
 | _,_,n+1,.cons r t=>.cons r (Vals.take n t)
theorem Vals.drop:∀ {xs:List V}{us:Ad}(n:Nat),Vals xs us->Vals (xs.drop n) (us.drop n)
 | _,_,0,r=>r
 | _,_,_+1,.nil=>.nil
 | _,_,n+1,.cons _ t=>Vals.drop n t
def av:Option V->Option Value->Prop
 | some v,↑u=>RelV v u
 | none,none=>True
 | _,_=>False
def KV {κ:Type}:List (κ × V)->List (κ × Value)->Prop:=Paired λ(p:κ × V) (q:κ × Value)=>p.1=q.1/\RelV p.2 q.2
def kV:Key->V
 | .inl i=>.int i
 | .inr x=>.str x
inductive HO where
 /-- a list -/
 | lst (xs:List V)
 /-- a tuple (never changes) -/
 | tup (xs:List V)
 /-- a dict Hu keys are ints and texts;one Hu keys are tuples of ints and texts (He empty one is both) -/
 | dK (Al:List (Key×V)) | dT (Al:List (List Key×V))
 /-- a set of ints: its members,its size -/
 | set (S:Int->Bool) (n:Nat)
 /-- an instance of He class at C,its dict at dx,its attributes -/
 | ins (C dx:Addr) (fs:List (Str×V))
 /-- He dict of He instance at x -/
 | own (x:Addr)
 /-- He dict of an exception -/
 | xd (fs:List (Str×V))
 /-- a bound method,f of x -/
 | met (f x:Addr)
 /-- a range object lo,lo+1,.. below hi -/
 | ke (lo hi:Int)
 /-- a Hw that is known to He object (He IJ;a dict while a loop walks it): read,never written while it is so -/
 | xH (o:Obj) (u:HO)
 /-- a code HB table -/
 | sV (ps:Av)
 /-- any other Hw,by what is true of its one object (a def of one's own: yy a S n:=HO.ext λ h=>..) -/
 | ext (φ:Heap->Prop)
abbrev Hp:=Addr->Option HO
def upd (H:Hp) (a:Addr) (o:HO):Hp:=λ b=>if b=a then ↑o else H b
def yf {H:Hp}{a:Addr}{o:HO}:upd H a o a=↑o:=by unfold upd;rw[if_pos rfl]
def zM {H:Hp}{a b:Addr}{o:HO}(h:b≠a):upd H a o b=H b:=by unfold upd;rw[if_neg h]
def pM {H:Hp}{a b:Addr}{o u:HO}(h:H a=↑o) (h':H b=↑u) (d:o≠u):a≠b:=by
 intro e;subst e;rw[h] at h';show d (Bh h')
def x9 {H:Hp}{a b:Addr}{o:HO}(h:H a=↑o) (h':H b=none):a≠b:=by
 intro e;subst e;rw[h] at h';cases h'
def ir (h:Heap) (a:Addr):Prop:=∃ o,h.get? a=↑o/\o.dict=none
def ir.new (h:Heap) {d:Av}{n:Nat}:ir (h.push { cls:=.type "tuple",data:=.seq d n }) h.objs.size:=#[_,AQ _ rfl,rfl]
section
variable (P:Program)(w:World)
def xD (H:Hp) (h:Heap) (a:Addr):HO->Prop
 | .lst xs=>xs.length<=sizeLine/\∃ (its:Ad) (n:Nat),Vals xs its/\h.get? a=↑{ cls:=.type "list",data:=.seq its.toArray n }
 | .tup xs=>(xs.length<=sizeLine/\ir h a)/\∃ its:List Value,Vals xs its/\IsTup h a its.toArray
 | .dK Al=>Al.length<=sizeLine/\(a == sysModules)=false/\∃ vs,KV Al vs/\h.DictOf (kO P w) a vs
 | .dT Al=>Al.length<=sizeLine/\(a == sysModules)=false/\∃ xs:List (List Key×Addr×Value),
   Paired (λ(p:List Key×V) (q:List Key×Addr×Value)=>p.1=q.1/\H q.2.1=↑(.tup (p.1.map kV))/\RelV p.2 q.2.2) Al xs/\
   ∃ o es ep,h.get? a=↑o/\o.ExactDict/\o.data=.dict es ep/\es.toList=xs.map (entryOfKey (tupleKind (kO P w)))/\(xs.map (·.1)).Nodup
 | .set S n=>h.SetOf (intKind P w) a S n
 | .ins C dx fs=>H dx=↑(.own a)/\fs.length<=1000/\dx≠a/\h.get? a=↑(PySem.W.instObj C dx)/\
   ∃ mA,h.Ns1 dx mA/\(∀ f,av (fs.lookup f) (mA f))/\PySem.Within mA (fs.map (·.1))
 | .own _=>∃ o,h.get? a=↑o
 | .xd fs=>∃ mA,h.Ns1 a mA/\∀ f,av (fs.lookup f) (mA f)
 | .ke lo hi=>∃ t u v,h.get? a=↑{ cls:=.type "range",data:=.fields [.int lo t,.int hi u,.int 1 v].toArray }
 | .xH o u=>h.get? a=↑o/\xD H h a u
 | .sV ps=>h.get? a=↑{ cls:=.none,data:=.fields ps }
 | .met f x=>h.get? a=↑(PySem.W.methodObj (.ref f) (.ref x))
 | .ext φ=>φ h/\(∃ o,h.get? a=↑o)/\∀ h1 h2:Heap,φ h1->(∀ o,h1.get? a=↑o->h2.get? a=↑o)->φ h2
def ye (H:Hp) (h:Heap):Prop:=∀ a o,H a=↑o->xD P w H h a o
end
section
variable {P:Program}{w:World}{H H':Hp}{h h':Heap}{a:Addr}{o:HO}
theorem xD.lt (x:xD P w H h a o):a<h.objs.size:=by
 cases o with
 | lst xs=>let#[_,_,_,_,e]:=x;show Ar e
 | tup xs=>let#[_,_,_,p]:=x;show p.lt
 | dK Al=>let#[_,_,_,_,o,_,_,e,_]:=x;show Ar e
 | dT Al=>let#[_,_,_,_,o,_,_,e,_]:=x;show Ar e
 | set S n=>let#[o,_,_,_,e,_]:=x;show Ar e
 | ins C dx fs=>let#[_,_,_,e,_]:=x;show Ar e
 | own y=>let#[_,e]:=x;show Ar e
 | xd fs=>let#[_,#[_,_,_,e,_],_]:=x;show Ar e
 | ke lo hi=>let#[_,_,_,e]:=x;show Ar e
 | xH ob u=>let#[e,_]:=x;show Ar e
 | sV ps=>show Ar (show h.get? a=↑_ from x)
 | met f y=>show Ar (show h.get? a=↑_ from x)
 | ext φ=>let#[_,#[_,e],_]:=x;show Ar e
theorem Paired.me {α β:Type}{F G:α->β->Prop}:∀ {l₁:List α}{l₂:List β},Paired F l₁ l₂->(∀ a b,F a b->G a b)->Paired G l₁ l₂
 | _,_,.nil,_=>.nil
 | _,_,.cons r t,f=>.cons (f _ _ r) (Paired.me t f)
def xD.vk (x:xD P w H h a o) (k:∀ b u,(b=a\/H b=↑(.own a))->h.get? b=↑u->h'.get? b=↑u)
  (ho:∀ b,H b=↑(.own a)->H' b=↑(.own a)) (ht:∀ b xs,H b=↑(.tup xs)->H' b=↑(.tup xs)):xD P w H' h' a o:=by
 induction o with
 | lst xs=>let#[z,its,n,r,e]:=x;show#[z,its,n,r,k _ _ (.inl rfl) e]
 | tup xs=>let#[#[z,y,u,v],its,r,ob,e,c]:=x;show#[#[z,y,k _ _ (.inl rfl) u,v],its,r,ob,k _ _ (.inl rfl) e,c]
 | dK Al=>let#[z,y,vs,r,ob,es,ep,e,c]:=x;show#[z,y,vs,r,ob,es,ep,k _ _ (.inl rfl) e,c]
 | dT Al=>
  let#[z,y,xs,r,ob,es,ep,e,c]:=x;show#[z,y,xs,Paired.me r λ p q z=>#[z.1,ht _ _ z.2.1,z.2.2],ob,es,ep,k _ _ (.inl rfl) e,c]
 | set S n=>let#[ob,es,ep,t,e,c]:=x;show#[ob,es,ep,t,k _ _ (.inl rfl) e,c]
 | ins C dx fs=>
  let#[d,z,ne,e,mA,#[od,es,ep,e2,c],r]:=x;show#[ho _ d,z,ne,k _ _ (.inl rfl) e,mA,#[od,es,ep,k _ _ (.inr d) e2,c],r]
 | own y=>let#[ob,e]:=x;show#[ob,k _ _ (.inl rfl) e]
 | xd fs=>let#[mA,#[od,es,ep,e,c],r]:=x;show#[mA,#[od,es,ep,k _ _ (.inl rfl) e,c],r]
 | ke lo hi=>let#[t,u,v,e]:=x;show#[t,u,v,k _ _ (.inl rfl) e]
 | xH ob u ih=>let#[e,q]:=x;show#[k _ _ (.inl rfl) e,ih q]
 | sV ps=>
  have e:h.get? a=↑{ cls:=.none,data:=.fields ps }:=x;change h'.get? a=↑{ cls:=.none,data:=.fields ps };show k a _ (.inl rfl) e
 | met f y=>
  have e:h.get? a=↑(PySem.W.methodObj (.ref f) (.ref y)):=x;change h'.get? a=↑(PySem.W.methodObj (.ref f) (.ref y));show k a _ (.inl rfl) e
 | ext φ=>let#[p,#[o,e],st]:=x;show#[st _ _ p λ o q=>k _ _ (.inl rfl) q,#[o,k _ _ (.inl rfl) e],st]
theorem ye.lt (x:ye P w H h) (e:H a=↑o):a<h.objs.size:=(x a o e).lt
def ye.fresh (x:ye P w H h) (e:h.objs.size<=a):H a=none:=by
 cases q:H a with
 | none=>rfl
 | some u=>show absurd (A_ (x.lt q) e) (Cb _)
def ye.kept (x:ye P w H h) (k:∀ b u,h.get? b=↑u->h'.get? b=↑u):ye P w H h':=λ a o e=>
 (x a o e).vk (λ b u _ q=>k b u q) (λ _ q=>q) λ _ _ q=>q
def ye.laid (x:ye P w H h) (k:∀ b u,h.get? b=↑u->h'.get? b=↑u) (hp:h.objs.size<=a) (new:xD P w (upd H a o) h' a o):ye P w (upd H a o) h':=λ b u e=>by
 have hn:=x.fresh hp;by_cases hb:b=a
 .subst hb;rw[yf] at e;cases e;show new
 .rw[zM hb] at e;show (x b u e).vk (λ c v _ q=>k c v q) (λ c q=>by rw[zM (x9 q hn)];show q) λ c xs q=>by rw[zM (x9 q hn)];show q
end
def Rd (H:Hp) (a:Addr) (u:HO):Prop:=H a=↑u\/∃ o,H a=↑(.xH o u)
def Rd.ok {P:Program}{w:World}{H:Hp}{h:Heap}{a:Addr}{u:HO}(r:Rd H a u) (x:ye P w H h):xD P w H h a u:=by
 rcases r with r | ⟨o,r⟩
 .show x a u r
 .let#[_,q]:=x a _ r;show q
def mX:Option HO->Prop
 | some (.lst _)=>True
 | some (.dK _)=>True
 | some (.dT _)=>True
 | some (.set _ _)=>True
 | some (.ins _ _ _)=>True
 | some (.ext _)=>True
 | _=>False
section
variable {P:Program}{w:World}{H:Hp}{h h':Heap}{x e:Addr}{o':HO}
def ye.write (ok:ye P w H h) (mu:mX (H x)) (he:e=x\/H e=↑(.own x)) (k:∀ b u,b≠e->h.get? b=↑u->h'.get? b=↑u) (CF:∃ u,h'.get? e=↑u)
  (new:xD P w (upd H x o') h' x o'):ye P w (upd H x o') h':=λ b u q=>by
 have HC:∀ c y,H c=↑(.own y)->c≠x:=λ c y r z=>by subst z;rw[r] at mu;show mu
 have IU:∀ c xs,H c=↑(.tup xs)->c≠x:=λ c xs r z=>by subst z;rw[r] at mu;show mu
 by_cases hb:b=x
 .subst hb;rw[yf] at q;cases q;show new
 .rw[zM hb] at q;by_cases BN:b=e
  .have q':H b=↑(.own x):=by
    rcases he with z | z
    .show absurd (BN.trans z) hb
    .rw[BN];show z
   rw[q] at q';cases q';let#[v,hv]:=CF;show#[v,by rw[BN];show hv]
  .exact (ok b u q).vk (λ c v hc r=>k c v ?_ r) (λ c r=>by rw[zM (HC c b r)];show r) λ c xs r=>by rw[zM (IU c xs r)];show r
   rcases hc with rfl | hc
   .show BN
   .rintro rfl;rcases he with z | z
    .show HC c b hc z
    .rw[hc] at z;cases z;show hb rfl
end
structure Un (fs ex:List Addr) (H H':Hp) (h h':Heap):Prop where
 keep:∀ b o,h.get? b=↑o->H b=none->b∉fs->b∉ex->h'.get? b=↑o
 slot:∀ b o,h.get? b=↑o->H b=none->b∈fs->b∉ex->∃ sl,h'.get? b=↑{ o with slots:=sl }
 free:∀ b o,h.get? b=↑o->H b=none->b∉ex->H' b=none
 there:∀ b o,h.get? b=↑o->b∉ex->∃ o',h'.get? b=↑o'
 wJ:∀ b xs,H b=↑(.tup xs)->H' b=↑(.tup xs)
 vv:∀ b o u,H b=↑(.xH o u)->H' b=↑(.xH o u)
 vJ:∀ b ps,H b=↑(.sV ps)->∃ more,H' b=↑(.sV (ps++more))
section
variable {fs ex:List Addr}{H H1:Hp}{h h1 h':Heap}{a x e:Addr}{o:HO}
def Un.any (u:Un fs ex H H1 h h1) {b:Addr}{ob:Obj}(q:h.get? b=↑ob) (n:H b=none) (hx:b∉ex):∃ sl,h1.get? b=↑{ ob with slots:=sl }:=by
 by_cases hb:b∈fs
 .show u.slot b ob q n hb hx
 .show#[ob.slots,u.keep b ob q n hb hx]
def Un.kept (k:∀ b u,h.get? b=↑u->h'.get? b=↑u):Un fs ex H H h h':=
 #[λ b ob q _ _ _=>k b ob q,λ b ob q _ _ _=>#[ob.slots,k b ob q],λ _ _ _ n _=>n,λ b ob q _=>#[ob,k b ob q],λ _ _ q=>q,λ _ _ _ q=>q,λ _ ps q=>#[[].toArray,by rw[q];simp]]
def Un.refl:Un fs ex H H h h:=Un.kept λ _ _ q=>q
def Un.laid (k:∀ b u,h.get? b=↑u->h'.get? b=↑u) (hp:h.objs.size<=a) (hn:H a=none):Un fs ex H (upd H a o) h h' where
 keep:=λ b u q _ _ _=>k b u q
 slot:=λ b u q _ _ _=>#[u.slots,k b u q]
 free:=λ b u q n _=>by rw[zM (AI (A_ (Ar q) hp))];show n
 there:=λ b u q _=>#[u,k b u q]
 wJ:=λ b xs q=>by rw[zM (x9 q hn)];show q
 vv:=λ b u xs q=>by rw[zM (x9 q hn)];show q
 vJ:=λ b ps q=>#[[].toArray,by rw[zM (x9 q hn),q];simp]
def Un.write (mu:mX (H x)) (he:e=x\/H e=↑(.own x)) (k:∀ b u,b≠e->h.get? b=↑u->h'.get? b=↑u) (CF:∃ u,h'.get? e=↑u):Un fs ex H (upd H x o) h h':=by
 have hx:∀ b,H b=none->b≠x:=λ b n z=>by subst z;rw[n] at mu;show mu
 have hb:∀ b,H b=none->b≠e:=λ b n z=>by
  subst z;rcases he with r | r
  .show hx b n r
  .rw[n] at r;cases r
 have hm:∀ b u,H b=↑u->¬ mX ↑u->b≠x:=λ b u q nm z=>by subst z;rw[q] at mu;show nm mu
 exact#[λ b u q n _ _=>k b u (hb b n) q,λ b u q n _ _=>#[u.slots,k b u (hb b n) q],λ b u q n _=>by rw[zM (hx b n)];show n,λ b u q _=>?_,
  λ b xs q=>by rw[zM (hm b _ q λ z=>z)];show q,λ b u xs q=>by rw[zM (hm b _ q λ z=>z)];show q,λ b ps q=>#[[].toArray,by rw[zM (hm b _ q λ z=>z),q];simp]]
 by_cases BN:b=e
 .subst BN;show CF
 .show#[u,k b u BN q]
end
def nj (h:Heap) (H:Hp):List Addr:=(List.range h.objs.size).filter λ a=>(H a).isSome
def tI (h:Heap) (H:Hp):Heap:=PySem.W.hideAll h (nj h H)
def Q9 (h:Heap) (H:Hp):(tI h H).objs.size=h.objs.size:=PySem.W.hideAll_size _ _
def QA {h:Heap}{H:Hp}{b:Addr}{o:Obj}(e:h.get? b=↑o) (n:H b=none):(tI h H).get? b=↑o:=
 PySem.W.hideAll_get _ e λ hm=>by
  have q:(H b).isSome=true:=(DW.mp hm).2;rw[n] at q;simp at q
def Rt {h:Heap}{H:Hp}{b:Addr}{o:Obj}(e:(tI h H).get? b=↑o):h.get? b=↑o/\H b=none:=by
 have e':h.get? b=↑o:=PySem.W.of_hideAll (nj h H) e;exact#[e',?_];cases q:H b with
 | none=>rfl
 | some x=>
  have hm:b∈nj h H:=DW.mpr #[A6.mpr (Ar e'),by simp[q]];have z:(tI h H).get? b=none:=PySem.W.hideAll_none (nj h H) hm;rw[z] at e;cases e
structure Mod (K:Ab) (mg:Au) (base:Heap):Prop where
 qo:K.In base
 glob:base.Ns mainGlobals mg
 blt:∃ mb,base.Ns builtinsNs mb/\∀ x:Str,x≠"__name__"->mb x=bootBuiltins x
 nolimit:base.NoLimit
structure Cx where
 prog:Program
 w:World
 K:Ab
 mg:Str->Option Value
 base:Heap
 A:Around
 N:List Str
 s₀:Shared
 H₀:Hp
 env:Env
 outer:List Env
 stack:List Env
 ex:List Addr
 fn:Str->Bool
 calm:Bool
 pn:Ah
 xe:Af
def y6 (l:List Env):List Addr:=l.filterMap (·.frame)
abbrev Aq (X:Cx) (e:Expr) (es:List Expr):Prop:=starEach (e::es) X.env=(false,eval e X.env)::starEach es X.env
abbrev Ay (X:Cx) (p:Pos) (es:List Expr):Prop:=(backTo p (starEach es X.env)).any (·.1)=false
abbrev Cx.fs (X:Cx):List Addr:=y6 X.outer
def qB (sc:Scope) (x:Str):Prop:=sc.names.lookup x=↑.local\/sc.names.lookup x=↑.cell\/sc.names.lookup x=↑.free
def Loc (sc:Scope) (x:Str):Prop:=sc.names.lookup x=↑.local\/sc.names.lookup x=↑.cell
def Look (env:Env) (h:Heap) (m:Au) (x:Str) (u:Value):Prop:=
 (env.kindOf x=↑.local/\m x=↑u)\/((env.kindOf x=↑.cell\/env.kindOf x=↑.free)/\∃ c,env.cells.lookup x=↑c/\h.IsCell c ↑u)
structure Cx.Ok (X:Cx):Prop where
 mod:Mod X.K X.mg X.base
 kind:X.env.scope.kind=.function
 glob:X.env.globals=mainGlobals
 blt:X.env.builtins=builtinsNs
 above:X.s₀.heap.objs.size<=X.env.locals
 inj:∀ x y c,X.env.cells.lookup x=↑c->X.env.cells.lookup y=↑c->x=y
 has:∀ x,(X.env.kindOf x=↑.cell\/X.env.kindOf x=↑.free)->∃ c,X.env.cells.lookup x=↑c
 rH:∀ x c,X.fn x=true->X.env.cells.lookup x=↑c->X.s₀.heap.objs.size<=c
 hd:X.calm=true->X.A.handled=none
 frames:X.A.frames=↑X.stack
 qb:X.stack=X.outer\/(X.stack=X.env::X.outer/\X.env.frame=↑X.env.locals)
 p_:∀ b∈X.ex,b≠X.env.locals/\∀ x c,X.env.cells.lookup x=↑c->c≠b
 bs:∀ b o,X.base.get? b=↑o->X.s₀.heap.get? b=↑o/\X.H₀ b=none
 tM:X.base.objs.size<=X.s₀.heap.objs.size
 rm:∀ b o,X.base.get? b=↑o->b∉X.ex
 r0:∀ b∈X.ex,b∉X.fs
 vt:X.s₀.heap.FunFrames X.base X.outer
 sh:∀ b∈X.fs,X.H₀ b=none
structure Inv (X:Cx) (Ek:Ah) (O:List (Option V)) (H:Hp) (s:Shared):Prop where
 ok:X.Ok
 os:s.os=X.s₀.os
 bare:AllBare s.gens
 base:Un X.fs X.ex X.H₀ H X.s₀.heap s.heap
 loc:∃ m,s.heap.Ns X.env.locals m/\∀ (i:Nat) (x:Str) (v:V),X.N[i]?=↑x->O[i]?=↑↑v->qB X.env.scope x->∃ u,RelV v u/\Look X.env s.heap m x u
 cell:∀ x c,X.env.cells.lookup x=↑c->∃ v,s.heap.IsCell c v
 free:H X.env.locals=none
 wA:∀ x c,X.env.cells.lookup x=↑c->H c=none
 pin:∀ p∈X.pn++Ek,s.heap.get? p.1=↑p.2/\H p.1=none/\p.1≠X.env.locals/\p.1∉X.fs/\∀ v,p.2.data≠.cell v
 zl:ye X.prog X.w H s.heap
 len:O.length=X.N.length
section
variable {X:Cx}{Ek:Ah}{O:List (Option V)}{H H':Hp}{s:Shared}{h':Heap}
def Cx.Ok.Rz (ok:X.Ok) {b:Addr}{o:Obj}(e:X.base.get? b=↑o):b∉X.fs:=λ hb=>by
 have:=(ok.vt.mem hb).1;rw[e] at this;cases this
theorem Inv.bs (I:Inv X Ek O H s):∀ b o,X.base.get? b=↑o->s.heap.get? b=↑o/\H b=none:=λ b o e=>
 #[I.base.keep b o (I.ok.bs b o e).1 (I.ok.bs b o e).2 (I.ok.Rz e) (I.ok.rm b o e),I.base.free b o (I.ok.bs b o e).1 (I.ok.bs b o e).2 (I.ok.rm b o e)]
def Inv.bk (I:Inv X Ek O H s):∀ b o,X.base.get? b=↑o->s.heap.get? b=↑o:=λ b o e=>(I.bs b o e).1
theorem Inv.mod (I:Inv X Ek O H s):Mod X.K X.mg X.base:=I.ok.mod
def Inv.yx (I:Inv X Ek O H s):X.K.In s.heap:=I.ok.mod.qo.keeps I.bk
theorem Inv.lt (I:Inv X Ek O H s):X.env.locals<s.heap.objs.size:=let #[_,hn,_]:=I.loc;hn.lt
def Inv.sz (I:Inv X Ek O H s):X.s₀.heap.objs.size<=s.heap.objs.size:=AF I.ok.above (BA I.lt)
def Inv.df (I:Inv X Ek O H s) {a:Addr}(h:s.heap.objs.size<=a):a∉X.fs:=λ hb=>by
 let#[_,o,ho,_]:=I.ok.vt.mem hb;show absurd (A_ (Ar ho) (AF I.sz h)) (Cb _)
def Inv.uA (I:Inv X Ek O H s):∀ x c,X.env.cells.lookup x=↑c->c≠X.env.locals:=λ x c e z=>by
 let#[v,o,ho,hd]:=I.cell x c e;let#[m,#[o',es,ep,E9,GN,_],_]:=I.loc;rw[z,E9] at ho;cases ho;rw[GN] at hd;cases hd
theorem Inv.vt (I:Inv X Ek O H s):s.heap.FunFrames X.base X.outer:=by
 have all:∀ (l:List Env),(∀ b∈y6 l,b∈X.fs)->X.s₀.heap.FunFrames X.base l->s.heap.FunFrames X.base l:=by
  intro l
  induction l with
  | nil=>intro _ _;trivial
  | cons env r ih=>
   intro hs hl;let#[hk,#[L,o,hf,hn,ho,hd],hr]:=hl;have hL:L∈X.fs:=hs L (by unfold y6;rw[Dt,hf];show Az);let#[sl,e]:=I.base.slot L o ho (I.ok.sh L hL) hL λ z=>I.ok.r0 L z hL;show#[hk,#[L,_,hf,hn,e,hd],ih (λ b hb=>hs b (by unfold y6;rw[Dt,hf];show AG _ hb)) hr]
 show all X.outer (λ _ hb=>hb) I.ok.vt
theorem Inv.stack (I:Inv X Ek O H s):s.heap.FunFrames X.base X.stack:=by
 rcases I.ok.qb with e | ⟨e,hf⟩
 .rw[e];show I.vt
 .rw[e];let#[m,hn,_]:=I.loc;exact .cons (by rw[I.ok.kind];decide) hf hn ?_ I.vt;show Kb (AF I.ok.tM I.ok.above)
def Inv.lU (I:Inv X Ek O H s):∀ b∈y6 X.stack,b∈X.env.locals::X.fs:=λ b hb=>by
 rcases I.ok.qb with e | ⟨e,hf⟩
 .rw[e] at hb;show AG _ hb
 .rw[e] at hb;unfold y6 at hb;rw[Dt,hf] at hb;show hb
def Inv.lV (I:Inv X Ek O H s):∀ b∈y6 X.stack,H b=none:=λ b hb=>by
 rcases Ao.mp (I.lU b hb) with e | hb
 .rw[e];show I.free
 .let#[_,o,ho,_]:=I.ok.vt.mem hb;show I.base.free b o ho (I.ok.sh b hb) λ z=>I.ok.r0 b z hb
def Inv.step {g':Array GenState}{t':Nat}{d':Drawn}{ch:List Addr}(I:Inv X Ek O H s)
  (BS:∀ b∈ch,(b∈X.ex\/X.s₀.heap.objs.size<=b)/\b≠X.env.locals/\(∀ x c,X.env.cells.lookup x=↑c->c≠b)/\∀ p∈X.pn++Ek,p.1≠b)
  (keep:∀ b o,b≠X.env.locals->b∉X.fs->b∉ch->s.heap.get? b=↑o->H b=none->h'.get? b=↑o)
  (slot:∀ b o,b≠X.env.locals->b∈X.fs->b∉ch->s.heap.get? b=↑o->H b=none->∃ sl,h'.get? b=↑{ o with slots:=sl }) (free:∀ b o,b∉ch->s.heap.get? b=↑o->H b=none->H' b=none)
  (there:∀ b o,b∉ch->s.heap.get? b=↑o->∃ o',h'.get? b=↑o')
  (wJ:∀ b xs,H b=↑(.tup xs)->H' b=↑(.tup xs)) (vv:∀ b o u,H b=↑(.xH o u)->H' b=↑(.xH o u)) (vJ:∀ b ps,H b=↑(.sV ps)->∃ more,H' b=↑(.sV (ps++more)))
  (ns:∀ m,s.heap.Ns X.env.locals m->h'.Ns X.env.locals m) (zl:ye X.prog X.w H' h') (hg:AllBare g'):
  Inv X Ek O H' { s with heap:=h',gens:=g',drawn:=d',toks:=t' }:=by
 have neL:∀ b o,X.s₀.heap.get? b=↑o->b≠X.env.locals:=λ b o e=>AI (A_ (Ar e) I.ok.above);have Iq:∀ b o,X.s₀.heap.get? b=↑o->b∉X.ex->b∉ch:=λ b o e hx hb=>by
  rcases (BS b hb).1 with z | z
  .show hx z
  .show absurd (A_ (Ar e) z) (Cb _)
 have cellK:∀ x c,X.env.cells.lookup x=↑c->∀ v,s.heap.IsCell c v->h'.IsCell c v:=λ x c e v #[o,ho,hd]=>by
  have HF:c∉ch:=λ z=>(BS c z).2.2.1 x c e rfl;by_cases hc:c∈X.fs
  .let#[sl,q]:=slot c o (I.uA x c e) hc HF ho (I.wA x c e);show#[_,q,hd]
  .show#[o,keep c o (I.uA x c e) hc HF ho (I.wA x c e),hd]
 exact#[I.ok,I.os,hg,#[λ b o e n hb hx=>?_,λ b o e n hb hx=>?_,λ b o e n hx=>?_,λ b o e hx=>?_,λ b xs e=>wJ b xs (I.base.wJ b xs e),λ b o xs e=>vv b o xs (I.base.vv b o xs e),λ b ps e=>?_],?_,λ x c e=>?_,?_,λ x c e=>?_,λ p hp=>?_,zl,I.len]
 .show keep b o (neL b o e) hb (Iq b o e hx) (I.base.keep b o e n hb hx) (I.base.free b o e n hx)
 .let#[sl,e1]:=I.base.slot b o e n hb hx;let#[II,e2]:=slot b _ (neL b o e) hb (Iq b o e hx) e1 (I.base.free b o e n hx);show#[II,e2]
 .let#[o',e1]:=I.base.there b o e hx;show free b o' (Iq b o e hx) e1 (I.base.free b o e n hx)
 .let#[o',e1]:=I.base.there b o e hx;show there b o' (Iq b o e hx) e1
 .let#[m1,e1]:=I.base.vJ b ps e;let#[m2,e2]:=vJ b _ e1;show#[m1++m2,by rw[e2,Array.append_assoc]]
 .let#[m,hn,hl]:=I.loc;exact#[m,ns m hn,λ i x v e1 e2 e3=>?_];let#[u,r,l]:=hl i x v e1 e2 e3;exact#[u,r,?_];rcases l with l | ⟨k,c,e,z⟩
  .show .inl l
  .show .inr #[k,c,e,cellK x c e _ z]
 .let#[v,z]:=I.cell x c e;show#[v,cellK x c e v z]
 .let#[m,#[o,_,_,ho,_],_]:=I.loc;show free _ o (λ z=>(BS _ z).2.1 rfl) ho I.free
 .let#[v,o,ho,hd]:=I.cell x c e;show free c o (λ z=>(BS c z).2.2.1 x c e rfl) ho (I.wA x c e)
 .let#[e,n,ne,nf,d]:=I.pin p hp;have HF:p.1∉ch:=λ z=>(BS p.1 z).2.2.2 p hp rfl;show#[keep p.1 p.2 ne nf HF e n,free p.1 p.2 HF e n,ne,nf,d]
theorem Inv.un {t':Nat}(I:Inv X Ek O H s) (u:Un X.fs [] H H' s.heap h') (zl:ye X.prog X.w H' h'):Inv X Ek O H' { s with heap:=h',toks:=t' }:=by
 let#[m,#[o,es,ep,ho,r],_]:=id I.loc;let#[sl,hL]:=u.any ho I.free #[];show I.step (g':=s.gens) (d':=s.drawn) (ch:=[]) (λ _ z=>nomatch z) (λ b o _ hb _ e n=>u.keep b o e n hb #[]) (λ b o _ hb _ e n=>u.slot b o e n hb #[]) (λ b o _ e n=>u.free b o e n #[]) (λ b o _ e=>u.there b o e #[]) u.wJ u.vv u.vJ (λ m' hm=>by
  let#[o',Fs,JC,E9,r']:=hm;rw[ho] at E9;cases E9;show#[_,Fs,JC,hL,r']) zl I.bare
def Inv.call {g':Array GenState}{t':Nat}{d':Drawn}{ch:List Addr}(I:Inv X Ek O H s) (u:Un (y6 X.stack) ch H H' s.heap h') (zl:ye X.prog X.w H' h') (hg:AllBare g')
  (BS:∀ b∈ch,(b∈X.ex\/X.s₀.heap.objs.size<=b)/\b≠X.env.locals/\(∀ x c,X.env.cells.lookup x=↑c->c≠b)/\∀ p∈X.pn++Ek,p.1≠b):
  Inv X Ek O H' { s with heap:=h',gens:=g',drawn:=d',toks:=t' }:=by
 let#[m,#[o,es,ep,ho,r],_]:=id I.loc;let#[sl,hL]:=u.any ho I.free λ z=>(BS _ z).2.1 rfl;show I.step (ch:=ch) BS (λ b o hL hb hc e n=>u.keep b o e n (λ z=>(Ao.mp (I.lU b z)).elim hL hb) hc) (λ b o _ _ hc e n=>u.any e n hc) (λ b o hc e n=>u.free b o e n hc) (λ b o hc e=>u.there b o e hc) u.wJ u.vv u.vJ (λ m' hm=>by
  let#[o',Fs,JC,E9,r']:=hm;rw[ho] at E9;cases E9;show#[_,Fs,JC,hL,r']) zl hg
def Inv.turned {t':Nat}{it:Addr}(I:Inv X Ek O H s) (k:∀ b o,b≠it->s.heap.get? b=↑o->h'.get? b=↑o) (hn:H it=none) (hL:it≠X.env.locals)
  (h1:it∈X.ex\/X.s₀.heap.objs.size<=it) (h2:∀ x c,X.env.cells.lookup x=↑c->c≠it) (h3:∀ p∈X.pn++Ek,p.1≠it):Inv X Ek O H { s with heap:=h',toks:=t' }:=by
 have HE:∀ b u,H b=↑u->b≠it:=λ b u e z=>by rw[z,hn] at e;cases e
 exact I.step (g':=s.gens) (d':=s.drawn) (ch:=[it]) (λ b hb=>?_) (λ b o _ _ hc e _=>k b o (λ z=>hc (by simp[z])) e) (λ b o _ _ hc e _=>#[o.slots,k b o (λ z=>hc (by simp[z])) e]) (λ _ _ _ _ n=>n)
  (λ b o hc e=>#[o,k b o (λ z=>hc (by simp[z])) e]) (λ _ _ e=>e) (λ _ _ _ e=>e) (λ b ps e=>#[[].toArray,by rw[e];simp]) (λ m hm=>?_) (λ b u e=>?_) I.bare
 .have e:b=it:=by exists hb
  subst e;show#[h1,hL,h2,h3]
 .let#[o,es,ep,ho,r]:=hm;show#[o,es,ep,k _ o (Ne.symm hL) ho,r]
 .exact (I.zl b u e).vk (λ c v hc q=>k c v ?_ q) (λ _ q=>q) λ _ _ q=>q;rcases hc with z | z
  .rw[z];show HE b u e
  .show HE c _ z
def Inv.tok (I:Inv X Ek O H s) (t:Nat):Inv X Ek O H { s with toks:=t }:=I.un (h':=s.heap) (t':=t) Un.refl I.zl
theorem Inv.kept {t':Nat}(I:Inv X Ek O H s) (k:∀ b u,s.heap.get? b=↑u->h'.get? b=↑u):Inv X Ek O H { s with heap:=h',toks:=t' }:=I.un (Un.kept k) (I.zl.kept k)
theorem Inv.laid {a:Addr}{o:HO}{t':Nat}(I:Inv X Ek O H s) (k:∀ b u,s.heap.get? b=↑u->h'.get? b=↑u) (hp:s.heap.objs.size<=a) (new:xD X.prog X.w (upd H a o) h' a o):
  Inv X Ek O (upd H a o) { s with heap:=h',toks:=t' }:=I.un (Un.laid k hp (I.zl.fresh hp)) (I.zl.laid k hp new)
theorem Inv.write {x e:Addr}{o:HO}{t':Nat}(I:Inv X Ek O H s) (mu:mX (H x)) (he:e=x\/H e=↑(.own x)) (k:∀ b u,b≠e->s.heap.get? b=↑u->h'.get? b=↑u) (CF:∃ u,h'.get? e=↑u)
  (new:xD X.prog X.w (upd H x o) h' x o):Inv X Ek O (upd H x o) { s with heap:=h',toks:=t' }:=I.un (Un.write mu he k CF) (I.zl.write mu he k CF new)
def Inv.kx {EX:Ah}(I:Inv X Ek O H s) (h:∀ p∈EX,s.heap.get? p.1=↑p.2/\H p.1=none/\p.1≠X.env.locals/\p.1∉X.fs/\∀ v,p.2.data≠.cell v):Inv X EX O H s:=
 #[I.ok,I.os,I.bare,I.base,I.loc,I.cell,I.free,I.wA,λ p hp=>(AV.mp hp).elim (λ z=>I.pin p (CY _ z)) (h p),I.zl,I.len]
def kL {N:List Str}(hN:N.Nodup) {i j:Nat}{x:Str}(a:N[i]?=↑x) (b:N[j]?=↑x):i=j:=by
 let#[h1,e1]:=A1.mp a;let#[h2,e2]:=A1.mp b;show (List.getElem_inj hN).mp (e1.trans e2.symm)
def Y9 {M:Model}{A:Around}{E:Af}{i:Nat}{x:Str}{v:V}{u:Value}{Q:Unit->Shared->Prop}(I:Inv X Ek O H s) (hN:X.N.Nodup) (hi:X.N[i]?=↑x) (hx:Loc X.env.scope x) (r:RelV v u)
  (h:∀ s',Inv X Ek (O.set i ↑v) H s'->(∃ a,Heap.SameBut a s.heap s'.heap/\(a=X.env.locals\/X.env.cells.lookup x=↑a))->Q Unit.unit s') (hf:X.fn x=true\/X.env.scope.names.lookup x=↑.local:=by first | show .inl rfl | show .inr rfl | assumption):wpAny M A (storeName X.env x u) Q E s:=by
 let#[m,hn,hl]:=id I.loc;have Bc:(X.env.scope.kind == .class||(X.env.scope.kind == .module&&X.env.locals != X.env.globals))=false:=by rw[I.ok.kind];rfl
 have hiσ:i < O.length:=by rw[I.len];show (A1.mp hi).1
 have uA:=I.uA;have tracked:∀ {a:Addr}{h':Heap},(∃ o,s.heap.get? a=↑o/\H a=none)->Heap.SameBut a s.heap h'->ye X.prog X.w H h':=λ{a h'} ha hs b ob e=>by
  let#[_,_,GY]:=ha;exact (I.zl b ob e).vk (λ c w' hc q=>(hs.2 c ?_).trans q) (λ _ q=>q) λ _ _ q=>q;rintro rfl;rcases hc with rfl | hc
  .rw[GY] at e;cases e
  .rw[GY] at hc;cases hc
 rcases hx with hk | hk
 .exact wpAny_storeName_local hk hn (λ h' GL hs=>?_) Bc;let#[oL,_,_,HL,_]:=id hn;exact h _ #[I.ok,I.os,I.bare,#[λ b o e n hb hx=>?_,λ b o e n hb hx=>?_,I.base.free,λ b o e hx=>?_,I.base.wJ,I.base.vv,I.base.vJ],#[_,GL,λ j y v' e1 e2 e3=>?_],λ y c e=>?_,I.free,I.wA,λ p hp=>?_,tracked #[oL,HL,I.free] hs,by exists I.len] #[_,hs,.inl rfl]
  .show (hs.2 b (AI (A_ (Ar e) I.ok.above))).trans (I.base.keep b o e n hb hx)
  .let#[sl,e1]:=I.base.slot b o e n hb hx;show#[sl,(hs.2 b (AI (A_ (Ar e) I.ok.above))).trans e1]
  .let#[o',e1]:=I.base.there b o e hx;show#[o',(hs.2 b (AI (A_ (Ar e) I.ok.above))).trans e1]
  .by_cases hj:j=i
   .subst hj;rw[hi] at e1;cases e1;rw[DV hiσ] at e2;cases e2;show#[u,r,.inl #[hk,#[]]]
   .rw[DU (Ne.symm hj)] at e2;let#[u',r',q]:=hl j y v' e1 e2 e3;exact#[u',r',?_];rcases q with ⟨k,e⟩ | ⟨k,c,e,z⟩
    .exact .inl #[k,?_];have:y≠x:=λ e=>hj (kL hN e1 (e▸hi));simp[this,e]
    .show .inr #[k,c,e,z.sameBut hs (uA y c e)]
  .let#[w',z]:=I.cell y c e;show#[w',z.sameBut hs (uA y c e)]
  .let#[e,n,ne,nf,d]:=I.pin p hp;show#[(hs.2 p.1 ne).trans e,n,ne,nf,d]
 .have Ee:X.fn x=true:=by
   rcases hf with z | z
   .show z
   .rw[z] at hk;cases hk
  let#[c,hc]:=I.ok.has x (.inl hk);let#[w',z]:=I.cell x c hc;exact wpAny_storeName_cell I.ok.kind hk hc z (λ h' hc' hs=>?_);let#[oc,hoc,D8]:=id z;exact h { s with heap:=h' } #[I.ok,I.os,I.bare,#[λ b o e n hb hx=>?_,λ b o e n hb hx=>?_,I.base.free,λ b o e hx=>?_,I.base.wJ,I.base.vv,I.base.vJ],#[m,hn.sameBut hs (Ne.symm (uA x c hc)),λ j y v' e1 e2 e3=>?_],λ y c' e=>?_,I.free,I.wA,λ p hp=>?_,tracked #[oc,hoc,I.wA x c hc] hs,by exists I.len] #[c,hs,.inr hc]
  .show (hs.2 b (AI (A_ (Ar e) (I.ok.rH x c Ee hc)))).trans (I.base.keep b o e n hb hx)
  .let#[sl,e1]:=I.base.slot b o e n hb hx;show#[sl,(hs.2 b (AI (A_ (Ar e) (I.ok.rH x c Ee hc)))).trans e1]
  .let#[o',e1]:=I.base.there b o e hx;show#[o',(hs.2 b (AI (A_ (Ar e) (I.ok.rH x c Ee hc)))).trans e1]
  .by_cases hj:j=i
   .subst hj;rw[hi] at e1;cases e1;rw[DV hiσ] at e2;cases e2;show#[u,r,.inr #[.inl hk,c,hc,hc']]
   .rw[DU (Ne.symm hj)] at e2;let#[u',r',q]:=hl j y v' e1 e2 e3;exact#[u',r',?_];rcases q with q | ⟨k,c',e,z'⟩
    .show .inl q
    .exact .inr #[k,c',e,z'.sameBut hs ?_];rintro rfl;show hj (kL hN e1 (I.ok.inj _ _ _ e hc▸hi))
  .by_cases Bs:c'=c
   .subst Bs;show#[_,hc']
   .let#[w2,z2]:=I.cell y c' e;show#[w2,z2.sameBut hs Bs]
  .let#[e,n,ne,nf,d]:=I.pin p hp;exact#[(hs.2 p.1 ?_).trans e,n,ne,nf,d];intro q;rw[q,hoc] at e;have q':oc=p.2:=Bh e;show d w' (by rw[<- q'];show D8)
def nu {M:Model}{A:Around}{E:Af}{i:Nat}{x:Str}{v:V}{u:Value}{Q:Unit->Shared->Prop}(I:Inv X Ek O H s) (hN:X.N.Nodup) (hi:X.N[i]?=↑x) (hx:Loc X.env.scope x) (r:RelV v u)
  (h:∀ s',Inv X Ek (O.set i ↑v) H s'->Q Unit.unit s') (hf:X.fn x=true\/X.env.scope.names.lookup x=↑.local:=by first | show .inl rfl | show .inr rfl | assumption):wpAny M A (storeName X.env x u) Q E s:=
 Y9 I hN hi hx r (λ s' I' _=>h s' I') hf
def Inv.bH {s':Shared}{ch:List Addr}(I:Inv X Ek O H s) (ho:s'.os=s.os) (u:Un (y6 X.stack) ch H H' s.heap s'.heap) (zl:ye X.prog X.w H' s'.heap) (hg:AllBare s'.gens)
  (BS:∀ b∈ch,(b∈X.ex\/X.s₀.heap.objs.size<=b)/\b≠X.env.locals/\(∀ x c,X.env.cells.lookup x=↑c->c≠b)/\∀ p∈X.pn++Ek,p.1≠b):Inv X Ek O H' s':=by
 let#[h',g',d',t',o']:=s';have e:o'=s.os:=ho;subst e;show I.call (g':=g') (t':=t') (d':=d') u zl hg BS
end
abbrev XK:=Value->Option Addr->Hp->Prop
abbrev St:=List (Option V)
abbrev VK:=V->Hp->Prop
abbrev TE:=St->Hp->VK->Prop
abbrev TT:=St->Hp->(Bool->Hp->Prop)->Prop
abbrev TA:=St->Hp->(List V->Hp->Prop)->Prop
structure Ends where
 nx:St->Hp->Prop
 rt:VK
 bk:St->Hp->Prop:=λ _ _=>False
 ct:St->Hp->Prop:=λ _ _=>False
abbrev TS:=Ends->St->Hp->Prop
def EP (X:Cx) (Ek:Ah) (O:St) (Q:VK) (u:Value) (s':Shared):Prop:=∃ v H',Inv X Ek O H' s'/\RelV v u/\Q v H'
def TP (X:Cx) (Ek:Ah) (O:St) (Q:Bool->Hp->Prop) (b:Bool) (s':Shared):Prop:=∃ H',Inv X Ek O H' s'/\Q b H'
def AP (X:Cx) (Ek:Ah) (O:St) (Q:List V->Hp->Prop) (us:Ad) (s':Shared):Prop:=∃ vs H',Inv X Ek O H' s'/\Vals vs us/\Q vs H'
def SP (X:Cx) (Ek:Ah) (D:Ends) (f:Flow) (s':Shared):Prop:=
 match f with
 | .next=>∃ O' H',Inv X Ek O' H' s'/\D.nx O' H'
 | .brk=>∃ O' H',Inv X Ek O' H' s'/\D.bk O' H'
 | .cont=>∃ O' H',Inv X Ek O' H' s'/\D.ct O' H'
 | .ret u=>∃ v O' H',Inv X Ek O' H' s'/\RelV v u/\D.rt v H'
def PE (X:Cx) (e:Expr) (t:TE):Prop:=
 ∀ (Ek:Ah) (s:Shared) (O:St) (H:Hp) (Q:VK),Inv X Ek O H s->t O H Q->wpAny (model X.prog X.w) X.A (eval e X.env) (EP X Ek O Q) X.xe s
def PT (X:Cx) (e:Expr) (t:TT):Prop:=
 ∀ (Ek:Ah) (s:Shared) (O:St) (H:Hp) (Q:Bool->Hp->Prop),Inv X Ek O H s->t O H Q->wpAny (model X.prog X.w) X.A (isTrue e X.env (eval e X.env)) (TP X Ek O Q) X.xe s
def PW (X:Cx) (e:Expr) (t:TT):Prop:=
 ∀ (whole:Sem Value) (Ek:Ah) (s:Shared) (O:St) (H:Hp) (Q:Bool->Hp->Prop),Inv X Ek O H s->t O H Q->wpAny (model X.prog X.w) X.A (isTrue e X.env whole) (TP X Ek O Q) X.xe s
def PW.pt {X:Cx}{e:Expr}{t:TT}(h:PW X e t):PT X e t:=h _
def PA (X:Cx) (es:List Expr) (t:TA):Prop:=
 ∀ (pos:Pos) (Ek:Ah) (s:Shared) (O:St) (H:Hp) (Q:List V->Hp->Prop),Inv X Ek O H s->t O H Q->wpAny (model X.prog X.w) X.A (spliced (backTo pos (starEach es X.env))) (AP X Ek O Q) X.xe s
def PS (X:Cx) (st:Stmt) (t:TS):Prop:=
 ∀ (Ek:Ah) (s:Shared) (O:St) (H:Hp) (D:Ends),Inv X Ek O H s->t D O H->wpAny (model X.prog X.w) X.A (exec st X.env) (SP X Ek D) X.xe s
def xC (X:Cx) (st:List Stmt) (t:TS):Prop:=
 ∀ (Ek:Ah) (s:Shared) (O:St) (H:Hp) (D:Ends),Inv X Ek O H s->t D O H->wpAny (model X.prog X.w) X.A (execs st X.env) (SP X Ek D) X.xe s
def zt {α:Type}{t:Sem α}{Q Q':α->Shared->Prop}{M:Model}{A:Around}{E:Af}{s:Shared}(h:wpAny M A t Q E s) (hQ:∀ a s,Q a s->Q' a s):wpAny M A t Q' E s:=JK h hQ λ _ _ x=>x
section
variable {X:Cx}
def qS (i:Nat):TE:=fun O H Q=>∃ v,O[i]?=↑↑v/\Q v H
def tC (v:V):TE:=λ _ H Q=>Q v H
def ej {i:Nat}{x:Str}{pos:Pos}(hN:X.N[i]?=↑x) (hv:qB X.env.scope x) (hd:(x == ("__debug__":Str))=false:=by decide) (A7:(x == ("__classdict__":Str))=false:=by decide):PE X (.Name x pos) (qS i):=by
 intro Ek s O H Q I h;let#[v,e,h]:=h;let#[m,hn,hl]:=I.loc;let#[u,r,l]:=hl i x v hN e hv;have fin:EP X Ek O Q u s:=#[v,H,I,r,h];rcases l with ⟨hk,hm⟩ | ⟨hk,c,hc,F4⟩
 .show wpAny_Name (wpAny_loadName_local I.ok.kind hk hn hm fin) hd
 .rcases hk with hk | hk
  .show wpAny_Name (wpAny_loadName_cell I.ok.kind hk hc F4 fin) hd
  .show wpAny_Name (wpAny_loadName_free I.ok.kind hk hc F4 fin A7) hd
def W7 {i j pos}:PE X (.Constant (.int i) j pos) (tC (.int i)):=λ _ _ _ H _ I h=>wpAny_Constant_int #[.int i,H,I.tok _,#[_,rfl],h]
def WC {b j pos}:PE X (.Constant (.bool b) j pos) (tC (.bl b)):=λ _ _ _ H _ I h=>Constant_bool #[.bl b,H,I,rfl,h]
def W3 {j pos}:PE X (.Constant .none j pos) (tC .zk):=λ _ _ _ H _ I h=>Constant_none #[.zk,H,I,rfl,h]
def Wx {x j pos}:PE X (.Constant (.str x) j pos) (tC (.str x)):=λ _ _ _ H _ I h=>Calls.Constant_str #[.str x,H,I.tok _,#[_,rfl],h]
def Gl (X:Cx) (x:Str):Prop:=X.env.kindOf x=↑.globalImplicit
def ql {E:Af}{Ek:Ah}{s:Shared}{O:St}{H:Hp}{x:Str}{u:Value}{pos:Pos}{Q:Af}(I:Inv X Ek O H s) (hg:Gl X x) (hm:X.mg x=↑u) (h:Q u s)
  (hd:(x == ("__debug__":Str))=false:=by decide):wpAny (model X.prog X.w) X.A (eval (.Name x pos) X.env) Q E s:=
 Calls.Name_function_global I.ok.kind hg (Calls.loadGlobal_global (by rw[I.ok.glob];show I.mod.glob.keeps I.bk) hm h) hd
def qm {E:Af}{Ek:Ah}{s:Shared}{O:St}{H:Hp}{x:Str}{u:Value}{pos:Pos}{Q:Af}(I:Inv X Ek O H s) (hg:Gl X x) (hm:X.mg x=none) (hv:bootBuiltins x=↑u) (h:Q u s)
  (hn:x≠"__name__":=by decide) (hd:(x == ("__debug__":Str))=false:=by decide):wpAny (model X.prog X.w) X.A (eval (.Name x pos) X.env) Q E s:=by
 let#[mb,h1,h2]:=I.mod.blt;show Calls.Name_function_global I.ok.kind hg (Calls.loadGlobal_builtin (by rw[I.ok.glob];show I.mod.glob.keeps I.bk) hm (by rw[I.ok.blt];show h1.keeps I.bk) ((h2 x hn).trans hv) h) hd
def nV {x:Str}{v:V}{u:Value}{pos:Pos}(hg:Gl X x) (hm:X.mg x=↑u) (r:RelV v u) (hd:(x == ("__debug__":Str))=false:=by decide):PE X (.Name x pos) (tC v):=
 λ _ _ _ H _ I h=>ql I hg hm #[v,H,I,r,h] hd
def ez {x:Str}{v:V}{u:Value}{pos:Pos}(hg:Gl X x) (hm:X.mg x=none) (hv:bootBuiltins x=↑u) (r:RelV v u) (hn:x≠"__name__":=by decide) (hd:(x == ("__debug__":Str))=false:=by decide):PE X (.Name x pos) (tC v):=
 λ _ _ _ H _ I h=>qm I hg hm hv #[v,H,I,r,h] hn hd
variable {a b:Expr}{ta tb:TE}{pos:Pos}
variable {tA Io:TT}{En:List Expr}
def Y7 (t u:TT):TT:=fun O H Q=>t O H λ c H1=>if c=true then u O H1 Q else Q false H1
def Yy (t u:TT):TT:=fun O H Q=>t O H λ c H1=>if c=true then Q true H1 else u O H1 Q
def Y0 (t:TT):TT:=fun O H Q=>t O H λ c H1=>Q (!c) H1
def X7 (ha:PT X a tA):PW X (.BoolOp .And [a] pos) tA:=by
 intro wh Ek s O H Q I h;exact isTrue_and (zt (ha Ek s O H Q I h) λ c s1 e=>?_);cases c with
 | true=>show isTrue_and_nil e
 | false=>show e
def X5 (ha:PT X a tA):PW X (.BoolOp .Or [a] pos) tA:=by
 intro wh Ek s O H Q I h;exact isTrue_or (zt (ha Ek s O H Q I h) λ c s1 e=>?_);cases c with
 | false=>show isTrue_or_nil e
 | true=>show e
def X8 (ha:PT X a tA) (hb:PW X (.BoolOp .And (b::En) pos) Io):PW X (.BoolOp .And (a::b::En) pos) (Y7 tA Io):=by
 intro wh Ek s O H Q I h;exact isTrue_and (zt (ha Ek s O H _ I h) λ c s1 #[H1,I1,q1]=>?_);cases c with
 | true=>show hb wh Ek s1 O H1 Q I1 q1
 | false=>show#[H1,I1,q1]
def X6 (ha:PT X a tA) (hb:PW X (.BoolOp .Or (b::En) pos) Io):PW X (.BoolOp .Or (a::b::En) pos) (Yy tA Io):=by
 intro wh Ek s O H Q I h;exact isTrue_or (zt (ha Ek s O H _ I h) λ c s1 #[H1,I1,q1]=>?_);cases c with
 | true=>show#[H1,I1,q1]
 | false=>show hb wh Ek s1 O H1 Q I1 q1
def XE (ha:PT X a tA):PT X (.UnaryOp .Not a pos) (Y0 tA):=by
 intro Ek s O H Q I h;show isTrue_not (ha Ek s O H (λ c H1=>Q (!c) H1) I h)
def Y6 (ta tb:TE):TE:=fun O H Q=>ta O H λ x H1=>∃ c,x=.bl c/\if c=true then tb O H1 Q else Q (.bl false) H1
def Yz (ta:TE):TE:=fun O H Q=>ta O H λ x H1=>∃ c,x=.bl c/\Q (.bl (!c)) H1
def W0 {op} {t:TE}(h:PE X a t):PE X (.BoolOp op [a] pos) t:=λ Ek s O H Q I hw=>BoolOp_one (h Ek s O H Q I hw)
def WD (ha:PE X a ta) (hb:PE X (.BoolOp .And (b::En) pos) tb):PE X (.BoolOp .And (a::b::En) pos) (Y6 ta tb):=by
 intro Ek s O H Q I h;exact BoolOp_and (zt (ha Ek s O H _ I h) λ v s1 #[x,H1,I1,r1,q1]=>?_);let#[c,rfl,q1]:=q1;cases r1;exact JV ?_;cases c with
 | true=>show hb Ek s1 O H1 Q I1 q1
 | false=>show#[.bl false,H1,I1,rfl,q1]
def W2 (ha:PE X a ta):PE X (.UnaryOp .Not a pos) (Yz ta):=by
 intro Ek s O H Q I h;exact UnaryOp_ (zt (ha Ek s O H _ I h) λ v s1 #[x,H1,I1,r1,q1]=>?_);let#[c,rfl,q1]:=q1;cases r1;show not_of (JV #[.bl (!c),H1,I1,rfl,q1])
end
def zA (K:Ab) (H:Hp) (a:Addr) (xs:List V):Prop:=
 Rd H a (.lst xs)\/
  ∃ (o:Obj) (its:Av) (n:Nat),K.lookup a=↑o/\o.cls=.type "list"/\o.dict=none/\o.data=.seq its n/\its.size<=sizeLine/\Vals xs its.toList
def zE (K:Ab) (H:Hp) (a:Addr) (xs:List V):Prop:=
 Rd H a (.tup xs)\/
  ∃ (o:Obj) (its:Av) (n:Nat),K.lookup a=↑o/\(o.cls=.type "tuple"/\o.dict=none)/\o.data=.seq its n/\its.size<=sizeLine/\Vals xs its.toList
def OE:Value->Option V
 | .none=>↑.zk
 | .bool b=>↑(.bl b)
 | .int i _=>↑(.int i)
 | .str x _=>↑(.str x)
 | .bytes b _=>↑(.mF b)
 | .float b _=>↑(.cQ b)
 | .ref a=>↑(.ref a)
 | .type n=>↑(.ty n)
 | _=>none
def RelV.abs {x:V}{u:Value}(r:RelV x u):OE u=↑x:=by
 cases x with
 | zk=>cases r;rfl
 | bl _=>cases r;rfl
 | ref _=>cases r;rfl
 | ty _=>cases r;rfl
 | _=>let#[t,rfl]:=r;rfl
theorem RelV.inj {x y:V}{u:Value}(r:RelV x u) (q:RelV y u):x=y:=Bh (r.abs.symm.trans q.abs)
theorem Vals.inj:∀ {xs ys:List V}{us:Ad},Vals xs us->Vals ys us->xs=ys
 | _,_,_,.nil,.nil=>rfl
 | _,_,_,.cons r t,.cons r' t'=>by rw[r.inj r',Vals.inj t t']
section
variable {X:Cx}{Ek:Ah}{O:St}{H:Hp}{s:Shared}{a:Addr}{xs ys:List V}
def zA.of {K:Ab}(h:H a=↑(.lst xs)):zA K H a xs:=.inl (.inl h)
def zE.of {K:Ab}(h:H a=↑(.tup xs)):zE K H a xs:=.inl (.inl h)
def Inv.list (I:Inv X Ek O H s) (h:zA X.K H a xs):∃ its:List Value,Vals xs its/\PlainL s.heap a its.toArray/\xs.length<=sizeLine:=by
 rcases h with h | ⟨o,its,n,hk,hc,hd,hs,hz,r⟩
 .let#[z,its,n,r,e]:=h.ok I.zl;show#[its,r,#[_,n,e,rfl,rfl,rfl],z]
 .exact#[its.toList,r,#[o,n,I.yx a o hk,hc,hd,by exists hs],?_];have e:=r.length;simp![Bl] at e;lia
def Inv.tuple (I:Inv X Ek O H s) (h:zE X.K H a xs):∃ its:List Value,Vals xs its/\IsTup s.heap a its.toArray/\xs.length<=sizeLine:=by
 rcases h with h | ⟨o,its,n,hk,hc,hs,hz,r⟩
 .let#[z,its,r,p]:=h.ok I.zl;show#[its,r,p,z.1]
 .exact#[its.toList,r,#[o,I.yx a o hk,hc.1,n,by exists hs],?_];have e:=r.length;simp![Bl] at e;lia
def Inv.kS (I:Inv X Ek O H s) (h:zA X.K H a xs) (h':zA X.K H a ys):xs=ys:=by
 let#[its,r,#[o,n,e,_,_,d],_]:=I.list h;let#[AL,r',#[o',n',e',_,_,d'],_]:=I.list h';rw[e] at e';cases e';rw[d] at d'
 injection d' with d1 _
 have:its=AL:=by exists congrArg Array.toList d1
 subst this;show r.inj r'
def Inv.lO (I:Inv X Ek O H s) (h:zE X.K H a xs) (h':zE X.K H a ys):xs=ys:=by
 let#[its,r,#[o,e,_,n,d],_]:=I.tuple h;let#[AL,r',#[o',e',_,n',d'],_]:=I.tuple h';rw[e] at e';cases e';rw[d] at d'
 injection d' with d1 _
 have:its=AL:=by exists congrArg Array.toList d1
 subst this;show r.inj r'
end
abbrev Cx.uF (X:Cx) (E:Af):Cx:={ X with xe:=E }
abbrev Cx.yW (X:Cx):Cx:=X.uF λ _ _=>False
theorem Cx.Ok.uF {X:Cx}(ok:X.Ok) (E:Af):(X.uF E).Ok:=
 #[ok.mod,ok.kind,ok.glob,ok.blt,ok.above,ok.inj,ok.has,ok.rH,ok.hd,ok.frames,ok.qb,ok.p_,ok.bs,ok.tM,ok.rm,ok.r0,ok.vt,ok.sh]
def Cx.Ok.r_ {X:Cx}{E:Af}(ok:(X.uF E).Ok):X.Ok:=
 #[ok.mod,ok.kind,ok.glob,ok.blt,ok.above,ok.inj,ok.has,ok.rH,ok.hd,ok.frames,ok.qb,ok.p_,ok.bs,ok.tM,ok.rm,ok.r0,ok.vt,ok.sh]
section
variable {X:Cx}{Ek:Ah}{O:St}{H:Hp}{s:Shared}{E:Af}
theorem Inv.uF (I:Inv X Ek O H s) (E:Af):Inv (X.uF E) Ek O H s:=#[I.ok.uF E,I.os,I.bare,I.base,I.loc,I.cell,I.free,I.wA,I.pin,I.zl,I.len]
theorem Inv.r_ (I:Inv (X.uF E) Ek O H s):Inv X Ek O H s:=#[I.ok.r_,I.os,I.bare,I.base,I.loc,I.cell,I.free,I.wA,I.pin,I.zl,I.len]
theorem SP.r_ {D:Ends}{f:Flow}{s':Shared}(h:SP (X.uF E) Ek D f s'):SP X Ek D f s':=by
 cases f with
 | ret u=>let#[v,O',H',I,r,q]:=h;show#[v,O',H',I.r_,r,q]
 | _=>let#[O',H',I,q]:=h;show#[O',H',I.r_,q]
theorem xC.yW {st:List Stmt}{t:TS}(h:xC X.yW st t):xC X st t:=λ Ek s O H D I hw=>
 JK (h Ek s O H D (I.uF _) hw) (λ _ _ q=>q.r_) λ _ _ z=>False.elim z
end
section
variable {X:Cx}{st:Stmt}{En:List Stmt}{t u:TS}{e:Expr}{te:TE}{pos:Pos}
def Y2:TS:=λ D O H=>D.nx O H
def Yu (t u:TS):TS:=λ D O H=>t { D with nx:=u D } O H
def XH:xC X [] Y2:=λ _ _ O H _ I h=>JZ #[O,H,I,h]
def XI (h1:PS X st t) (h2:xC X En u):xC X (st::En) (Yu t u):=by
 intro Ek s O H D I h;exact J_ (zt (h1 Ek s O H { D with nx:=u D } I h) λ f s1 q=>?_);cases f with
 | next=>
  let#[O',H',I',q]:=q;show h2 Ek s1 O' H' D I' q
 | ret v=>show q
 | _=>show q
def fV (h1:PS X st t):xC X [st] t:=by
 intro Ek s O H D I h;exact J_ (zt (h1 Ek s O H D I h) λ f s1 q=>?_);cases f with
 | next=>show JZ q
 | ret v=>show q
 | _=>show q
def Inv.quiet {Ek:Ah}{O:St}{H:Hp}{s:Shared}(I:Inv X Ek O H s):interactive X.env=false:=by simp[interactive,I.ok.kind]
def g9 (te:TE):TS:=λ D O H=>te O H λ _ H1=>D.nx O H1
def XR (he:PE X e te) (hs:swapsWith e none pos.line X.env=pure false:=by rfl):PS X (.Expr e pos) (g9 te):=by
 intro Ek s O H D I h;show wpAny_Expr_any (zt (he Ek s O H _ I h) λ v s1 #[x,H1,I1,r1,q1]=>#[O,H1,I1,q1]) I.quiet hs
def Yv (te:TE):TS:=λ D O H=>te O H D.rt
def XM (he:PE X e te):PS X (.Return ↑e pos) (Yv te):=by
 intro Ek s O H D I h;show wpAny_Return_some (zt (he Ek s O H _ I h) λ v s1 #[x,H1,I1,r1,q1]=>#[x,O,H1,I1,r1,q1])
def gz (c:TT) (t u:TS):TS:=λ D O H=>c O H λ b H1=>if b=true then t D O H1 else u D O H1
def XO {c:Expr}{a b:List Stmt}{tc:TT}(hc:PT X c tc) (ha:xC X a t) (hb:xC X b u):PS X (.If c a b pos) (gz tc t u):=by
 intro Ek s O H D I h;exact wpAny_If (zt (hc Ek s O H _ I h) λ d s1 #[H1,I1,q1]=>?_);cases d with
 | true=>show ha Ek s1 O H1 D I1 q1
 | false=>show hb Ek s1 O H1 D I1 q1
end
abbrev TG:=V->St->Hp->(St->Hp->Prop)->Prop
abbrev tQ:=List V->St->Hp->(St->Hp->Prop)->Prop
def PG (X:Cx) (target:Expr) (t:TG):Prop:=
 ∀ (Ek:Ah) (s:Shared) (O:St) (H:Hp) (v:V) (u:Value) (Q:St->Hp->Prop),Inv X Ek O H s->RelV v u->t v O H Q->
  wpAny (model X.prog X.w) X.A (assign target X.env u) (λ _ s'=>∃ O' H',Inv X Ek O' H' s'/\Q O' H') X.xe s
def uW (X:Cx) (ts:List Expr) (t:tQ):Prop:=
 ∀ (Ek:Ah) (s:Shared) (O:St) (H:Hp) (vs:List V) (us:Ad) (Q:St->Hp->Prop),Inv X Ek O H s->Vals vs us->t vs O H Q->
  wpAny (model X.prog X.w) X.A (assignInOrder ((assignEach ts X.env).map (·.2)) us) (λ _ s'=>∃ O' H',Inv X Ek O' H' s'/\Q O' H') X.xe s
abbrev ia:=V->V->V->Hp->(Hp->Prop)->Prop
def ax (X:Cx) (t:ia):Prop:=
 ∀ (Ek:Ah) (s:Shared) (O:St) (H:Hp) (o i v:V) (ov iv u:Value) (Q:Hp->Prop),Inv X Ek O H s->RelV o ov->RelV i iv->RelV v u->t o i v H Q->
  wpAny (model X.prog X.w) X.A (setItem ov iv u) (λ _ s'=>∃ H',Inv X Ek O H' s'/\Q H') X.xe s
section
variable {X:Cx}{pos:Pos}
def mz (i:Nat):TG:=λ v O H Q=>Q (O.set i ↑v) H
def Wk {i:Nat}{x:Str}(hN:X.N.Nodup) (hi:X.N[i]?=↑x) (hx:Loc X.env.scope x) (hf:X.fn x=true\/X.env.scope.names.lookup x=↑.local:=by first | show .inl rfl | show .inr rfl | assumption):PG X (.Name x pos) (mz i):=by
 intro Ek s O H v u Q I r h;show wpAny_assign_Name (nu I hN hi hx r (λ s' I'=>#[_,H,I',h]) hf)
def QS:tQ:=λ vs O H Q=>vs=[]/\Q O H
def QT (t:TG) (u:tQ):tQ:=λ vs O H Q=>∃ v r,vs=v::r/\t v O H fun O' H'=>u r O' H' Q
def Wg:uW X [] QS:=by
 intro Ek s O H vs us Q I r h;let#[e,h]:=h;subst e;cases r;show assignInOrder_nil #[O,H,I,h]
def Wh {e:Expr}{es:List Expr}{t:TG}{u:tQ}(h1:PG X e t) (h2:uW X es u)
  (hs:(assignEach (e::es) X.env).map (·.2)=assign e X.env::(assignEach es X.env).map (·.2):=by rfl):uW X (e::es) (QT t u):=by
 intro Ek s O H vs us Q I r h;let#[v,vr,e1,h]:=h;subst e1;cases r with
 | cons r rr=>
  rw[hs];exact assignInOrder_cons (zt (h1 Ek s O H _ _ _ I r h) λ _ s1 #[O1,H1,I1,q1]=>?_);show h2 Ek s1 O1 H1 _ _ Q I1 rr q1
def cC (K:Ab) (n:Nat) (t:tQ):TG:=λ v O H Q=>∃ a xs,v=.ref a/\zE K H a xs/\xs.length=n/\t xs O H Q
def Wi {es:List Expr}{k:Nat}{t:tQ}{n:Nat}(hc:X.calm=true) (h:uW X es t)
  (hn:(assignEach es X.env).length=n:=by rfl) (AJ:(assignEach es X.env).findIdx? (·.1)=none:=by rfl):PG X (.Tuple es k pos) (cC X.K n t):=by
 intro Ek s O H v u Q I r hw;let#[a,xs,e1,hq,hl,hw]:=hw;subst e1;cases r;let#[its,rv,ht,hz]:=I.tuple hq;exact assign_Tuple_tuple (I.ok.hd hc) ht (by simp[hn,<- hl,rv.length]) AJ λ h' hx=>?_;have I1:Inv X Ek O H { s with heap:=h' }:=I.kept (t':=s.toks) λ b o e=>hx b o (AI (Ar e)) e;show h Ek _ O H xs _ Q I1 (by exists rv) hw
def QR (to ti:TE) (t:ia):TG:=λ v O H Q=>to O H λ o H1=>ti O H1 λ i H2=>t o i v H2 λ H3=>Q O H3
def Wj {o i:Expr}{to ti:TE}{t:ia}(ho:PE X o to) (hi:PE X i ti) (hs:ax X t)
  (ha:∀ v,assign (.Subscript o i pos) X.env v=(do
   let ov <- holding [v] (eval o X.env)
   let iv <- holding [v,ov] (eval i X.env)
   standAt pos
   holding [v,ov,iv] (setItem ov iv v)
   release [v,ov,iv] []):=by intro _;rfl):PG X (.Subscript o i pos) (QR to ti t):=by
 intro Ek s O H v u Q I r h;rw[ha];exact IC (JO (zt (ho Ek s O H _ I h) λ ov s1 #[x,H1,I1,r1,q1]=>?_));exact IC (JO (zt (hi Ek s1 O H1 _ I1 q1) λ iv s2 #[y,H2,I2,r2,q2]=>?_));exact IC (wpAny_standAt (IC (JO (zt (hs Ek s2 O H2 x y v ov iv u _ I2 r1 r2 r q2) λ _ s3 #[H3,I3,q3]=>?_))));show wpAny_release #[O,H3,I3,q3]
def lR (te:TE) (g:TG):TS:=λ D O H=>te O H λ x H1=>g x O H1 D.nx
def XS {tg e:Expr}{te:TE}{g:TG}(he:PE X e te) (hg:PG X tg g) (hs:swapsWithSole [tg] e pos.line X.env=pure false:=by rfl) (hw:swappedStores [tg] e X.env=pure none:=by rfl)
  (h1:(assignEach [tg] X.env).map (·.2)=[assign tg X.env]:=by rfl):PS X (.Assign [tg] e pos) (lR te g):=by
 intro Ek s O H D I h;exact wpAny_Assign_stores (zt (he Ek s O H _ I h) λ v s1 #[x,H1,I1,r1,q1]=>?_) hs hw;rw[h1];show zt (hg Ek s1 O H1 x v _ I1 r1 q1) λ _ s2 q=>q
def fW {i:Nat}{x:Str}{e:Expr}{te:TE}{pos':Pos}(hN:X.N.Nodup) (hi:X.N[i]?=↑x) (hx:Loc X.env.scope x) (he:PE X e te) (hs:swapsWith e ↑(.Name x pos') pos.line X.env=pure false:=by rfl) (hf:X.fn x=true\/X.env.scope.names.lookup x=↑.local:=by first | show .inl rfl | show .inr rfl | assumption):
  PS X (.Assign [.Name x pos'] e pos) (lR te (mz i)):=by
 intro Ek s O H D I h;exact wpAny_Assign_Name (zt (he Ek s O H _ I h) λ v s1 #[y,H1,I1,r1,q1]=>?_) hs;show nu I1 hN hi hx r1 (λ s2 I2=>#[_,H1,I2,q1]) hf
end
structure It where
 go:Nat->Hp->Prop
 rZ:Nat->Hp->V->Hp->Prop
 stop:Nat->Hp->Prop
def vD (X:Cx) (Ek:Ah) (H:Hp) (b:Addr):Prop:=
 H b=none/\b≠X.env.locals/\b∉X.fs/\(b∈X.ex\/X.s₀.heap.objs.size<=b)/\(∀ x c,X.env.cells.lookup x=↑c->c≠b)/\∀ p∈X.pn++Ek,p.1≠b
theorem Inv.jo {X:Cx}{Ek:Ah}{O:St}{H H':Hp}{s:Shared}{b:Addr}(I:Inv X Ek O H s) (hb:s.heap.objs.size<=b) (hn:H' b=none):vD X Ek H' b:=by
 exact#[hn,Bk (A_ I.lt hb),I.df hb,.inr (AF I.sz hb),λ x c e z=>?_,λ p hp z=>?_]
 .let#[v,q]:=I.cell x c e;show absurd (A_ q.lt (by rw[z];show hb)) (Cb _)
 .show absurd (A_ (Ar (I.pin p hp).1) (by rw[z];show hb)) (Cb _)
structure Turn (P:Program) (w:World) (K:Ab) (tg:Expr) (J:It) (fp:List Addr) (it:Addr) (tn:Nat->Heap->Prop):Prop where
 mem:it∈fp
 obj:∀ i h,tn i h->∀ b∈fp,∃ o,h.get? b=↑o/\∀ v,o.data≠.cell v
 keep:∀ i h h',tn i h->(∀ b∈fp,∀ o,h.get? b=↑o->h'.get? b=↑o)->tn i h'
 item:∀ (X:Cx),X.prog=P->X.w=w->X.K=K->X.calm=true->∀ (i:Nat) (Ek:Ah) (s:Shared) (O:St) (H:Hp) (E:Af),Inv X Ek O H s->(∀ b∈fp,vD X Ek H b)->tn i s.heap->J.go i H->
  wpAny (model P w) X.A (pyNext (.ref it)) (λ r s1=>∃ u,r=↑u/\
   wpAny (model P w) X.A (letOwnedTupleGo tg (.ref it) u) (λ _ s2=>∃ x H',Inv X Ek O H' s2/\RelV x u/\J.rZ i H x H'/\tn (i+1) s2.heap/\∀ b∈fp,H' b=none) E s1) E s
 done:∀ (X:Cx),X.prog=P->X.w=w->X.K=K->X.calm=true->∀ (i:Nat) (Ek:Ah) (s:Shared) (O:St) (H:Hp) (E:Af),Inv X Ek O H s->(∀ b∈fp,vD X Ek H b)->tn i s.heap->J.stop i H->
  wpAny (model P w) X.A (pyNext (.ref it)) (λ r s1=>r=none/\Inv X Ek O H s1) E s
 self:∀ (A:Around) (i:Nat) (s:Shared) (Q:Af) (E:Af),tn i s.heap->Q (.ref it) s->wpAny (model P w) A (pyIter (.ref it)) Q E s
abbrev TI:=St->Hp->(It->Hp->Prop)->Prop
def ay (X:Cx) (Ek:Ah) (O:St) (tg:Expr) (R:It->Hp->Prop) (IX:Value) (s2:Shared):Prop:=
 ∃ (it:Addr) (fp:List Addr) (tn:Nat->Heap->Prop) (J:It) (H':Hp),IX=.ref it/\Inv X Ek O H' s2/\Turn X.prog X.w X.K tg J fp it tn/\tn 0 s2.heap/\(∀ b∈fp,vD X Ek H' b)/\R J H'
def PI (X:Cx) (tg iter:Expr) (wi:TI):Prop:=
 ∀ (Ek:Ah) (s:Shared) (O:St) (H:Hp) (R:It->Hp->Prop),Inv X Ek O H s->wi O H R->
  wpAny (model X.prog X.w) X.A (eval iter X.env) (λ v s1=>wpAny (model X.prog X.w) X.A (pyIter v) (ay X Ek O tg R) X.xe s1) X.xe s
def ji {M:Model}{A:Around}{E:Af}{s:Shared}{tg:Expr}{it:Addr}{u:Value}{o:Obj}{n:String}{vs:Av}{Q:Unit->Shared->Prop}(ho:s.heap.get? it=↑o) (hc:o.cls=.type n) (hd:o.data=.fields vs)
  (hn:["enumerate","zip","dict_itemiterator","dict_reverseitemiterator","odict_iterator","itertools.zip_longest","itertools.pairwise"].contains n=false) (hQ:Q Unit.unit s):wpAny M A (letOwnedTupleGo tg (.ref it) u) Q E s:=by
 unfold letOwnedTupleGo;cases tg <;> first
  | show Ac hQ
  | (cases u <;> first
    | show Ac hQ
    | (exact IC (wpAny_load ho ?_)
       rw[hc,hd];change wpAny M A (if (["enumerate","zip","dict_itemiterator","dict_reverseitemiterator","odict_iterator","itertools.zip_longest","itertools.pairwise"].contains n&&vs[0]? == ↑(rawInt _))=true then _ else _) Q E s;rw[if_neg (by intro h;rw[hn,Bool.false_and] at h;cases h)];show Ac hQ))
def aG (K:Ab) (a:Addr):It:=
 #[λ i H=>∃ xs x,zA K H a xs/\xs[i]?=↑x,λ i H x H'=>H'=H/\∀ xs,zA K H a xs->xs[i]?=↑x,λ i H=>∃ xs,zA K H a xs/\xs.length<=i]
def aF (K:Ab) (a:Addr):It:=
 #[λ i H=>∃ xs x,zE K H a xs/\xs[i]?=↑x,λ i H x H'=>H'=H/\∀ xs,zE K H a xs->xs[i]?=↑x,λ i H=>∃ xs,zE K H a xs/\xs.length<=i]
def oM (lo:Int) (n:Nat):It:=#[λ i _=>i<n,λ i H x H'=>H'=H/\x=.int (lo+i),λ i _=>n<=i]
def Yl {P:Program}{w:World}{K:Ab}{tg:Expr}(a it:Addr):Turn P w K tg (aG K a) [it] it (λ i h=>h.IsListIter it a i) where
 mem:=#[]
 obj:=λ i h st b hb=>by
  have e:b=it:=by exists hb
  subst e;let#[o,e,c,d]:=st;show#[o,e,λ v z=>by rw[d] at z;cases z]
 keep:=λ i h h' st k=>st.at λ o e=>k it #[] o e
 item:=by
  intro X hP hw hK hc i Ek s O H E I hf st hg;subst hP hw hK;let#[xs,x,hq,hx]:=hg;let#[its,rv,p,hz]:=I.list hq;let#[u,hu,ru]:=rv.get hx;let#[f0,f1,f2,f3,f4,f5]:=hf it #[];exact wpAny_pyNext_list_item st p.isList (x:=u) (by exists hu) λ h' FV sb=>?_;have I1:Inv X Ek O H { s with heap:=h' }:=I.turned (t':=s.toks) (λ b o hb e=>(sb.2 b hb).trans e) f0 f1 f3 f4 f5;let#[o,e,c,d]:=id FV;show#[u,rfl,ji (s:={ s with heap:=h' }) e c d () #[x,H,I1,ru,#[rfl,λ ys hy=>by rw[I.kS hy hq];show hx],FV,λ b hb=>(hf b hb).1]]
 done:=by
  intro X hP hw hK hc i Ek s O H E I hf st hg;subst hP hw hK;let#[xs,hq,hx]:=hg;let#[its,rv,p,hz]:=I.list hq;let#[f0,f1,f2,f3,f4,f5]:=hf it #[];have hl:=rv.length;show wpAny_pyNext_list_end (I.ok.hd hc) st p.isList (by simp;lia) λ h' eb=>#[rfl,I.turned (t':=s.toks) (λ b o hb e=>eb b o hb e) f0 f1 f3 f4 f5]
 self:=λ _ _ _ _ _ st h=>wpAny_pyIter_listiter st h
def Yj {P:Program}{w:World}{K:Ab}{tg:Expr}(a it:Addr):Turn P w K tg (aF K a) [it] it (λ i h=>h.IsTupleIter it a i) where
 mem:=#[]
 obj:=λ i h st b hb=>by
  have e:b=it:=by exists hb
  subst e;let#[o,e,c,d]:=st;show#[o,e,λ v z=>by rw[d] at z;cases z]
 keep:=λ i h h' st k=>st.at λ o e=>k it #[] o e
 item:=by
  intro X hP hw hK hc i Ek s O H E I hf st hg;subst hP hw hK;let#[xs,x,hq,hx]:=hg;let#[its,rv,p,hz]:=I.tuple hq;let#[u,hu,ru]:=rv.get hx;let#[f0,f1,f2,f3,f4,f5]:=hf it #[];exact wpAny_pyNext_tuple_item st (show s.heap.IsTuple a its.toArray from p) (x:=u) (by exists hu) λ h' FV sb=>?_;have I1:Inv X Ek O H { s with heap:=h' }:=I.turned (t':=s.toks) (λ b o hb e=>(sb.2 b hb).trans e) f0 f1 f3 f4 f5;let#[o,e,c,d]:=id FV;show#[u,rfl,ji (s:={ s with heap:=h' }) e c d () #[x,H,I1,ru,#[rfl,λ ys hy=>by rw[I.lO hy hq];show hx],FV,λ b hb=>(hf b hb).1]]
 done:=by
  intro X hP hw hK hc i Ek s O H E I hf st hg;subst hP hw hK;let#[xs,hq,hx]:=hg;let#[its,rv,p,hz]:=I.tuple hq;let#[f0,f1,f2,f3,f4,f5]:=hf it #[];have hl:=rv.length;show wpAny_pyNext_tuple_end (I.ok.hd hc) st (show s.heap.IsTuple a its.toArray from p) (by simp;lia) λ h' eb=>#[rfl,I.turned (t':=s.toks) (λ b o hb e=>eb b o hb e) f0 f1 f3 f4 f5]
 self:=λ _ _ _ _ _ st h=>wpAny_pyIter_tupleiter st h
def Yk {P:Program}{w:World}{K:Ab}{tg:Expr}(it:Addr) (lo:Int) (n:Nat):Turn P w K tg (oM lo n) [it] it (λ i h=>IsRangeIter h it (lo+(i:Nat)*1) ((n:Int)-(i:Nat)) 1) where
 mem:=#[]
 obj:=λ i h st b hb=>by
  have e:b=it:=by exists hb
  subst e;show#[_,st,λ v z=>by
   have z':Data.fields _=Data.cell v:=z;cases z']
 keep:=λ i h h' st k=>k it #[] _ st
 item:=by
  intro X hP hw hK hc i Ek s O H E I hf st hg;subst hP hw hK;let#[f0,f1,f2,f3,f4,f5]:=hf it #[];have W:=Walks.range (prog:=X.prog) (w:=X.w) (I.ok.hd hc) it lo 1 n;exact W.item i s _ _ hg st λ v h' tk hv FV kk=>?_;let#[t,rfl]:=hv;have I1:Inv X Ek O H { s with heap:=h',toks:=tk }:=I.turned (λ b o hb e=>kk b o (by exists hb) e) f0 f1 f3 f4 f5;exact#[_,rfl,ji (s:={ s with heap:=h',toks:=tk }) (n:="range_iterator") FV rfl rfl () #[.int (lo+i),H,I1,#[t,?_],#[rfl,rfl],FV,λ b hb=>(hf b hb).1]];rw[Int.mul_one]
 done:=by
  intro X hP hw hK hc i Ek s O H E I hf st hg;subst hP hw hK;let#[f0,f1,f2,f3,f4,f5]:=hf it #[];show wpAny_pyNext_range_end (I.ok.hd hc) st (by have:n<=i:=hg;lia) λ h' eb=>#[rfl,I.turned (t':=s.toks) (λ b o hb e=>eb b o hb e) f0 f1 f3 f4 f5]
 self:=λ _ _ _ _ _ st h=>wpAny_pyIter_rangeiter st h
section
variable {X:Cx}{tg:Expr}
def f9 {Ek:Ah}{O:St}{H:Hp}{s:Shared}{R:It->Hp->Prop}{E:Af}{lo hi:Int}{t u v:Tok}{tk:Nat}(I:Inv X Ek O H s) (h1:-(2 ^ 62)<=lo) (h2:lo<2 ^ 62) (h3:-(2 ^ 62)<=hi) (h4:hi<2 ^ 62)
  (q:R (oM lo (hi-lo).toNat) H):wpAny (model X.prog X.w) X.A (pyIter (.ref s.heap.objs.size)) (ay X Ek O tg R) E { s with heap:=s.heap.push { cls:=.type "range",data:=.fields [.int lo t,.int hi u,.int 1 v].toArray },toks:=tk }:=by
 exact wpAny_pyIter_range (IsRange.new ..) (small_one h1 h2 h3 h4) ?_;have I1:Inv X Ek O H { s with heap:=s.heap.push { cls:=.type "range",data:=.fields [.int lo t,.int hi u,.int 1 v].toArray },toks:=tk }:=I.kept λ b o e=>JH _ e;exact#[(s.heap.push { cls:=.type "range",data:=.fields [.int lo t,.int hi u,.int 1 v].toArray }).objs.size,[(s.heap.push { cls:=.type "range",data:=.fields [.int lo t,.int hi u,.int 1 v].toArray }).objs.size],_,_,H,rfl,
  I1.kept (t':=tk) λ b o e=>JH _ e,Yk _ lo (hi-lo).toNat,?_,λ b hb=>?_,q]
 .have e1:lo+((0:Nat):Int)*1=lo:=#[];have e2:(((hi-lo).toNat:Nat):Int)-((0:Nat):Int)=Builtin.Range.rangeSize lo hi 1:=by rw[rangeSize_one];split <;> lia
  change IsRangeIter _ _ (lo+((0:Nat):Int)*1) ((((hi-lo).toNat:Nat):Int)-((0:Nat):Int)) 1;rw[e1,e2];show AQ _ rfl
 .have e:b=(s.heap.push { cls:=.type "range",data:=.fields [.int lo t,.int hi u,.int 1 v].toArray }).objs.size:=by exists hb
  subst e;show I1.jo (Aj _) (I1.zl.fresh (Aj _))
def cx (ta:TA):TI:=fun O H R=>ta O H λ vs H1=>∃ j:Int,vs=[.int j]/\-(2 ^ 62)<=j/\j<2 ^ 62/\R (oM 0 j.toNat) H1
def cw (ta:TA):TI:=fun O H R=>ta O H λ vs H1=>∃ i j:Int,vs=[.int i,.int j]/\(-(2 ^ 62)<=i/\i<2 ^ 62/\-(2 ^ 62)<=j/\j<2 ^ 62)/\R (oM i (j-i).toNat) H1
theorem Wf {a:Expr}{ta:TA}{p pos:Pos}(hg:Gl X "range") (hm:X.mg "range"=none) (ha:PA X [a] ta) (hs:starEach [a] X.env=[(false,eval a X.env)]:=by rfl):PI X tg (.Call (.Name "range" p) [a] [] pos) (cx ta):=by
 intro Ek s O H R I h;exact Call_ (qm I hg hm boot_range (PyProof.Rows.callWith_type1 (zt (ha pos Ek s O H _ I h) λ us s1 #[vs,H1,I1,r1,q1]=>?_) hs rfl));let#[j,e,q1,q2,q]:=q1;subst e;cases r1 with
 | cons r rr=>
  cases rr;let#[t,rfl]:=r;show call_range_1 (f9 I1 ⋯ ⋯ q1 q2 (by exists q))
theorem We {a b:Expr}{ta:TA}{p pos:Pos}(hg:Gl X "range") (hm:X.mg "range"=none) (ha:PA X [a,b] ta) (hs:starEach [a,b] X.env=[(false,eval a X.env),(false,eval b X.env)]:=by rfl) (Gg:starEach [b] X.env=[(false,eval b X.env)]:=by rfl):
  PI X tg (.Call (.Name "range" p) [a,b] [] pos) (cw ta):=by
 intro Ek s O H R I h;exact Call_ (qm I hg hm boot_range (PyProof.Rows.callWith_type1 (zt (ha pos Ek s O H _ I h) λ us s1 #[vs,H1,I1,r1,q1]=>?_) (by rw[hs,Gg]) (by rw[Gg];rfl)));let#[i,j,e,#[q1,q2,q3,q4],q]:=q1;subst e;cases r1 with
 | cons r rr=>
  cases rr with
  | cons r' rr=>
   cases rr;let#[t,rfl]:=r;let#[t',rfl]:=r';show call_range_2 (f9 I1 q1 q2 q3 q4 q)
def Y5 (wi:TI) (g:TG) (tb:TS):TS:=λ D O H=>wi O H λ J H1=>∃ W:Nat->Nat->St->Hp->Prop,(∃ m,W 0 m O H1)/\∀ i m O H,W i m O H->
 (J.stop i H/\D.nx O H)\/(J.go i H/\∃ N:St->Hp->Prop,(∀ O' H',N O' H'->∃ m',m'<m/\W (i+1) m' O' H')/\∀ x H',J.rZ i H x H'->g x O H' fun O2 H2=>tb { D with nx:=N,ct:=N,bk:=D.nx } O2 H2)
def pk (fp:List Addr) (h:Heap):Ah:=fp.filterMap λ b=>(h.get? b).map λ o=>(b,o)
def md {fp:List Addr}{h:Heap}{b:Addr}{o:Obj}(hb:b∈fp) (e:h.get? b=↑o):(b,o)∈pk fp h:=Cw.mpr #[b,hb,by rw[e];rfl]
def Rr {fp:List Addr}{h:Heap}{p:Addr×Obj}(hp:p∈pk fp h):p.1∈fp/\h.get? p.1=↑p.2:=by
 let#[b,hb,e]:=Cw.mp hp;cases q:h.get? b with
 | none=>rw[q] at e;cases e
 | some o=>
  rw[q] at e;have e':(b,o)=p:=Bh e;subst e';show#[hb,q]
def Inv.pinned {Ek:Ah}{O:St}{H:Hp}{s:Shared}{fp:List Addr}(I:Inv X Ek O H s) (hf:∀ b∈fp,vD X Ek H b) (ho:∀ b∈fp,∃ o,s.heap.get? b=↑o/\∀ v,o.data≠.cell v):Inv X (Ek++pk fp s.heap) O H s:=
 I.kx λ p hp=>(AV.mp hp).elim (λ z=>I.pin p (Bb _ z)) λ z=>by
  let#[hb,e]:=Rr z;let#[f0,f1,f2,_]:=hf p.1 hb;let#[o,e',d]:=ho p.1 hb;rw[e] at e';cases e';show#[e,f0,f1,f2,d]
def Inv.qR {Ek pl:Ah}{O:St}{H:Hp}{s:Shared}(I:Inv X (Ek++pl) O H s):Inv X Ek O H s:=I.kx λ p hp=>I.pin p (Bb _ (CY _ hp))
def XQ {iter:Expr}{body:List Stmt}{wi:TI}{g:TG}{tb:TS}{pos:Pos}(hp:PassesOwn (model X.prog X.w) X.A X.env X.xe) (hc:X.calm=true) (hi:PI X tg iter wi) (hg:PG X tg g) (hb:xC X body tb)
  (hs:∀ x,foldedSetIterable iter X.env x=pure x:=by intro _;rfl):PS X (.For tg iter body [] pos) (Y5 wi g tb):=by
 intro Ek s O H D I h;exact wpAny_For (zt (hi Ek s O H _ I h) λ v s1 h1=>zt h1 λ IX s2 h2=>?_) hs;let#[it,fp,tn,J,H2,e,I2,T,IH,f2,W,#[m0,w0],turn]:=h2;subst e;have F8:∀ {H':Hp},(∀ b∈fp,H' b=none)->∀ b∈fp,vD X Ek H' b:=λ hn b hb=>#[hn b hb,(f2 b hb).2];exact codeAny_forLoop_any (λ n s'=>∃ i O' H',Inv X Ek O' H' s'/\tn i s'.heap/\(∀ b∈fp,H' b=none)/\W i n O' H') ?_ m0 #[0,O,H2,I2,IH,λ b hb=>(f2 b hb).1,w0];rintro n s3 ⟨i,O3,H3,I3,Hy,HY,w3⟩;rcases turn i n O3 H3 w3 with ⟨stop,qn⟩ | ⟨go,N,hN,step⟩
 .exact J9 hp (zt (T.done X rfl rfl rfl hc i Ek s3 O3 H3 X.xe I3 (F8 HY) Hy stop) λ r s4 #[hr,I4]=>?_);subst hr;show JZ #[O3,H3,I4,qn]
 .exact J9 hp (zt (T.item X rfl rfl rfl hc i Ek s3 O3 H3 X.xe I3 (F8 HY) Hy go) λ r s4 #[u,hr,h4]=>?_);subst hr;exact J9 hp (zt h4 λ _ s5 #[x,H5,I5,r5,y5,G4,JA]=>?_);have JG:=I5.pinned (F8 JA) (T.obj _ _ G4);exact J9 hp (zt (hg _ s5 O3 H5 x u _ JG r5 (step x H5 y5)) λ _ s6 #[O6,H6,I6,q6]=>?_);exact J9 hp (zt (hb _ s6 O6 H6 _ I6 q6) λ f s7 q7=>?_);have again:∀ {O7:St}{H7:Hp},Inv X (Ek++pk fp s5.heap) O7 H7 s7->N O7 H7->∃ m,m<n/\∃ i O' H',Inv X Ek O' H' s7/\tn i s7.heap/\(∀ b∈fp,H' b=none)/\W i m O' H':=λ{O7 H7} I7 n7=>by
   let#[m',hm,w7]:=hN O7 H7 n7;exact#[m',hm,i+1,O7,H7,I7.qR,T.keep _ _ _ G4 λ b hb o e=>(I7.pin (b,o) (Bb _ (Bb _ (md hb e)))).1,λ b hb=>?_,w7];let#[o,e,d]:=T.obj _ _ G4 b hb;show (I7.pin (b,o) (Bb _ (Bb _ (md hb e)))).2.1
  cases f with
  | brk=>let#[O7,H7,I7,q7]:=q7;show#[O7,H7,I7.qR,q7]
  | ret v=>let#[x7,O7,H7,I7,r7,q7]:=q7;show#[x7,O7,H7,I7.qR,r7,q7]
  | _=>let#[O7,H7,I7,n7]:=q7;show again I7 n7
end
abbrev R2:=V->V->Hp->VK->Prop
def zR (X:Cx) (f:Value->Value->Sem Value) (r:R2):Prop:=
 ∀ (Ek:Ah) (s:Shared) (O:St) (H:Hp) (x y:V) (v u:Value) (Q:VK),Inv X Ek O H s->RelV x v->RelV y u->r x y H Q->
  wpAny (model X.prog X.w) X.A (f v u) (EP X Ek O Q) X.xe s
def jZ (X:Cx) (f:Value->Sem Value) (r:V->Hp->VK->Prop):Prop:=
 ∀ (Ek:Ah) (s:Shared) (O:St) (H:Hp) (x:V) (v:Value) (Q:VK),Inv X Ek O H s->RelV x v->r x H Q->
  wpAny (model X.prog X.w) X.A (f v) (EP X Ek O Q) X.xe s
def yM (X:Cx) (f:Value) (r:List V->Hp->VK->Prop):Prop:=
 ∀ (Ek:Ah) (s:Shared) (O:St) (H:Hp) (xs:List V) (us:Ad) (Q:VK),Inv X Ek O H s->Vals xs us->r xs H Q->
  wpAny (model X.prog X.w) X.A (call f us) (EP X Ek O Q) X.xe s
def OG (X:Cx) (r:V->Hp->(Bool->Hp->Prop)->Prop):Prop:=
 ∀ (Ek:Ah) (s:Shared) (O:St) (H:Hp) (x:V) (v:Value) (Q:Bool->Hp->Prop),Inv X Ek O H s->RelV x v->r x H Q->
  wpAny (model X.prog X.w) X.A (truthy v) (TP X Ek O Q) X.xe s
def qT (r:R2) (ta tb:TE):TE:=fun O H Q=>ta O H λ x H1=>tb O H1 λ y H2=>r x y H2 Q
def Yr (r:V->Hp->VK->Prop) (ta:TE):TE:=fun O H Q=>ta O H λ x H1=>r x H1 Q
def rI (C:Int->Int->Prop) (g:Int->Int->V):R2:=λ x y H Q=>∃ i j,x=.int i/\y=.int j/\C i j/\Q (g i j) H
def vO (g:Int->Int->V):R2:=λ x y H Q=>∃ i j,x=.int i/\y=.int j/\Q (g i j) H
def rU (g:Int->V):V->Hp->VK->Prop:=λ x H Q=>∃ i,x=.int i/\Q (g i) H
section
variable {X:Cx}{a b:Expr}{ta tb:TE}{pos:Pos}
def jM (ha:PE X a ta) (hb:PE X b tb) {Ek:Ah}{s:Shared}{O:St}{H:Hp}{R:V->V->Hp->Prop}(I:Inv X Ek O H s)
  (h:ta O H λ x H1=>tb O H1 λ y H2=>R x y H2) {Q:Af}{f:Value->Value->Sem Value}
  (hf:∀ v u s2 x y H2,Inv X Ek O H2 s2->RelV x v->RelV y u->R x y H2->wpAny (model X.prog X.w) X.A (f v u) Q X.xe s2):
  wpAny (model X.prog X.w) X.A (eval a X.env) (λ v s₁=>wpAny (model X.prog X.w) X.A (eval b X.env) (λ u s₂=>wpAny (model X.prog X.w) X.A (f v u) Q X.xe s₂) X.xe s₁) X.xe s:=by
 exact zt (ha Ek s O H _ I h) λ v s1 #[x,H1,I1,r1,q1]=>?_;exact zt (hb Ek s1 O H1 _ I1 q1) λ u s2 #[y,H2,I2,r2,q2]=>?_;show hf v u s2 x y H2 I2 r1 r2 q2
def Wz {op:Operator}{r:R2}(ho:zR X (binaryOp op) r) (ha:PE X a ta) (hb:PE X b tb):PE X (.BinOp a op b pos) (qT r ta tb):=by
 intro Ek s O H Q I h;show wpAny_BinOp (jM ha hb I h λ v u s2 x y H2 I2 rx ry q=>ho Ek s2 O H2 x y v u Q I2 rx ry q)
def Wv {op:UnaryOp}{r:V->Hp->VK->Prop}(ho:jZ X (unaryOp op) r) (ha:PE X a ta):PE X (.UnaryOp op a pos) (Yr r ta):=by
 intro Ek s O H Q I h;show UnaryOp_ (zt (ha Ek s O H _ I h) λ v s1 #[x,H1,I1,r1,q1]=>ho Ek s1 O H1 x v Q I1 r1 q1)
def pG {f:Value->Value->Sem Value}{C:Int->Int->Prop}{g:Int->Int->Int}
  (rule:∀ (i j:Int) (t u:Tok) (s:Shared) (Q:Af) (E:Af),C i j->Q (.int (g i j) s.toks) { s with toks:=s.toks+1 }->wpAny (model X.prog X.w) X.A (f (.int i t) (.int j u)) Q E s):
  zR X f (rI C λ i j=>.int (g i j)):=by
 intro Ek s O H x y v u Q I rx ry h;let#[i,j,rfl,rfl,hc,q]:=h;let#[t,rfl]:=rx;let#[t',rfl]:=ry;show rule i j t t' s _ _ hc #[.int (g i j),H,I.tok _,#[_,rfl],q]
def kD {f:Value->Value->Sem Value}{g:Int->Int->Int}
  (rule:∀ (i j:Int) (t u:Tok) (s:Shared) (Q:Af) (E:Af),Q (.int (g i j) s.toks) { s with toks:=s.toks+1 }->wpAny (model X.prog X.w) X.A (f (.int i t) (.int j u)) Q E s):
  zR X f (vO λ i j=>.int (g i j)):=by
 intro Ek s O H x y v u Q I rx ry h;let#[i,j,rfl,rfl,q]:=h;let#[t,rfl]:=rx;let#[t',rfl]:=ry;show rule i j t t' s _ _ #[.int (g i j),H,I.tok _,#[_,rfl],q]
def eT {f:Value->Value->Sem Value}{g:Int->Int->Bool}
  (rule:∀ (i j:Int) (t u:Tok) (s:Shared) (Q:Af) (E:Af),Q (.bool (g i j)) s->wpAny (model X.prog X.w) X.A (f (.int i t) (.int j u)) Q E s):
  zR X f (vO λ i j=>.bl (g i j)):=by
 intro Ek s O H x y v u Q I rx ry h;let#[i,j,rfl,rfl,q]:=h;let#[t,rfl]:=rx;let#[t',rfl]:=ry;show rule i j t t' s _ _ #[.bl (g i j),H,I,rfl,q]
def yA (i j:Int):Prop:=0<j/\j<1073741824
def sR (i j:Int):Prop:=0<=j/\j<=1000000/\i.natAbs<2 ^ 64
def wg (i j:Int):Prop:=(-(2 ^ 64)<i/\i<2 ^ 64)\/(-(2 ^ 64)<j/\j<2 ^ 64)
def wg.ok {i j:Int}(h:wg i j):IntMulOk i j:=by
 rcases h with ⟨h1,h2⟩ | ⟨h1,h2⟩
 .show .of_left (intBits_le_64 h1 h2)
 .show .of_right (intBits_le_64 h1 h2)
def Yg (k:Nat):(0:Int)<=2 ^ k:=by
 rw[two_pow_cast];show Int.natCast_nonneg _
def UY:zR X (binaryOp .Add) (vO λ i j=>.int (i+j)):=kD λ _ _ _ _ _ _ _ q=>add_int q
def UH:zR X (binaryOp .Sub) (vO λ i j=>.int (i-j)):=kD λ _ _ _ _ _ _ _ q=>sub_int q
def UN:zR X (binaryOp .Mult) (rI wg λ i j=>.int (i*j)):=pG λ _ _ _ _ _ _ _ hc q=>mul_int q hc.ok
def UR:zR X (binaryOp .FloorDiv) (rI yA λ i j=>.int (i/j)):=pG λ i j _ _ _ _ _ hc q=>by
 have h1:(0:Int)<j:=hc.1;have h2:j<1073741824:=hc.2;show floordiv_int ⋯ (by rw[Int.fdiv_eq_ediv_of_nonneg i ⋯];show q) (.inl (PyProof.noPylong_small ⋯))
def UO:zR X (binaryOp .Mod) (rI (λ _ j=>0<j) λ i j=>.int (i%j)):=pG λ i j _ _ _ _ _ hc q=>by
 have h1:(0:Int)<j:=hc;show mod_int' ⋯ (by rw[Int.fmod_eq_emod_of_nonneg i ⋯];show q)
def UJ:zR X (binaryOp .Pow) (rI sR λ i j=>.int (i ^ j.toNat)):=pG λ _ _ _ _ _ _ _ hc q=>pow_int_small hc.1 hc.2.1 hc.2.2 q
def UI:zR X (binaryOp .RShift) (rI (λ _ j=>0<=j) λ i j=>.int (i/2 ^ j.toNat)):=pG λ i j _ _ _ _ _ hc q=>
 rshift_int hc (by rw[Int.fdiv_eq_ediv_of_nonneg i (Yg _)];show q)
def UW:zR X (binaryOp .BitAnd) (vO λ i j=>.int (Builtin.bitAnd i j)):=kD λ _ _ _ _ _ _ _ q=>and_int q
def Yd {f:Value->Sem Value}{g:Int->Int}
  (rule:∀ (i:Int) (t:Tok) (s:Shared) (Q:Af) (E:Af),Q (.int (g i) s.toks) { s with toks:=s.toks+1 }->wpAny (model X.prog X.w) X.A (f (.int i t)) Q E s):
  jZ X f (rU λ i=>.int (g i)):=by
 intro Ek s O H x v Q I rx h;let#[i,rfl,q]:=h;let#[t,rfl]:=rx;show rule i t s _ _ #[.int (g i),H,I.tok _,#[_,rfl],q]
def Yc:jZ X (unaryOp .USub) (rU λ i=>.int (-i)):=Yd λ _ _ _ _ _ q=>neg_int q
end
section
variable {X:Cx}{a b c:Expr}{ta tb tc:TE}{pos:Pos}
def Pb {Ek:Ah}{O:St}{H:Hp}{s:Shared}{Q:VK}{k k':Bool}(I:Inv X Ek O H s) (q:Q (.bl k) H) (e:k=k'):EP X Ek O Q (.bool k') s:=by
 subst e;show#[.bl k,H,I,rfl,q]
def UQ:zR X (compareOp .Lt) (vO λ i j=>.bl (decide (i<j))):=eT λ _ _ _ _ _ _ _ q=>lt_int q
def pF:zR X (compareOp .LtE) (vO λ i j=>.bl (decide (i<=j))):=eT λ _ _ _ _ _ _ _ q=>le_int q
def eP:zR X (compareOp .Is) (λ x y H Q=>y=.zk/\Q (.bl (decide (x=.zk))) H):=by
 intro Ek s O H x y v u Q I rx ry h;let#[rfl,q]:=h;cases ry;exact is_none_gen (Pb I q ?_);cases x <;> first
  | (cases rx;rfl)
  | (let#[t,rfl]:=rx;rfl)
def zR.or {f:Value->Value->Sem Value}{r r':R2}(h:zR X f r) (h':zR X f r'):zR X f (λ x y H Q=>r x y H Q\/r' x y H Q):=by
 intro Ek s O H x y v u Q I rx ry q;rcases q with q | q
 .show h Ek s O H x y v u Q I rx ry q
 .show h' Ek s O H x y v u Q I rx ry q
def se (b:Expr) {op:CmpOp}(h:op≠.In:=by decide) (h2:op≠.NotIn:=by decide):behindInMarks op b=false:=by
 have e1:(op == CmpOp.In)=false:=by cases op <;> first | rfl | show absurd rfl h
 have e2:(op == CmpOp.NotIn)=false:=by cases op <;> first | rfl | show absurd rfl h2
 cases b <;> simp[behindInMarks,e1,e2]
def W9 {op:CmpOp}{r:R2}(ho:zR X (compareOp op) r) (ha:PE X a ta) (hb:PE X b tb) (hm:behindInMarks op b=false):PE X (.Compare a [op] [b] pos) (qT r ta tb):=by
 intro Ek s O H Q I h;show wpAny_Compare1 (jM ha hb I h λ v u s2 x y H2 I2 rx ry q=>ho Ek s2 O H2 x y v u Q I2 rx ry q) hm
def gx (t:TE):TT:=fun O H Q=>t O H λ x H'=>∃ k,x=.bl k/\Q k H'
def XF {op:CmpOp}{r:R2}(ho:zR X (compareOp op) r) (ha:PE X a ta) (hb:PE X b tb) (hm:behindInMarks op b=false):PT X (.Compare a [op] [b] pos) (gx (qT r ta tb)):=by
 intro Ek s O H Q I h;exact wpAny_isTrue_Compare1 (zt (ha Ek s O H _ I h) λ v s1 #[x,H1,I1,r1,q1]=>zt (hb Ek s1 O H1 _ I1 q1) λ u s2 #[y,H2,I2,r2,q2]=>
  zt (ho Ek s2 O H2 x y v u _ I2 r1 r2 q2) λ c s3 #[z,H3,I3,r3,k,e,q3]=>?_) hm
 subst e;cases r3;show JV #[H3,I3,q3]
def lQ (r r':R2) (ta tb tc:TE):TE:=fun O H Q=>ta O H λ x H1=>tb O H1 λ y H2=>r x y H2 λ z H3=>∃ k,z=.bl k/\
 (if k=true then tc O H3 λ w' H4=>r' y w' H4 Q else Q (.bl false) H3)
def WA {op F_:CmpOp}{r r':R2}(ho:zR X (compareOp op) r) (E9:zR X (compareOp F_) r') (ha:PE X a ta) (hb:PE X b tb) (hc:PE X c tc)
  (hm:lastMarks [op,F_] [b,c]=false:=by with_unfolding_all rfl):PE X (.Compare a [op,F_] [b,c] pos) (lQ r r' ta tb tc):=by
 intro Ek s O H Q I h;exact Compare_chain (zt (ha Ek s O H _ I h) λ v s1 #[x,H1,I1,r1,q1]=>chain_link (zt (hb Ek s1 O H1 _ I1 q1) λ u s2 #[y,H2,I2,r2,q2]=>
  zt (ho Ek s2 O H2 x y v u _ I2 r1 r2 q2) λ d s3 #[z,H3,I3,r3,k,e,q3]=>?_)) hm
 subst e;cases r3;exact JV ?_;cases k with
 | false=>show ite_ff #[.bl false,H3,I3,rfl,q3]
 | true=>show ite_tt (chain_last (zt (hc Ek s3 O H3 _ I3 q3) λ w' s4 #[z',H4,I4,r4,q4]=>E9 Ek s4 O H4 y z' u w' Q I4 r2 r4 q4))
def XG {op F_:CmpOp}{r r':R2}(ho:zR X (compareOp op) r) (E9:zR X (compareOp F_) r') (ha:PE X a ta) (hb:PE X b tb) (hc:PE X c tc)
  (hm:lastMarks [op,F_] [b,c]=false:=by with_unfolding_all rfl):PT X (.Compare a [op,F_] [b,c] pos) (gx (lQ r r' ta tb tc)):=by
 intro Ek s O H Q I h;exact isTrue_chain (zt (ha Ek s O H _ I h) λ v s1 #[x,H1,I1,r1,q1]=>test_link (zt (hb Ek s1 O H1 _ I1 q1) λ u s2 #[y,H2,I2,r2,q2]=>
  zt (ho Ek s2 O H2 x y v u _ I2 r1 r2 q2) λ d s3 #[z,H3,I3,r3,k,e,q3]=>?_)) hm
 subst e;cases r3;exact JV ?_;cases k with
 | false=>
  let#[k',e',q']:=q3;cases e';show ite_ff #[H3,I3,q']
 | true=>
  exact ite_tt (test_last (zt (hc Ek s3 O H3 _ I3 q3) λ w' s4 #[z',H4,I4,r4,q4]=>zt (E9 Ek s4 O H4 y z' u w' _ I4 r2 r4 q4) λ d' s5 #[z2,H5,I5,r5,k2,e2,q5]=>?_));subst e2;cases r5;show JV #[H5,I5,q5]
def j_ (K:Ab) (x:V) (H:Hp) (k:Bool):Prop:=
 match x with
 | .zk=>k=false
 | .bl b=>k=b
 | .int i=>k=(i != 0)
 | .str y=>y.length<=sizeLine/\k=((y.length:Int) != 0)
 | .mF y=>y.size<=sizeLine/\k=((y.size:Int) != 0)
 | .ref p=>(∃ xs,zA K H p xs/\k=!xs.isEmpty)\/(∃ xs,zE K H p xs/\k=!xs.isEmpty)\/∃ Al,H p=↑(.dK Al)/\k=!Al.isEmpty
 | _=>False
def Qt {κ:Type}{Al:List (κ × V)}{vs:List (κ × Value)}(r:KV Al vs):(!vs.isEmpty)=!Al.isEmpty:=by
 cases r <;> rfl
def dU {xs:List V}{its:Ad}(r:Vals xs its):(!its.toArray.isEmpty)=!xs.isEmpty:=by
 cases r <;> simp
def rq:(sizeLine:Nat)<2 ^ 63:=by rw[sizeLine_eq];decide
theorem Yp:OG X (λ x H Q=>∃ k,j_ X.K x H k/\Q k H):=by
 intro Ek s O H x v Q I rx h;let#[k,e,q]:=h;have hl:=rq;have hs:sizeLine=16777216:=sizeLine_eq;cases x with
 | zk=>
  cases rx;have e':k=false:=e;subst e';show truthy_none #[H,I,q]
 | bl b=>
  cases rx;have e':k=b:=e;subst e';show JV #[H,I,q]
 | int i=>
  let#[t,rfl]:=rx;have e':k=(i != 0):=e;subst e';show PySem.P.truthy_int #[H,I,q]
 | str y=>
  let#[t,rfl]:=rx;obtain⟨hy,e'⟩:y.length<=sizeLine/\k=((y.length:Int) != 0):=e;subst e';show PySem.P.truthy_str ⋯ #[H,I.tok _,q]
 | mF y=>
  let#[t,rfl]:=rx;obtain⟨hy,e'⟩:y.size<=sizeLine/\k=((y.size:Int) != 0):=e;subst e';show PySem.W.truthy_bytes ⋯ #[H,I.tok _,q]
 | ref p=>
  cases rx;have e':(∃ xs,zA X.K H p xs/\k=!xs.isEmpty)\/(∃ xs,zE X.K H p xs/\k=!xs.isEmpty)\/∃ Al,H p=↑(.dK Al)/\k=!Al.isEmpty:=e;rcases e' with ⟨xs,hx,e'⟩ | ⟨xs,hx,e'⟩ | ⟨Al,hx,e'⟩
  .subst e';let#[its,r,pl,hz]:=I.list hx;have hlen:=r.length;show wpAny_truthy_list pl.isList (by simp![Ax];lia) #[H,I.tok _,by rw[dU r];show q]
  .subst e';let#[its,r,pl,hz]:=I.tuple hx;have hlen:=r.length;show truthy_tuple pl (by simp![Ax];lia) #[H,I.tok _,by rw[dU r];show q]
  .subst e';obtain⟨hz,hS,vs,r,m⟩:Al.length<=sizeLine/\(p == sysModules)=false/\∃ vs,KV Al vs/\s.heap.DictOf (kO X.prog X.w) p vs:=I.zl p _ hx;have hlen:Al.length=vs.length:=Paired.length r;show wpAny_truthy_dict hS m ⋯ #[H,I.tok _,by rw[Qt r];show q]
 | _=>show (show False from e).elim
def XD (ha:PE X a ta) (he:∀ whole,isTrue a X.env whole=(do let v <- whole;standAt a.pos;holding [v] (truthy v))):
  PT X a (fun O H Q=>ta O H λ x H'=>∃ k,j_ X.K x H' k/\Q k H'):=by
 intro Ek s O H Q I h;show isTrue_plain (zt (ha Ek s O H _ I h) λ v s1 #[x,H1,I1,r1,q1]=>Yp Ek s1 O H1 x v Q I1 r1 q1) (he _)
def UX:zR X (binaryOp .Add) (λ x y H Q=>∃ i j,x=.str i/\y=.str j/\i.length+j.length<=sizeLine/\Q (.str (i++j)) H):=by
 intro Ek s O H x y v u Q I rx ry h;let#[i,j,rfl,rfl,hz,q]:=h;let#[t,rfl]:=rx;let#[t',rfl]:=ry;show add_str (λ t' tk=>#[.str (i++j),H,I.tok _,#[_,rfl],q]) hz
def vals1 {x:V}{us:Ad}(r:Vals [x] us):∃ u,us=[u]/\RelV x u:=by
 cases r with
 | cons r1 r2=>cases r2;show#[_,rfl,r1]
def vals2 {x y:V}{us:Ad}(r:Vals [x,y] us):∃ u w',us=[u,w']/\RelV x u/\RelV y w':=by
 cases r with
 | cons r1 r2=>
  cases r2 with
  | cons r3 r4=>cases r4;show#[_,_,rfl,r1,r3]
end
structure zQ (k:Nat) (A:Around):Prop where
 hd:A.handled=none
 dp:A.depth+3*k+5<recursionLimit
 un:A.units+16*k+200<cLine
def zQ.mono {j k:Nat}{A:Around}(r:zQ k A) (h:j<=k):zQ j A:=#[r.hd,by have:=r.dp;lia,by have:=r.un;lia]
theorem zQ.deeper {k:Nat}{A:Around}(r:zQ (k+1) A) (env:Env):zQ k (A.deeper env):=
 #[r.hd,by have:=r.dp;change A.depth+1+3*k+5<_;lia,by have:=r.un;change A.units+3+16*k+200<_;lia]
theorem zQ.depth {k:Nat}{A:Around}(r:zQ k A):A.depth<recursionLimit:=by have:=r.dp;lia
theorem zQ.units {k:Nat}{A:Around}(r:zQ k A):A.units+64<cLine:=by have:=r.un;lia
def qU:TA:=λ _ H Q=>Q [] H
def qV (ta:TE) (tr:TA):TA:=fun O H Q=>ta O H λ x H1=>tr O H1 λ xs H2=>Q (x::xs) H2
section
variable {X:Cx}{e:Expr}{es:List Expr}{te:TE}{t:TA}{pos:Pos}
def t7:PA X [] qU:=λ _ _ _ _ H Q I h=>Calls.spliced_nil #[[],H,I,.nil,h]
def uI (ha:PE X e te) (hr:PA X es t) (hs:Aq X e es:=by rfl):PA X (e::es) (qV te t):=by
 intro pos Ek s O H Q I h;rw[hs];change wpAny _ _ (spliced ((false,eval e X.env)::backTo pos (starEach es X.env))) _ _ s;exact Calls.spliced_cons (zt (ha Ek s O H _ I h) λ u s1 #[x,H1,I1,r1,q1]=>?_);show zt (hr pos Ek s1 O H1 _ I1 q1) λ us s2 #[xs,H2,I2,r2,q2]=>#[x::xs,H2,I2,.cons r1 r2,q2]
def Ys (t:TA):TE:=fun O H Q=>t O H λ xs H1=>xs.length<=sizeLine/\∀ p,H1 p=none->Q (.ref p) (upd H1 p (.tup xs))
def Y3 (t:TA):TE:=fun O H Q=>t O H λ xs H1=>xs.length<=sizeLine/\∀ p,H1 p=none->Q (.ref p) (upd H1 p (.lst xs))
def Ww {x1} (h:PA X es t):PE X (.Tuple es x1 pos) (Ys t):=by
 intro Ek s O H Q I hq;exact wpAny_Tuple_spliced (zt (h pos Ek s O H _ I hq) λ us s1 #[xs,H1,I1,r,z,q]=>#[by rw[<- r.length];show z,?_]);have hf:H1 s1.heap.objs.size=none:=I1.zl.fresh (Aj _);exact#[.ref s1.heap.objs.size,upd H1 s1.heap.objs.size (.tup xs),I1.laid (t':=s1.toks) (λ b u e=>JH _ e) (Aj _) ?_,rfl,q _ hf];show#[#[z,.new _],us,r,#[_,AQ _ rfl,rfl,_,rfl]]
def W4 (h:PA X es t):PE X (.List es pos) (Y3 t):=by
 intro Ek s O H Q I hq;exact wpAny_List_spliced (zt (h pos Ek s O H _ I hq) λ us s1 #[xs,H1,I1,r,z,q]=>#[by rw[<- r.length];show z,?_]);have hf:H1 s1.heap.objs.size=none:=I1.zl.fresh (Aj _);exact#[.ref s1.heap.objs.size,upd H1 s1.heap.objs.size (.lst xs),I1.laid (t':=s1.toks) (λ b u e=>JH _ e) (Aj _) ?_,rfl,q _ hf];show#[z,us,0,r,AQ _ rfl]
end
abbrev Sp:=List V->Hp->VK->XK->Prop
abbrev vh:=List Env->Hp->Shared->XK->Value->Shared->Prop
structure l9 (P:Program) (w:World) (K:Ab) (mg:Au) (base:Heap) (A:Around) (outer:List Env) (s:Shared) (H:Hp):Prop where
 frames:A.frames=↑outer
 mod:Mod K mg base
 bs:∀ b o,base.get? b=↑o->s.heap.get? b=↑o/\H b=none
 tM:base.objs.size<=s.heap.objs.size
 vt:s.heap.FunFrames base outer
 sh:∀ b∈y6 outer,H b=none
 zl:ye P w H s.heap
 bare:AllBare s.gens
def CE (outer:List Env) (P:Program) (w:World) (H:Hp) (s:Shared) (Q:VK) (u:Value) (s':Shared):Prop:=
 ∃ v H',s'.os=s.os/\AllBare s'.gens/\Un (y6 outer) [] H H' s.heap s'.heap/\ye P w H' s'.heap/\RelV v u/\Q v H'
def CR (CX:vh) (outer:List Env) (P:Program) (w:World) (H:Hp) (s:Shared) (Q:VK) (E:XK) (r:Result) (s':Shared):Prop:=
 match r with
 | .ok (.ret u)=>CE outer P w H s Q u s'
 | .ok _=>False
 | .error e=>CX outer H s E e s'
structure yL (P:Program) (w:World) (K:Ab) (mg:Au) (base:Heap) (CX:vh) (k:Nat) (f:Addr) (fd:FuncData) (ps:List Str) (sp:Sp):Prop where
 len:∀ vs H Q E,sp vs H Q E->vs.length=ps.length
 run:∀ (A:Around) (outer:List Env) (s:Shared) (H:Hp) (args:Args) (us:Ad) (vs:List V) (Q:VK) (E:XK),zQ k A->l9 P w K mg base A outer s H->BindsTo s fd args (ps.zip us)->Vals vs us->sp vs H Q E->
  codeAny (model P w) A (.call (.ref f) args) (CR CX outer P w H s Q E) s
def yL.imp {P:Program}{w:World}{K:Ab}{mg:Au}{base:Heap}{CX:vh}{k:Nat}{f:Addr}{fd:FuncData}{ps:List Str}{sp sp':Sp}(F:yL P w K mg base CX k f fd ps sp)
  (h:∀ vs H Q E,sp' vs H Q E->sp vs H Q E):yL P w K mg base CX k f fd ps sp':=
 #[λ vs H Q E q=>F.len vs H Q E (h _ _ _ _ q),λ A outer s H args us vs Q E hr he hb hv hs=>F.run A outer s H args us vs Q E hr he hb hv (h _ _ _ _ hs)]
section
variable {X:Cx}{Ek:Ah}{O:St}{H:Hp}{s s':Shared}
def Inv.cZ (I:Inv X Ek O H s):l9 X.prog X.w X.K X.mg X.base X.A X.stack s H:=
 #[I.ok.frames,I.ok.mod,I.bs,AF I.ok.tM I.sz,I.stack,I.lV,I.zl,I.bare]
theorem Inv.after {Q:VK}{u:Value}(I:Inv X Ek O H s) (h:CE X.stack X.prog X.w H s Q u s'):EP X Ek O Q u s':=by
 let#[v,H',os,bare,un,zl,r,q]:=h;let#[hh,g,d,t,G6]:=s';obtain rfl:G6=s.os:=os;show#[v,H',I.call (h':=hh) (g':=g) (d':=d) (t':=t) (ch:=[]) un zl bare (λ b z=>absurd z #[]),r,q]
end
def nq (sp:Sp) (GA:List V) (E:XK) (t:TA):TE:=fun O H Q=>t O H λ vs H1=>sp (vs++GA) H1 Q E
def Binds (K:Ab) (fd:FuncData) (ps:List Str) (ds:Ad):Prop:=
 ∀ (s:Shared) (us:Ad),K.In s.heap->(us++ds).length=ps.length->BindsTo s fd #[us,[]] (ps.zip (us++ds))
def Binds.all {K:Ab}{fd:FuncData}{ps:List Str}(h:∀ us:List Value,us.length=ps.length->bindArgs fd #[us,[]]=pure (ps.zip us)):Binds K fd ps []:=λ s us _ hl=>by
 rw[Bx] at hl ⊢;show .of_eq (h us hl)
def Passes (CX:vh) (X:Cx) (E:XK):Prop:=∀ (Ek:Ah) (O:St) (H:Hp) (s:Shared) (e:Value) (s':Shared),Inv X Ek O H s->CX X.stack H s E e s'->X.xe e s'
section
variable {X:Cx}{CX:vh}{k:Nat}{f:Addr}{fd:FuncData}{ps:List Str}{sp:Sp}{GA:List V}{ds:Ad}{E:XK}{x:Str}{p pos:Pos}{e:Expr}{es:List Expr}{t:TA}
def gZ {Ek:Ah}{O:St}{H:Hp}{s:Shared}{Q:VK}{us:Ad}{vs:List V}(F:yL X.prog X.w X.K X.mg X.base CX k f fd ps sp) (hr:zQ k X.A) (hb:Binds X.K fd ps ds) (hd:Vals GA ds) (hx:Passes CX X E)
  (I:Inv X Ek O H s) (r:Vals vs us) (h:sp (vs++GA) H Q E):wpAny (model X.prog X.w) X.A (call (.ref f) us) (EP X Ek O Q) X.xe s:=by
 have r2:Vals (vs++GA) (us++ds):=r.append hd;have hl:(us++ds).length=ps.length:=by rw[<- r2.length];show F.len _ _ _ _ h
 exact wpAny_call (codeAny_mono (F.run X.A X.stack s H #[us,[]] (us++ds) (vs++GA) Q E hr I.cZ (hb s us I.yx hl) r2 h) λ r s' hq=>?_);cases r with
 | error e=>show hx Ek O H s e s' I hq
 | ok fl=>
  cases fl with
  | ret u=>show I.after hq
  | _=>show False.elim hq
def WB (F:yL X.prog X.w X.K X.mg X.base CX k f fd ps sp) (hr:zQ k X.A) (hg:Gl X x) (hm:X.mg x=↑(.ref f)) (hk:PySem.W.keepIn X.K (.ref f)=true) (hb:Binds X.K fd ps ds) (hd:Vals GA ds) (hx:Passes CX X E)
  (ha:PA X (e::es) t) (AR:(x == ("__debug__":Str))=false:=by decide) (he:Aq X e es:=by rfl) (Ap:Ay X pos es:=by rfl):
  PE X (.Call (.Name x p) (e::es) [] pos) (nq sp GA E t):=by
 intro Ek s O H Q I h;exact J7 (ql I hg hm ?_ AR);exact PySem.W.callWith_K (h₀:=X.base) I.ok.mod.qo hk (zt (ha pos Ek s O H _ I h) λ us s1 #[vs,H1,I1,r,q]=>#[I1.yx,?_]) he Ap;show gZ F hr hb hd hx I1 r q
end
structure vE (N P:List Str) (sc:Scope):Prop where
 kind:sc.kind=.function
 co:sc.isCoroutine=false
 gen:sc.isGenerator=false
 nd:N.Nodup
 pre:N.take P.length=P
 par:∀ x∈P,sc.names.lookup x=↑.local\/sc.names.lookup x=↑.cell
 Ry:∀ y∈sc.names,y.2≠.free
theorem bS {kindOf:Str->Option NameKind}{x:Str}:∀ {binds:List (Str×Value)}{m:Au},(∀ v,(x,v)∉binds)->bindL kindOf binds m x=m x
 | [],_,_=>rfl
 | (n,v)::r,m,h=>by
  unfold bindL;rw[bS λ w hw=>h w (AG _ hw)];split
  .have:x≠n:=by rintro rfl;show h v Az
   simp[this]
  .rfl
theorem bU {kindOf:Str->Option NameKind}{x:Str}:∀ {binds:List (Str×Value)}{m:Au},(∀ v,(x,v)∉binds)->bindC kindOf binds m x=m x
 | [],_,_=>rfl
 | (n,v)::r,m,h=>by
  unfold bindC;rw[bU λ w hw=>h w (AG _ hw)];split
  .rfl
  .have:x≠n:=by rintro rfl;show h v Az
   simp[this]
theorem bT {kindOf:Str->Option NameKind}{x:Str}{v:Value}:∀ {P:List Str}{vs:Ad}{i:Nat}{m:Au},P.Nodup->P[i]?=↑x->vs[i]?=↑v->kindOf x=↑.local->
  bindL kindOf (P.zip vs) m x=↑v
 | [],_,_,_,_,h,_,_=>by simp at h
 | _::_,[],_,_,_,_,h,_=>by simp at h
 | p::P,w::vs,0,m,nd,h1,h2,hk=>by
  simp at h1 h2;subst h1;subst h2;change bindL kindOf ((p,w)::P.zip vs) m p=_;unfold bindL;rw[bS λ v hv=>(Bj.mp nd).1 (CW hv).1,if_pos hk];simp
 | p::P,w::vs,i+1,m,nd,h1,h2,hk=>by
  change bindL kindOf ((p,w)::P.zip vs) m x=_;unfold bindL;show bT (i:=i) (Bj.mp nd).2 (by exists h1) (by exists h2) hk
theorem bV {kindOf:Str->Option NameKind}{x:Str}{v:Value}:∀ {P:List Str}{vs:Ad}{i:Nat}{m:Au},P.Nodup->P[i]?=↑x->vs[i]?=↑v->kindOf x≠↑.local->
  bindC kindOf (P.zip vs) m x=↑v
 | [],_,_,_,_,h,_,_=>by simp at h
 | _::_,[],_,_,_,_,h,_=>by simp at h
 | p::P,w::vs,0,m,nd,h1,h2,hk=>by
  simp at h1 h2;subst h1;subst h2;change bindC kindOf ((p,w)::P.zip vs) m p=_;unfold bindC;rw[bU λ v hv=>(Bj.mp nd).1 (CW hv).1,if_neg hk];simp
 | p::P,w::vs,i+1,m,nd,h1,h2,hk=>by
  change bindC kindOf ((p,w)::P.zip vs) m x=_;unfold bindC;show bV (i:=i) (Bj.mp nd).2 (by exists h1) (by exists h2) hk
def start (N:List Str) (vs:List V):St:=vs.map some++List.replicate (N.length-vs.length) none
def yE (CX:vh) (P:Program) (w:World) (K:Ab) (mg:Au) (base:Heap) (N:List Str) (qual:Str) (scope:Scope) (f:Addr) (cd:Value) (A:Around) (outer:List Env) (s:Shared) (H:Hp) (E:XK):Cx where
 prog:=P
 w:=w
 K:=K
 mg:=mg
 base:=base
 A:=A.deeper (envOfC qual scope s.heap.objs.size f cd)
 N:=N
 s₀:=s
 H₀:=H
 env:=envOfC qual scope s.heap.objs.size f cd
 outer:=outer
 stack:=envOfC qual scope s.heap.objs.size f cd::outer
 ex:=[]
 calm:=true
 fn:=λ _=>true
 pn:=[]
 xe:=λ e s'=>wpAny (model P w) (A.deeper (envOfC qual scope s.heap.objs.size f cd)) (leaving (envOfC qual scope s.heap.objs.size f cd) e) (λ _ GJ=>CX outer H s E e GJ) (λ e' GJ=>CX outer H s E e' GJ) s'
def bE {sc:Scope}{n:Nat}{x:Str}(h:sc.names.lookup x=↑.cell):∃ c,(cellsFrom n sc.names []).lookup x=↑c:=by
 have q:=PySem.W.cellsFrom_some sc.names n [] (.inl h);show DT.mp q
def Qy {CX:vh}{P:Program}{w:World}{K:Ab}{mg:Au}{base:Heap}{N ps:List Str}{qual:Str}{scope:Scope}{f:Addr}{cd:Value}{A:Around}{outer:List Env}{s s1:Shared}{H:Hp}{E:XK}{us:Ad}{vs:List V}
  (S:vE N ps scope) (hd:A.handled=none) (e0:l9 P w K mg base A outer s H) (hl:vs.length=ps.length) (r:Vals vs us)
  (x:InCallC s s.heap.objs.size (bindL (envOfC qual scope s.heap.objs.size f cd).kindOf (ps.zip us) λ _=>none) (cellsFrom (s.heap.objs.size+1) scope.names []) (bindC (envOfC qual scope s.heap.objs.size f cd).kindOf (ps.zip us) λ _=>none) s1):
  Inv (yE CX P w K mg base N qual scope f cd A outer s H E) [] (start N vs) H s1:=by
 have Ap:ps.length<=N.length:=by have:=congrArg List.length S.pre;rw[Cv] at this;lia
 let#[h1,tk,rfl,hk]:=x.done;have HD:∀ b:Addr,b∉(yE CX P w K mg base N qual scope f cd A outer s H E).ex:=λ b z=>absurd (show b∈([]:List Addr) from z) #[];exact#[#[e0.mod,S.kind,rfl,rfl,Aj _,λ y z c h1 h2=>?_,λ y hy=>?_,λ y c _ h=>?_,λ _=>hd,Around.frames_deeper e0.frames,.inr #[rfl,rfl],λ b z=>absurd z (HD b),e0.bs,e0.tM,λ b _ _=>HD b,λ b z=>absurd z (HD b),e0.vt,e0.sh],
  rfl,e0.bare,Un.kept hk,#[_,x.toInCall.ns,λ i y v h1 h2 h3=>?_],λ y c h=>#[_,x.cell y c h],e0.zl.fresh (Aj _),λ y c h=>?_,λ p hp=>absurd (show p∈([]:Ah) from hp) #[],e0.zl.kept hk,?_]
 .show name_of_addr x.apart (PySem.mem_of_lookup h1) (PySem.mem_of_lookup h2)
 .have hy:scope.names.lookup y=↑.cell\/scope.names.lookup y=↑.free:=hy;rcases hy with hy | hy
  .show bE hy
  .show absurd rfl (S.Ry _ (PySem.mem_of_lookup hy))
 .show BA (x.above y c (PySem.mem_of_lookup h))
 .have hi:i<vs.length:=by
   unfold start at h2;by_cases hi:i<vs.length
   .show hi
   .rw[CV (by exists hi)] at h2;rw[DS] at h2;split at h2 <;> cases h2
  have ha:vs[i]?=↑v:=by
   unfold start at h2;rw[Ca (by exists hi),A0] at h2;cases e:vs[i]? with
   | none=>rw[e] at h2;cases h2
   | some a=>rw[e] at h2;cases h2;rfl
  let#[u,hu,rv]:=r.get ha;have hp:ps[i]?=↑y:=by
   rw[<- S.pre,List.getElem?_take_of_lt ⋯];show h1
  have ndP:ps.Nodup:=by rw[<- S.pre];show S.nd.sublist (List.take_sublist _ _)
  exact#[u,rv,?_];rcases S.par y (BH hp) with k | k
  .show .inl #[k,bT ndP hp hu k]
  .let#[c,e]:=bE (n:=s.heap.objs.size+1) k;exact .inr #[.inl k,c,e,?_];have q:=x.cell y c e;rw[bV ndP hp hu (by change scope.names.lookup y≠_;rw[k];decide)] at q;show q
 .show e0.zl.fresh (BA (x.above y c (PySem.mem_of_lookup h)))
 .unfold start;change _=N.length;rw[Bg,An,List.length_replicate];lia
def cN {CX:vh}{P:Program}{w:World}{K:Ab}{mg:Au}{base:Heap}{k:Nat}{f:Addr}{name qual:Str}{params:Arguments}{body:List Stmt}{scope:Scope}{dV kV doc pm Ag ct oc:Value}{an od:Option Addr}
  {GK:Array (Option Value)}{N ps:List Str}{sp:Sp}(lk:K.lookup f=↑#[oc,od,.func (PySem.W.fnOf name qual params body scope dV kV doc pm an Ag ct),GK]) (A7:PySem.W.codeIn K Ag qual=true) (S:vE N ps scope)
  (len:∀ vs H Q E,sp vs H Q E->vs.length=ps.length)
  (ED:∀ (A:Around) (outer:List Env) (s:Shared) (H:Hp) (vs:List V) (Q:VK) (E:XK),zQ k (A.deeper (envOfC qual scope s.heap.objs.size f Ag))->sp vs H Q E->
   ∃ t,xC (yE CX P w K mg base N qual scope f Ag A outer s H E) body t/\t { nx:=λ _ H'=>Q .zk H',rt:=Q } (start N vs) H):
  yL P w K mg base CX (k+1) f (PySem.W.fnOf name qual params body scope dV kV doc pm an Ag ct) ps sp:=by
 exact#[len,λ A outer s H args us vs Q E hr e0 hb r BD=>?_];have hl:=len _ _ _ _ BD;have KX:K.In s.heap:=e0.mod.qo.keeps λ b o e=>(e0.bs b o e).1;have lim:s.heap.NoLimit:=e0.mod.nolimit.keeps λ b o e=>(e0.bs b o e).1;have HP:∀ y∈ps.zip us,scope.names.lookup y.1=↑.local\/(scope.names.lookup y.1=↑.cell/\((cellsFrom (s.heap.objs.size+1) scope.names []).lookup y.1).isSome=true):=λ#[n,v] hy=>by
  rcases S.par n (CW hy).1 with q | q
  .show .inl q
  .show .inr #[q,PySem.W.cellsFrom_some _ _ _ (.inl q)]
 exact codeAny_call_function hr.depth (KX _ _ lk) rfl S.co S.gen rfl (PySem.W.codeRec_of KX A7) (hb _ _ _ _ ?_);exact wpAny_newFunctionEnv_cells S.kind HP λ env he s1 x=>?_;subst he;exact#[lim.keeps x.toInCall.keep,codeAny_func ?_];let#[t,ht,hq]:=ED A outer s H vs Q E (hr.deeper _) BD;have I:Inv (yE CX P w K mg base N qual scope f Ag A outer s H E) [] (start N vs) H s1:=Qy S hr.hd e0 hl r x;exact JK (ht [] s1 (start N vs) H _ I hq) (λ fl s' hs=>?_) λ e s' hs=>hs;have fin:∀ {O':St}{H':Hp}{v:V}{u:Value},Inv (yE CX P w K mg base N qual scope f Ag A outer s H E) [] O' H' s'->RelV v u->Q v H'->CE outer P w H s Q u s':=
  λ{O' H' v u} J rv q=>#[v,H',J.os,J.bare,J.base,J.zl,rv,q]
 cases fl with
 | ret u=>
  let#[v,O',H',J,rv,q]:=hs;show fin J rv q
 | next=>
  let#[O',H',J,q]:=hs;show fin (v:=V.zk) (u:=Value.none) J rfl q
 | brk=>
  let#[_,_,_,q]:=hs;show False.elim q
 | cont=>
  let#[_,_,_,q]:=hs;show False.elim q
section
variable {X:Cx}{x:Str}{p pos:Pos}{e:Expr}{es:List Expr}{t:TA}{id T:String}{r:List V->Hp->VK->Prop}
def nr (r:List V->Hp->VK->Prop) (t:TA):TE:=fun O H Q=>t O H λ vs H1=>r vs H1 Q
def pz (hc:yM X (.builtin id) r) (hg:Gl X x) (hm:X.mg x=none) (hv:bootBuiltins x=↑(.builtin id)) (ha:PA X (e::es) t) (hn:x≠"__name__":=by decide) (AR:(x == ("__debug__":Str))=false:=by decide)
  (he:Aq X e es:=by rfl) (Ap:Ay X pos es:=by rfl):PE X (.Call (.Name x p) (e::es) [] pos) (nr r t):=by
 intro Ek s O H Q I h;exact J7 (qm I hg hm hv ?_ hn AR);show PyProof.Rows.callWith_builtin1 (zt (ha pos Ek s O H _ I h) λ us s1 #[vs,H1,I1,r1,q1]=>hc Ek s1 O H1 vs us Q I1 r1 q1) he Ap
def nW (hc:yM X (.type T) r) (hg:Gl X x) (hm:X.mg x=none) (hv:bootBuiltins x=↑(.type T)) (ha:PA X (e::es) t) (hn:x≠"__name__":=by decide) (AR:(x == ("__debug__":Str))=false:=by decide)
  (he:Aq X e es:=by rfl) (Ap:Ay X pos es:=by rfl):PE X (.Call (.Name x p) (e::es) [] pos) (nr r t):=by
 intro Ek s O H Q I h;exact J7 (qm I hg hm hv ?_ hn AR);show PyProof.Rows.callWith_type1 (zt (ha pos Ek s O H _ I h) λ us s1 #[vs,H1,I1,r1,q1]=>hc Ek s1 O H1 vs us Q I1 r1 q1) he Ap
end
end L2
namespace HT
open PySem PyProof.Rows
def lexLt:List Int->List Int->Bool
 | [],[]=>false
 | [],_::_=>true
 | _::_,[]=>false
 | x::xs,y::ys=>if x=y then lexLt xs ys else decide (x<y)
def pR (x y:Int) (xs ys:List Int):lexLt (x::xs) (y::ys)=if x=y then lexLt xs ys else decide (x<y):=rfl
def RL:lexLt [] []=false:=rfl
def RM (y:Int) (ys:List Int):lexLt [] (y::ys)=true:=rfl
def RN (x:Int) (xs:List Int):lexLt (x::xs) []=false:=rfl
def Pu (A:Around) (s:Shared) (a:Int) (t:Tok) (c:Int) (u:Tok):∃ e,SeqAt.EqAt A s (.int a t) (.int c u) e/\(e=true↔a=c):=
 #[(a == c),SeqAt.EqAt.int_int a t c u,#[]]
def Xx (A:Around) (s:Shared) (a:Int) (t:Tok) (c:Int) (u:Tok) (prog:Program) (w:World) (E:Af) (Q:Af) (h:Q (.bool (decide (a<c))) s):
  wpAny (model prog w) A (richCompare .Lt (.int a t) (.int c u)) Q E s:=
 (PyProof.Rows.lt_int h:wpAny (model prog w) A (compareOp .Lt (.int a t) (.int c u)) Q E s)
section
open PySem.SeqAt
open PySem.AutoSeq1 (wpAny_loadPart')
open PySem.MeetsSeq PySem.MeetsSeq2 PySem.MeetsSeq3
def Ym (l b:Addr) (items EB:Av) (n n2:Nat) (dd GI:Option Addr) (sl GG:Array (Option Value)) (ns ms:List Int) (hi:IntsAre items.toList ns) (hj:IntsAre EB.toList ms):
  Meets (Builtin.«tuple.__lt__» #[[.ref l,.ref b],[]])
   (λ _ R s=>s.heap.get? l=↑{ cls:=.type "tuple",dict:=dd,data:=.seq items n,slots:=sl }/\s.heap.get? b=↑{ cls:=.type "tuple",dict:=GI,data:=.seq EB n2,slots:=GG }/\
    R (.ok (.ret (.bool (lexLt ns ms)))) s):=
 .of_wp λ prog w A R s h=>by
  let#[hp,g,d,tk,os]:=s;let#[hl,hb,h]:=h
  have f2:=AutoSeq1.sub_tuple_tuple;have z1:items.size=ns.length:=by rw[<- hi.length];simp
  have z2:EB.size=ms.length:=by rw[<- hj.length];simp
  wp_walk using wpAny_loadPart' hl,wpAny_loadPart' hb,wpAny_forIn_list _ (λ En b s'=>b.1=none/\s'=#[hp,g,d,tk,os]/\∃ (vs ws:Ad) (FN FO:List Int),En=vs.zip ws/\
   IntsAre vs FN/\IntsAre ws FO/\FN.length+EB.size=FO.length+items.size/\R (.ok (.ret (.bool (lexLt FN FO)))) #[hp,g,d,tk,os]) _
  case turn=>
   rintro⟨y,x⟩ En b s' ⟨Gi,rfl,vs,ws,FN,FO,hz,D1,Dv,hlen,hR⟩;cases D1 with
   | nil=>rw[List.zip_nil_left] at hz;cases hz
   | cons a t D0=>
    cases Dv with
    | nil=>rw[List.zip_nil_right] at hz;cases hz
    | cons c u DZ=>
     rw[Ds] at hz
     injection hz with hyx Fq
     injection hyx with hy hx
     subst hy hx;rw[pR] at hR;simp![Ba] at hlen;let#[e,he,Dc]:=Pu A.in1 #[hp,g,d,tk,os] a t c u;exact IC (he prog w _ _ ?_);cases e with
     | true=>
      rw[if_pos (Dc.mp rfl)] at hR
      wp_walk
      show#[rfl,rfl,_,_,_,_,Fq,D0,DZ,⋯,hR]
     | false=>
      rw[if_neg (λ q=>absurd (Dc.mpr q) Bd)] at hR;have hri:=Xx A.in1 #[hp,g,d,tk,os] a t c u prog w
      wp_walk using hri
      show#[_,rfl,by exists hR]
  case fin=>
   rintro⟨b1,b2⟩ s' ⟨Gi,rfl,vs,ws,FN,FO,hz,D1,Dv,hlen,hR⟩;simp only at Gi;subst Gi;have hv:lexLt FN FO=decide (items.size<EB.size):=by
    cases D1 with
    | nil=>
     cases Dv with
     | nil=>
      simp![BV] at hlen;rw[RL];show (JM ⋯).symm
     | cons c u hw=>
      simp![BV,Ba] at hlen;rw[RM];show (JY ⋯).symm
    | cons a t hv=>
     cases Dv with
     | nil=>
      simp![BV,Ba] at hlen;rw[RN];show (JM ⋯).symm
     | cons c u hw=>
      rw[Ds] at hz;cases hz
   rw[hv] at hR
   wp_walk
   show#[_,rfl,by simpa [Builtin.Tuple.tupleCompareSizes] using hR]
  case h=>
   show#[rfl,rfl,items.toList,EB.toList,ns,ms,rfl,hi,hj,⋯,h]
end
section
variable {prog:Program}{w:World}{A:Around}{E:Af}{s:Shared}
def RF {l b:Addr}{items EB:Av}{ns ms:List Int}{Q:Af}(hl:IsTup s.heap l items) (hb:IsTup s.heap b EB) (hi:IntsAre items.toList ns) (hj:IntsAre EB.toList ms)
  (hu:A.units<cLine) (h:Q (.bool (lexLt ns ms)) s):wpAny (model prog w) A (compareOp .Lt (.ref l) (.ref b)) Q E s:=by
 let#[#[cls,dd,data,sl],ho,hc,n,hd]:=id hl;let#[#[Hd,GI,data2,GG],Gn,FT,n2,hd2]:=id hb;simp only at hc hd FT hd2;subst hc hd FT hd2;show richCompare_meets_room (op:=.Lt) #[_,ho,rfl] #[_,Gn,rfl] PySem.F.slot_tuple_lt PySem.F.entry_tuple_lt (PySem.F.args_tuple_lt_2 _ _) (Ym l b items EB n n2 dd GI sl GG ns ms hi hj)
  #[ho,Gn,show Value.bool (lexLt ns ms)≠Value.notImplemented/\Q (.bool (lexLt ns ms)) s from #[(λ x=>nomatch x),h]] hu
def P_ {t b:Addr}{vs ws:Ad}{Q:Af}(ht:IsTup s.heap t vs.toArray) (hb:IsTup s.heap b ws.toArray) (hv:vs≠[])
  (h1:ws=[]->Q (.ref t) s) (h2:ws≠[]->Q (.ref s.heap.objs.size) { s with heap:=s.heap.push { cls:=.type "tuple",data:=.seq (vs++ws).toArray } })
  (AH:vs.length+ws.length<=sizeLine):wpAny (model prog w) A (binaryOp .Add (.ref t) (.ref b)) Q E s:=by
 let#[#[cls,dd,data,sl],ho,hc,n,hd]:=id ht;let#[#[Hd,GI,data2,GG],Gn,FT,n2,hd2]:=id hb;simp only at hc hd FT hd2;subst hc hd FT hd2;have e:vs.toArray++ws.toArray=(vs++ws).toArray:=#[];by_cases hw:ws=[]
 .show concat_meets #[_,ho,rfl] #[_,Gn,rfl] noFill_tuple_add seq_tuple_add PySem.F.slot_tuple_add PySem.F.entry_tuple_add (PySem.F.args_tuple_add_2 _ _)
   (tuple_addW1 t b vs.toArray ws.toArray n n2 dd GI sl GG (by exists hv) (by simp[hw])) #[ho,Gn,h1 hw]
 .exact concat_meets #[_,ho,rfl] #[_,Gn,rfl] noFill_tuple_add seq_tuple_add PySem.F.slot_tuple_add PySem.F.entry_tuple_add (PySem.F.args_tuple_add_2 _ _)
   (tuple_addW2 t b vs.toArray ws.toArray n n2 dd GI sl GG (by exists hv) (by exists hw) (by rw[Ax,Ax];show AH)) #[ho,Gn,?_]
  rw[e];show h2 hw
def zu (n d:Nat):Option Int->Nat
 | none=>d
 | some v=>if v<0 then (v+(n:Int)).toNat else min v.toNat n
def Xi (n d:Nat) (hd:d<=n) (o:Option Int):zu n d o<=n:=by
 cases o with
 | none=>show hd
 | some v=>
  change (if v<0 then (v+(n:Int)).toNat else min v.toNat n)<=n;by_cases hv:v<0
  .rw[if_pos hv];lia
  .rw[if_neg hv];show Nat.min_le_right _ _
def bD (v:Int) (n d:Nat):(if v<0 then max (v+(n:Int)) 0 else min v (n:Int))=((zu n d ↑v:Nat):Int):=by
 change (if v<0 then max (v+(n:Int)) 0 else min v (n:Int))=(((if v<0 then (v+(n:Int)).toNat else min v.toNat n):Nat):Int)
 by_cases hv:v<0
 .simp![if_pos hv];lia
 .simp![if_neg hv];lia
theorem OC (lo hi:Option Int) (n:Nat):Builtin.Slice.sliceAdjust lo hi 1 (n:Int)=(((zu n 0 lo:Nat):Int),((zu n n hi:Nat):Int)):=by
 have h1:¬ ((1:Int)<0):=⋯;unfold Builtin.Slice.sliceAdjust;simp![h1,if_false];exact Prod.ext ?_ ?_
 .cases lo with
  | none=>rfl
  | some v=>show bD v n 0
 .cases hi with
  | none=>rfl
  | some v=>show bD v n n
theorem XY (i j:Nat):Builtin.Slice.slicePlaces (i:Int) (j:Int) 1=j-i:=by
 unfold Builtin.Slice.slicePlaces;have h1:(1:Int)>0:=⋯;simp![h1,if_true,Int.ediv_one];split <;> lia
def gN {v:Value}{o:Option Int}{Q:Option Int->Shared->Prop}(p:IsPart v o) (h:Q o s):wpAny (model prog w) A (Builtin.Slice.slicePartIndex v) Q E s:=by
 cases p with
 | none=>show slicePart_none h
 | int i t=>show slicePart_int h
def gO {sl:Addr}{vl vu:Value}{lo hi:Option Int}{n:Nat}{Q:Int×Int×Nat->Shared->Prop}(hs:s.heap.IsSliceOf sl vl vu .none) (pl:IsPart vl lo) (pu:IsPart vu hi)
  (h:Q (((zu n 0 lo:Nat):Int),1,zu n n hi-zu n 0 lo) s):wpAny (model prog w) A (Builtin.Slice.sliceApplied (.ref sl) (pure (n:Int))) Q E s:=by
 let#[os,B5,hcs,DD]:=id hs;unfold Builtin.Slice.sliceApplied Builtin.Slice.sliceFields;exact IC (IC (JJ B5 DD (x:=vl) rfl (IC (JJ B5 DD (x:=vu) rfl (IC (JJ B5 DD (x:=.none) rfl (Ac ?_)))))));exact IC (slicePart_none ?_);change wpAny _ _ (if ((1:Int) == 0)=true then _ else _) _ _ s;rw[if_neg ()];exact IC (gN pl (IC (gN pu (IC (Ac ?_)))));change wpAny _ _ (match Builtin.Slice.sliceAdjust lo hi 1 (n:Int) with | (lo,hi)=>pure (lo,(1:Int),Builtin.Slice.slicePlaces lo hi 1)) _ _ s;rw[OC lo hi n];change wpAny _ _ (pure (((zu n 0 lo:Nat):Int),(1:Int),Builtin.Slice.slicePlaces ((zu n 0 lo:Nat):Int) ((zu n n hi:Nat):Int) 1)) _ _ s;rw[XY];show Ac h
theorem Wa (xs:Av) (i k:Nat):((List.range k).filterMap λ(m:Nat)=>xs[((i:Int)+(m:Int)*1).toNat]?).toArray=((xs.toList.drop i).take k).toArray:=by
 have e:(λ(m:Nat)=>xs[((i:Int)+(m:Int)*1).toNat]?)=λ m=>xs[i+m]?:=by
  funext m;have:((i:Int)+(m:Int)*1).toNat=i+m:=⋯;rw[this]
 rw[e];have:=pick_run xs i k;rw[List.filterMap_map] at this;have e2:((λ x=>xs[x]?) ∘ λ x=>i+x)=λ m=>xs[i+m]?:=rfl;rw[e2] at this;rw[this]
def QQ {t sl:Addr}{items:Av}{vl vu:Value}{lo hi:Option Int}{Q:Af}(ht:IsTup s.heap t items) (hs:s.heap.IsSliceOf sl vl vu .none) (pl:IsPart vl lo) (pu:IsPart vu hi)
  (hw:¬ (zu items.size 0 lo=0/\zu items.size items.size hi=items.size))
  (h:Q (.ref s.heap.objs.size) { s with heap:=s.heap.push { cls:=.type "tuple",data:=.seq ((items.toList.drop (zu items.size 0 lo)).take (zu items.size items.size hi-zu items.size 0 lo)).toArray } })
  (AH:items.size<=sizeLine):wpAny (model prog w) A (getItem (.ref t) (.ref sl)) Q E s:=by
 have Gf:sizeOk (.seq ((items.toList.drop (zu items.size 0 lo)).take (zu items.size items.size hi-zu items.size 0 lo)).toArray):=by
  change ((items.toList.drop (zu items.size 0 lo)).take (zu items.size items.size hi-zu items.size 0 lo)).toArray.size<=sizeLine;rw[Ax,Cv,BU,Bl];lia
 have hj:zu items.size items.size hi<=items.size:=Xi _ _ (Aj _) hi;let#[os,B5,hcs,DD]:=id hs;have hTs:s.TypeIs (.ref sl) "slice":=#[os,B5,hcs];unfold getItem
 try with_reducible exact JO ?_
 first | exact IC (Ac ?_) | skip
 exact IC (wpAny_sequenceKey ht.typeIs () ?_);exact IC (JW (name:=Str.ofString "__getitem__") ht.typeIs PyProof.Rows.slot_tuple_getitem
  (JQ PyProof.Rows.slot_tuple_getitem ht.typeIs entry_tuple_getitem ?_ (args_tuple_getitem _ _)))
 change wpAny _ _ (Builtin.Tuple.tupleItemsOf (.ref t) >>= _) _ _ s;exact IC (tupleItemsOf_ ht ?_);exact IC (JX hTs ?_);rw[if_pos ()];exact IC (gO hs pl pu ?_);have hno:¬ ((((zu items.size 0 lo:Nat):Int) == 0&&(1:Int) == 1&&(zu items.size items.size hi-zu items.size 0 lo) == items.size)=true):=by
  intro q;rw[AX,AX] at q;have q1:((zu items.size 0 lo:Nat):Int)=0:=eq_of_beq q.1.1;have q2:zu items.size items.size hi-zu items.size 0 lo=items.size:=eq_of_beq q.2;show hw #[⋯,⋯]
 change wpAny _ _ (if (((zu items.size 0 lo:Nat):Int) == 0&&(1:Int) == 1&&(zu items.size items.size hi-zu items.size 0 lo) == items.size)=true then _ else _) _ _ s;rw[if_neg hno,Wa]
 first
  | show IC (m:=Builtin.Tuple.tupleExact _) (JP (Ac #[_,rfl,Ac h]) Gf)
  | show IC (m:=Builtin.Tuple.tupleExact _) (JP (IC (Ac (Ac #[_,rfl,Ac h]))) Gf)
  | show IC (IC (m:=Builtin.Tuple.tupleExact _) (JP (Ac (Ac #[_,rfl,Ac h])) Gf))
  | show IC (IC (m:=Builtin.Tuple.tupleExact _) (JP (Ac #[_,rfl,Ac h]) Gf))
end
end HT
namespace L2
open PySem PySem.Spec PyProof.Rows
abbrev TO:=St->Hp->(Option Int->Hp->Prop)->Prop
def PO (X:Cx) (e:Option Expr) (t:TO):Prop:=
 ∀ (Ek:Ah) (s:Shared) (O:St) (H:Hp) (Q:Option Int->Hp->Prop),Inv X Ek O H s->t O H Q->
  wpAny (model X.prog X.w) X.A (evalPart e X.env) (λ u s'=>∃ o H',Inv X Ek O H' s'/\IsPart u o/\Q o H') X.xe s
def Y1:TO:=λ _ H Q=>Q none H
def Yx (t:TE):TO:=fun O H Q=>t O H λ x H1=>∃ i,x=.int i/\Q ↑i H1
def intsAre_of {ns:List Int}:∀ {us:Ad},Vals (ns.map V.int) us->IntsAre us ns:=by
 induction ns with
 | nil=>intro us r;rw[A8] at r;cases r;show .nil
 | cons n ns ih=>
  intro us r;rw[AD] at r;cases r with
  | cons r1 r2=>
   let#[t,e]:=r1;subst e;show .cons n t (ih r2)
section
variable {X:Cx}{e:Expr}{te:TE}{lo hi:Option Expr}{tl th:TO}{pos p2:Pos}
def XX:PO X none Y1:=by
 intro Ek s O H Q I h;rw[evalPart_none];show Ac #[none,H,I,.none,h]
def XW (h:PE X e te):PO X ↑e (Yx te):=by
 intro Ek s O H Q I hw;rw[evalPart_some];exact zt (h Ek s O H _ I hw) λ u s1 #[x,H1,I1,r1,q1]=>?_;let#[i,rfl,q]:=q1;let#[t,rfl]:=r1;show#[↑i,H1,I1,.int i t,q]
def tR (X:Cx) (r:V->Option Int->Option Int->Hp->VK->Prop):Prop:=
 ∀ (Ek:Ah) (s:Shared) (O:St) (H:Hp) (x:V) (v vl vu:Value) (lo hi:Option Int) (sl:Addr) (Q:VK),Inv X Ek O H s->RelV x v->s.heap.IsSliceOf sl vl vu .none->IsPart vl lo->IsPart vu hi->r x lo hi H Q->
  ∃ T id,typeLookup (.type T) "__getitem__"=pure ↑(.builtin id)/\s.TypeIs v T/\wpAny (model X.prog X.w) X.A (getItem v (.ref sl)) (EP X Ek O Q) X.xe s
def tR.or {r r':V->Option Int->Option Int->Hp->VK->Prop}(h:tR X r) (h':tR X r'):tR X (λ x lo hi H Q=>r x lo hi H Q\/r' x lo hi H Q):=by
 intro Ek s O H x v vl vu lo hi sl Q I rx hs pl pu q;rcases q with q | q
 .show h Ek s O H x v vl vu lo hi sl Q I rx hs pl pu q
 .show h' Ek s O H x v vl vu lo hi sl Q I rx hs pl pu q
def Yt (r:V->Option Int->Option Int->Hp->VK->Prop) (te:TE) (tl th:TO):TE:=fun O H Q=>te O H λ x H1=>tl O H1 λ l H2=>th O H2 λ u H3=>r x l u H3 Q
theorem Wy {r:V->Option Int->Option Int->Hp->VK->Prop}(hr:tR X r) (he:PE X e te) (hl:PO X lo tl) (hu:PO X hi th):PE X (.Subscript e (.Slice lo hi none p2) pos) (Yt r te tl th):=by
 intro Ek s O H Q I h;exact Subscript_ (zt (he Ek s O H _ I h) λ v s1 #[x,H1,I1,r1,q1]=>?_);exact wpAny_Slice (zt (hl Ek s1 O H1 _ I1 q1) λ vl s2 #[l,H2,I2,pl,q2]=>zt (hu Ek s2 O H2 _ I2 q2) λ vu s3 #[u,H3,I3,pu,q3]=>?_);rw[evalPart_none];exact Ac ?_;have I4:Inv X Ek O H3 { s3 with heap:=s3.heap.push { cls:=.type "slice",data:=.fields [vl,vu,.none].toArray } }:=I3.kept (t':=s3.toks) λ b ob q=>JH _ q;let#[T,id,hT,ht,hg]:=hr Ek { s3 with heap:=s3.heap.push { cls:=.type "slice",data:=.fields [vl,vu,.none].toArray } } O H3 x v vl vu l u s3.heap.objs.size Q I4 r1 (Heap.IsSliceOf.new ..) pl pu q3;change wpAny (model X.prog X.w) X.A (subscriptTail e (.Slice lo hi none p2) v (.ref s3.heap.objs.size)) (EP X Ek O Q) X.xe { s3 with heap:=s3.heap.push { cls:=.type "slice",data:=.fields [vl,vu,.none].toArray } };show tail_any (ops:=[.ref s3.heap.objs.size,v]) ht hT hg (by with_unfolding_all rfl)
def uR (xs:List V) (lo hi:Option Int):List V:=(xs.drop (HT.zu xs.length 0 lo)).take (HT.zu xs.length xs.length hi-HT.zu xs.length 0 lo)
def b6 (xs:List V) (lo hi:Option Int):(uR xs lo hi).length<=xs.length:=by
 unfold uR;rw[Cv,BU];lia
def fG (K:Ab):V->Option Int->Option Int->Hp->VK->Prop:=λ x lo hi H Q=>∃ a xs,x=.ref a/\zE K H a xs/\
 ¬ (HT.zu xs.length 0 lo=0/\HT.zu xs.length xs.length hi=xs.length)/\∀ p,H p=none->Q (.ref p) (upd H p (.tup (uR xs lo hi)))
theorem YS:tR X (fG X.K):=by
 intro Ek s O H x v vl vu lo hi sl Q I rx hs pl pu h;let#[a,xs,rfl,hx,hw,q]:=h;cases rx;let#[its,r,ht,hz]:=I.tuple hx;have hlen:its.toArray.size=xs.length:=by rw[Ax];show r.length.symm
 exact#["tuple",_,PyProof.Rows.slot_tuple_getitem.lookup,ht.typeIs,?_];exact HT.QQ ht hs pl pu (by rw[hlen];show hw) ?_ (by rw[hlen];show hz);rw[hlen];exact#[.ref s.heap.objs.size,_,I.laid (t':=s.toks) (o:=.tup (uR xs lo hi)) (λ b ob q=>JH _ q) (Aj _) ?_,rfl,q _ (I.zl.fresh (Aj _))];show#[#[AF (b6 xs lo hi) hz,.new _],_,(r.drop (HT.zu xs.length 0 lo)).take (HT.zu xs.length xs.length hi-HT.zu xs.length 0 lo),IsTup.new _ _]
def km (K:Ab):R2:=λ x y H Q=>∃ a b ns ms,x=.ref a/\y=.ref b/\zE K H a (ns.map V.int)/\zE K H b (ms.map V.int)/\Q (.bl (HT.lexLt ns ms)) H
def UP (hu:X.A.units<cLine):zR X (compareOp .Lt) (km X.K):=by
 intro Ek s O H x y v u Q I rx ry h;let#[a,b,ns,ms,rfl,rfl,ha,hb,q]:=h;cases rx;cases ry;let#[its,r1,p1,_]:=I.tuple ha;let#[EV,r2,p2,_]:=I.tuple hb;have i1:IntsAre its.toArray.toList ns:=intsAre_of r1;have i2:IntsAre EV.toArray.toList ms:=intsAre_of r2;show HT.RF p1 p2 i1 i2 hu #[.bl (HT.lexLt ns ms),H,I,rfl,q]
def fS (K:Ab):R2:=λ x y H Q=>∃ a b xs ys,x=.ref a/\y=.ref b/\zE K H a xs/\zE K H b ys/\xs≠[]/\xs.length+ys.length<=sizeLine/\
 (ys=[]->Q (.ref a) H)/\(ys≠[]->∀ p,H p=none->Q (.ref p) (upd H p (.tup (xs++ys))))
def Vals.pK {xs:List V}{us:Ad}(r:Vals xs us):us=[]↔xs=[]:=by
 cases r with
 | _=>simp
theorem UT:zR X (binaryOp .Add) (fS X.K):=by
 intro Ek s O H x y v u Q I rx ry h;let#[a,b,xs,ys,rfl,rfl,ha,hb,hx,hz,q1,q2]:=h;cases rx;cases ry;let#[its,r1,p1,_]:=I.tuple ha;let#[EV,r2,p2,_]:=I.tuple hb;exact HT.P_ p1 p2 (λ z=>hx (r1.pK.mp z)) (λ z=>#[.ref a,H,I,rfl,q1 (r2.pK.mp z)]) (λ z=>?_) (by rw[<- r1.length,<- r2.length];show hz);exact#[.ref s.heap.objs.size,_,I.laid (t':=s.toks) (o:=.tup (xs++ys)) (λ b ob q=>JH _ q) (Aj _) ?_,rfl,q2 (λ w=>z (r2.pK.mpr w)) _ (I.zl.fresh (Aj _))];show#[#[by rw[Bg];show hz,.new _],_,r1.append r2,IsTup.new _ _]
end
def wx (n:Nat) (i:Int):Option Nat:=if 0<=i then (if i<n then ↑i.toNat else none) else if -(n:Int)<=i then ↑(i+n).toNat else none
def zP {α:Type}(xs:List α) (i:Int):Option α:=(wx xs.length i).bind λ j=>xs[j]?
theorem dP {n:Nat}{i:Int}{j:Nat}(h:wx n i=↑j):seqIndex? i n=↑j/\j<n/\-(n:Int)<=i/\i<n:=by
 unfold wx at h;by_cases h0:0<=i
 .rw[if_pos h0] at h;by_cases h1:i<n
  .rw[if_pos h1] at h;have e:i.toNat=j:=Bh h;show#[by rw[seqIndex_of h0 h1,e],⋯,⋯,h1]
  .rw[if_neg h1] at h;cases h
 .rw[if_neg h0] at h;by_cases h1:-(n:Int)<=i
  .rw[if_pos h1] at h;have e:(i+n).toNat=j:=Bh h;show#[by rw[seqIndex_neg ⋯ h1,e],⋯,h1,⋯]
  .rw[if_neg h1] at h;cases h
def jS {α:Type}{xs:List α}{i:Int}{v:α}(h:zP xs i=↑v):∃ j,seqIndex? i xs.length=↑j/\xs[j]?=↑v/\j<xs.length/\-(xs.length:Int)<=i/\i<xs.length:=by
 unfold zP at h;cases e:wx xs.length i with
 | none=>rw[e] at h;cases h
 | some j=>
  rw[e] at h;let#[h1,h2,h3,h4]:=dP e;show#[j,h1,h,h2,h3,h4]
theorem O7 {α:Type}(xs:List α) (v:α):zP (xs++[v]) (-1)=↑v:=by
 have hl:(xs++[v]).length=xs.length+1:=#[];have e:wx (xs++[v]).length (-1)=↑xs.length:=by
  unfold wx;rw[hl,if_neg (),if_pos ⋯];congr 1;lia
 unfold zP;rw[e];change (xs++[v])[xs.length]?=↑v;simp
def aw (b:Expr):Prop:=∀ o i,subscripted b false o i=operate [o,i] (getItem o i)
def tW (X:Cx) (r:R2):Prop:=
 ∀ (value slice:Expr) (Ek:Ah) (s:Shared) (O:St) (H:Hp) (x y:V) (v u:Value) (Q:VK),Inv X Ek O H s->RelV x v->RelV y u->r x y H Q->
  subscripted slice false v u=operate [v,u] (getItem v u)->wpAny (model X.prog X.w) X.A (subscriptTail value slice v u) (EP X Ek O Q) X.xe s
def sI (X:Cx) (id:String) (r:V->List V->Hp->VK->Prop):Prop:=
 ∀ (Ek:Ah) (s:Shared) (O:St) (H:Hp) (x:V) (xs:List V) (v:Value) (us:Ad) (Q:VK),Inv X Ek O H s->RelV x v->Vals xs us->r x xs H Q->
  wpAny (model X.prog X.w) X.A (call (.builtin id) (v::us)) (EP X Ek O Q) X.xe s
section
variable {X:Cx}{a b:Expr}{ta tb:TE}{pos:Pos}
def tW.or {r r':R2}(h:tW X r) (h':tW X r'):tW X (λ x y H Q=>r x y H Q\/r' x y H Q):=by
 intro value slice Ek s O H x y v u Q I rx ry q hs;rcases q with q | q
 .show h value slice Ek s O H x y v u Q I rx ry q hs
 .show h' value slice Ek s O H x y v u Q I rx ry q hs
def W6 {r:R2}(hr:tW X r) (ha:PE X a ta) (hb:PE X b tb) (hs:aw b):PE X (.Subscript a b pos) (qT r ta tb):=by
 intro Ek s O H Q I h;show Subscript_ (jM ha hb I h λ v u s2 x y H2 I2 rx ry q=>hr a b Ek s2 O H2 x y v u Q I2 rx ry q (hs _ _))
def fM (K:Ab):R2:=λ x y H Q=>∃ p xs i v,x=.ref p/\y=.int i/\zA K H p xs/\zP xs i=↑v/\Q v H
def fK (K:Ab):R2:=λ x y H Q=>∃ p xs i v,x=.ref p/\y=.int i/\zE K H p xs/\zP xs i=↑v/\Q v H
def fL:R2:=λ x y H Q=>∃ z i c,x=.str z/\y=.int i/\z.length<=sizeLine/\zP z.cps.toList i=↑c/\Q (.str #[[c].toArray]) H
theorem Qn:tW X (fM X.K):=by
 intro value slice Ek s O H x y v u Q I rx ry h hs;let#[p,xs,i,z,rfl,rfl,hq,he,q]:=h;cases rx;let#[t,rfl]:=ry;let#[its,r,pl,hz]:=I.list hq;let#[j,h1,h2,h3,h4,h5]:=jS he;let#[w,ew,IK]:=r.get h2;have hl:=r.length;have hn:=rq;have fin:EP X Ek O Q w s:=#[z,H,I,IK,q];by_cases h0:0<=i
 .have hj:i.toNat=j:=by
   rw[seqIndex_of h0 h5] at h1;show Bh h1
  show item_listR pl.isList h0 ⋯ (by rw[hj];exists ew) fin hs
 .have hj:(i+(its.toArray.size:Int)).toNat=j:=by
   rw[seqIndex_neg ⋯ h4] at h1;rw[Ax,<- hl];show Bh h1
  show subscriptTail_builtinR (x:=w) pl.isList.typeIs slot_list_getitem.lookup
   (wpAny_getItem_list_neg (Q:=λ r s'=>r=w/\EP X Ek O Q r s') pl.isList ⋯ (by rw[Ax] <;> lia) ⋯ (by rw[hj];exists ew) #[rfl,fin]) hs
theorem Qk:tW X (fK X.K):=by
 intro value slice Ek s O H x y v u Q I rx ry h hs;let#[p,xs,i,z,rfl,rfl,hq,he,q]:=h;cases rx;let#[t,rfl]:=ry;let#[its,r,pl,hz]:=I.tuple hq;let#[j,h1,h2,h3,h4,h5]:=jS he;let#[w,ew,IK]:=r.get h2;have hl:=r.length;have hn:=rq;have fin:EP X Ek O Q w s:=#[z,H,I,IK,q];show subscriptTail_builtinR (x:=w) pl.typeIs slot_tuple_getitem.lookup
  (getItem_tuple (j:=j) (Q:=λ r s'=>r=w/\EP X Ek O Q r s') pl ⋯ ⋯ (by rw[Ax,<- hl];show h1) (by exists ew) #[rfl,fin]) hs
theorem Ql:tW X fL:=by
 intro value slice Ek s O H x y v u Q I rx ry h hs;let#[z,i,c,rfl,rfl,hz,he,q]:=h;let#[t,rfl]:=rx;let#[t',rfl]:=ry;let#[j,h1,h2,h3,h4,h5]:=jS he;have hl:z.cps.toList.length=z.length:=by simp[Str.length]
 rw[hl] at h1 h4 h5;have hn:=rq;show tail_any (typeIs_str s z t) slot_str_getitem.lookup (getItem_str (c:=c) (by
  have e1:decide (i < -(2 ^ 63:Int))=false:=JM ⋯;have e2:decide (i≥2 ^ 63)=false:=JM ⋯;rw[e1,e2,Bool.or_false]) (by rw[h1];exists h2) #[.str #[[c].toArray],H,I.tok _,#[_,rfl],q]) hs
def fN (K:Ab):R2:=λ x y H Q=>fM K x y H Q\/fK K x y H Q\/fL x y H Q
def Qm:tW X (fN X.K):=Qn.or (Qk.or Ql)
def RE (its:Ad) (n j:Nat) (u:Value):Obj.mapSeq (·.setIfInBounds j u) { cls:=.type "list",data:=.seq its.toArray n }={ cls:=.type "list",data:=.seq (its.set j u).toArray n }:=by
 simp[Obj.mapSeq]
theorem Inv.lst {Ek:Ah}{O:St}{H:Hp}{s:Shared}{p:Addr}{xs:List V}(I:Inv X Ek O H s) (h:H p=↑(.lst xs)):
  ∃ (its:Ad) (n:Nat),Vals xs its/\s.heap.get? p=↑{ cls:=.type "list",data:=.seq its.toArray n }/\xs.length<=sizeLine:=by
 let#[z,its,n,r,e]:=I.zl p _ h;show#[its,n,r,e,z]
def Inv.RG {Ek:Ah}{O:St}{H:Hp}{s:Shared}{p:Addr}{xs ys:List V}{its AL:Ad}{n n':Nat}{f:Obj->Obj}(I:Inv X Ek O H s) (h:H p=↑(.lst xs))
  (ho:s.heap.get? p=↑{ cls:=.type "list",data:=.seq its.toArray n }) (hf:f { cls:=.type "list",data:=.seq its.toArray n }={ cls:=.type "list",data:=.seq AL.toArray n' }) (r:Vals ys AL) (hz:ys.length<=sizeLine) (t:Nat):
  Inv X Ek O (upd H p (.lst ys)) { s with heap:=s.heap.update p f,toks:=t }:=by
 have e:(s.heap.update p f).get? p=↑{ cls:=.type "list",data:=.seq AL.toArray n' }:=by
  rw[JN f ho (by rw[hf] <;> rfl),hf]
 exact I.write (x:=p) (e:=p) (by rw[h];trivial) (.inl rfl) (λ b u hb q=>(JL _ _ (Ne.symm hb)).trans q) #[_,e] ?_;show#[hz,AL,n',r,e]
def X2:V->V->V->Hp->(Hp->Prop)->Prop:=λ o i v H Q=>∃ p xs k j,o=.ref p/\i=.int k/\H p=↑(.lst xs)/\wx xs.length k=↑j/\Q (upd H p (.lst (xs.set j v)))
theorem set_list:ax X X2:=by
 intro Ek s O H o i v ov iv u Q I ro ri rv h;let#[p,xs,k,j,rfl,rfl,hp,hj,q]:=h;cases ro;let#[t,rfl]:=ri;let#[its,n,r,ho,hz]:=I.lst hp;let#[h1,h2,h3,h4]:=dP hj;have hl:=r.length;have hn:=rq;have I':Inv X Ek O (upd H p (.lst (xs.set j v))) { s with heap:=s.heap.update p (Obj.mapSeq (·.setIfInBounds j u)) }:=
  I.RG hp ho (RE its n j u) (r.set rv j) (by rw[Cu];show hz) s.toks
 by_cases h0:0<=k
 .have hk:k.toNat=j:=by
   rw[seqIndex_of h0 h4] at h1;show Bh h1
  show PySem.W.ki_setAt ho h0 ⋯ (by rw[Ax,<- hl];show h4) (by rw[hk];show#[_,I',q])
 .have hk:(k+(its.toArray.size:Int)).toNat=j:=by
   rw[seqIndex_neg ⋯ h3] at h1;rw[Ax,<- hl];show Bh h1
  show PySem.W.ki_setBack ho ⋯ (by rw[Ax,<- hl];show h3) ⋯ (by rw[hk];show#[_,I',q])
def YO (lo hi:Option Int) (n:Nat):(sliceBounds lo hi none n).1=((HT.zu n 0 lo:Nat):Int)/\(sliceBounds lo hi none n).2.1=((HT.zu n n hi:Nat):Int)/\(sliceBounds lo hi none n).2.2=1:=by
 exact#[?_,?_,rfl]
 .cases lo with
  | none=>simp[sliceBounds,HT.zu]
  | some i=>
   simp![sliceBounds,HT.zu,Option.getD_none,show (1:Int)>0 by decide,if_true];by_cases h:i<0
   .simp![h,if_true] <;> lia
   .simp![h,if_false] <;> lia
 .cases hi with
  | none=>simp[sliceBounds,HT.zu]
  | some i=>
   simp![sliceBounds,HT.zu,Option.getD_none,show (1:Int)>0 by decide,if_true];by_cases h:i<0
   .simp![h,if_true] <;> lia
   .simp![h,if_false] <;> lia
def YQ (its:Ad) (lo hi:Option Int):slicePick its.toArray lo hi none=((its.drop (HT.zu its.length 0 lo)).take (HT.zu its.length its.length hi-HT.zu its.length 0 lo)).toArray:=by
 let#[h1,h2,h3]:=YO lo hi its.toArray.size;unfold slicePick;rw[h1,h2,h3];simp![sliceRange_one,pick_run,Ax] <;> rfl
def fJ (K:Ab):V->Option Int->Option Int->Hp->VK->Prop:=λ x lo hi H Q=>∃ a xs,x=.ref a/\zA K H a xs/\∀ p,H p=none->Q (.ref p) (upd H p (.lst (uR xs lo hi)))
theorem YU:tR X (fJ X.K):=by
 intro Ek s O H x v vl vu lo hi sl Q I rx hs pl pu h;let#[a,xs,rfl,hx,q]:=h;cases rx;let#[its,r,ht,hz]:=I.list hx;have hlen:=r.length;exact#["list",_,slot_list_getitem.lookup,ht.isList.typeIs,?_];exact wpAny_getItem_list_slice ht.isList hs pl pu .none #[] ?_ (by rw[Ax] <;> lia);rw[YQ,<- hlen];exact#[.ref s.heap.objs.size,_,I.laid (t':=s.toks) (o:=.lst (uR xs lo hi)) (λ b ob q=>JH _ q) (Aj _) ?_,rfl,q _ (I.zl.fresh (Aj _))];show#[AF (b6 xs lo hi) hz,_,0,(r.drop (HT.zu xs.length 0 lo)).take (HT.zu xs.length xs.length hi-HT.zu xs.length 0 lo),AQ _ rfl]
theorem Oo:yM X (.builtin "len") (λ xs H Q=>∃ p ys,xs=[.ref p]/\(zA X.K H p ys\/zE X.K H p ys)/\Q (.int ys.length) H):=by
 intro Ek s O H xs us Q I r h;let#[p,ys,rfl,hq,q]:=h;let#[u,rfl,rx]:=vals1 r;cases rx;have hn:=rq;rcases hq with hq | hq
 .let#[its,r',pl,hz]:=I.list hq;have hlen:=r'.length;show Calls.call_len_list pl.isList (by simp![Ax] <;> lia) #[.int ys.length,H,I.tok _,#[s.toks+1,by rw[Ax,hlen]],q]
 .let#[its,r',pl,hz]:=I.tuple hq;have hlen:=r'.length;show len_tuple pl (by simp![Ax] <;> lia) #[.int ys.length,H,I.tok _,#[s.toks+1,by rw[Ax,hlen]],q]
theorem Om:yM X (.builtin "len") (λ xs H Q=>∃ z,xs=[.str z]/\z.length<=sizeLine/\Q (.int z.length) H):=by
 intro Ek s O H xs us Q I r h;let#[z,rfl,hz,q]:=h;let#[u,rfl,t,rfl]:=vals1 r;have hn:=rq;show len_str ⋯ #[.int z.length,H,I.tok _,#[_,rfl],q]
def yM.or {f:Value}{r r':List V->Hp->VK->Prop}(h:yM X f r) (h':yM X f r'):yM X f (λ xs H Q=>r xs H Q\/r' xs H Q):=by
 intro Ek s O H xs us Q I rs q;rcases q with q | q
 .show h Ek s O H xs us Q I rs q
 .show h' Ek s O H xs us Q I rs q
theorem Ol:yM X (.type "list") (λ xs H Q=>∃ p ys,xs=[.ref p]/\(zA X.K H p ys\/zE X.K H p ys)/\∀ l,H l=none->Q (.ref l) (upd H l (.lst ys))):=by
 intro Ek s O H xs us Q I r h;let#[p,ys,rfl,hq,q]:=h;let#[u,rfl,rx]:=vals1 r;cases rx;have fin:∀ (its:Ad),Vals ys its->ys.length<=sizeLine->∀ (h':Heap) (c':Nat),(∀ b o',s.heap.get? b=↑o'->h'.get? b=↑o')->
   h'.get? s.heap.objs.size=↑{ cls:=.type "list",dict:=none,data:=.seq its.toArray c',slots:=[].toArray }->EP X Ek O Q (.ref s.heap.objs.size) { s with heap:=h' }:=λ its r' hz h' c' kp e=>
  #[.ref s.heap.objs.size,_,I.laid (t':=s.toks) kp (Aj _) (show xD X.prog X.w _ h' _ (.lst ys) from #[hz,its,c',r',e]),rfl,q _ (I.zl.fresh (Aj _))]
 rcases hq with hq | hq
 .let#[its,r',pl,hz]:=I.list hq;have hlen:=r'.length;let#[o,ho,hc,n,hd]:=pl.isList;show call_list_seq p (.inl rfl) ho hc hd (λ h' c' kp e=>fin its r' hz h' c' kp e) (by simp![Ax] <;> lia)
 .let#[its,r',pl,hz]:=I.tuple hq;have hlen:=r'.length;let#[o,ho,hc,n,hd]:=pl;show call_list_seq p (.inr rfl) ho hc hd (λ h' c' kp e=>fin its r' hz h' c' kp e) (by simp![Ax] <;> lia)
theorem Oa:yM X (.type "tuple") (λ xs H Q=>∃ p ys,xs=[.ref p]/\((zA X.K H p ys/\∀ l,H l=none->Q (.ref l) (upd H l (.tup ys)))\/(zE X.K H p ys/\Q (.ref p) H))):=by
 intro Ek s O H xs us Q I r h;let#[p,ys,rfl,h]:=h;let#[u,rfl,rx]:=vals1 r;cases rx;rcases h with ⟨hq,q⟩ | ⟨hq,q⟩
 .let#[its,r',pl,hz]:=I.list hq;have hlen:=r'.length;exact call_tuple_list pl.isList (λ h' kp=>?_) (by simp![Ax] <;> lia);have I1:Inv X Ek O H { s with heap:=h' }:=I.kept (t':=s.toks) kp;have I2:Inv X Ek O (upd H h'.objs.size (.tup ys)) { s with heap:=h'.push { cls:=.type "tuple",data:=.seq its.toArray } }:=
   I1.laid (t':=s.toks) (λ b o e=>JH _ e) (Aj _) (show xD X.prog X.w _ _ _ (.tup ys) from #[#[hz,.new _],its,r',IsTup.new _ _])
  show#[.ref h'.objs.size,_,I2,rfl,q _ (I1.zl.fresh (Aj _))]
 .let#[its,r',pl,hz]:=I.tuple hq;show call_tuple_same pl #[.ref p,H,I,rfl,q]
def gr (K:Ab) (T:String) (x:V) (H:Hp):Prop:=match x with
 | .str _=>T="str"
 | .int _=>T="int"
 | .ref p=>(T="list"/\∃ xs,zA K H p xs)\/(T="tuple"/\∃ o,K.lookup p=↑o/\o.cls=.type "tuple"/\o.dict=none)\/
   (T="dict"/\((∃ Al,H p=↑(.dK Al))\/∃ Al,H p=↑(.dT Al)))\/(T="set"/\∃ S n,H p=↑(.set S n))
 | _=>False
def lN {Ek:Ah}{O:St}{H:Hp}{s:Shared}{T:String}{x:V}{v:Value}(I:Inv X Ek O H s) (r:RelV x v) (ty:gr X.K T x H):
  s.TypeIs v T/\∀ a,v=.ref a->∃ ob,s.heap.get? a=↑ob/\ob.dict=none:=by
 cases x with
 | str z=>
  let#[t,rfl]:=r;cases (show T="str" from ty);show#[typeIs_str s z t,λ _ e=>nomatch e]
 | int i=>
  let#[t,rfl]:=r;cases (show T="int" from ty);show#[typeIs_int s i t,λ _ e=>nomatch e]
 | ref p=>
  cases r;rcases ty with ⟨rfl,xs,hq⟩ | ⟨rfl,o,hk,hc,hd⟩ | ⟨rfl,hk⟩ | ⟨rfl,S,n,hk⟩
  .let#[its,_,pl,_]:=I.list hq;exact#[pl.isList.typeIs,λ a e=>?_];cases e;let#[o,n,e,c,hd,_]:=pl;show#[o,e,hd]
  .exact#[#[o,I.yx p o hk,hc],λ a e=>?_];cases e;show#[o,I.yx _ o hk,hd]
  .have z:∃ o,s.heap.get? p=↑o/\o.ExactDict:=by
    rcases hk with ⟨Al,hk⟩ | ⟨Al,hk⟩
    .let#[_,_,_,_,o,_,_,e,ex,_]:=I.zl p _ hk;show#[o,e,ex]
    .let#[_,_,_,_,o,_,_,e,ex,_]:=I.zl p _ hk;show#[o,e,ex]
   let#[o,e,ex]:=z;exact#[#[o,e,ex.1],λ a e2=>?_];cases e2;show#[o,e,ex.2.1]
  .let#[o,_,_,_,e,ex,_]:=I.zl p _ hk;exact#[#[o,e,ex.1],λ a e2=>?_];cases e2;show#[o,e,ex.2.1]
 | _=>show False.elim ty
def sW (K:Ab) (T:String) (r:V->List V->Hp->VK->Prop) (to:TE) (t:TA):TE:=fun O H Q=>to O H λ x H1=>gr K T x H1/\t O H1 λ xs H2=>r x xs H2 Q
variable {o e:Expr}{es:List Expr}{to:TE}{t:TA}{name:Str}{apos Aa:Pos}{T id:String}{r:V->List V->Hp->VK->Prop}
def nX (pa:PlainAttrs T) (slot:Slot T name id) (B4:typeOf (.builtin id)=pure (.type "method_descriptor")) (hm:sI X id r) (ho:PE X o to) (ha:PA X (e::es) t)
  (Ep:attributeBase o name X.env (eval o X.env)=eval o X.env:=by rfl)
  (Ai:((backTo Aa (starEach (e::es) X.env)).all (λ x=>!x.1)&&(backToKw Aa (keywordEach [] X.env)).all (λ x=>x.1.isSome)
   && decide ((e::es).length+([]:List Keyword).length+(if ([]:List Keyword).isEmpty then 0 else 1)<30))=true:=by rfl)
  (Et:(apos.endLine == Aa.line)=true:=by rfl) (hs:Aq X e es:=by rfl) (Es:Ay X Aa es:=by rfl):
  PE X (.Call (.Attribute o name apos) (e::es) [] Aa) (sW X.K T r to t):=by
 intro Ek s O H Q I h;exact J6 Ep Ai Et rfl (zt (ho Ek s O H _ I h) λ v s1 #[x,H1,I1,r1,ty,q1]=>?_);let#[h1,h2]:=lN I1 r1 ty;exact#[T,id,pa,slot,B4,h1,h2,?_];have hA:=ha Aa Ek s1 O H1 _ I1 q1;rw[hs] at hA ⊢;exact Calls.callWith_builtin (by change (false||(backTo Aa (starEach es X.env)).any (·.1))=false;rw[Es] <;> rfl) (Calls.evalArgs_plain ?_);show zt hA λ us s2 #[vs,H2,I2,r2,q2]=>hm Ek s2 O H2 x vs v us Q I2 r1 r2 q2
end
def aB (X:Cx) (id:String) (r:V->List V->Hp->VK->Prop):Prop:=
 ∀ (Ek:Ah) (s:Shared) (O:St) (H:Hp) (x:V) (xs:List V) (v:Value) (us:Ad) (Q:VK),Inv X Ek O H s->RelV x v->Vals xs us->r x xs H Q->
  wpAny (model X.prog X.w) X.A (call (.builtin id) (v::us)) (EP X Ek O Q) X.xe s
theorem Vals.one:∀ {x:V}{us:Ad},Vals [x] us->∃ u,us=[u]/\RelV x u
 | _,_,.cons r .nil=>#[_,rfl,r]
theorem Vals.rep {xs:List V}{us:Ad}(h:Vals xs us):∀ k:Nat,Vals (List.replicate k xs).flatten (List.replicate k us).flatten
 | 0=>.nil
 | k+1=>by
  rw[BP,BP,B3,B3];show Vals.append h (Vals.rep h k)
section
variable {X:Cx}{Ek:Ah}{O:St}{H:Hp}{s:Shared}{l:Addr}{xs ys:List V}
def Inv.kQ {its AL:Ad}{n:Nat}{f:Array Value->Array Value}{t':Nat}(I:Inv X Ek O H s) (hH:H l=↑(.lst xs))
  (e:s.heap.get? l=↑{ cls:=.type "list",data:=.seq its.toArray n }) (hf:f its.toArray=AL.toArray) (hv:Vals ys AL) (hz:ys.length<=sizeLine):
  Inv X Ek O (upd H l (.lst ys)) { s with heap:=s.heap.update l (Obj.mapSeq f),toks:=t' }:=by
 have q:=PySem.IsL.update e f;rw[hf] at q;exact I.write (x:=l) (e:=l) (by rw[hH];show trivial) (.inl rfl) (λ b' u hb hu=>(JL s.heap (Obj.mapSeq f) (Ne.symm hb)).trans hu) #[_,q] ?_;show#[hz,AL,_,hv,q]
def Inv.RI {its:Ad}{t':Nat}(I:Inv X Ek O H s) (hv:Vals ys its) (hz:ys.length<=sizeLine):
  Inv X Ek O (upd H s.heap.objs.size (.lst ys)) { s with heap:=s.heap.push { cls:=.type "list",data:=.seq its.toArray },toks:=t' }:=
 I.laid (λ _ _ q=>JH _ q) (Aj _) #[hz,its,0,hv,AQ _ rfl]
theorem Inv.fresh (I:Inv X Ek O H s):H s.heap.objs.size=none:=I.zl.fresh (Aj _)
def Inv.mf (I:Inv X Ek O H s) (hH:H l=↑(.lst xs)):xs.length<=sizeLine/\∃ (its:Ad) (n:Nat),Vals xs its/\xs.length=its.length/\s.heap.get? l=↑{ cls:=.type "list",data:=.seq its.toArray n }:=by
 let#[z,its,n,r,e]:=I.zl l _ hH;show#[z,its,n,r,r.length,e]
theorem de {n:Nat}(h:n<=sizeLine):Builtin.List.listTooLong n=false:=by
 unfold Builtin.List.listTooLong;show JM ⋯
def kq:V->List V->Hp->VK->Prop:=λ x vs H Q=>∃ l xs y,x=.ref l/\vs=[y]/\H l=↑(.lst xs)/\xs.length<sizeLine/\Q .zk (upd H l (.lst (xs++[y])))
theorem kN:aB X "list.append" kq:=by
 intro Ek s O H x vs v us Q I rx rv h;let#[l,xs,y,rfl,rfl,hH,hz,q]:=h;cases rx;let#[u,rfl,ru]:=rv.one;let#[z,its,n,r,hl,e]:=I.mf hH;exact call_meets F.slot_list_append #[_,e,rfl] F.entry_list_append (F.args_list_append_2 _ _) (PySem.list_append l its.toArray n u (by rw[Ax];lia)) #[e,?_];exact#[.zk,_,I.kQ (AL:=its++[u]) hH e #[] (r.append (.cons ru .nil)) ?_,rfl,q];rw[Bg,List.length_singleton];lia
def fQ:V->List V->Hp->VK->Prop:=λ x vs H Q=>∃ l b xs zs,x=.ref l/\vs=[.ref b]/\H l=↑(.lst xs)/\H b=↑(.lst zs)/\xs.length+zs.length<=sizeLine/\Q .zk (upd H l (.lst (xs++zs)))
theorem RB:aB X "list.extend" fQ:=by
 intro Ek s O H x vs v us Q I rx rv h;let#[l,b,xs,zs,rfl,rfl,hH,hB,hz,q]:=h;cases rx;let#[u,rfl,ru]:=rv.one;cases ru;let#[z,its,n,r,hl,e]:=I.mf hH;let#[z2,EV,n2,r2,hl2,e2]:=I.mf hB;have AH:its.toArray.size+EV.toArray.size<=sizeLine:=by rw[Ax,Ax];lia
 have Gz:¬ (!its.toArray.isEmpty&&Builtin.List.listTooLong (its.toArray.size+EV.toArray.size))=true:=by
  rw[de AH,B2];show Bd
 exact call_meets F.slot_list_extend #[_,e,rfl] F.entry_list_extend (F.args_list_extend_2 _ _)
  (AutoSeq1.list_extend_list_list_0 l its.toArray n b EV.toArray n2 Gz (by rw[Ax];lia) ⋯) #[e,e2,?_]
 exact#[.zk,_,I.kQ (AL:=its++EV) hH e #[] (r.append r2) ?_,rfl,q];rw[Bg];lia
end
end L2
namespace Zu
open PySem PySem.W PySem.Calls PyProof.Rows
def Q2 {P:Params}{h:Heap}:∀ (ns:List Int) (vs:Ad),WellAll P h vs (ns.map WData.int)->IntsAre vs ns:=by
 intro ns
 induction ns with
 | nil=>
  intro vs w;rw[A8] at w;cases w;show .nil
 | cons n ns ih=>
  intro vs w;rw[AD] at w;cases w with
  | cons a b=>
   cases a;show .cons _ _ (ih _ b)
def Xf {l:OpenLaw}{n:Nat}(hn:l.most=↑n) {P:Params}{h:Heap}{args:List WData}{vals:Ad}
  (BW:l.row.toRowW.claim.pre args=true) (Du:WellAll P h vals args):
  ∃ a vs ns,vals=[Value.ref a]/\args=[WData.list (ns.map WData.int)]/\h.get? a=↑{ cls:=.type "list",data:=.seq vs.toArray }/\IntsAre vs ns/\ns.length<=n:=by
 have hsh:WShape.hasAll [] args [.list .int]=true:=(pre_splitW BW).1;have hc:l.pre.holds [] { args:=args }=true:=(pre_splitW BW).2;let#[d,r,rfl,h1,h2]:=hasAllW_cons hsh;obtain rfl:=hasAllW_nil h2;let#[xs,rfl,h3]:=hasW_list h1;let#[ns,rfl]:=items_int h3;have hlen:ns.length<=n:=by
  unfold OpenLaw.pre at hc;have h4:(WTm.not (.lt (.lit (.int (n:Int))) (.len (.arg 0)))).holds [] { args:=[.list (ns.map .int)] }=true:=by
   have h4:=(holds_andW hc).1;rw[hn] at h4;show h4
  have h5:=condW_of h4 (w_not (w_lt w_lit (w_len_list (w_arg rfl))));rw[An] at h5;exact Nat.le_of_not_lt λ q=>?_;have q':(n:Int)<((ns.length:Nat):Int):=⋯
  first
   | (rw[JY q'] at h5;show absurd h5 ())
   | (simp at h5;lia)
 cases Du with
 | cons w1 w2=>
  cases w2;cases w1 with
  | list ho AN=>show#[_,_,ns,rfl,rfl,ho,Q2 ns _ AN,hlen]
def XU (l:OpenLaw) (args:List WData):l.row.toRowW.claim.post args (.bool true) args=true:=
 postW_of (r:=l.row.toRowW) (X:=(true == true))
  (show WShape.has [] (.bool true) .bool=true by first | rfl | decide | simp[WShape.has,WShape.arms,WShape.armsAll])
  (show (WTm.eq .res (.lit (.bool true))).value [] { args:=args,res:=↑(.bool true),after:=args }=↑(.bool (true == true)) from w_eq_bool (w_res rfl) w_lit) rfl
def O6 {l:OpenLaw}{n:Nat}{q:Program}{loose:List Str}{XP:(Str->Option Value)->Heap->Prop}{YP:World->Heap->Prop}{d:DefRec}
  (hn:l.most=↑n) (Df:d.params.defaults=[])
  (call:∀ (w:World) (s₀ s₁:Shared) (mg mb:Au) (fa:Addr) (o:Obj) (pm cd doc:Value) (a:Addr) (vs:Ad) (ns:List Int),
   Ground q loose [] XP w s₀ mg mb s₁.heap->YP w s₁.heap->
   s₁.heap.get? fa=↑o->o.data=.func (docDef d.name d.params d.body d.scope pm cd doc)->s₁.heap.CodeRec cd d.name->mg d.name=↑(.ref fa)->
   s₁.heap.get? a=↑{ cls:=.type "list",data:=.seq vs.toArray }->IntsAre vs ns->ns.length<=n->s₁.gens=[].toArray->
   codeAny (model l.prog w) callerA (.call (.ref fa) #[[.ref a],[]]) (λ r s'=>r=.ok (.ret (.bool true))/\OldK s₁.heap s'.heap/\s'.os=s₁.os/\AllBare s'.gens) s₁):
  WalkO q loose XP YP l.row.toRowW d [] (λ f vs=>PySem.call f vs):=by
 intro w s₀ s₁ mg mb G Y fa o pm cd doc dV kV ho hd A7 hD C7 hg args vals as BW C8 hrd Du hlo;obtain rfl:dV=.none:=Dflts.none hD Df;obtain rfl:kV=.none:=Dflts.noKw hD;let#[a,vs,ns,rfl,rfl,Cg,hints,hlen]:=Xf hn BW Du;exact enter_call (codeAny_mono (call w s₀ s₁ mg mb fa o pm cd doc a vs ns G Y ho (fd_plain hd) A7 C7 Cg hints hlen hg) λ r s' hq=>?_);let#[rfl,h2,h3,h4]:=hq;show#[.inl #[.bool true,.bool true,[],rfl,λ _=>rfl,.bool true,XU l _,λ _=>#[List.Pairwise.nil,λ _ hm=>(nomatch hm)]],h2,h3,h4]
end Zu
namespace L2
open PySem PySem.Spec PyProof.Rows
theorem gg:∀ {vs:Ad}{ns:List Int},IntsAre vs ns->Vals (ns.map V.int) vs
 | _,_,.nil=>.nil
 | _,_,.cons n t h=>.cons #[t,rfl] (gg h)
def mT (H:Hp):Prop:=∀ b,H b=none\/∃ o xs,H b=↑(.xH o (.lst xs))
def RX {P:Program}{w:World}{K:Ab}{mg mb:Au}{CX:vh}{k:Nat}{fa a:Addr}{fd:FuncData}{x:Str}{sp:Sp}{s₁:Shared}{vs:Ad}{ns:List Int}
  (KX:K.In s₁.heap) (B6:s₁.heap.Ns mainGlobals mg) (hb:s₁.heap.Ns builtinsNs mb) (hbb:∀ x:Str,x≠"__name__"->mb x=bootBuiltins x) (Ea:s₁.heap.NoLimit) (hg:s₁.gens=[].toArray)
  (ha:s₁.heap.get? a=↑{ cls:=.type "list",data:=.seq vs.toArray }) (hi:IntsAre vs ns) (hl:ns.length<=sizeLine) (hr:zQ k callerA)
  (F:∀ base:Heap,K.In base->base.Ns mainGlobals mg->yL P w K mg base CX k fa fd [x] sp) (HU:∀ (s:Shared) (u:Value),BindsTo s fd #[[u],[]] [(x,u)])
  (BD:∀ H:Hp,mT H->zA K H a (ns.map V.int)->sp [.ref a] H (λ v _=>v=.bl true) λ _ _ _=>False)
  (Jy:∀ H e s',CX [] H s₁ (λ _ _ _=>False) e s'->False):
  codeAny (model P w) callerA (.call (.ref fa) #[[.ref a],[]]) (λ r s'=>r=.ok (.ret (.bool true))/\OldK s₁.heap s'.heap/\s'.os=s₁.os/\AllBare s'.gens) s₁:=by
 have rv:=gg hi;have IW:=hi.length;have core:∀ H:Hp,mT H->zA K H a (ns.map V.int)->ye P w H s₁.heap->(∀ b,H b≠none->b=a)->(H a≠none->K.lookup a=none)->
   codeAny (model P w) callerA (.call (.ref fa) #[[.ref a],[]]) (λ r s'=>r=.ok (.ret (.bool true))/\OldK s₁.heap s'.heap/\s'.os=s₁.os/\AllBare s'.gens) s₁:=by
  intro H hO hS zl hA hK;have Gk:∀ {b:Addr}{o:Obj},s₁.heap.get? b=↑o->H b=none->(tI s₁.heap H).get? b=↑o:=λ e n=>QA e n;have HD:∀ {b:Addr}{o:Obj}{es:Array DictEntry}{ep:Nat},s₁.heap.get? b=↑o->o.data=.dict es ep->H b=none:=λ{b o es ep} e d=>by
   cases q:H b with
   | none=>rfl
   | some u=>
    have e':b=a:=hA b (by rw[q];simp);subst e';rw[ha] at e;cases e;have d':Data.seq vs.toArray _=Data.dict es ep:=d;cases d'
  have Ip:∀ {b:Addr}{m:Au},s₁.heap.Ns b m->(tI s₁.heap H).Ns b m:=λ{b m} #[o,es,ep,e,d,r]=>#[o,es,ep,Gk e (HD e d),d,r];have hKb:K.In (tI s₁.heap H):=λ b o e=>Gk (KX b o e) (by
   cases q:H b with
   | none=>rfl
   | some u=>
    have e':b=a:=hA b (by rw[q];simp);subst e';rw[hK (by rw[q];simp)] at e;cases e)
  have hM:Mod K mg (tI s₁.heap H):=#[hKb,Ip B6,#[mb,Ip hb,hbb],let #[mc,h1,h2]:=Ea;#[mc,Ip h1,h2]];have e0:l9 P w K mg (tI s₁.heap H) callerA [] s₁ H:=#[rfl,hM,λ b o e=>Rt e,Nat.le_of_eq (Q9 _ _),trivial,λ b hb=>absurd (show b∈([]:List Addr) from hb) #[],zl,.of_eq hg];exact codeAny_mono ((F _ hKb (Ip B6)).run callerA [] s₁ H #[[.ref a],[]] [.ref a] [.ref a] _ _ hr e0 (HU s₁ (.ref a)) (.cons rfl .nil) (BD H hO hS)) λ r s' h=>?_;cases r with
  | error e=>show (Jy H e s' h).elim
  | ok fl=>
   cases fl with
   | ret u=>
    let#[v,H',os,bare,un,BK,r',q]:=h;have q':v=.bl true:=q;subst q';obtain rfl:u=Value.bool true:=r';exact#[rfl,OldK.of_keep λ b o e=>?_,os,bare];cases q:H b with
    | none=>show un.keep b o e q (by intro z;show absurd (show b∈([]:List Addr) from z) #[]) #[]
    | some u=>
     rcases hO b with z | ⟨ob,xs,z⟩
     .rw[q] at z;cases z
     .have z2:=un.vv b ob _ z;let#[e1,_]:=zl b _ z;let#[e2,_]:=BK b _ z2;rw[e] at e1;cases e1;show e2
   | _=>show False.elim h
 cases hk:K.lookup a with
 | some o=>
  have e:=KX a o hk;rw[ha] at e;cases e;exact core (λ _=>none) (λ _=>.inl rfl) (.inr #[_,vs.toArray,_,hk,rfl,rfl,rfl,by rw[Ax,IW];show hl,by exists rv]) (λ b u z=>by have z':(none:Option HO)=↑u:=z;cases z') (λ b z=>absurd rfl z) λ z=>absurd rfl z
 | none=>
  exact core (λ b=>if b=a then ↑(.xH { cls:=.type "list",data:=.seq vs.toArray } (.lst (ns.map V.int))) else none) (λ b=>?_) (.inl (.inr #[{ cls:=.type "list",data:=.seq vs.toArray },if_pos rfl])) (λ b u z=>?_) (λ b z=>?_) λ _=>hk
  .by_cases hb:b=a
   .show .inr #[_,_,if_pos hb]
   .show .inl (if_neg hb)
  .by_cases hb:b=a
   .have z':=(if_pos hb).symm.trans z;cases z';subst hb;show#[ha,by rw[An];show hl,vs,_,rv,ha]
   .have z':=(if_neg hb).symm.trans z;cases z'
  .by_cases hb:b=a
   .show hb
   .show absurd (if_neg hb) z
def ZT {l:PySem.W.OpenLaw}{n k:Nat}{q:Program}{loose:List Str}{XP:(Str->Option Value)->Heap->Prop}{YP:World->Heap->Prop}{d:DefRec}{K:Params->Ab}{CX:World->vh}{sp:World->Sp}{x:Str}
  (hn:l.most=↑n) (hn2:n<=sizeLine) (Df:d.params.defaults=[]) (hr:zQ k callerA)
  (hY:∀ (w:World) (h:Heap),YP w h->(K w.params).In h)
  (F:∀ (w:World) (mg:Au) (fa:Addr) (h:Heap),(K w.params).In h->h.Ns mainGlobals mg->mg d.name=↑(.ref fa)->
   ∃ fd:FuncData,(∀ (s:Shared) (u:Value),BindsTo s fd #[[u],[]] [(x,u)])/\
    ∀ base:Heap,(K w.params).In base->base.Ns mainGlobals mg->yL l.prog w (K w.params) mg base (CX w) k fa fd [x] (sp w))
  (BD:∀ (w:World) (H:Hp) (a:Addr) (ns:List Int),ns.length<=n->mT H->zA (K w.params) H a (ns.map V.int)->sp w [.ref a] H (λ v _=>v=.bl true) λ _ _ _=>False)
  (Jy:∀ (w:World) (H:Hp) (s:Shared) (e:Value) (s':Shared),CX w [] H s (λ _ _ _=>False) e s'->False):
  PySem.W.WalkO q loose XP YP l.row.toRowW d [] (λ f vs=>PySem.call f vs):=by
 exact Zu.O6 hn Df λ w s₀ s₁ mg mb fa o pm cd doc a vs ns G Y ho hd A7 C7 Cg hints hlen hg=>?_;have KX:=hY w _ Y;let#[fd,hb,hF]:=F w mg fa _ KX G.T.g C7;show RX KX G.T.g G.T.b G.T.builtins G.T.nolimit hg Cg hints (AF hlen hn2) hr hF hb (λ H hO hS=>BD w H a ns hlen hO hS) λ H e s'=>Jy w H s₁ e s'
def vy (s:Stmt):Arguments:=match s with
 | .FunctionDef _ a _ _ _ _ _ _ _ _=>a
 | _=>{ posonlyargs:=[],args:=[],vararg:=none,kwonlyargs:=[],kw_defaults:=[],kwarg:=none,defaults:=[] }
def yP (s:Stmt):List Stmt:=match s with
 | .FunctionDef _ _ b _ _ _ _ _ _ _=>b
 | _=>[]
def zC (s:Stmt):Scope:=match s with
 | .FunctionDef _ _ _ _ _ _ sc _ _ _=>sc
 | _=>{ kind:=.function,names:=[],isGenerator:=false,isCoroutine:=false }
abbrev yv:vh:=λ _ _ _ _ _ _=>False
abbrev E0:XK:=λ _ _ _=>False
def eF {X:Cx}:Passes yv X E0:=λ _ _ _ _ _ _ _ h=>h.elim
structure vC (K:Ab) (x qual:Str) (st:Stmt) (f:Addr) (fd:FuncData):Prop where
 ex:∃ (oc:Value) (od:Option Addr) (kV doc pm:Value) (an:Option Addr) (Ag ct:Value) (GK:Array (Option Value)),
  fd=PySem.W.fnOf x qual (vy st) (yP st) (zC st) .none kV doc pm an Ag ct/\K.lookup f=↑#[oc,od,.func fd,GK]/\PySem.W.codeIn K Ag qual=true
 kp:PySem.W.keepIn K (.ref f)=true
section
variable {P:Program}{w:World}{K:Ab}{mg:Au}{base:Heap}
def vC.ok {x qual:Str}{st:Stmt}{f:Addr}{fd:FuncData}{N ps:List Str}{k:Nat}{sp:Sp}(F:vC K x qual st f fd) (S:vE N ps (zC st)) (len:∀ vs H Q E,sp vs H Q E->vs.length=ps.length)
  (ED:∀ (Ag:Value) (A:Around) (outer:List Env) (s:Shared) (H:Hp) (vs:List V) (Q:VK) (E:XK),zQ k (A.deeper (envOfC qual (zC st) s.heap.objs.size f Ag))->sp vs H Q E->
   ∃ t,xC (yE yv P w K mg base N qual (zC st) f Ag A outer s H E).yW (yP st) t/\t { nx:=λ _ H'=>Q .zk H',rt:=Q } (start N vs) H):yL P w K mg base yv (k+1) f fd ps sp:=by
 let#[oc,od,kV,doc,pm,an,Ag,ct,GK,rfl,lk,A7]:=F.ex;exact cN lk A7 S len λ A outer s H vs Q E hr BD=>?_;let#[t,h,q]:=ED Ag A outer s H vs Q E hr BD;show#[t,h.yW,q]
def vC.binds {x qual:Str}{st:Stmt}{f:Addr}{fd:FuncData}{ps:List Str}(F:vC K x qual st f fd)
  (h:∀ (kV doc pm:Value) (an:Option Addr) (Ag ct:Value) (us:Ad),us.length=ps.length->bindArgs (PySem.W.fnOf x qual (vy st) (yP st) (zC st) .none kV doc pm an Ag ct) #[us,[]]=pure (ps.zip us)):Binds K fd ps []:=by
 let#[oc,od,kV,doc,pm,an,Ag,ct,GK,rfl,lk,A7]:=F.ex;show .all (h kV doc pm an Ag ct)
def cF {x qual:Str}{st:Stmt}{f:Addr}{oc:Value}{od an:Option Addr}{GK:Array (Option Value)}{kV doc pm Ag ct:Value}(l:K.lookup f=↑#[oc,od,.func (PySem.W.fnOf x qual (vy st) (yP st) (zC st) .none kV doc pm an Ag ct),GK])
  (c:PySem.W.codeIn K Ag qual=true) (k:PySem.W.keepIn K (.ref f)=true):vC K x qual st f (PySem.W.fnOf x qual (vy st) (yP st) (zC st) .none kV doc pm an Ag ct):=#[#[oc,od,kV,doc,pm,an,Ag,ct,GK,rfl,l,c],k]
end
section
variable {X:Cx}
def pv (i:Nat) {x:Str}{pos:Pos}(hN:X.N[i]?=↑x:=by rfl) (hv:qB X.env.scope x:=by first | show Or.inl rfl | show Or.inr (Or.inl rfl) | show Or.inr (Or.inr rfl)) (hd:(x == ("__debug__":Str))=false:=by decide)
  (A7:(x == ("__classdict__":Str))=false:=by decide):PE X (.Name x pos) (qS i):=ej hN hv hd A7
end
def ic (H H':Hp):Prop:=∀ b o,H b=↑o->H' b=↑o
end L2
namespace PySem
theorem j7 {env:Env}:∀ (l:List (Str×NameKind)) (acc:List (Str×Addr)),(∀ y∈l,y.2=.free->∃ c,env.cells.lookup y.1=↑c)->
  ∃ cl,(forIn l acc (λ(x:Str×NameKind) r=>if (x.2 == NameKind.free)=true then do let a <- cellOf env x.1;pure (ForInStep.yield ((x.1,a)::r)) else pure (ForInStep.yield r)):Sem (List (Str×Addr)))=pure cl/\
   (∀ x c,cl.lookup x=↑c->acc.lookup x=↑c\/((x,NameKind.free)∈l/\env.cells.lookup x=↑c))/\(∀ x,(x,NameKind.free)∈l\/(acc.lookup x).isSome->(cl.lookup x).isSome)
 | [],acc,_=>#[acc,rfl,λ x c h=>.inl h,λ x h=>by exists h]
 | (n,k)::l,acc,h=>by
  by_cases hk:k=.free
  .subst hk;let#[c,hc]:=h (n,.free) Az rfl;let#[cl,e1,e2,e3]:=j7 l ((n,c)::acc) λ y hy=>h y (AG _ hy);exact#[cl,?_,λ x d hx=>?_,λ x hx=>?_]
   .rw[CU];simp![beq_self_eq_true,if_true,cellOf,hc];show e1
   .rcases e2 x d hx with q | ⟨q1,q2⟩
    .rw[Bw] at q;cases C0:x == n with
     | true=>
      rw[C0] at q;have:x=n:=by exists C0
      subst this;exact .inr #[Az,?_];rw[hc];show q
     | false=>rw[C0] at q;show .inl q
    .show .inr #[AG _ q1,q2]
   .exact e3 x ?_;rcases hx with hx | hx
    .rcases Ao.mp hx with q | q
     .have:x=n:=congrArg Prod.fst q;subst this;show .inr (by simp[Bw])
     .show .inl q
    .exact .inr ?_;rw[Bw];cases x == n <;> simp[hx]
  .have hb:(k == NameKind.free)=false:=by exists hk
   let#[cl,e1,e2,e3]:=j7 l acc λ y hy=>h y (AG _ hy);exact#[cl,?_,λ x d hx=>?_,λ x hx=>?_]
   .rw[CU];simp![hb,Bi,if_false];show e1
   .rcases e2 x d hx with q | ⟨q1,q2⟩
    .show .inl q
    .show .inr #[AG _ q1,q2]
   .exact e3 x ?_;rcases hx with hx | hx
    .rcases Ao.mp hx with q | q
     .show absurd (congrArg Prod.snd q).symm hk
     .show .inl q
    .show .inr hx
def PZ {scope:Scope}{env:Env}(h:∀ y∈scope.names,y.2=.free->∃ c,env.cells.lookup y.1=↑c):
  ∃ cl,closureFor scope env=pure cl/\(∀ x c,cl.lookup x=↑c->(x,NameKind.free)∈scope.names/\env.cells.lookup x=↑c)/\∀ x,(x,NameKind.free)∈scope.names->(cl.lookup x).isSome:=by
 let#[cl,e1,e2,e3]:=j7 (env:=env) scope.names [] h;exact#[cl,?_,λ x c hx=>?_,λ x hx=>e3 x (.inl hx)]
 .simp![closureFor];rw[e1];rfl
 .rcases e2 x c hx with q | q
  .simp at q
  .show q
theorem d5 {env:Env}:∀ {names:List (Str×NameKind)}{x:Str},names.lookup x=↑.free->
  (names.map λ(n,k)=>if (k == NameKind.free&&env.scope.kind == .function&&env.kindOf n == ↑.cell) then (n,NameKind.cell) else (n,k)).lookup x=↑.cell\/
  (names.map λ(n,k)=>if (k == NameKind.free&&env.scope.kind == .function&&env.kindOf n == ↑.cell) then (n,NameKind.cell) else (n,k)).lookup x=↑.free
 | [],_,h=>by simp at h
 | (n,k)::r,x,h=>by
  have ih:=@d5 env r x;change List.lookup x ((if (k == NameKind.free&&env.scope.kind == .function&&env.kindOf n == ↑.cell)=true then (n,NameKind.cell) else (n,k))::_)=_\/List.lookup x ((if (k == NameKind.free&&env.scope.kind == .function&&env.kindOf n == ↑.cell)=true then (n,NameKind.cell) else (n,k))::_)=_;cases hx:x == n with
  | true=>
   simp![Bw,hx] at h;cases h;by_cases hc:(NameKind.free == NameKind.free&&env.scope.kind == .function&&env.kindOf n == ↑.cell)=true
   .rw[if_pos hc];simp[Bw,hx]
   .rw[if_neg hc];simp[Bw,hx]
  | false=>
   simp![Bw,hx] at h;by_cases hc:(k == NameKind.free&&env.scope.kind == .function&&env.kindOf n == ↑.cell)=true
   .rw[if_pos hc];simp![Bw,hx];show ih h
   .rw[if_neg hc];simp![Bw,hx];show ih h
theorem fu {env:Env}:∀ {names:List (Str×NameKind)}{x:Str},
  ((names.map λ(n,k)=>if (k == NameKind.free&&env.scope.kind == .function&&env.kindOf n == ↑.cell) then (n,NameKind.cell) else (n,k)).lookup x=↑.cell\/
  (names.map λ(n,k)=>if (k == NameKind.free&&env.scope.kind == .function&&env.kindOf n == ↑.cell) then (n,NameKind.cell) else (n,k)).lookup x=↑.free)->(x,NameKind.free)∈names\/(x,NameKind.cell)∈names
 | [],_,h=>by simp at h
 | (n,k)::r,x,h=>by
  have ih:=@fu env r x;have h':List.lookup x ((if (k == NameKind.free&&env.scope.kind == .function&&env.kindOf n == ↑.cell)=true then (n,NameKind.cell) else (n,k))::_)=↑.cell\/List.lookup x ((if (k == NameKind.free&&env.scope.kind == .function&&env.kindOf n == ↑.cell)=true then (n,NameKind.cell) else (n,k))::_)=↑.free:=h;cases hx:x == n with
  | true=>
   have C0:x=n:=by exists hx
   subst C0;by_cases hc:(k == NameKind.free&&env.scope.kind == .function&&env.kindOf x == ↑.cell)=true
   .simp![AX] at hc;have:k=.free:=by exists hc.1.1
    subst this;show .inl Az
   .rw[if_neg hc] at h';simp![Bw,beq_self_eq_true] at h';rcases h' with q | q
    .cases Bh q;show .inr Az
    .cases Bh q;show .inl Az
  | false=>
   exact (ih ?_).imp (AG _) (AG _);by_cases hc:(k == NameKind.free&&env.scope.kind == .function&&env.kindOf n == ↑.cell)=true
   .rw[if_pos hc] at h';simp![Bw,hx] at h';show h'
   .rw[if_neg hc] at h';simp![Bw,hx] at h';show h'
theorem j9:∀ (names:List (Str×NameKind)) (h:Heap) (acc:List (Str×Addr)),∃ own,cellsFrom h.objs.size names acc=own++acc/\(∀ p∈own,(p.1,NameKind.cell)∈names/\h.objs.size<=p.2/\(pushCells h names).IsCell p.2 none)/\
  (own.Pairwise λ x y=>x.2≠y.2)/\∀ x,(x,NameKind.cell)∈names->(own.lookup x).isSome
 | [],h,acc=>#[[],rfl,λ _ hp=>(by cases hp),.nil,λ _ hx=>(by cases hx)]
 | (n,k)::r,h,acc=>by
  unfold cellsFrom pushCells;split
  .rename_i hk;have Gp:k=.cell:=by exists hk
   subst Gp;let#[own,e1,e2,e3,e4]:=j9 r (h.push { cls:=.type "cell",data:=.cell none }) ((n,h.objs.size)::acc);rw[Heap.size_push] at e1 e2;exact#[own++[(n,h.objs.size)],by rw[e1,Bz];rfl,λ p hp=>?_,?_,λ x hx=>?_]
   .rcases AV.mp hp with q | q
    .let#[f1,f2,f3]:=e2 p q;show#[AG _ f1,⋯,f3]
    .cases AK.mp q;show#[Az,Aj _,_,pushCells_keeps _ _ _ _ (AQ _ rfl),rfl]
   .exact List.pairwise_append.mpr #[e3,DR _ _,λ a ha b hb=>?_];cases AK.mp hb;show Bk (e2 a ha).2.1
   .rw[Dr,Option.isSome_or];rcases Ao.mp hx with q | q
    .cases q;simp[Bw]
    .rw[e4 x q];rfl
  .rename_i hk;let#[own,e1,e2,e3,e4]:=j9 r h acc;exact#[own,e1,λ p hp=>#[AG _ (e2 p hp).1,(e2 p hp).2],e3,λ x hx=>?_];rcases Ao.mp hx with q | q
   .cases q;simp at hk
   .show e4 x q
def R4 {M:Model}{A:Around}{E:Af}{s:Shared}{scope:Scope}{globals:Addr}{closure:List (Str×Addr)}{qual:Str}{env:Env}{Q:Env->Shared->Prop}
  (hQ:∀ h',h'=pushCells (s.heap.push { cls:=.type "dict",data:=.dict [].toArray }) scope.names->Q (newEnv scope s.heap.objs.size globals (cellsFrom (s.heap.objs.size+1) scope.names closure) qual none .none ↑env builtinsNs) { s with heap:=h' }):
  wpAny M A (newFunctionEnv scope globals closure [] qual none .none ↑env) Q E s:=by
 simp![newFunctionEnv,Option.isSome_some,if_true];exact IC (wpAny_alloc ?_);exact IC (wpAny_layCells _ (λ name kind cells=>by cases hkc:kind == NameKind.cell <;> simp[hkc]) _ _ _ _ ?_);rw[show ({ s with heap:=s.heap.push { cls:=.type "dict",data:=.dict [].toArray } }:Shared).heap.objs.size=s.heap.objs.size+1 from Heap.size_push ..];simp![List.forIn_nil];show IC (Ac (Ac (hQ _ rfl)))
end PySem
namespace L2
open PySem PySem.Spec PyProof.Rows
def vP (pick:List (Option Nat)) (O:St):St:=pick.map λ o=>o.bind λ i=>(O[i]?).join
def yF (X:Cx) (N':List Str) (scope:Scope) (cl:List (Str×Addr)) (C:Addr) (s:Shared) (H:Hp) (ex:List Addr):Cx:=
 { X with N:=N',s₀:=s,H₀:=H,env:=compEnvC scope cl C X.env,outer:=X.stack,stack:=X.stack,ex:=ex,fn:=λ x=>decide (scope.names.lookup x=↑.cell),pn:=[],xe:=λ _ _=>False }
def qg (N N':List Str) (pick:List (Option Nat)) (scope:Scope):Bool:=(N'.zip pick).all λ p=>match p.2 with
 | none=>true
 | some j=>decide (N[j]?=↑p.1)&&decide (scope.names.lookup p.1=↑.free)
structure qN (X:Cx) (N':List Str) (pick:List (Option Nat)) (scope:Scope):Prop where
 kind:scope.kind=.function
 uniq:∀ y∈scope.names,scope.names.lookup y.1=↑y.2
 free:∀ y∈scope.names,y.2=.free->X.env.scope.names.lookup y.1=↑.cell\/X.env.scope.names.lookup y.1=↑.free
 len:pick.length=N'.length
 ok:qg X.N N' pick scope=true
def qg.get {N N':List Str}{pick:List (Option Nat)}{scope:Scope}(h:qg N N' pick scope=true) {i j:Nat}{x:Str}(h1:N'[i]?=↑x) (h2:pick[i]?=↑↑j):N[j]?=↑x/\scope.names.lookup x=↑.free:=by
 unfold qg at h;have hm:(x,↑j)∈N'.zip pick:=by
  exact BH (i:=i) ?_;rw[List.getElem?_zip_eq_some];show#[h1,h2]
 have q:=A9.mp h _ hm;simp![AX,decide_eq_true_eq] at q;show q
def vP.get {pick:List (Option Nat)}{O:St}{i:Nat}{v:V}(h:(vP pick O)[i]?=↑↑v):∃ j,pick[i]?=↑↑j/\O[j]?=↑↑v:=by
 unfold vP at h;rw[A0] at h;cases e:pick[i]? with
 | none=>rw[e] at h;cases h
 | some o=>
  rw[e] at h;cases o with
  | none=>simp at h
  | some j=>
   exact#[j,rfl,?_];simp![Option.map_some,Option.some.injEq,BQ] at h;cases q:O[j]? with
   | none=>rw[q] at h;simp at h
   | some w=>rw[q] at h;simp at h;rw[h]
def PF (X:Cx) (ifs:List Expr) (t:TT):Prop:=∀ (Ek:Ah) (s:Shared) (O:St) (H:Hp) (Q:Bool->Hp->Prop),Inv X Ek O H s->t O H Q->
 wpAny (model X.prog X.w) X.A (forIn ifs true λ c r=>if r=true then do let ok <- isTrue c X.env (eval c X.env);pure (ForInStep.yield ok) else pure (ForInStep.yield r)) (TP X Ek O Q) X.xe s
def Wn {X:Cx}:PF X [] (λ _ H Q=>Q true H):=λ _ _ _ H _ I h=>wpAny_tests_nil #[H,I,h]
def Wm {X:Cx}{c:Expr}{t:TT}(h:PT X c t):PF X [c] t:=λ Ek s O H Q I q=>wpAny_tests_one (h Ek s O H Q I q)
def gy (pick:List (Option Nat)) (wi:TI) (g:TG) (tc:TT) (te:TE):TE:=fun O H Q=>wi O H λ J H1=>∀ D,H1 D=none->∃ W:Nat->Nat->St->Hp->Prop,(∃ m,W 0 m (vP pick O) (upd H1 D (.lst [])))/\
 ∀ i m O H,W i m O H->(J.stop i H/\Q (.ref D) H)\/(J.go i H/\∀ x H',J.rZ i H x H'->g x O H' fun O2 H2=>tc O2 H2 λ b H3=>
  if b=true then te O2 H3 λ y H4=>∃ ys m',H4 D=↑(.lst ys)/\ys.length<sizeLine/\m'<m/\W (i+1) m' O2 (upd H4 D (.lst (ys++[y]))) else ∃ m',m'<m/\W (i+1) m' O2 H3)
section
variable {X:Cx}{Ek:Ah}{O:St}{H:Hp}{s:Shared}{N':List Str}{pick:List (Option Nat)}{scope:Scope}{cl:List (Str×Addr)}{C:Addr}{fp:List Addr}
def Q1 (S:qN X N' pick scope) (I:Inv X Ek O H s) (Bo:∀ b∈fp,vD X Ek H b) (AE:∀ b∈fp,b<s.heap.objs.size)
  {h1:Heap}(c1:∀ x c,cl.lookup x=↑c->((x,NameKind.free)∈scope.names/\X.env.cells.lookup x=↑c)\/((x,NameKind.cell)∈scope.names/\C<c/\h1.IsCell c none)) (c2:∀ x,(x,NameKind.free)∈scope.names\/(x,NameKind.cell)∈scope.names->(cl.lookup x).isSome) (c3:∀ x y c,cl.lookup x=↑c->cl.lookup y=↑c->x=y)
  {m1:Au}{t':Nat}(hC:s.heap.objs.size<C) (old:∀ b o,s.heap.get? b=↑o->h1.get? b=↑o) (B6:h1.Ns C m1)
  (hD:h1.get? s.heap.objs.size=↑{ cls:=.type "list",data:=.seq [].toArray 0 }):
  Inv (yF X N' scope cl C s H fp) [] (vP pick O) (upd H s.heap.objs.size (.lst [])) { s with heap:=h1,toks:=t' }:=by
 have Jw:H s.heap.objs.size=none:=I.zl.fresh (Aj _);have hCn:H C=none:=I.zl.fresh (BA hC);have cf:∀ x c,cl.lookup x=↑c->(∃ v,h1.IsCell c v)/\(c<s.heap.objs.size\/C<c)/\upd H s.heap.objs.size (.lst []) c=none:=λ x c e=>by
  rcases c1 x c e with ⟨_,q⟩ | ⟨_,q1,q2⟩
  .let#[v,o,z1,z2]:=I.cell x c q;have hl:=Ar z1;show#[#[v,o,old _ _ z1,z2],.inl hl,by rw[zM (AI hl)];show I.wA x c q]
  .show#[#[_,q2],.inr q1,by rw[zM (Bk (BO hC q1))];show I.zl.fresh (BA (BO hC q1))]
 exact#[#[I.ok.mod,S.kind,I.ok.glob,I.ok.blt,BA hC,c3,λ x hx=>?_,λ x c hf e=>?_,I.ok.hd,I.ok.frames,.inl rfl,
  λ b hb=>#[AI (BO (AE b hb) hC),λ x c e=>?_],I.bs,AF I.ok.tM I.sz,λ b o e hb=>?_,λ b hb z=>?_,I.stack,I.lV],
  rfl,I.bare,Un.laid old (Aj _) Jw,#[m1,B6,λ i x v e1 e2 e3=>?_],λ x c e=>?_,?_,λ x c e=>?_,λ p hp=>absurd (show p∈([]:Ah) from hp) #[],I.zl.laid old (Aj _) ?_,?_]
 .show DT.mp (c2 x (fu hx))
 .have Gq:=of_decide_eq_true (show decide (scope.names.lookup x=↑.cell)=true from hf);rcases c1 x c e with ⟨q,_⟩ | ⟨_,q,_⟩
  .rw[S.uniq _ q] at Gq;cases Gq
  .show BA (BO hC q)
 .rcases c1 x c e with ⟨_,q⟩ | ⟨_,q,_⟩
  .show (Bo b hb).2.2.2.2.1 x c q
  .show Bk (BO (BO (AE b hb) hC) q)
 .rcases (Bo b hb).2.2.2.1 with z | z
  .show I.ok.rm b o e z
  .show absurd (A_ (Ar (I.ok.bs b o e).1) z) (Cb _)
 .rcases Ao.mp (I.lU b z) with q | q
  .show (Bo b hb).2.1 q
  .show (Bo b hb).2.2.1 q
 .let#[j,p1,p2]:=vP.get e2;let#[q1,q2]:=qg.get S.ok e1 p1;let#[m0,n0,l0]:=I.loc;have hm:(x,NameKind.free)∈scope.names:=PySem.mem_of_lookup q2;have hk:X.env.scope.names.lookup x=↑.cell\/X.env.scope.names.lookup x=↑.free:=S.free _ hm rfl;let#[u,r,l]:=l0 j x v q1 p2 (.inr hk);exact#[u,r,.inr #[d5 q2,?_]];rcases l with ⟨k,_⟩ | ⟨_,c,e,z⟩
  .have k':X.env.scope.names.lookup x=↑.local:=k;rcases hk with hk | hk <;> (rw[k'] at hk;cases hk)
  .let#[c',e']:=DT.mp (c2 x (.inl hm));have e'':X.env.cells.lookup x=↑c':=by
    rcases c1 x c' e' with ⟨_,q⟩ | ⟨q,_⟩
    .show q
    .have:=S.uniq _ q;rw[q2] at this;cases this
   rw[e] at e'';cases e'';let#[o,z1,z2]:=z;show#[c,e',o,old _ _ z1,z2]
 .show (cf x c e).1
 .change upd H s.heap.objs.size (.lst []) C=none;rw[zM (Bk hC)];show hCn
 .show (cf x c e).2.2
 .show#[AZ _,[],0,.nil,hD]
 .change (vP pick O).length=N'.length;unfold vP;rw[An];show S.len
def Qw {O':St}{H':Hp}{s':Shared}{oC:Obj}(I:Inv X Ek O H s) (Bo:∀ b∈fp,vD X Ek H b) (hC:s.heap.objs.size<C)
  (I':Inv (yF X N' scope cl C s H fp) [] O' H' s') (hoC:s'.heap.get? C=↑oC):Inv X (Ek++[(C,oC)]) O H' s':=by
 have J:Inv X Ek O H' s':=I.bH (ch:=fp) I'.os I'.base I'.zl I'.bare λ b hb=>#[(Bo b hb).2.2.2.1,(Bo b hb).2.1,(Bo b hb).2.2.2.2.1,(Bo b hb).2.2.2.2.2];exact J.kx λ p hp=>(AV.mp hp).elim (λ z=>J.pin p (Bb _ z)) λ z=>?_;obtain rfl:p=(C,oC):=AK.mp z;exact#[hoC,I'.free,Bk (BO I.lt hC),I.df (BA hC),λ v hv=>?_];let#[m,#[o,es,ep,ho,hd,_],_]:=I'.loc;have E9:s'.heap.get? C=↑o:=ho;rw[hoC] at E9;cases E9;rw[hd] at hv;cases hv
def Qz {O':St}{H':Hp}{s':Shared}{oC:Obj}{h':Heap}(I:Inv X Ek O H s) (hC:s.heap.objs.size<C) (J:Inv X (Ek++[(C,oC)]) O' H' s') (hs:Heap.SameBut C s'.heap h'):Inv X Ek O' H' { s' with heap:=h' }:=by
 have J':=J.qR;have hp:=J.pin (C,oC) (Bb _ (Bb _ (AK.mpr rfl)));have lt:∀ c,c<s.heap.objs.size->c≠C:=λ c h=>AI (BO h hC);exact J'.turned (t':=s'.toks) (it:=C) (λ b o hb e=>hs.extBut b o hb e) hp.2.1 hp.2.2.1 (.inr (AF I.sz (BA hC))) (λ x c e z=>?_) (λ p hq z=>?_)
 .let#[v,q]:=I.cell x c e;show lt c q.lt z
 .show lt p.1 (Ar (I.pin p hq).1) z
end
section
variable {X:Cx}{N':List Str}{pick:List (Option Nat)}{scope:Scope}{elt iter tg:Expr}{ifs:List Expr}{pos:Pos}{wi:TI}{g:TG}{tc:TT}{te:TE}
def RQ {Ek:Ah}{O:St}{H:Hp}{s:Shared}{it C:Addr}{fp:List Addr}{tn:Nat->Heap->Prop}{J:It}{cl:List (Str×Addr)}{W:Nat->Nat->St->Hp->Prop}{Q:V->Hp->Prop}{R:Result->Shared->Prop}{D:Addr}
  (hc:X.calm=true) (hg:PG (yF X N' scope cl C s H fp) tg g) (hf:PF (yF X N' scope cl C s H fp) ifs tc) (he:PE (yF X N' scope cl C s H fp) elt te)
  (T:Turn X.prog X.w X.K tg J fp it tn) (Bo:∀ b∈fp,vD X Ek H b) (Gx:∀ b∈fp,b≠C/\b∉y6 X.stack/\∀ x c,cl.lookup x=↑c->c≠b)
  (turn:∀ i m O H,W i m O H->(J.stop i H/\Q (.ref D) H)\/(J.go i H/\∀ x H',J.rZ i H x H'->g x O H' fun O2 H2=>tc O2 H2 λ b H3=>
   if b=true then te O2 H3 λ y H4=>∃ ys m',H4 D=↑(.lst ys)/\ys.length<sizeLine/\m'<m/\W (i+1) m' O2 (upd H4 D (.lst (ys++[y]))) else ∃ m',m'<m/\W (i+1) m' O2 H3))
  (fin:∀ O' H' s',Inv (yF X N' scope cl C s H fp) [] O' H' s'->Q (.ref D) H'->R (.ok .next) s')
  {m0:Nat}{O0:St}{H0:Hp}{s0:Shared}(I0:Inv (yF X N' scope cl C s H fp) [] O0 H0 s0) (t0:tn 0 s0.heap) (f0:∀ b∈fp,H0 b=none) (w0:W 0 m0 O0 H0):
  codeAny (model X.prog X.w) X.A (.compLoop (.ListComp elt [#[tg,iter,ifs,0]] scope pos) 0 (.ref it) (.ref D) (compEnvC scope cl C X.env)) R s0:=by
 have F8:∀ {H':Hp},(∀ b∈fp,H' b=none)->∀ b∈fp,vD (yF X N' scope cl C s H fp) [] H' b:=λ hn b hb=>#[hn b hb,(Gx b hb).1,(Gx b hb).2.1,.inl hb,(Gx b hb).2.2,λ p hp=>absurd (show p∈([]:Ah) from hp) #[]];exact codeAny_loop rfl (λ n s'=>∃ i O' H',Inv (yF X N' scope cl C s H fp) [] O' H' s'/\tn i s'.heap/\(∀ b∈fp,H' b=none)/\W i n O' H') (λ n s3 hI=>?_) m0 #[0,O0,H0,I0,t0,f0,w0];let#[i,O3,H3,I3,Hy,HY,w3]:=hI;change wpAny _ X.A ((compTurn (.ListComp elt [#[tg,iter,ifs,0]] scope pos) 0 (.ref it) (.ref D) (compEnvC scope cl C X.env)).onRaise (λ x=>do noteFrame x (compEnvC scope cl C X.env);theTreesLotGoes x)) _ _ s3;exact wpAny_noted ?_;rw[compTurn_list];exact IC (wpAny_standAt (IC ?_));rcases turn i n O3 H3 w3 with ⟨stop,qn⟩ | ⟨go,step⟩
 .exact zt (T.done (yF X N' scope cl C s H fp) rfl rfl rfl hc i [] s3 O3 H3 _ I3 (F8 HY) Hy stop) λ r s4 #[hr,I4]=>?_;subst hr;show Ac (fin O3 H3 s4 I4 qn)
 .exact zt (T.item (yF X N' scope cl C s H fp) rfl rfl rfl hc i [] s3 O3 H3 _ I3 (F8 HY) Hy go) λ r s4 #[u,hr,h4]=>?_;subst hr;exact IC (zt h4 λ _ s5 #[x,H5,I5,r5,y5,G4,JA]=>?_);have JG:=I5.pinned (F8 JA) (T.obj _ _ G4);exact IC (JK (hg _ s5 O3 H5 x u _ JG r5 (step x H5 y5)) (λ _ s6 #[O6,H6,I6,q6]=>?_) λ _ _ z=>False.elim z);exact IC (JK (hf _ s6 O6 H6 _ I6 q6) (λ ok s7 #[H7,I7,q7]=>?_) λ _ _ z=>False.elim z);have back:∀ {H8:Hp}{s8:Shared},Inv (yF X N' scope cl C s H fp) ([]++pk fp s5.heap) O6 H8 s8->(∃ m',m'<n/\W (i+1) m' O6 H8)->∃ m,m<n/\∃ i O' H',Inv (yF X N' scope cl C s H fp) [] O' H' s8/\tn i s8.heap/\(∀ b∈fp,H' b=none)/\W i m O' H':=λ{H8 s8} I8 #[m',hm,w8]=>by
   exact#[m',hm,i+1,O6,H8,I8.qR,T.keep _ _ _ G4 λ b hb o e=>(I8.pin (b,o) (Bb _ (Bb _ (md hb e)))).1,λ b hb=>?_,w8];let#[o,e,d]:=T.obj _ _ G4 b hb;show (I8.pin (b,o) (Bb _ (Bb _ (md hb e)))).2.1
  cases ok with
  | false=>
   rw[if_neg Bd] at q7;show Ac #[rfl,back I7 q7]
  | true=>
   rw[if_pos rfl] at q7;exact IC (IC (JK (he _ s7 O6 H7 _ I7 q7) (λ uy s8 #[y,H8,I8,r8,ys,m',e8,z8,hm,w8]=>?_) λ _ _ z=>False.elim z));exact IC (JK (kN (X:=yF X N' scope cl C s H fp) _ s8 O6 H8 (.ref D) [y] (.ref D) [uy] (λ _ H9=>W (i+1) m' O6 H9) I8 rfl (.cons r8 .nil) #[D,ys,y,rfl,rfl,e8,z8,w8]) (λ _ s9 #[_,H9,I9,_,q9]=>?_) λ _ _ z=>False.elim z);show Ac (Ac #[rfl,back I9 #[m',hm,q9]])
def RS {Ek:Ah}{O:St}{H:Hp}{s:Shared}{it:Addr}{fp:List Addr}{tn:Nat->Heap->Prop}{J:It}{cl:List (Str×Addr)}{Q:V->Hp->Prop}{E:Af}{RR:Value->Addr->Result->Shared->Prop}
  (S:qN X N' pick scope) (hc:X.calm=true) (hg:∀ cl C s H fp,PG (yF X N' scope cl C s H fp) tg g) (hf:∀ cl C s H fp,PF (yF X N' scope cl C s H fp) ifs tc) (he:∀ cl C s H fp,PE (yF X N' scope cl C s H fp) elt te)
  (c1:∀ x c,cl.lookup x=↑c->(x,NameKind.free)∈scope.names/\X.env.cells.lookup x=↑c) (c2:∀ x,(x,NameKind.free)∈scope.names->(cl.lookup x).isSome)
  (I:Inv X Ek O H s) (T:Turn X.prog X.w X.K tg J fp it tn) (t0:tn 0 s.heap) (Bo:∀ b∈fp,vD X Ek H b)
  (rd:∀ D,H D=none->∃ W:Nat->Nat->St->Hp->Prop,(∃ m,W 0 m (vP pick O) (upd H D (.lst [])))/\
   ∀ i m O H,W i m O H->(J.stop i H/\Q (.ref D) H)\/(J.go i H/\∀ x H',J.rZ i H x H'->g x O H' fun O2 H2=>tc O2 H2 λ b H3=>
    if b=true then te O2 H3 λ y H4=>∃ ys m',H4 D=↑(.lst ys)/\ys.length<sizeLine/\m'<m/\W (i+1) m' O2 (upd H4 D (.lst (ys++[y]))) else ∃ m',m'<m/\W (i+1) m' O2 H3))
  (fin:∀ C D oC H' s',s.heap.objs.size<C->Inv X (Ek++[(C,oC)]) O H' s'->s'.heap.get? C=↑oC->(∃ m,s'.heap.Ns C m)->Q (.ref D) H'->RR (.ref D) C (.ok .next) s'):
  wpAny (model X.prog X.w) X.A (newList []) (λ acc s₃=>wpAny (model X.prog X.w) X.A (newFunctionEnv scope X.env.globals cl [] X.env.qual none .none ↑X.env) (λ Ih s₄=>
   codeAny (model X.prog X.w) X.A (.compStart (.ListComp elt [#[tg,iter,ifs,0]] scope pos) 0 (.ref it) acc { Ih with scope:=relabel scope X.env }) (RR acc Ih.locals) s₄) E s₃) E s:=by
 exact JP (R4 λ h₁ eh=>?_);dsimp only at eh ⊢;generalize Jv:s.heap.push { cls:=.type "list",dict:=none,data:=.seq ([]:Ad).toArray }=H2 at eh ⊢;have hC:H2.objs.size=s.heap.objs.size+1:=by rw[<- Jv,Heap.size_push]
 have AE:s.heap.objs.size<H2.objs.size:=by rw[hC];show CA _
 have up:∀ b o,H2.get? b=↑o->h₁.get? b=↑o:=λ b o e=>by rw[eh];show pushCells_keeps _ _ _ _ (JH _ e)
 have old:∀ b o,s.heap.get? b=↑o->h₁.get? b=↑o:=λ b o e=>up b o (Jv▸JH _ e);have AW:h₁.get? s.heap.objs.size=↑{ cls:=.type "list",data:=.seq [].toArray 0 }:=up _ _ (Jv▸AQ _ rfl);have Jo:h₁.Ns H2.objs.size λ _=>none:=by rw[eh];show (Heap.Ns.new H2 (.type "dict")).keeps (pushCells_keeps _ _)
 let#[own,o1,o2,o3,o4]:=j9 scope.names (H2.push { cls:=.type "dict",data:=.dict [].toArray }) cl;rw[Heap.size_push] at o1 o2;rw[<- eh] at o2;rw[o1];have d1:∀ x c,(own++cl).lookup x=↑c->((x,NameKind.free)∈scope.names/\X.env.cells.lookup x=↑c)\/((x,NameKind.cell)∈scope.names/\H2.objs.size<c/\h₁.IsCell c none):=λ x c e=>by
  rw[Dr] at e;cases q:own.lookup x with
  | some c'=>
   rw[q] at e;cases e;show .inr (o2 _ (PySem.mem_of_lookup q))
  | none=>rw[q] at e;show .inl (c1 x c e)
 have d2:∀ x,(x,NameKind.free)∈scope.names\/(x,NameKind.cell)∈scope.names->((own++cl).lookup x).isSome:=λ x hx=>by
  rw[Dr,Option.isSome_or];rcases hx with hx | hx
  .rw[c2 x hx,CT]
  .rw[o4 x hx];rfl
 have d3:∀ x y c,(own++cl).lookup x=↑c->(own++cl).lookup y=↑c->x=y:=λ x y c e1 e2=>by
  rw[Dr] at e1 e2;have low:∀ x c,cl.lookup x=↑c->c<H2.objs.size:=λ x c e=>by
   let#[v,q]:=I.cell x c (c1 x c e).2;show BO q.lt AE
  have hi:∀ x c,own.lookup x=↑c->H2.objs.size<c:=λ x c e=>(o2 _ (PySem.mem_of_lookup e)).2.1;cases q1:own.lookup x with
  | some c1'=>
   rw[q1] at e1;cases e1;cases q2:own.lookup y with
   | some c2'=>rw[q2] at e2;cases e2;show PySem.name_of_addr o3 (PySem.mem_of_lookup q1) (PySem.mem_of_lookup q2)
   | none=>rw[q2] at e2;show absurd (low y _ e2) (Nat.lt_asymm (hi x _ q1))
  | none=>
   rw[q1] at e1;cases q2:own.lookup y with
   | some c2'=>rw[q2] at e2;cases e2;show absurd (low x _ e1) (Nat.lt_asymm (hi y _ q2))
   | none=>rw[q2] at e2;show I.ok.inj x y c (c1 x c e1).2 (c1 y c e2).2
 have Dd:∀ b∈fp,b<s.heap.objs.size:=λ b hb=>by
  let#[o,e,_]:=T.obj _ _ t0 b hb;show Ar e
 have Jw:H s.heap.objs.size=none:=I.zl.fresh (Aj _);let#[W,#[m0,w0],turn]:=rd s.heap.objs.size Jw;have I0:=Q1 (t':=s.toks) S I Bo Dd d1 d2 d3 AE old Jo AW;have t1:tn 0 h₁:=T.keep _ _ _ t0 λ b _ o e=>old b o e;have AJ:∀ b∈fp,b≠H2.objs.size/\b∉y6 X.stack/\∀ x c,(own++cl).lookup x=↑c->c≠b:=λ b hb=>I0.ok.p_ b hb |> λ q=>#[q.1,I0.ok.r0 b hb,q.2]
 have loop:codeAny (model X.prog X.w) X.A (.compLoop (.ListComp elt [#[tg,iter,ifs,0]] scope pos) 0 (.ref it) (.ref s.heap.objs.size) (compEnvC scope (own++cl) H2.objs.size X.env)) (RR (.ref s.heap.objs.size) H2.objs.size) { s with heap:=h₁ }:=by
  exact RQ (O:=O) hc (hg _ _ _ _ _) (hf _ _ _ _ _) (he _ _ _ _ _) T Bo AJ turn (fun O' H' s' I' q=>?_) I0 t1 (λ b hb=>?_) w0
  .let#[m,hn,_]:=I'.loc;have GL:s'.heap.Ns H2.objs.size m:=hn;let#[oC,es,ep,ho,hr]:=id GL;show fin _ _ oC H' s' AE (Qw I Bo AE I' ho) ho #[m,GL] q
  .change upd H s.heap.objs.size (.lst []) b=none;rw[zM (AI (Dd b hb))];show (Bo b hb).1
 show codeAny_compStart_list loop (T.self _ 0 _ _ _ t1 loop)
def W5 (S:qN X N' pick scope) (hc:X.calm=true) (hi:PI X tg iter wi) (hg:∀ cl C s H fp,PG (yF X N' scope cl C s H fp) tg g) (hf:∀ cl C s H fp,PF (yF X N' scope cl C s H fp) ifs tc) (he:∀ cl C s H fp,PE (yF X N' scope cl C s H fp) elt te)
  (hs:∀ x,foldedSetIterable iter X.env x=pure x:=by intro _;rfl):PE X (.ListComp elt [#[tg,iter,ifs,0]] scope pos) (gy pick wi g tc te):=by
 intro Ek s O H Q I h;let#[cl,HS,c1,c2]:=PZ (scope:=scope) (env:=X.env) λ y hy hk=>I.ok.has y.1 (S.free y hy hk);rw[eval_ListComp];exact wpAny_comprehension_free (use:=none) rfl hs HS S.kind (λ y hy e=>e▸S.uniq y hy) (zt (hi Ek s O H _ I h) λ v s1 h1=>zt h1 λ IX s2 h2=>?_);let#[it,fp,tn,J,H2,e,I2,T,IH,f2,rd]:=h2;subst e;exact RS (RR:=λ acc C=>compPost (model X.prog X.w) X.A X.xe none (EP X Ek O Q) acc C) S hc hg hf he c1 c2 I2 T IH f2 rd λ C D oC H' s' hC J' ho hn q=>?_;let#[m,hn]:=hn;show#[m,hn,λ h' HJ=>#[.ref D,H',Qz I2 hC J' HJ,rfl,q]]
end
end L2
namespace L3
open PySem PySem.Spec L2
open PyProof.Rows hiding St
inductive D where
 | zk | bl (b:Bool) | int (i:Int) | str (x:Str) | tup (ds:List D) | y_ (ds:List D) | ref (a:Addr) | err (c f:Str) (d:D)
def qE (K:Ab) (H:Hp) (a:Addr) (xs:List V):Prop:=
 (∃ o,H a=↑(.xH o (.lst xs)))\/
  ∃ (o:Obj) (its:Av) (n:Nat),K.lookup a=↑o/\o.cls=.type "list"/\o.dict=none/\o.data=.seq its n/\its.size<=sizeLine/\Vals xs its.toList
def qE.sq {K:Ab}{H:Hp}{a:Addr}{xs:List V}(h:qE K H a xs):zA K H a xs:=by
 rcases h with h | h
 .show .inl (.inr h)
 .show .inr h
abbrev v9:List Value:=[.type "ValueError",.type "Exception",.type "BaseException",.type "object"]
abbrev pH:List Str:=["__getattribute__","__getattr__","__class__","__setattr__","place","pair","way","times","told","name","row"]
def sE (K:Ab) (c:Str) (C:Addr) (bm:Ad) (N:Addr):Prop:=
 (∃ (q:Str) (bs:Ad) (sn:List Str) (sub:Ad) (ab:Bool) (col:Option Bool) (dd:Option Addr) (k0 k1 k2 k3 k5:Option Value),K.lookup C=↑(excClassObj c q C N bs bm true sn sub ab col dd k0 k1 k2 k3 k5 "ValueError.__new__"))/\
 PySem.W.nsOkIn K N=true/\∀ n∈pH,PySem.W.nsIn K N n=↑none
structure sN (K:Ab) (c:Str) (C P N NP:Addr):Prop where
 own:sE K c C (.ref P::v9) N
 par:sE K "PurseError" P v9 NP
 top:PySem.W.nsIn K mainGlobals c=↑↑(.ref C)
 nU:PySem.W.nsIn K mainGlobals "PurseError"=↑↑(.ref P)
 XZ:PySem.W.nsIn K NP "__init__"=↑none
def sO (K:Ab) (c:Str) (C:Addr):Prop:=∃ P N NP,sN K c C P N NP
def ownIn (K:Ab) (c:Str) (C:Addr) (bm:Ad):Option Addr:=match K.lookup C with
 | some #[.type "type",_,.cls cd,sl]=>(match cd.mro,sl.toList with
  | .ref C'::GP,[_,_,_,_,↑(.builtin n),_]=>if C' == C&&n == "ValueError.__new__"&&!cd.hasDel&&GP == bm&&cd.hasDict&&cd.name == c&&PySem.W.nsOkIn K cd.ns&&pH.all (λ n=>PySem.W.nsIn K cd.ns n == ↑none) then ↑cd.ns else none
  | _,_=>none)
 | _=>none
def eI {K:Ab}{c:Str}{C N:Addr}{bm:Ad}(h:ownIn K c C bm=↑N):sE K c C bm N:=by
 unfold ownIn at h;split at h
 .rename_i dd cd sl ho;split at h
  .rename_i C' GP k0 k1 k2 k3 n k5 hm hs;split at h
   .rename_i hc;cases h;simp![AX,beq_iff_eq,Dq,A9] at hc;let#[#[#[#[#[#[#[rfl,rfl],Dg],rfl],hhd],rfl],zl],hn]:=hc;let#[nm,bs,mro,ns,qn,hd,sn,sub,ab,col,del]:=cd;dsimp only at hm Dg zl hn hhd;subst hm Dg hhd;have BR:sl=[k0,k1,k2,k3,↑(.builtin "ValueError.__new__"),k5].toArray:=by
     let#[l]:=sl;simp only at hs;rw[hs]
    subst BR;show#[#[qn,bs,sn,sub,ab,col,dd,k0,k1,k2,k3,k5,ho],zl,hn]
   .cases h
  .cases h
 .cases h
def m7 (K:Ab) (c:Str):Option (Addr×Addr×Addr×Addr):=match PySem.W.nsIn K mainGlobals c,PySem.W.nsIn K mainGlobals "PurseError" with
 | some ↑(.ref C),↑↑(.ref P)=>(match ownIn K c C (.ref P::v9),ownIn K "PurseError" P v9 with
  | some N,↑NP=>if PySem.W.nsIn K NP "__init__" == ↑none then ↑(C,P,N,NP) else none
  | _,_=>none)
 | _,_=>none
def cV {K:Ab}{c:Str}{C P N NP:Addr}(h:m7 K c=↑(C,P,N,NP)):sN K c C P N NP:=by
 unfold m7 at h;split at h
 .rename_i h1 h2;split at h
  .rename_i h3 h4;split at h
   .rename_i h5;cases h;show#[eI h3,eI h4,h1,h2,beq_iff_eq.mp h5]
   .cases h
  .cases h
 .cases h
def wI (e C:Addr) (dx:Option Addr):HO:=.ext λ h=>∃ oe vs,h.get? e=↑oe/\oe.cls=.ref C/\oe.dict=dx/\oe.data=.fields vs
def Xd (H:Hp) (f:Str) (w:V):Option Addr->Prop
 | some x=>H x=↑(.xd [(f,w)])
 | none=>f=""/\w=.zk
mutual
def zf (K:Ab) (H:Hp):D->V->Prop
 | .zk,v=>v=.zk
 | .bl b,v=>v=.bl b
 | .int i,v=>v=.int i
 | .str x,v=>v=.str x
 | .tup ds,v=>∃ a xs,v=.ref a/\zE K H a xs/\zh K H ds xs
 | .y_ ds,v=>∃ a xs,v=.ref a/\qE K H a xs/\zh K H ds xs
 | .ref a,v=>v=.ref a
 | .err c f d,v=>∃ e C dx w,v=.ref e/\(sO K c C/\H e=↑(wI e C dx)/\Xd H f w dx)/\zf K H d w
def zh (K:Ab) (H:Hp):List D->List V->Prop
 | [],xs=>xs=[]
 | d::ds,xs=>∃ x r,xs=x::r/\zf K H d x/\zh K H ds r
end
structure Ext (H H':Hp):Prop where
 tup:∀ b xs,H b=↑(.tup xs)->H' b=↑(.tup xs)
 xH:∀ b o u,H b=↑(.xH o u)->H' b=↑(.xH o u)
 ext:∀ b φ,H b=↑(.ext φ)->H' b=↑(.ext φ)
 xd:∀ b fs,H b=↑(.xd fs)->H' b=↑(.xd fs)
def Ext.refl (H:Hp):Ext H H:=#[λ _ _ h=>h,λ _ _ _ h=>h,λ _ _ h=>h,λ _ _ h=>h]
def Ext.trans {H H1 H2:Hp}(a:Ext H H1) (b:Ext H1 H2):Ext H H2:=#[λ c xs h=>b.tup c xs (a.tup c xs h),λ c o u h=>b.xH c o u (a.xH c o u h),λ c u h=>b.ext c u (a.ext c u h),λ c u h=>b.xd c u (a.xd c u h)]
def Ext.new {H:Hp}{p:Addr}(h:H p=none) (o:HO):Ext H (upd H p o):=
 #[λ b xs q=>by rw[zM (x9 q h)];show q,λ b ob u q=>by rw[zM (x9 q h)];show q,λ b u q=>by rw[zM (x9 q h)];show q,λ b u q=>by rw[zM (x9 q h)];show q]
theorem Ext.lst {H:Hp}{p:Addr}{xs:List V}(h:H p=↑(.lst xs)) (o:HO):Ext H (upd H p o):=
 #[λ b ys q=>by rw[zM (pM q h (by intro z;cases z))];show q,λ b ob u q=>by rw[zM (pM q h (by intro z;cases z))];show q,λ b u q=>by rw[zM (pM q h (by intro z;cases z))];show q,λ b u q=>by rw[zM (pM q h (by intro z;cases z))];show q]
def Ext.nA {K:Ab}{H H':Hp}{a:Addr}{xs:List V}(e:Ext H H') (h:zE K H a xs):zE K H' a xs:=by
 rcases h with (h | ⟨o,h⟩) | h
 .show .inl (.inl (e.tup _ _ h))
 .show .inl (.inr #[o,e.xH _ _ _ h])
 .show .inr h
def Ext.nB {K:Ab}{H H':Hp}{a:Addr}{xs:List V}(e:Ext H H') (h:qE K H a xs):qE K H' a xs:=by
 rcases h with ⟨o,h⟩ | h
 .show .inl #[o,e.xH _ _ _ h]
 .show .inr h
section
variable {K:Ab}{H H':Hp}
def Xd.ext {H H':Hp}{f:Str}{w:V}{dx:Option Addr}(h:Xd H f w dx) (e:Ext H H'):Xd H' f w dx:=by
 cases dx with
 | none=>show h
 | some x=>show e.xd _ _ h
mutual
theorem zf.ext (e:Ext H H'):∀ (d:D) {v:V},zf K H d v->zf K H' d v
 | .zk,v,h=>by simpa only [zf] using h
 | .bl b,v,h=>by simpa only [zf] using h
 | .int i,v,h=>by simpa only [zf] using h
 | .str x,v,h=>by simpa only [zf] using h
 | .ref a,v,h=>by simpa only [zf] using h
 | .err c f d,v,h=>by
  simp![zf] at h ⊢;let#[a,C,dx,w,h1,#[h2,h3,h4],h5]:=h;show#[a,C,dx,w,h1,#[h2,e.ext _ _ h3,h4.ext e],zf.ext e d h5]
 | .tup ds,v,h=>by
  simp![zf] at h ⊢;let#[a,xs,h1,h2,h3]:=h;show#[a,xs,h1,e.nA h2,zh.ext e ds h3]
 | .y_ ds,v,h=>by
  simp![zf] at h ⊢;let#[a,xs,h1,h2,h3]:=h;show#[a,xs,h1,e.nB h2,zh.ext e ds h3]
theorem zh.ext (e:Ext H H'):∀ (ds:List D) {xs:List V},zh K H ds xs->zh K H' ds xs
 | [],xs,h=>by simpa only [zh] using h
 | d::ds,xs,h=>by
  simp![zh] at h ⊢;let#[x,r,h1,h2,h3]:=h;show#[x,r,h1,zf.ext e d h2,zh.ext e ds h3]
end
theorem zh.length:∀ {ds:List D}{xs:List V},zh K H ds xs->ds.length=xs.length
 | [],xs,h=>by simp![zh] at h;subst h;rfl
 | d::ds,xs,h=>by
  simp![zh] at h;let#[x,r,h1,_,h3]:=h;subst h1;simp[zh.length h3]
theorem zh.get:∀ {ds:List D}{xs:List V}{i:Nat}{d:D},zh K H ds xs->ds[i]?=↑d->∃ x,xs[i]?=↑x/\zf K H d x
 | [],_,i,d,_,e=>by simp at e
 | c::ds,xs,i,d,h,e=>by
  simp![zh] at h;let#[x,r,h1,h2,h3]:=h;subst h1;cases i with
  | zero=>simp at e;subst e;show#[x,rfl,h2]
  | succ i=>
   let#[y,e1,e2]:=zh.get (i:=i) h3 (by exists e);show#[y,by simpa using e1,e2]
theorem zh.append:∀ {ds es:List D}{xs ys:List V},zh K H ds xs->zh K H es ys->zh K H (ds++es) (xs++ys)
 | [],es,xs,ys,h,h'=>by simp![zh] at h;subst h;exists h'
 | d::ds,es,xs,ys,h,h'=>by
  simp![zh] at h;let#[x,r,h1,h2,h3]:=h;subst h1;change zh K H (d::(ds++es)) (x::(r++ys));simp![zh];show#[x,r++ys,rfl,h2,zh.append h3 h']
def zh.nil:zh K H [] []:=by simp![zh]
def zh.cons {d:D}{ds:List D}{x:V}{xs:List V}(h:zf K H d x) (h':zh K H ds xs):zh K H (d::ds) (x::xs):=by
 simp![zh];show#[x,xs,rfl,h,h']
def zh.snoc {d:D}{ds:List D}{x:V}{xs:List V}(h':zh K H ds xs) (h:zf K H d x):zh K H (ds++[d]) (xs++[x]):=h'.append (.cons h .nil)
theorem zh.ints:∀ {ns:List Int}{xs:List V},zh K H (ns.map D.int) xs->xs=ns.map V.int
 | [],xs,h=>by simpa only [A8,zh] using h
 | n::ns,xs,h=>by
  rw[AD] at h;simp![zh,zf] at h;let#[x,r,h1,h2,h3]:=h;subst h1 h2;rw[AD,zh.ints h3]
theorem zh.kI:∀ (ns:List Int),zh K H (ns.map D.int) (ns.map V.int)
 | []=>.nil
 | n::ns=>.cons (by simp![zf]) (zh.kI ns)
theorem zh.bools:∀ {ns:List Bool}{xs:List V},zh K H (ns.map D.bl) xs->xs=ns.map V.bl
 | [],xs,h=>by simpa only [A8,zh] using h
 | n::ns,xs,h=>by
  rw[AD] at h;simp![zh,zf] at h;let#[x,r,h1,h2,h3]:=h;subst h1 h2;rw[AD,zh.bools h3]
end
inductive O where
 | lst (ds:List D)
 | yq (Al:List (Key×D))
 | obj (c:Str) (fs:List (Str×D))
abbrev SS:=Addr->Option O
def mL (K:Ab) (H:Hp):List (Key×D)->List (Key×V)->Prop:=Paired λ p q=>p.1=q.1/\zf K H p.2 q.2
def mM (K:Ab) (H:Hp):List (Str×D)->List (Str×V)->Prop:=Paired λ p q=>p.1=q.1/\zf K H p.2 q.2
def Nn (K:Ab) (c:Str) (C:Addr):Prop:=PySem.W.nsIn K mainGlobals c=↑↑(.ref C)
def rP (K:Ab) (H:Hp) (a:Addr):O->Prop
 | .lst ds=>∃ xs,H a=↑(.lst xs)/\zh K H ds xs
 | .yq Al=>∃ vs,H a=↑(.dK vs)/\mL K H Al vs
 | .obj c fs=>∃ C dx vs,Nn K c C/\H a=↑(.ins C dx vs)/\mM K H fs vs
def zv (K:Ab) (H:Hp) (S:SS):Prop:=∀ a o,S a=↑o->rP K H a o
def ups (S:SS) (a:Addr) (o:O):SS:=λ b=>if b=a then ↑o else S b
def sT {S:SS}{a:Addr}{o:O}:ups S a o a=↑o:=by unfold ups;rw[if_pos rfl]
def tm {S:SS}{a b:Addr}{o:O}(h:b≠a):ups S a o b=S b:=by unfold ups;rw[if_neg h]
def Sx (S S':SS):Prop:=∀ b o,S b=↑o->S' b=↑o
def Sx.refl (S:SS):Sx S S:=λ _ _ h=>h
def Sx.trans {S S1 S2:SS}(a:Sx S S1) (b:Sx S1 S2):Sx S S2:=λ c o h=>b c o (a c o h)
def Sx.new {S:SS}{p:Addr}(h:S p=none) (o:O):Sx S (ups S p o):=λ b u q=>by
 rw[tm (by intro z;subst z;rw[h] at q;cases q)];show q
theorem Sx.none {S S':SS}(e:Sx S S') {p:Addr}(h:S' p=Option.none):S p=Option.none:=by
 cases q:S p with
 | none=>rfl
 | some o=>rw[e p o q] at h;cases h
section
variable {K:Ab}{H H':Hp}{S:SS}
def rP.has {a:Addr}{o:O}(h:rP K H a o):H a≠none:=by
 cases o with
 | lst ds=>let#[xs,h,_]:=h;rw[h];simp
 | yq Al=>let#[xs,h,_]:=h;rw[h];simp
 | obj c fs=>let#[C,dx,vs,_,h,_]:=h;rw[h];simp
theorem zv.none (r:zv K H S) {p:Addr}(h:H p=Option.none):S p=Option.none:=by
 cases q:S p with
 | none=>rfl
 | some o=>show absurd h (r p o q).has
theorem mL.ext (e:Ext H H') {Al:List (Key×D)}{vs:List (Key×V)}(h:mL K H Al vs):mL K H' Al vs:=
 Paired.me h λ p q z=>#[z.1,zf.ext e p.2 z.2]
theorem mM.ext (e:Ext H H') {fs:List (Str×D)}{vs:List (Str×V)}(h:mM K H fs vs):mM K H' fs vs:=
 Paired.me h λ p q z=>#[z.1,zf.ext e p.2 z.2]
def rP.keep {a:Addr}{o:O}(e:Ext H H') (k:∀ u,H a=↑u->H' a=↑u) (h:rP K H a o):rP K H' a o:=by
 cases o with
 | lst ds=>let#[xs,h1,h2]:=h;show#[xs,k _ h1,zh.ext e ds h2]
 | yq Al=>let#[xs,h1,h2]:=h;show#[xs,k _ h1,h2.ext e]
 | obj c fs=>let#[C,dx,vs,h0,h1,h2]:=h;show#[C,dx,vs,h0,k _ h1,h2.ext e]
theorem zv.keep (e:Ext H H') (k:∀ a u o,S a=↑o->H a=↑u->H' a=↑u) (r:zv K H S):zv K H' S:=λ a o h=>(r a o h).keep e λ u q=>k a u o h q
def zv.same (e:ic H H') (r:zv K H S):zv K H' S:=r.keep #[λ b xs q=>e _ _ q,λ b o u q=>e _ _ q,λ b u q=>e _ _ q,λ b u q=>e _ _ q] λ a u _ _ q=>e a u q
theorem zv.new {p:Addr}{u:HO}(hp:H p=Option.none) (r:zv K H S):zv K (upd H p u) S:=
 r.keep (Ext.new hp u) λ a v o _ q=>by rw[zM (x9 q hp)];show q
theorem zv.ups {p:Addr}{u:HO}{o:O}(e:Ext H (upd H p u)) (hn:rP K (upd H p u) p o) (r:zv K H S):zv K (upd H p u) (ups S p o):=λ a o' h=>by
 by_cases ha:a=p
 .subst ha;rw[sT] at h;cases h;show hn
 .rw[tm ha] at h;show (r a o' h).keep e λ v q=>by rw[zM ha];show q
end
abbrev zS:=List (Option D)
def yj (K:Ab) (H:Hp) (Y:zS) (O:St):Prop:=Y.length=O.length/\∀ (i:Nat) (d:D),Y[i]?=↑↑d->∃ v,O[i]?=↑↑v/\zf K H d v
theorem yj.ext {K:Ab}{H H':Hp}{Y:zS}{O:St}(e:Ext H H') (r:yj K H Y O):yj K H' Y O:=#[r.1,λ i d h=>by
 let#[v,h1,h2]:=r.2 i d h;show#[v,h1,zf.ext e d h2]]
theorem yj.set {K:Ab}{H:Hp}{Y:zS}{O:St}(i:Nat) {d:D}{v:V}(r:yj K H Y O) (h:zf K H d v):yj K H (Y.set i ↑d) (O.set i ↑v):=by
 exact#[by rw[Cu,Cu];show r.1,λ j c hc=>?_];rw[Cs] at hc ⊢;by_cases hj:i=j
 .subst hj;rw[if_pos rfl] at hc ⊢;by_cases hl:i < Y.length
  .rw[if_pos hl] at hc;rw[if_pos (by rw[<- r.1];show hl)];cases hc;show#[v,rfl,h]
  .rw[if_neg hl] at hc;cases hc
 .rw[if_neg hj] at hc ⊢;show r.2 j c hc
abbrev DK:=D->SS->Prop
abbrev zj:=zS->SS->DK->Prop
abbrev yt:=zS->SS->(Bool->SS->Prop)->Prop
abbrev zI:=zS->SS->(List D->SS->Prop)->Prop
def zL (t:zj):Prop:=∀ Y S (Q Q':DK),(∀ d S',Q d S'->Q' d S')->t Y S Q->t Y S Q'
def wH (t:yt):Prop:=∀ Y S (Q Q':Bool->SS->Prop),(∀ d S',Q d S'->Q' d S')->t Y S Q->t Y S Q'
def ve (t:zI):Prop:=∀ Y S (Q Q':List D->SS->Prop),(∀ d S',Q d S'->Q' d S')->t Y S Q->t Y S Q'
def xJ (K:Ab) (H:Hp) (Q:VK):DK:=λ d S'=>∀ v H',zf K H' d v->Ext H H'->zv K H' S'->Q v H'
def om (K:Ab) (H:Hp) (Q:Bool->Hp->Prop):Bool->SS->Prop:=λ b S'=>∀ H',Ext H H'->zv K H' S'->Q b H'
def PB (K:Ab) (H:Hp) (Q:List V->Hp->Prop):List D->SS->Prop:=λ ds S'=>∀ vs H',zh K H' ds vs->Ext H H'->zv K H' S'->Q vs H'
def xA (K:Ab) (H:Hp) (Q:St->Hp->Prop):zS->SS->Prop:=fun Y S'=>∀ O H',yj K H' Y O->Ext H H'->zv K H' S'->Q O H'
def xJ.ext {K:Ab}{H H':Hp}{Q:VK}(e:Ext H H') {d:D}{S:SS}(h:xJ K H Q d S):xJ K H' Q d S:=λ v H2 r x q=>h v H2 r (e.trans x) q
def om.ext {K:Ab}{H H':Hp}{Q:Bool->Hp->Prop}(e:Ext H H') {d:Bool}{S:SS}(h:om K H Q d S):om K H' Q d S:=λ H2 x q=>h H2 (e.trans x) q
def xA.ext {K:Ab}{H H':Hp}{Q:St->Hp->Prop}(e:Ext H H') {d:zS}{S:SS}(h:xA K H Q d S):xA K H' Q d S:=λ v H2 r x q=>h v H2 r (e.trans x) q
def zw (K:Ab) (t:zj):TE:=fun O H Q=>∃ Y S,yj K H Y O/\zv K H S/\t Y S (xJ K H Q)
def xM (K:Ab) (t:yt):TT:=fun O H Q=>∃ Y S,yj K H Y O/\zv K H S/\t Y S (om K H Q)
def yV (K:Ab) (t:zI):TA:=fun O H Q=>∃ Y S,yj K H Y O/\zv K H S/\t Y S (PB K H Q)
structure PD (X:Cx) (e:Expr) (t:zj):Prop where
 mo:zL t
 pe:PE X e (zw X.K t)
structure xx (X:Cx) (e:Expr) (t:yt):Prop where
 mo:wH t
 pt:PT X e (xM X.K t)
structure yK (X:Cx) (es:List Expr) (t:zI):Prop where
 mo:ve t
 pa:PA X es (yV X.K t)
def PE.imp {X:Cx}{e:Expr}{t t':TE}(h:PE X e t) (hi:∀ O H Q,t' O H Q->t O H Q):PE X e t':=λ Ek s O H Q I q=>h Ek s O H Q I (hi O H Q q)
def PT.imp {X:Cx}{e:Expr}{t t':TT}(h:PT X e t) (hi:∀ O H Q,t' O H Q->t O H Q):PT X e t':=λ Ek s O H Q I q=>h Ek s O H Q I (hi O H Q q)
def PA.imp {X:Cx}{e:List Expr}{t t':TA}(h:PA X e t) (hi:∀ O H Q,t' O H Q->t O H Q):PA X e t':=λ pos Ek s O H Q I q=>h pos Ek s O H Q I (hi O H Q q)
def PS.imp {X:Cx}{e:Stmt}{t t':TS}(h:PS X e t) (hi:∀ D O H,t' D O H->t D O H):PS X e t':=λ Ek s O H Q I q=>h Ek s O H Q I (hi Q O H q)
def xC.imp {X:Cx}{e:List Stmt}{t t':TS}(h:xC X e t) (hi:∀ D O H,t' D O H->t D O H):xC X e t':=λ Ek s O H Q I q=>h Ek s O H Q I (hi Q O H q)
section
variable {X:Cx}{K:Ab}
def zw.go {t:zj}{O:St}{H:Hp}{Q:VK}{Y:zS}{S:SS}{R:DK}(mo:zL t) (r1:yj K H Y O) (r2:zv K H S) (h:t Y S R) (k:∀ d S' v H',R d S'->zf K H' d v->Ext H H'->zv K H' S'->Q v H'):zw K t O H Q:=
 #[Y,S,r1,r2,mo Y S _ _ (λ d S' q v H' a b c=>k d S' v H' q a b c) h]
def xM.go {t:yt}{O:St}{H:Hp}{Q:Bool->Hp->Prop}{Y:zS}{S:SS}{R:Bool->SS->Prop}(mo:wH t) (r1:yj K H Y O) (r2:zv K H S) (h:t Y S R) (k:∀ d S' H',R d S'->Ext H H'->zv K H' S'->Q d H'):xM K t O H Q:=
 #[Y,S,r1,r2,mo Y S _ _ (λ d S' q H' b c=>k d S' H' q b c) h]
def yV.go {t:zI}{O:St}{H:Hp}{Q:List V->Hp->Prop}{Y:zS}{S:SS}{R:List D->SS->Prop}(mo:ve t) (r1:yj K H Y O) (r2:zv K H S) (h:t Y S R) (k:∀ d S' v H',R d S'->zh K H' d v->Ext H H'->zv K H' S'->Q v H'):yV K t O H Q:=
 #[Y,S,r1,r2,mo Y S _ _ (λ d S' q v H' a b c=>k d S' v H' q a b c) h]
def yp (i:Nat):zj:=fun Y S Q=>match Y[i]? with
 | some ↑d=>Q d S
 | _=>False
def dC (d:D):zj:=λ _ S Q=>Q d S
def eB (i:Nat) {x:Str}{pos:Pos}(h:PE X (.Name x pos) (qS i)):PD X (.Name x pos) (yp i):=by
 exact#[fun Y S Q Q' hq h=>?_,PE.imp h fun O H Q hu=>?_]
 .unfold yp at h ⊢;split at h
  .show hq _ _ h
  .show h
 .let#[Y,S,r1,r2,h]:=hu;unfold yp at h;split at h
  .rename_i d e;let#[v,h1,h2]:=r1.2 i d e;show#[v,h1,h v H h2 (Ext.refl H) r2]
  .show h.elim
def dC.mo (d:D):zL (dC d):=λ _ _ _ _ hq h=>hq _ _ h
def rl {e:Expr}{d:D}{v:V}(h:PE X e (tC v)) (r:∀ H,zf X.K H d v):PD X e (dC d):=
 #[dC.mo d,PE.imp h λ _ H _ #[_,_,_,r2,h]=>h v H (r H) (Ext.refl H) r2]
def Um {i j pos}:PD X (.Constant (.int i) j pos) (dC (.int i)):=rl W7 λ _=>by simp![zf]
def U3 {i j pos}:PD X (.Constant (.bool i) j pos) (dC (.bl i)):=rl WC λ _=>by simp![zf]
def VQ {j pos}:PD X (.Constant .none j pos) (dC .zk):=rl W3 λ _=>by simp![zf]
def VH {x j pos}:PD X (.Constant (.str x) j pos) (dC (.str x)):=rl Wx λ _=>by simp![zf]
abbrev yz:=D->D->SS->DK->Prop
def yU (f:yz):Prop:=∀ x y S (Q Q':DK),(∀ d S',Q d S'->Q' d S')->f x y S Q->f x y S Q'
def yZ (K:Ab) (f:yz) (r:R2):Prop:=∀ x y d e H S Q,zf K H d x->zf K H e y->zv K H S->f d e S (xJ K H Q)->r x y H Q
def z_ (f:yz) (ta tb:zj):zj:=fun Y S Q=>ta Y S λ x S1=>tb Y S1 λ y S2=>f x y S2 Q
def z_.mo {f:yz}{ta tb:zj}(hf:yU f) (ha:zL ta) (hb:zL tb):zL (z_ f ta tb):=fun Y S Q Q' hq h=>
 ha Y S _ _ (λ x S1 h=>hb Y S1 _ _ (λ y S2 h=>hf x y S2 _ _ hq h) h) h
def ng {f:yz}{r:R2}{ta tb:zj}(hr:yZ K f r) (hf:yU f) (ha:zL ta) (hb:zL tb) {O:St}{H:Hp}{Q:VK}(h:zw K (z_ f ta tb) O H Q):qT r (zw K ta) (zw K tb) O H Q:=by
 let#[Y,S,r1,r2,h]:=h;exact zw.go ha r1 r2 h λ x S1 v H1 h1 q1 e1 p1=>?_;exact zw.go hb (r1.ext e1) p1 h1 λ y S2 w H2 h2 q2 e2 p2=>?_;show hr v w x y H2 S2 Q (zf.ext e2 x q1) q2 p2 (hf x y S2 _ _ (λ d S' z=>z.ext (e1.trans e2)) h2)
def sd {a b:Expr}{op:Operator}{pos:Pos}{f:yz}{r:R2}{ta tb:zj}(ho:zR X (binaryOp op) r) (hr:yZ X.K f r) (hf:yU f) (ha:PD X a ta) (hb:PD X b tb):PD X (.BinOp a op b pos) (z_ f ta tb):=
 #[z_.mo hf ha.mo hb.mo,PE.imp (Wz ho ha.pe hb.pe) λ _ _ _ h=>ng hr hf ha.mo hb.mo h]
def pB {a b:Expr}{op:CmpOp}{pos:Pos}{f:yz}{r:R2}{ta tb:zj}(ho:zR X (compareOp op) r) (hr:yZ X.K f r) (hf:yU f) (ha:PD X a ta) (hb:PD X b tb) (hm:behindInMarks op b=false):PD X (.Compare a [op] [b] pos) (z_ f ta tb):=
 #[z_.mo hf ha.mo hb.mo,PE.imp (W9 ho ha.pe hb.pe hm) λ _ _ _ h=>ng hr hf ha.mo hb.mo h]
def ug (t:zj):yt:=fun Y S Q=>t Y S λ x S1=>match x with
 | .bl b=>Q b S1
 | _=>False
def ug.mo {t:zj}(h:zL t):wH (ug t):=fun Y S Q Q' hq q=>h Y S _ _ (λ d S' z=>by
 cases d <;> first
  | show hq _ _ z
  | show z) q
def p7 {a b:Expr}{op:CmpOp}{pos:Pos}{f:yz}{r:R2}{ta tb:zj}(ho:zR X (compareOp op) r) (hr:yZ X.K f r) (hf:yU f) (ha:PD X a ta) (hb:PD X b tb) (hm:behindInMarks op b=false):xx X (.Compare a [op] [b] pos) (ug (z_ f ta tb)):=by
 exact#[ug.mo (z_.mo hf ha.mo hb.mo),PT.imp (XF ho ha.pe hb.pe hm) fun O H Q h=>?_];let#[Y,S,r1,r2,h]:=h;exact ng hr hf ha.mo hb.mo #[Y,S,r1,r2,z_.mo hf ha.mo hb.mo Y S _ _ (λ d S' z v H' a b c=>?_) h];cases d with
 | bl k=>simp![zf] at a;show#[k,a,z H' b c]
 | _=>show z.elim
def fI (C:Int->Int->Prop) (g:Int->Int->D):yz:=λ x y S Q=>match x,y with
 | .int i,.int j=>C i j/\Q (g i j) S
 | _,_=>False
def fI.mo {C:Int->Int->Prop}{g:Int->Int->D}:yU (fI C g):=λ x y S Q Q' hq h=>by
 unfold fI at h ⊢;split at h
 .show#[h.1,hq _ _ h.2]
 .show h.elim
def yX (g:Int->Int->D):yz:=λ x y S Q=>match x,y with
 | .int i,.int j=>Q (g i j) S
 | _,_=>False
def yX.mo {g:Int->Int->D}:yU (yX g):=λ x y S Q Q' hq h=>by
 unfold yX at h ⊢;split at h
 .show hq _ _ h
 .show h.elim
def fI.fits {C:Int->Int->Prop}{g:Int->Int->D}{g':Int->Int->V}(hg:∀ i j H,zf K H (g i j) (g' i j)):yZ K (fI C g) (rI C g'):=λ x y d e H S Q h1 h2 h3 h=>by
 unfold fI at h;split at h
 .simp![zf] at h1 h2;show#[_,_,h1,h2,h.1,h.2 _ H (hg _ _ H) (Ext.refl H) h3]
 .show h.elim
def yX.fits {g:Int->Int->D}{g':Int->Int->V}(hg:∀ i j H,zf K H (g i j) (g' i j)):yZ K (yX g) (vO g'):=λ x y d e H S Q h1 h2 h3 h=>by
 unfold yX at h;split at h
 .simp![zf] at h1 h2;show#[_,_,h1,h2,h _ H (hg _ _ H) (Ext.refl H) h3]
 .show h.elim
variable {a b:Expr}{ta tb:zj}{pos:Pos}
def VF (ha:PD X a ta) (hb:PD X b tb):PD X (.BinOp a .Sub b pos) (z_ (yX λ i j=>.int (i-j)) ta tb):=sd UH (yX.fits λ _ _ _=>by simp![zf]) yX.mo ha hb
def VU (ha:PD X a ta) (hb:PD X b tb):PD X (.BinOp a .Mod b pos) (z_ (fI (λ _ j=>0<j) λ i j=>.int (i%j)) ta tb):=sd UO (fI.fits λ _ _ _=>by simp![zf]) fI.mo ha hb
def Uw (ha:PD X a ta) (hb:PD X b tb):PD X (.BinOp a .FloorDiv b pos) (z_ (fI yA λ i j=>.int (i/j)) ta tb):=sd UR (fI.fits λ _ _ _=>by simp![zf]) fI.mo ha hb
def VN (ha:PD X a ta) (hb:PD X b tb):PD X (.BinOp a .Pow b pos) (z_ (fI sR λ i j=>.int (i ^ j.toNat)) ta tb):=sd UJ (fI.fits λ _ _ _=>by simp![zf]) fI.mo ha hb
def VM (ha:PD X a ta) (hb:PD X b tb):PD X (.BinOp a .RShift b pos) (z_ (fI (λ _ j=>0<=j) λ i j=>.int (i/2 ^ j.toNat)) ta tb):=sd UI (fI.fits λ _ _ _=>by simp![zf]) fI.mo ha hb
def U4 (ha:PD X a ta) (hb:PD X b tb):PD X (.BinOp a .BitAnd b pos) (z_ (yX λ i j=>.int (Builtin.bitAnd i j)) ta tb):=sd UW (yX.fits λ _ _ _=>by simp![zf]) yX.mo ha hb
abbrev jv:yz:=yX λ i j=>.bl (decide (i<=j))
def fit_le:yZ K jv (vO λ i j=>.bl (decide (i<=j))):=yX.fits λ _ _ _=>by simp![zf]
def Uc (ha:PD X a ta) (hb:PD X b tb):PD X (.Compare a [.LtE] [b] pos) (z_ jv ta tb):=pB pF fit_le yX.mo ha hb (se _)
end
section
variable {X:Cx}{K:Ab}{a b c:Expr}{ta tb:zj}{pos:Pos}
def ou (ta tb:zj):zj:=fun Y S Q=>ta Y S λ x S1=>match x with
 | .bl k=>if k=true then tb Y S1 Q else Q (.bl false) S1
 | _=>False
def oo (ta:zj):zj:=fun Y S Q=>ta Y S λ x S1=>match x with
 | .bl k=>Q (.bl (!k)) S1
 | _=>False
def wy {c:Prop} [Decidable c] {A B A' B':Prop}(h1:A->A') (h2:B->B') (h:if c then A else B):if c then A' else B':=by
 by_cases q:c
 .rw[if_pos q] at h ⊢;show h1 h
 .rw[if_neg q] at h ⊢;show h2 h
def ou.mo (ha:zL ta) (hb:zL tb):zL (ou ta tb):=fun Y S Q Q' hq h=>ha Y S _ _ (λ x S1 z=>by
 cases x <;> first
  | show wy (hb Y S1 _ _ hq) (hq _ _) z
  | show z) h
def oo.mo (ha:zL ta):zL (oo ta):=fun Y S Q Q' hq h=>ha Y S _ _ (λ x S1 z=>by
 cases x <;> first
  | show hq _ _ z
  | show z) h
def VO {op} {t:zj}(h:PD X a t):PD X (.BoolOp op [a] pos) t:=#[h.mo,W0 h.pe]
variable {En:List Expr}
theorem U6 (ha:PD X a ta) (hb:PD X (.BoolOp .And (b::En) pos) tb):PD X (.BoolOp .And (a::b::En) pos) (ou ta tb):=by
 exact#[ou.mo ha.mo hb.mo,PE.imp (WD ha.pe hb.pe) fun O H Q hu=>?_];let#[Y,S,r1,r2,h]:=hu;exact zw.go ha.mo r1 r2 h λ x S1 v H1 h1 q1 e1 p1=>?_;cases x with
 | bl k=>
  simp![zf] at q1;exact#[k,q1,wy (λ z=>?_) (λ z=>?_) h1]
  .show zw.go hb.mo (r1.ext e1) p1 z λ y S2 w H2 h2 q2 e2 p2=>h2 w H2 q2 (e1.trans e2) p2
  .show z _ H1 (by simp![zf]) e1 p1
 | _=>show h1.elim
theorem VP (ha:PD X a ta):PD X (.UnaryOp .Not a pos) (oo ta):=by
 exact#[oo.mo ha.mo,PE.imp (W2 ha.pe) fun O H Q hu=>?_];let#[Y,S,r1,r2,h]:=hu;exact zw.go ha.mo r1 r2 h λ x S1 v H1 h1 q1 e1 p1=>?_;cases x with
 | bl k=>
  simp![zf] at q1;show#[k,q1,h1 _ H1 (by simp![zf]) e1 p1]
 | _=>show h1.elim
def oj (t u:yt):yt:=fun Y S Q=>t Y S λ k S1=>if k=true then u Y S1 Q else Q false S1
def oa (t u:yt):yt:=fun Y S Q=>t Y S λ k S1=>if k=true then Q true S1 else u Y S1 Q
def og (t:yt):yt:=fun Y S Q=>t Y S λ k S1=>Q (!k) S1
variable {t u:yt}
def oj.mo (h:wH t) (h':wH u):wH (oj t u):=fun Y S _ _ hq z=>h Y S _ _ (λ k S1 z=>wy (h' Y S1 _ _ hq) (hq _ _) z) z
def oa.mo (h:wH t) (h':wH u):wH (oa t u):=fun Y S _ _ hq z=>h Y S _ _ (λ k S1 z=>wy (hq _ _) (h' Y S1 _ _ hq) z) z
def og.mo (h:wH t):wH (og t):=fun Y S _ _ hq z=>h Y S _ _ (λ k S1 z=>hq _ _ z) z
structure tT (X:Cx) (e:Expr) (t:yt):Prop where
 mo:wH t
 pw:PW X e (xM X.K t)
def PW.imp {e:Expr}{t t':TT}(h:PW X e t) (hi:∀ O H Q,t' O H Q->t O H Q):PW X e t':=λ whole Ek s O H Q I q=>h whole Ek s O H Q I (hi O H Q q)
theorem tT.pt {e:Expr}{t:yt}(h:tT X e t):xx X e t:=#[h.mo,PW.pt h.pw]
def WR (h:xx X a t):tT X (.BoolOp .And [a] pos) t:=#[h.mo,X7 h.pt]
def WQ (h:xx X a t):tT X (.BoolOp .Or [a] pos) t:=#[h.mo,X5 h.pt]
def eA (ha:xx X a t) (hb:tT X (.BoolOp .And (b::En) pos) u):tT X (.BoolOp .And (a::b::En) pos) (oj t u):=by
 exact#[oj.mo ha.mo hb.mo,PW.imp (X8 ha.pt hb.pw) fun O H Q hu=>?_];let#[Y,S,r1,r2,h]:=hu;exact xM.go ha.mo r1 r2 h λ k S1 H1 h1 e1 p1=>wy (λ z=>?_) (λ z=>z H1 e1 p1) h1;show xM.go hb.mo (r1.ext e1) p1 z λ y S2 H2 h2 e2 p2=>h2 H2 (e1.trans e2) p2
def e9 (ha:xx X a t) (hb:tT X (.BoolOp .Or (b::En) pos) u):tT X (.BoolOp .Or (a::b::En) pos) (oa t u):=by
 exact#[oa.mo ha.mo hb.mo,PW.imp (X6 ha.pt hb.pw) fun O H Q hu=>?_];let#[Y,S,r1,r2,h]:=hu;exact xM.go ha.mo r1 r2 h λ k S1 H1 h1 e1 p1=>wy (λ z=>z H1 e1 p1) (λ z=>?_) h1;show xM.go hb.mo (r1.ext e1) p1 z λ y S2 H2 h2 e2 p2=>h2 H2 (e1.trans e2) p2
def WU (ha:xx X a t):xx X (.UnaryOp .Not a pos) (og t):=by
 exact#[og.mo ha.mo,PT.imp (XE ha.pt) fun O H Q hu=>?_];let#[Y,S,r1,r2,h]:=hu;show xM.go ha.mo r1 r2 h λ k S1 H1 h1 e1 p1=>h1 H1 e1 p1
def wK (d:D) (S:SS) (Q:Bool->SS->Prop):Prop:=match d with
 | .zk=>Q false S
 | .bl k=>Q k S
 | .int i=>Q (i != 0) S
 | .str x=>x.length<=sizeLine/\Q ((x.length:Int) != 0) S
 | .tup ds=>Q (!ds.isEmpty) S
 | .y_ ds=>Q (!ds.isEmpty) S
 | .ref p=>match S p with
  | some (.lst ds)=>Q (!ds.isEmpty) S
  | some (.yq Al)=>Q (!Al.isEmpty) S
  | _=>False
 | .err _ _ _=>False
def jx (ta:zj):yt:=fun Y S Q=>ta Y S λ x S1=>wK x S1 Q
def wK.mo {d:D}{S:SS}{Q Q':Bool->SS->Prop}(hq:∀ k S',Q k S'->Q' k S') (h:wK d S Q):wK d S Q':=by
 cases d with
 | str x=>show#[h.1,hq _ _ h.2]
 | err _ _ _=>show h.elim
 | ref p=>
  unfold wK at h ⊢;dsimp only at h ⊢;split at h
  .show hq _ _ h
  .show hq _ _ h
  .show h
 | _=>show hq _ _ h
theorem zh.isEmpty {H:Hp}{ds:List D}{xs:List V}(h:zh K H ds xs):ds.isEmpty=xs.isEmpty:=by
 have:=h.length;cases ds <;> cases xs <;> simp_all
def OJ {α β:Type}{F:α->β->Prop}{xs:List α}{ys:List β}(h:Paired F xs ys):xs.isEmpty=ys.isEmpty:=by cases h <;> rfl
def wK.fits {H:Hp}{d:D}{v:V}{S:SS}{Q:Bool->Hp->Prop}(r:zf K H d v) (p:zv K H S) (h:wK d S (om K H Q)):∃ k,j_ K v H k/\Q k H:=by
 cases d with
 | zk=>simp![zf] at r;subst r;show#[false,rfl,h H (.refl H) p]
 | bl k=>simp![zf] at r;subst r;show#[k,rfl,h H (.refl H) p]
 | int i=>simp![zf] at r;subst r;show#[_,rfl,h H (.refl H) p]
 | str x=>simp![zf] at r;subst r;show#[_,#[h.1,rfl],h.2 H (.refl H) p]
 | err _ _ _=>show h.elim
 | tup ds=>
  simp![zf] at r;let#[a,xs,rfl,r1,r2]:=r;show#[_,.inr (.inl #[xs,r1,by rw[r2.isEmpty]]),h H (.refl H) p]
 | y_ ds=>
  simp![zf] at r;let#[a,xs,rfl,r1,r2]:=r;show#[_,.inl #[xs,r1.sq,by rw[r2.isEmpty]],h H (.refl H) p]
 | ref a=>
  simp![zf] at r;subst r;unfold wK at h;dsimp only at h;split at h
  .rename_i ds e;let#[xs,e1,r2]:=p a _ e;show#[_,.inl #[xs,zA.of e1,by rw[r2.isEmpty]],h H (.refl H) p]
  .rename_i Al e;let#[xs,e1,r2]:=p a _ e;show#[_,.inr (.inr #[xs,e1,by rw[OJ r2]]),h H (.refl H) p]
  .show h.elim
def WT (ha:PD X a ta) (he:∀ whole,isTrue a X.env whole=(do let v <- whole;standAt a.pos;holding [v] (truthy v))):xx X a (jx ta):=by
 exact#[fun Y S Q Q' hq h=>ha.mo Y S _ _ (λ x S1 z=>wK.mo hq z) h,PT.imp (XD ha.pe he) fun O H Q hu=>?_];let#[Y,S,r1,r2,h]:=hu;exact zw.go ha.mo r1 r2 h λ x S1 v H1 h1 q1 e1 p1=>?_;show wK.fits q1 p1 (wK.mo (λ k S' z=>z.ext e1) h1)
def qx:zI:=λ _ S Q=>Q [] S
def tK (te:zj) (tr:zI):zI:=fun Y S Q=>te Y S λ x S1=>tr Y S1 λ xs S2=>Q (x::xs) S2
variable {e:Expr}{es:List Expr}{te:zj}{tA:zI}
def tK.mo (h:zL te) (h':ve tA):ve (tK te tA):=fun Y S _ _ hq z=>h Y S _ _ (λ x S1 z=>h' Y S1 _ _ (λ xs S2 z=>hq _ _ z) z) z
def VB:yK X [] qx:=#[λ _ _ _ _ hq h=>hq _ _ h,PA.imp t7 fun O H Q #[_,_,_,r2,h]=>h [] H .nil (.refl H) r2]
def VC (ha:PD X e te) (hr:yK X es tA) (hs:Aq X e es):yK X (e::es) (tK te tA):=by
 exact#[tK.mo ha.mo hr.mo,PA.imp (uI ha.pe hr.pa hs) fun O H Q hu=>?_];let#[Y,S,r1,r2,h]:=hu;exact zw.go ha.mo r1 r2 h λ x S1 v H1 h1 q1 e1 p1=>?_;exact yV.go hr.mo (r1.ext e1) p1 h1 λ xs S2 w H2 h2 q2 e2 p2=>?_;show h2 (v::w) H2 (.cons (zf.ext e2 x q1) q2) (e1.trans e2) p2
def bp (t:zI):zj:=fun Y S Q=>t Y S λ ds S1=>ds.length<=sizeLine/\Q (.tup ds) S1
def bx (t:zI):zj:=fun Y S Q=>t Y S λ ds S1=>ds.length<=sizeLine/\∀ p,S1 p=none->Q (.ref p) (ups S1 p (.lst ds))
def VE {k} (h:yK X es tA):PD X (.Tuple es k pos) (bp tA):=by
 exact#[fun Y S _ _ hq z=>h.mo Y S _ _ (λ ds S1 z=>#[z.1,hq _ _ z.2]) z,PE.imp (Ww h.pa) fun O H Q hu=>?_];let#[Y,S,r1,r2,h']:=hu;exact yV.go h.mo r1 r2 h' λ ds S1 xs H1 h1 q1 e1 p1=>#[by rw[<- q1.length];show h1.1,λ p hp=>?_];exact h1.2 _ _ ?_ (e1.trans (.new hp _)) (p1.new hp);simp![zf];show#[p,xs,rfl,zE.of yf,zh.ext (.new hp _) ds q1]
theorem V_ (h:yK X es tA):PD X (.List es pos) (bx tA):=by
 exact#[fun Y S _ _ hq z=>h.mo Y S _ _ (λ ds S1 z=>#[z.1,λ p hp=>hq _ _ (z.2 p hp)]) z,PE.imp (W4 h.pa) fun O H Q hu=>?_];let#[Y,S,r1,r2,h']:=hu;exact yV.go h.mo r1 r2 h' λ ds S1 xs H1 h1 q1 e1 p1=>#[by rw[<- q1.length];show h1.1,λ p hp=>?_];exact h1.2 p (p1.none hp) _ _ (by simp![zf]) (e1.trans (.new hp _)) ?_;show p1.ups (.new hp _) #[xs,yf,zh.ext (.new hp _) ds q1]
def xI:yz:=λ x y S Q=>match x,y with
 | .tup ds,.int i=>match zP ds i with
  | some d=>Q d S
  | none=>False
 | .y_ ds,.int i=>match zP ds i with
  | some d=>Q d S
  | none=>False
 | .ref p,.int i=>match S p with
  | some (.lst ds)=>match zP ds i with
   | some d=>Q d S
   | none=>False
  | _=>False
 | .str z,.int i=>z.length<=sizeLine/\match zP z.cps.toList i with
  | some c=>Q (.str #[[c].toArray]) S
  | none=>False
 | _,_=>False
def xI.mo:yU xI:=λ x y S Q Q' hq h=>by
 unfold xI at h ⊢;split at h
 .skip
  split at h
  .show hq _ _ h
  .show h
 .skip
  split at h
  .show hq _ _ h
  .show h
 .skip
  split at h
  .skip
   split at h
   .show hq _ _ h
   .show h
  .show h.elim
 .let#[h0,h]:=h;exact#[h0,?_];split at h
  .show hq _ _ h
  .show h
 .show h.elim
theorem zh.zP {H:Hp}{ds:List D}{xs:List V}{i:Int}{d:D}(h:zh K H ds xs) (e:L2.zP ds i=↑d):∃ x,L2.zP xs i=↑x/\zf K H d x:=by
 unfold L2.zP at e ⊢;rw[h.length] at e;cases q:wx xs.length i with
 | none=>rw[q] at e;cases e
 | some j=>
  rw[q] at e;show h.get e
def xI.fits:yZ K xI (fN K):=λ x y d e H S Q h1 h2 h3 h=>by
 unfold xI at h;split at h
 .split at h
  .rename_i q;simp![zf] at h1 h2;let#[a,xs,rfl,r1,r2]:=h1;let#[x',e1,e2]:=r2.zP q;show .inr (.inl #[a,xs,_,x',rfl,h2,r1,e1,h x' H e2 (.refl H) h3])
  .show h.elim
 .split at h
  .rename_i q;simp![zf] at h1 h2;let#[a,xs,rfl,r1,r2]:=h1;let#[x',e1,e2]:=r2.zP q;show .inl #[a,xs,_,x',rfl,h2,r1.sq,e1,h x' H e2 (.refl H) h3]
  .show h.elim
 .split at h
  .rename_i q0;split at h
   .rename_i q;simp![zf] at h1 h2;subst h1;let#[xs,r1,r2]:=h3 _ _ q0;let#[x',e1,e2]:=r2.zP q;show .inl #[_,xs,_,x',rfl,h2,zA.of r1,e1,h x' H e2 (.refl H) h3]
   .show h.elim
  .show h.elim
 .let#[h0,h]:=h;split at h
  .rename_i q;simp![zf] at h1 h2;show .inr (.inr #[_,_,_,h1,h2,h0,q,h _ H (by simp![zf]) (.refl H) h3])
  .show h.elim
 .show h.elim
def Ue (ha:PD X a ta) (hb:PD X b tb) (hs:aw b):PD X (.Subscript a b pos) (z_ xI ta tb):=
 #[z_.mo xI.mo ha.mo hb.mo,PE.imp (W6 Qm ha.pe hb.pe hs) λ _ _ _ h=>ng xI.fits xI.mo ha.mo hb.mo h]
abbrev yS:=List D->SS->DK->Prop
def we (f:yS):Prop:=∀ ds S (Q Q':DK),(∀ d S',Q d S'->Q' d S')->f ds S Q->f ds S Q'
def ur (K:Ab) (f:yS) (r:List V->Hp->VK->Prop):Prop:=∀ xs ds H S Q,zh K H ds xs->zv K H S->f ds S (xJ K H Q)->r xs H Q
def vz (f:yS) (t:zI):zj:=fun Y S Q=>t Y S λ ds S1=>f ds S1 Q
def vz.mo {f:yS}(hf:we f) (h:ve tA):zL (vz f tA):=fun Y S _ _ hq z=>h Y S _ _ (λ ds S1 z=>hf ds S1 _ _ hq z) z
def Z_ {f:yS}{r:List V->Hp->VK->Prop}(hf:we f) (hr:ur K f r) (h:ve tA) {O:St}{H:Hp}{Q:VK}(hu:zw K (vz f tA) O H Q):nr r (yV K tA) O H Q:=by
 let#[Y,S,r1,r2,h']:=hu;exact yV.go h r1 r2 h' λ ds S1 xs H1 h1 q1 e1 p1=>?_;show hr xs ds H1 S1 Q q1 p1 (hf ds S1 _ _ (λ d S' z=>z.ext e1) h1)
def p8 {f:yS}{r:List V->Hp->VK->Prop}{e:Expr}(h:PE X e (nr r (yV X.K tA))) (hf:we f) (hr:ur X.K f r) (ha:ve tA):PD X e (vz f tA):=
 #[vz.mo hf ha,PE.imp h λ _ _ _ hu=>Z_ hf hr ha hu]
def zN (d:D) (S:SS):Option (List D):=match d with
 | .tup ds=>↑ds
 | .y_ ds=>↑ds
 | .ref p=>match S p with
  | some (.lst ds)=>↑ds
  | _=>none
 | _=>none
theorem zN.sq {H:Hp}{S:SS}{d:D}{v:V}{ds:List D}(r:zf K H d v) (p:zv K H S) (e:zN d S=↑ds):∃ a xs,v=.ref a/\(zA K H a xs\/zE K H a xs)/\zh K H ds xs:=by
 unfold zN at e;split at e
 .cases e;simp![zf] at r;let#[a,xs,h1,h2,h3]:=r;show#[a,xs,h1,.inr h2,h3]
 .cases e;simp![zf] at r;let#[a,xs,h1,h2,h3]:=r;show#[a,xs,h1,.inl h2.sq,h3]
 .split at e
  .rename_i q;cases e;simp![zf] at r;subst r;let#[xs,h1,h2]:=p _ _ q;show#[_,xs,rfl,.inl (zA.of h1),h2]
  .cases e
 .cases e
def zh.one {H:Hp}{d:D}{xs:List V}(h:zh K H [d] xs):∃ x,xs=[x]/\zf K H d x:=by
 simp![zh] at h;let#[x,r,rfl,h2,rfl]:=h;show#[x,rfl,h2]
def zh.two {H:Hp}{d d':D}{xs:List V}(h:zh K H [d,d'] xs):∃ x y,xs=[x,y]/\zf K H d x/\zf K H d' y:=by
 simp![zh] at h;let#[x,r,rfl,h2,y,r',rfl,h3,rfl]:=h;show#[x,y,rfl,h2,h3]
def ud:yS:=λ ds S Q=>match ds with
 | [d]=>match zN d S with
  | some ds=>Q (.int ds.length) S
  | none=>match d with
   | .str z=>z.length<=sizeLine/\Q (.int z.length) S
   | _=>False
 | _=>False
def ud.mo:we ud:=λ ds S Q Q' hq h=>by
 unfold ud at h ⊢;split at h
 .skip
  split at h
  .show hq _ _ h
  .split at h
   .show#[h.1,hq _ _ h.2]
   .show h.elim
 .show h.elim
abbrev X3 (K:Ab):List V->Hp->VK->Prop:=λ xs H Q=>(∃ p ys,xs=[.ref p]/\(zA K H p ys\/zE K H p ys)/\Q (.int ys.length) H)\/(∃ z,xs=[.str z]/\z.length<=sizeLine/\Q (.int z.length) H)
def ud.fits:ur K ud (X3 K):=λ xs ds H S Q h0 h2 h=>by
 unfold ud at h;split at h
 .let#[x,hx,h1]:=h0.one;subst hx;split at h
  .rename_i e;let#[a,ys,rfl,q,r]:=zN.sq h1 h2 e;exact .inl #[a,ys,rfl,q,?_];rw[<- r.length];show h _ H (by simp![zf]) (.refl H) h2
  .split at h
   .simp![zf] at h1;subst h1;show .inr #[_,rfl,h.1,h.2 _ H (by simp![zf]) (.refl H) h2]
   .show h.elim
 .show h.elim
def uc:yS:=λ ds S Q=>match ds with
 | [d]=>match zN d S with
  | some ds=>∀ p,S p=none->Q (.ref p) (ups S p (.lst ds))
  | none=>False
 | _=>False
def uc.mo:we uc:=λ ds S Q Q' hq h=>by
 unfold uc at h ⊢;split at h
 .skip
  split at h
  .show λ p hp=>hq _ _ (h p hp)
  .show h.elim
 .show h.elim
def uc.fits:ur K uc (λ xs H Q=>∃ p ys,xs=[.ref p]/\(zA K H p ys\/zE K H p ys)/\∀ l,H l=none->Q (.ref l) (upd H l (.lst ys))):=λ xs ds H S Q h0 h2 h=>by
 unfold uc at h;split at h
 .let#[x,hx,h1]:=h0.one;subst hx;split at h
  .rename_i e;let#[a,ys,rfl,q,r]:=zN.sq h1 h2 e;exact#[a,ys,rfl,q,λ l hl=>?_];show h l (h2.none hl) _ _ (by simp![zf]) (.new hl _) (h2.ups (.new hl _) #[ys,yf,zh.ext (.new hl _) _ r])
  .show h.elim
 .show h.elim
def vY:yS:=λ ds S Q=>match ds with
 | [.tup ds]=>Q (.tup ds) S
 | [.y_ ds]=>Q (.tup ds) S
 | [.ref p]=>match S p with
  | some (.lst ds)=>Q (.tup ds) S
  | _=>False
 | _=>False
def vY.mo:we vY:=λ ds S Q Q' hq h=>by
 unfold vY at h ⊢;split at h
 .show hq _ _ h
 .show hq _ _ h
 .skip
  split at h
  .show hq _ _ h
  .show h.elim
 .show h.elim
def vY.fits:ur K vY (λ xs H Q=>∃ p ys,xs=[.ref p]/\((zA K H p ys/\∀ l,H l=none->Q (.ref l) (upd H l (.tup ys)))\/(zE K H p ys/\Q (.ref p) H))):=λ xs ds H S Q h0 h2 h=>by
 unfold vY at h;split at h
 .let#[x,hx,h1]:=h0.one;subst hx;have HX:=h1;simp![zf] at h1;let#[a,xs,rfl,r1,r2]:=h1;show#[a,xs,rfl,.inr #[r1,h _ H HX (.refl H) h2]]
 .let#[x,hx,h1]:=h0.one;subst hx;simp![zf] at h1;let#[a,xs,rfl,r1,r2]:=h1;exact#[a,xs,rfl,.inl #[r1.sq,λ l hl=>h _ _ ?_ (.new hl _) (h2.new hl)]];simp![zf];show#[l,xs,rfl,zE.of yf,zh.ext (.new hl _) _ r2]
 .let#[x,hx,h1]:=h0.one;subst hx;split at h
  .rename_i e;simp![zf] at h1;subst h1;let#[xs,r1,r2]:=h2 _ _ e;exact#[_,xs,rfl,.inl #[zA.of r1,λ l hl=>h _ _ ?_ (.new hl _) (h2.new hl)]];simp![zf];show#[l,xs,rfl,zE.of yf,zh.ext (.new hl _) _ r2]
  .show h.elim
 .show h.elim
def zal:yz:=λ x y S Q=>match x,y with
 | .ref p,.ref q=>match S p,S q with
  | some (.lst ds),↑(.lst es)=>ds.length+es.length<=sizeLine/\∀ r,S r=none->Q (.ref r) (ups S r (.lst (ds++es)))
  | _,_=>False
 | _,_=>False
def uk (to te:zj):zj:=fun Y S Q=>to Y S λ x S1=>match x with
 | .ref p=>(∃ ds,S1 p=↑(.lst ds))/\te Y S1 λ y S2=>match S2 p with
  | some (.lst ds)=>ds.length<sizeLine/\Q .zk (ups S2 p (.lst (ds++[y])))
  | _=>False
 | _=>False
def uk.mo {to te:zj}(h:zL to) (h':zL te):zL (uk to te):=fun Y S Q Q' hq z=>h Y S _ _ (λ x S1 z=>by
 cases x with
 | ref p=>
  exact#[z.1,h' Y S1 _ _ (λ y S2 w=>?_) z.2];split at w
  .show#[w.1,hq _ _ w.2]
  .show w.elim
 | _=>show z) z
theorem ag {to te:zj}(h:zL to) (h':zL te) (O:St) (H:Hp) (Q:VK) (hu:zw K (uk to te) O H Q):sW K "list" kq (zw K to) (qV (zw K te) qU) O H Q:=by
 let#[Y,S,r1,r2,z]:=hu;exact zw.go h r1 r2 z λ x S1 v H1 h1 q1 e1 p1=>?_;cases x with
 | ref p=>
  let#[#[ds,hd],h1]:=h1;simp![zf] at q1;subst q1;let#[xs,g1,g2]:=p1 _ _ hd;exact#[.inl #[rfl,xs,zA.of g1],?_];exact zw.go h' (r1.ext e1) p1 h1 λ y S2 w H2 h2 q2 e2 p2=>?_;split at h2
  .rename_i GB e3;let#[EI,g3,g4]:=p2 _ _ e3;exact#[p,EI,w,rfl,rfl,g3,by rw[<- g4.length];show h2.1,?_];have e4:Ext H2 (upd H2 p (.lst (EI++[w]))):=.lst g3 _;show h2.2 _ _ (by simp![zf]) ((e1.trans e2).trans e4) (p2.ups e4 #[_,yf,zh.ext e4 _ (g4.snoc q2)])
  .show h2.elim
 | _=>show h1.elim
def U5 {o e:Expr}{to te:zj}{e0:Expr}(D5:PE X e0 (sW X.K "list" kq (zw X.K to) (qV (zw X.K te) qU))) (h:zL to) (h':zL te):PD X e0 (uk to te):=#[uk.mo h h',PE.imp D5 (ag h h')]
end
structure sP where
 nx:zS->SS->Prop
 rt:DK
 bk:zS->SS->Prop:=λ _ _=>False
 ct:zS->SS->Prop:=λ _ _=>False
abbrev zW:=sP->zS->SS->Prop
structure sP.Le (E E':sP):Prop where
 nx:∀ Y S,E.nx Y S->E'.nx Y S
 rt:∀ d S,E.rt d S->E'.rt d S
 bk:∀ Y S,E.bk Y S->E'.bk Y S
 ct:∀ Y S,E.ct Y S->E'.ct Y S
def uD (t:zW):Prop:=∀ E E' Y S,sP.Le E E'->t E Y S->t E' Y S
def wX (K:Ab) (H:Hp) (D:Ends):sP:=#[xA K H D.nx,xJ K H D.rt,xA K H D.bk,xA K H D.ct]
theorem wX.ext {K:Ab}{H H':Hp}{D:Ends}(e:Ext H H'):(wX K H D).Le (wX K H' D):=#[λ _ _ h=>xA.ext e h,λ _ _ h=>xJ.ext e h,λ _ _ h=>xA.ext e h,λ _ _ h=>xA.ext e h]
def lK (K:Ab) (t:zW):TS:=λ D O H=>∃ Y S,yj K H Y O/\zv K H S/\t (wX K H D) Y S
structure wG (X:Cx) (st:Stmt) (t:zW):Prop where
 mo:uD t
 ps:PS X st (lK X.K t)
structure wF (X:Cx) (st:List Stmt) (t:zW):Prop where
 mo:uD t
 ps:xC X st (lK X.K t)
section
variable {X:Cx}{K:Ab}{st:Stmt}{En:List Stmt}{t u:zW}{pos:Pos}{e:Expr}{te:zj}
def j4:zW:=λ E Y S=>E.nx Y S
def rA (t u:zW):zW:=λ E Y S=>t { E with nx:=u E } Y S
def rA.mo (h:uD t) (h':uD u):uD (rA t u):=λ E E' Y S hE z=>h { E with nx:=u E } { E' with nx:=u E' } Y S #[fun Y S q=>h' E E' Y S hE q,hE.rt,hE.bk,hE.ct] z
def Vb:wF X [] j4:=#[λ _ _ _ _ hE h=>hE.nx _ _ h,xC.imp XH λ D O H #[Y,S,r1,r2,h]=>h O H r1 (.refl H) r2]
def Va (h:wG X st t):wF X [st] t:=#[h.mo,fV h.ps]
def Vc (h:wG X st t) (h':wF X En u):wF X (st::En) (rA t u):=by
 exact#[rA.mo h.mo h'.mo,xC.imp (XI h.ps h'.ps) λ D O H hu=>?_];let#[Y,S,r1,r2,z]:=hu;exact#[Y,S,r1,r2,h.mo { wX X.K H D with nx:=u (wX X.K H D) } _ Y S #[fun Y' S' q O' H' q1 q2 q3=>?_,λ _ _ q=>q,λ _ _ q=>q,λ _ _ q=>q] z];show#[Y',S',q1,q3,h'.mo _ _ Y' S' (wX.ext q2) q]
def ot (te:zj):zW:=λ E Y S=>te Y S λ _ S1=>E.nx Y S1
def Vn (he:PD X e te) (hs:swapsWith e none pos.line X.env=pure false):wG X (.Expr e pos) (ot te):=by
 exact#[λ E E' Y S hE z=>he.mo Y S _ _ (λ _ _ q=>hE.nx _ _ q) z,PS.imp (XR he.pe hs) λ D O H hu=>?_];let#[Y,S,r1,r2,z]:=hu;show zw.go he.mo r1 r2 z λ x S1 v H1 h1 q1 e1 p1=>h1 O H1 (r1.ext e1) e1 p1
def j0 (te:zj):zW:=λ E Y S=>te Y S E.rt
def Vi (he:PD X e te):wG X (.Return ↑e pos) (j0 te):=by
 exact#[λ E E' Y S hE z=>he.mo Y S _ _ (λ _ _ q=>hE.rt _ _ q) z,PS.imp (XM he.pe) λ D O H hu=>?_];let#[Y,S,r1,r2,z]:=hu;show zw.go he.mo r1 r2 z λ x S1 v H1 h1 q1 e1 p1=>h1 v H1 q1 e1 p1
def mE (c:yt) (t u:zW):zW:=λ E Y S=>c Y S λ k S1=>if k=true then t E Y S1 else u E Y S1
def Vl {c:Expr}{p q:List Stmt}{tc:yt}(hc:xx X c tc) (h:wF X p t) (h':wF X q u):wG X (.If c p q pos) (mE tc t u):=by
 exact#[λ E E' Y S hE z=>hc.mo Y S _ _ (λ k S1 z=>wy (h.mo _ _ Y S1 hE) (h'.mo _ _ Y S1 hE) z) z,PS.imp (XO hc.pt h.ps h'.ps) λ D O H hu=>?_];let#[Y,S,r1,r2,z]:=hu;exact xM.go hc.mo r1 r2 z λ k S1 H1 h1 e1 p1=>wy (λ z=>?_) (λ z=>?_) h1
 .show#[Y,S1,r1.ext e1,p1,h.mo _ _ Y S1 (wX.ext e1) z]
 .show#[Y,S1,r1.ext e1,p1,h'.mo _ _ Y S1 (wX.ext e1) z]
abbrev xl:=D->zS->SS->(zS->SS->Prop)->Prop
abbrev w_:=List D->zS->SS->(zS->SS->Prop)->Prop
def mZ (t:xl):Prop:=∀ d Y S (Q Q':zS->SS->Prop),(∀ Y S,Q Y S->Q' Y S)->t d Y S Q->t d Y S Q'
def aD (t:w_):Prop:=∀ d Y S (Q Q':zS->SS->Prop),(∀ Y S,Q Y S->Q' Y S)->t d Y S Q->t d Y S Q'
def lL (K:Ab) (t:xl):TG:=λ v O H Q=>∃ d Y S,zf K H d v/\yj K H Y O/\zv K H S/\t d Y S (xA K H Q)
def gp (K:Ab) (t:w_):tQ:=λ v O H Q=>∃ d Y S,zh K H d v/\yj K H Y O/\zv K H S/\t d Y S (xA K H Q)
structure tU (X:Cx) (e:Expr) (t:xl):Prop where
 mo:mZ t
 pg:PG X e (lL X.K t)
structure oK (X:Cx) (es:List Expr) (t:w_):Prop where
 mo:aD t
 pg:uW X es (gp X.K t)
def PG.imp {e:Expr}{t t':TG}(h:PG X e t) (hi:∀ v O H Q,t' v O H Q->t v O H Q):PG X e t':=λ Ek s O H v w Q I r q=>h Ek s O H v w Q I r (hi v O H Q q)
def uW.imp {e:List Expr}{t t':tQ}(h:uW X e t) (hi:∀ v O H Q,t' v O H Q->t v O H Q):uW X e t':=λ Ek s O H v w Q I r q=>h Ek s O H v w Q I r (hi v O H Q q)
def hName (i:Nat):xl:=λ d Y S Q=>Q (Y.set i ↑d) S
def V7 {e:Expr}{i:Nat}(h:PG X e (mz i)):tU X e (hName i):=
 #[λ _ _ _ _ _ hq z=>hq _ _ z,PG.imp h λ v O H Q #[d,Y,S,r1,r2,r3,z]=>z _ H (r2.set i r1) (.refl H) r3]
def cy:w_:=λ ds Y S Q=>ds=[]/\Q Y S
def cz (t:xl) (u:w_):w_:=λ ds Y S Q=>match ds with
 | d::r=>t d Y S fun Y' S'=>u r Y' S' Q
 | []=>False
def V2:oK X [] cy:=by
 exact#[λ _ _ _ _ _ hq z=>#[z.1,hq _ _ z.2],uW.imp Wg λ v O H Q hu=>?_];let#[d,Y,S,r1,r2,r3,z1,z2]:=hu;subst z1;simp![zh] at r1;show#[r1,z2 O H r2 (.refl H) r3]
def V3 {e:Expr}{es:List Expr}{t:xl}{u:w_}(h:tU X e t) (h':oK X es u) (hs:(assignEach (e::es) X.env).map (·.2)=assign e X.env::(assignEach es X.env).map (·.2)):oK X (e::es) (cz t u):=by
 exact#[λ ds Y S Q Q' hq z=>?_,uW.imp (Wh h.pg h'.pg hs) λ v O H Q hu=>?_]
 .cases ds with
  | nil=>show z
  | cons d r=>show h.mo d Y S _ _ (fun Y' S' z=>h'.mo r Y' S' _ _ hq z) z
 .let#[ds,Y,S,r1,r2,r3,z]:=hu;cases ds with
  | nil=>show z.elim
  | cons d r=>
   simp![zh] at r1;let#[x,xs,rfl,q1,q2]:=r1;exact#[x,xs,rfl,d,Y,S,q1,r2,r3,h.mo d Y S _ _ (fun Y' S' z O' H' g1 g2 g3=>?_) z];show#[r,Y',S',zh.ext g2 r q2,g1,g3,h'.mo r Y' S' _ _ (fun Y2 S2 z2=>xA.ext g2 z2) z]
def mx (n:Nat) (t:w_):xl:=λ d Y S Q=>match d with
 | .tup ds=>ds.length=n/\t ds Y S Q
 | _=>False
def V4 {e:Expr}{n:Nat}{t:w_}(h:PG X e (cC X.K n (gp X.K t))) (hm:aD t):tU X e (mx n t):=by
 exact#[λ d Y S Q Q' hq z=>?_,PG.imp h λ v O H Q hu=>?_]
 .cases d with
  | tup ds=>show#[z.1,hm ds Y S _ _ hq z.2]
  | _=>show z
 .let#[d,Y,S,r1,r2,r3,z]:=hu;cases d with
  | tup ds=>
   simp![zf] at r1;let#[a,xs,rfl,q1,q2]:=r1;show#[a,xs,rfl,q1,by rw[<- q2.length];show z.1,ds,Y,S,q2,r2,r3,z.2]
  | _=>show z.elim
def rF (te:zj) (g:xl):zW:=λ E Y S=>te Y S λ x S1=>g x Y S1 E.nx
def rF.mo {g:xl}(h:zL te) (h':mZ g):uD (rF te g):=λ E E' Y S hE z=>h Y S _ _ (λ x S1 q=>h' x Y S1 _ _ (fun Y S q=>hE.nx _ _ q) q) z
def Vh {e0:Stmt}{i:Nat}(h:PS X e0 (lR (zw X.K te) (mz i))) (hm:zL te):wG X e0 (rF te (hName i)):=by
 exact#[rF.mo hm λ _ _ _ _ _ hq z=>hq _ _ z,PS.imp h λ D O H hu=>?_];let#[Y,S,r1,r2,z]:=hu;exact zw.go hm r1 r2 z λ x S1 v H1 h1 q1 e1 p1=>?_;show h1 _ H1 ((r1.ext e1).set i q1) e1 p1
end
structure oY where
 items:List D
 keep:SS->Prop
abbrev xQ:=zS->SS->(oY->SS->Prop)->Prop
def mY (t:xQ):Prop:=∀ Y S (Q Q':oY->SS->Prop),(∀ I S',Q I S'->Q' I S')->t Y S Q->t Y S Q'
def iu (K:Ab) (H1:Hp) (J:It) (I:oY):Prop:=∀ (i:Nat) (H:Hp) (S:SS),Ext H1 H->zv K H S->I.keep S->
 (∀ d,I.items[i]?=↑d->J.go i H/\∀ x H',J.rZ i H x H'->Ext H H'/\zv K H' S/\zf K H' d x)/\(I.items.length<=i->J.stop i H)
def PC (K:Ab) (H:Hp) (R:It->Hp->Prop):oY->SS->Prop:=λ I S1=>∀ J H1,Ext H H1->zv K H1 S1->iu K H1 J I->R J H1
def vI (K:Ab) (t:xQ):TI:=fun O H R=>∃ Y S,yj K H Y O/\zv K H S/\t Y S (PC K H R)
structure uX (X:Cx) (tg iter:Expr) (t:xQ):Prop where
 mo:mY t
 pi:PI X tg iter (vI X.K t)
def PI.imp {X:Cx}{tg e:Expr}{t t':TI}(h:PI X tg e t) (hi:∀ O H Q,t' O H Q->t O H Q):PI X tg e t':=λ Ek s O H Q I q=>h Ek s O H Q I (hi O H Q q)
section
variable {X:Cx}{K:Ab}{tg e:Expr}{pos:Pos}
theorem zh.at {H:Hp}{ds:List D}{xs:List V}{i:Nat}{d:D}{x:V}(r:zh K H ds xs) (h1:ds[i]?=↑d) (h2:xs[i]?=↑x):zf K H d x:=by
 let#[y,e1,e2]:=r.get h1;rw[h2] at e1;cases e1;show e2
def uz (lo:Int) (n:Nat):List D:=(List.range n).map λ(k:Nat)=>D.int (lo+(k:Int))
def Xz {lo:Int}{n i:Nat}{d:D}(h:(uz lo n)[i]?=↑d):i<n/\d=.int (lo+(i:Int)):=by
 unfold uz at h;rw[A0] at h;cases q:(List.range n)[i]? with
 | none=>rw[q] at h;cases h
 | some j=>
  rw[q] at h;let#[h1,h2]:=A1.mp q;rw[CB] at h1;rw[List.getElem_range] at h2;subst h2;cases h;show#[h1,rfl]
def Xy (lo:Int) (n:Nat):(uz lo n).length=n:=by unfold uz;rw[An,CB]
def iu.range {H1:Hp}{lo:Int}{n:Nat}:iu K H1 (oM lo n) #[uz lo n,λ _=>True]:=λ i H S _ x2 _=>by
 exact#[λ d hd=>?_,λ hl=>by rw[show (oY.mk (uz lo n) λ _=>True).items=uz lo n from rfl,Xy] at hl;show hl];let#[h1,rfl]:=Xz hd;exact#[h1,λ x H' q=>?_];let#[rfl,rfl]:=q;show#[.refl _,x2,by simp![zf]]
def ja (t:zI):xQ:=fun Y S R=>t Y S λ ds S1=>match ds with
 | [.int j]=>(-(2 ^ 62)<=j/\j<2 ^ 62)/\R #[uz 0 j.toNat,λ _=>True] S1
 | _=>False
def k_ (t:zI):xQ:=fun Y S R=>t Y S λ ds S1=>match ds with
 | [.int i,.int j]=>(-(2 ^ 62)<=i/\i<2 ^ 62/\-(2 ^ 62)<=j/\j<2 ^ 62)/\R #[uz i (j-i).toNat,λ _=>True] S1
 | _=>False
variable {tA:zI}
def V1 (h:PI X tg e (cx (yV X.K tA))) (hm:ve tA):uX X tg e (ja tA):=by
 exact#[fun Y S Q Q' hq z=>hm Y S _ _ (λ ds S1 z=>?_) z,PI.imp h fun O H R hu=>?_]
 .split at z
  .show#[z.1,hq _ _ z.2]
  .show z.elim
 .let#[Y,S,r1,r2,z]:=hu;exact yV.go hm r1 r2 z λ ds S1 xs H1 h1 q1 e1 p1=>?_;split at h1
  .let#[x,rfl,q]:=q1.one;simp![zf] at q;subst q;show#[_,rfl,h1.1.1,h1.1.2,h1.2 _ H1 e1 p1 .range]
  .show h1.elim
def Vy (h:PI X tg e (cw (yV X.K tA))) (hm:ve tA):uX X tg e (k_ tA):=by
 exact#[fun Y S Q Q' hq z=>hm Y S _ _ (λ ds S1 z=>?_) z,PI.imp h fun O H R hu=>?_]
 .split at z
  .show#[z.1,hq _ _ z.2]
  .show z.elim
 .let#[Y,S,r1,r2,z]:=hu;exact yV.go hm r1 r2 z λ ds S1 xs H1 h1 q1 e1 p1=>?_;split at h1
  .let#[x,y,rfl,q,q']:=q1.two;simp![zf] at q q';subst q q';show#[_,_,rfl,h1.1,h1.2 _ H1 e1 p1 .range]
  .show h1.elim
def oq (ti:xQ) (g:xl) (tb:zW):zW:=λ E Y S=>ti Y S λ I S1=>∃ W:Nat->zS->SS->Prop,W 0 Y S1/\(∀ i Y S,W i Y S->I.keep S)/\
 (∀ i d Y S,I.items[i]?=↑d->W i Y S->g d Y S fun Y2 S2=>tb { E with nx:=W (i+1),ct:=W (i+1),bk:=E.nx } Y2 S2)/\∀ Y S,W I.items.length Y S->E.nx Y S
def oq.mo {ti:xQ}{g:xl}{tb:zW}(hi:mY ti) (hg:mZ g) (hb:uD tb):uD (oq ti g tb):=λ E E' Y S hE z=>hi Y S _ _ (λ I S1 #[W,w0,wk,ws,wd]=>by
 exact#[W,w0,wk,λ i d Y S hd hw=>hg d Y S _ _ (fun Y2 S2 z=>hb { E with nx:=W (i+1),ct:=W (i+1),bk:=E.nx } { E' with nx:=W (i+1),ct:=W (i+1),bk:=E'.nx } Y2 S2 #[λ _ _ q=>q,hE.rt,hE.nx,λ _ _ q=>q] z) (ws i d Y S hd hw),fun Y S q=>hE.nx _ _ (wd Y S q)]) z
def Vm {iter:Expr}{body:List Stmt}{ti:xQ}{g:xl}{tb:zW}(hp:PassesOwn (model X.prog X.w) X.A X.env X.xe) (hc:X.calm=true) (hi:uX X tg iter ti) (hg:tU X tg g) (hb:wF X body tb)
  (hs:∀ x,foldedSetIterable iter X.env x=pure x):wG X (.For tg iter body [] pos) (oq ti g tb):=by
 exact#[oq.mo hi.mo hg.mo hb.mo,PS.imp (XQ hp hc hi.pi hg.pg hb.ps hs) λ D O H hu=>?_];let#[Y,S,r1,r2,z]:=hu;exact#[Y,S,r1,r2,hi.mo Y S _ _ (λ I S1 hW J H1 e1 p1 rep=>?_) z];let#[W,w0,wk,ws,wd]:=hW;exact#[λ i m O H2=>m=I.items.length-i/\i<=I.items.length/\Ext H1 H2/\∃ Y S,yj X.K H2 Y O/\zv X.K H2 S/\W i Y S,#[_,rfl,AZ _,.refl _,Y,S1,r1.ext e1,p1,w0],?_];rintro i m O2 H2 ⟨rfl,FZ,x2,Y2,S2,q1,q2,w2⟩;let#[g1,g2]:=rep i H2 S2 x2 q2 (wk i Y2 S2 w2);by_cases hl:i<I.items.length
 .have hd:I.items[i]?=↑I.items[i]:=by simp[hl]
  let#[go,yl]:=g1 _ hd;exact .inr #[go,fun O' H'=>Ext H1 H'/\∃ Y S,yj X.K H' Y O'/\zv X.K H' S/\W (i+1) Y S,fun O' H' q=>#[_,⋯,rfl,hl,q],λ x H3 hy=>?_];let#[x3,p3,d3]:=yl x H3 hy;exact#[_,Y2,S2,d3,q1.ext x3,p3,hg.mo _ Y2 S2 _ _ (fun Y4 S4 z4 O4 H4 a1 a2 a3=>?_) (ws i _ Y2 S2 hd w2)];exact#[Y4,S4,a1,a3,hb.mo _ _ Y4 S4 #[fun Y5 S5 w5 O5 H5 b1 b2 b3=>#[((x2.trans x3).trans a2).trans b2,Y5,S5,b1,b3,w5],λ _ _ q=>xJ.ext (((e1.trans x2).trans x3).trans a2) q,λ _ _ q=>xA.ext (((e1.trans x2).trans x3).trans a2) q,fun Y5 S5 w5 O5 H5 b1 b2 b3=>#[((x2.trans x3).trans a2).trans b2,Y5,S5,b1,b3,w5]] z4]
 .have e:i=I.items.length:=⋯;subst e;show .inl #[g2 (Aj _),wd Y2 S2 w2 O2 H2 q1 (e1.trans x2) q2]
abbrev yY:=List D->SS->DK->Prop
def rR (sp:yY):Prop:=∀ ds S (Q Q':DK),(∀ d S',Q d S'->Q' d S')->sp ds S Q->sp ds S Q'
def uu (K:Ab) (sp:yY):Sp:=λ vs H Q _=>∃ ds S,zh K H ds vs/\zv K H S/\sp ds S (xJ K H Q)
def rE (sp:yY) (t:zI):zj:=fun Y S Q=>t Y S λ ds S1=>sp ds S1 Q
def bF {sp:yY}{E:XK}(hs:rR sp) (hm:ve tA) (O:St) (H:Hp) (Q:VK) (hu:zw K (rE sp tA) O H Q):nq (uu K sp) [] E (yV K tA) O H Q:=by
 let#[Y,S,r1,r2,z]:=hu;exact yV.go hm r1 r2 z λ ds S1 xs H1 h1 q1 e1 p1=>?_;rw[Bx];show#[ds,S1,q1,p1,hs ds S1 _ _ (λ d S' q=>xJ.ext e1 q) h1]
def U1 {sp:yY}{E:XK}{e:Expr}(h:PE X e (nq (uu X.K sp) [] E (yV X.K tA))) (hs:rR sp) (hm:ve tA):PD X e (rE sp tA):=
 #[fun Y S Q Q' hq z=>hm Y S _ _ (λ ds S1 z=>hs ds S1 _ _ hq z) z,PE.imp h (bF hs hm)]
def uw (N:List Str) (ds:List D):zS:=ds.map some++List.replicate (N.length-ds.length) none
theorem yj.init {H:Hp}{N:List Str}{ds:List D}{vs:List V}(r:zh K H ds vs):yj K H (uw N ds) (start N vs):=by
 have hl:=r.length;exact#[by unfold uw L2.start;simp[hl],λ i d h=>?_];unfold uw at h;have hi:i<ds.length:=by
  rcases Br i ds.length with q | q
  .show q
  .rw[CV (by exists q),DS] at h;split at h <;> cases h
 rw[Ca (by exists hi),A0] at h;cases q:ds[i]? with
 | none=>rw[q] at h;cases h
 | some d'=>
  rw[q] at h;cases h;let#[x,e1,e2]:=r.get q;exact#[x,?_,e2];unfold L2.start;rw[Ca (by exists by lia),A0,e1];rfl
def QU {P:Program}{w:World}{K:Ab}{mg:Au}{base:Heap}{x qual:Str}{st:Stmt}{f:Addr}{fd:FuncData}{N ps:List Str}{k:Nat}{sp:yY}(F:vC K x qual st f fd) (Sc:vE N ps (zC st))
  (len:∀ ds S Q,sp ds S Q->ds.length=ps.length)
  (ED:∀ (Ag:Value) (A:Around) (outer:List Env) (s:Shared) (H:Hp) (E:XK),zQ k (A.deeper (envOfC qual (zC st) s.heap.objs.size f Ag))->
   ∃ t,wF (yE yv P w K mg base N qual (zC st) f Ag A outer s H E).yW (yP st) t/\∀ ds S Q,sp ds S Q->t { nx:=λ _ S'=>Q .zk S',rt:=Q } (uw N ds) S):yL P w K mg base yv (k+1) f fd ps (uu K sp):=by
 exact F.ok Sc (λ vs H Q E h=>?_) λ Ag A outer s H vs Q E hr h=>?_
 .let#[ds,S,r1,_,z]:=h;rw[<- r1.length];show len _ _ _ z
 .let#[ds,S,r1,r2,z]:=h;let#[t,ht,hq]:=ED Ag A outer s H E hr;exact#[_,ht.ps,uw N ds,S,.init r1,r2,ht.mo { nx:=λ _ S'=>xJ K H Q .zk S',rt:=xJ K H Q } _ _ _ #[fun Y S' q O' H' _ b c=>q .zk H' (by simp![zf]) b c,λ _ _ q=>q,λ _ _ q=>False.elim q,λ _ _ q=>False.elim q] (hq ds S _ z)]
def vQ (pick:List (Option Nat)) (Y:zS):zS:=pick.map λ o=>o.bind λ i=>(Y[i]?).join
theorem yj.pick {H:Hp}{Y:zS}{O:St}(r:yj K H Y O) (pick:List (Option Nat)):yj K H (vQ pick Y) (vP pick O):=by
 exact#[by unfold vQ vP;simp,λ i d h=>?_];unfold vQ at h;rw[A0] at h;cases q:pick[i]? with
 | none=>rw[q] at h;cases h
 | some o=>
  rw[q] at h;cases o with
  | none=>simp at h
  | some j=>
   simp![Option.map_some,BQ,Option.some.injEq] at h;have hj:Y[j]?=↑↑d:=by
    cases q2:Y[j]? with
    | none=>rw[q2] at h;cases h
    | some o2=>rw[q2] at h;simp![Option.join_some] at h;rw[h]
   let#[v,e1,e2]:=r.2 j d hj;exact#[v,?_,e2];unfold vP;rw[A0,q];simp[e1]
def rL (Y Y':zS):Prop:=Y.length=Y'.length/\∀ (i:Nat) d,Y[i]?=↑↑d->Y'[i]?=↑↑d
def rL.rep {H:Hp}{Y Y':zS}{O:St}(h:rL Y Y') (r:yj K H Y' O):yj K H Y O:=#[h.1.trans r.1,λ i d q=>r.2 i d (h.2 i d q)]
structure mQ (X:Cx) (ifs:List Expr) (t:yt):Prop where
 mo:wH t
 pf:PF X ifs (xM X.K t)
def PF.imp {ifs:List Expr}{t t':TT}(h:PF X ifs t) (hi:∀ O H Q,t' O H Q->t O H Q):PF X ifs t':=λ Ek s O H Q I q=>h Ek s O H Q I (hi O H Q q)
def ba:yt:=λ _ S Q=>Q true S
def V9:mQ X [] ba:=#[λ _ _ _ _ hq z=>hq _ _ z,PF.imp Wn λ _ H _ #[_,_,_,r2,z]=>z H (.refl H) r2]
def V8 {c:Expr}{t:yt}(h:xx X c t):mQ X [c] t:=#[h.mo,Wm h.pt]
end
end L3
namespace L2
open PySem PySem.Spec PyProof.Rows
def Q7 (K:Ab) (tl:TE):TI:=fun O H R=>tl O H λ x H1=>∃ a,x=.ref a/\(((∃ xs,zA K H1 a xs)/\R (aG K a) H1)\/((∃ xs,zE K H1 a xs)/\R (aF K a) H1))
def Wd {X:Cx}{tg l:Expr}{tl:TE}(hl:PE X l tl):PI X tg l (Q7 X.K tl):=by
 intro Ek s O H R I h;exact zt (hl Ek s O H _ I h) λ v s1 #[x,H1,I1,r1,a,hx,q1]=>?_;subst hx;cases r1;have new:∀ b∈[s1.heap.objs.size],vD X Ek H1 b:=λ b hb=>by
  obtain rfl:b=s1.heap.objs.size:=AK.mp hb;show I1.jo (Aj _) (I1.zl.fresh (Aj _))
 rcases q1 with ⟨⟨xs,hq⟩,q⟩ | ⟨⟨xs,hq⟩,q⟩
 .let#[its,_,pl,_]:=I1.list hq;show wpAny_pyIter_list pl.isList #[_,_,_,_,H1,rfl,I1.kept (t':=s1.toks) λ b o eo=>JH _ eo,Yl a _,#[_,AQ _ rfl,rfl,rfl],new,q]
 .let#[its,_,pt,_]:=I1.tuple hq;show wpAny_pyIter_tuple (show s1.heap.IsTuple a its.toArray from pt) #[_,_,_,_,H1,rfl,I1.kept (t':=s1.toks) λ b o eo=>JH _ eo,Yj a _,#[_,AQ _ rfl,rfl,rfl],new,q]
def range_all (bs:List Bool):(List.range bs.length).all (λ i=>bs.getD i true)=bs.all id:=by
 rw[DQ,A9,A9];constructor
 .intro h b hb;let#[i,hi,rfl]:=B1.mp hb;have:=h i (A6.mpr hi);simpa [hi] using this
 .intro h i hi;have FZ:=A6.mp hi;have:=h bs[i] (CZ FZ);simpa [FZ] using this
theorem Ox {bs:List Bool}{its:Ad}(r:Vals (bs.map V.bl) its) {i:Nat}{v:Value}(h:its.toArray[i]?=↑v):v=.bool (bs.getD i true):=by
 have hl:=r.length;rw[An] at hl;have h':its[i]?=↑v:=by exists h
 have hi:i<bs.length:=by
  rw[hl];rcases Br i its.length with q | q
  .show q
  .rw[List.getElem?_eq_none q] at h';cases h'
 let#[u,e1,e2]:=r.get (i:=i) (x:=.bl bs[i]) (by simp[hi]);rw[h'] at e1;cases e1;have:v=.bool bs[i]:=e2;rw[this];simp[hi]
section
variable {X:Cx}
theorem Ou (hc:X.calm=true):yM X (.builtin "all") (λ xs H Q=>∃ p,∃ bs:List Bool,xs=[.ref p]/\zA X.K H p (bs.map V.bl)/\Q (.bl (bs.all id)) H):=by
 intro Ek s O H xs us Q I r h;let#[p,bs,rfl,hq,q]:=h;let#[u,rfl,ru]:=vals1 r;cases ru;let#[its,rv,pl,hz]:=I.list hq;have hl:=rv.length;rw[An] at hl;have AE:p<s.heap.objs.size:=by let#[o,n,e,_]:=pl;show Ar e
 exact call_all_walk (wpAny_pyIter_list pl.isList ?_);exact#[s.heap.objs.size,_,_,_,_,_,λ i=>bs.getD i true,rfl,Walks.list (A:=X.A.in1) (I.ok.hd hc) s.heap.objs.size p (AI AE) its.toArray,#[#[_,AQ _ rfl,rfl,rfl],pl.isList.push _],λ i v s' Q' E' hv hq'=>?_,λ h' tk hk=>?_]
 .rw[Ox rv hv];show JV hq'
 .have e:(List.range its.toArray.size).all (λ i=>bs.getD i true)=bs.all id:=by rw[Ax,<- hl,range_all]
  rw[e];show#[.bl _,H,I.kept (t':=tk) λ b o eo=>hk b o (by exists AI (Ar eo)) (JH _ eo),rfl,q]
end
end L2
namespace L3
open PySem PySem.Spec L2
open PyProof.Rows hiding St
structure Bt (mg:Au):Prop where
 len:mg "len"=none
 range:mg "range"=none
 any:mg "any"=none
 all:mg "all"=none
 sorted:mg "sorted"=none
 isinstance:mg "isinstance"=none
 bool:mg "bool"=none
 int:mg "int"=none
 str:mg "str"=none
 list:mg "list"=none
 tuple:mg "tuple"=none
 max:mg "max"=none
 min:mg "min"=none
section
variable {X:Cx}{a e:Expr}{es:List Expr}{te:zj}{pos p:Pos}
def b8 {N':List Str}{pick:List (Option Nat)}{scope HZ:Scope}{N:List Str}(hE:X.env.scope=HZ:=by rfl) (hN:X.N=N:=by rfl) (h1:scope.kind=.function:=by rfl)
  (h2:scope.names.all (λ y=>decide (scope.names.lookup y.1=↑y.2))=true:=by decide +kernel)
  (h4:scope.names.all (λ y=>!decide (y.2=.free)||(decide (HZ.names.lookup y.1=↑.cell)||decide (HZ.names.lookup y.1=↑.free)))=true:=by decide +kernel)
  (h5:pick.length=N'.length:=by rfl) (h6:qg N N' pick scope=true:=by decide +kernel):qN X N' pick scope:=by
 exact#[h1,λ y hy=>of_decide_eq_true (A9.mp h2 y hy),λ y hy hf=>?_,h5,by rw[hN];show h6];have:=A9.mp h4 y hy;rw[JY hf] at this;rw[hE];exists this
def V6 (i:Nat) {x:Str}(hN:X.N.Nodup) (hi:X.N[i]?=↑x) (hx:Loc X.env.scope x) (hf:X.fn x=true\/X.env.scope.names.lookup x=↑.local):tU X (.Name x pos) (hName i):=
 V7 (Wk hN hi hx hf)
def V5 {k:Nat}{t:w_}{n:Nat}(h:oK X es t) (hc:X.calm=true) (hn:(assignEach es X.env).length=n) (AJ:(assignEach es X.env).findIdx? (·.1)=none):tU X (.Tuple es k pos) (mx n t):=
 V4 (Wi hc h.pg hn AJ) h.mo
def Vg (i:Nat) {x:Str}{pos':Pos}(hN:X.N.Nodup) (he:PD X e te) (hi:X.N[i]?=↑x) (hx:Loc X.env.scope x) (hs:swapsWith e ↑(.Name x pos') pos.line X.env=pure false)
  (hf:X.fn x=true\/X.env.scope.names.lookup x=↑.local):wG X (.Assign [.Name x pos'] e pos) (rF te (hName i)):=
 Vh (fW hN hi hx he.pe hs hf) he.mo
def kZ (te:zj):xQ:=fun Y S R=>te Y S λ x S1=>match x with
 | .tup ds=>R #[ds,λ _=>True] S1
 | .y_ ds=>R #[ds,λ _=>True] S1
 | .ref p=>match S1 p with
  | some (.lst ds)=>R #[ds,λ S=>S p=↑(.lst ds)] S1
  | _=>False
 | _=>False
def Vv {tg:Expr}(h:PD X e te):uX X tg e (kZ te):=by
 exact#[fun Y S Q Q' hq z=>h.mo Y S _ _ (λ x S1 z=>?_) z,?_]
 .cases x with
  | ref p=>
   dsimp only at z ⊢;split at z
   .show hq _ _ z
   .show z.elim
  | y_ ds=>show hq _ _ z
  | tup ds=>show hq _ _ z
  | _=>show z
 .exact PI.imp (Wd h.pe) fun O H R hu=>?_
  let#[Y,S,r1,r2,z]:=hu;exact zw.go h.mo r1 r2 z λ x S1 v H1 h1 q1 e1 p1=>?_;cases x with
  | tup ds=>
   simp![zf] at q1;let#[a,xs,rfl,g1,g2]:=q1;exact#[a,rfl,.inr #[#[xs,g1],h1 _ H1 e1 p1 λ i H2 S2 x1 x2 _=>#[λ d hd=>?_,λ hl=>#[xs,x1.nA g1,by rw[<- g2.length];show hl]]]];let#[y,hy,_]:=g2.get hd;exact#[#[xs,y,x1.nA g1,hy],λ x H' q=>?_];let#[rfl,q]:=q;show#[.refl _,x2,(zh.ext x1 ds g2).at hd (q xs (x1.nA g1))]
  | ref p=>
   dsimp only at h1;split at h1
   .rename_i ds e2;simp![zf] at q1;subst q1;let#[xs0,g1,_]:=p1 _ _ e2;exact#[p,rfl,.inl #[#[xs0,zA.of g1],h1 _ H1 e1 p1 λ i H2 S2 x1 x2 hk=>?_]];let#[xs,g3,g4]:=x2 _ _ hk;exact#[λ d hd=>?_,λ hl=>#[xs,zA.of g3,by rw[<- g4.length];show hl]];let#[y,hy,_]:=g4.get hd;exact#[#[xs,y,zA.of g3,hy],λ x H' q=>?_];let#[rfl,q]:=q;show#[.refl _,x2,g4.at hd (q xs (zA.of g3))]
   .show h1.elim
  | y_ ds=>
   simp![zf] at q1;let#[a,xs,rfl,g1,g2]:=q1;exact#[a,rfl,.inl #[#[xs,g1.sq],h1 _ H1 e1 p1 λ i H2 S2 x1 x2 _=>#[λ d hd=>?_,λ hl=>#[xs,(x1.nB g1).sq,by rw[<- g2.length];show hl]]]];let#[y,hy,_]:=g2.get hd;exact#[#[xs,y,(x1.nB g1).sq,hy],λ x H' q=>?_];let#[rfl,q]:=q;show#[.refl _,x2,(zh.ext x1 ds g2).at hd (q xs (x1.nB g1).sq)]
  | _=>show h1.elim
end
end L3
namespace L4
open PySem PySem.W PyProof.Rows
def yi {α:Type}(n:Nat) (lt:Nat->Nat->Bool):KasT α->(α->Prop)->Prop
 | .ret a,Q=>Q a
 | .ask i j k,Q=>i<n/\j<n/\yi n lt (k (lt i j)) Q
theorem yi.mono {α:Type}{n:Nat}{lt:Nat->Nat->Bool}{Q Q':α->Prop}(hq:∀ a,Q a->Q' a):∀ {t:KasT α},yi n lt t Q->yi n lt t Q'
 | .ret _,h=>hq _ h
 | .ask _ _ _,h=>#[h.1,h.2.1,yi.mono hq h.2.2]
theorem yi.bind {α β:Type}{n:Nat}{lt:Nat->Nat->Bool}{f:α->KasT β}{Q:β->Prop}:∀ {t:KasT α},yi n lt t (λ a=>yi n lt (f a) Q)->yi n lt (t.bind f) Q
 | .ret _,h=>h
 | .ask _ _ _,h=>#[h.1,h.2.1,yi.bind h.2.2]
section
variable {n:Nat}{lt:Nat->Nat->Bool}
def Le (lt:Nat->Nat->Bool) (a b:Nat):Prop:=lt b a=false
structure Ord (lt:Nat->Nat->Bool):Prop where
 tr:∀ a b c,Le lt a b->Le lt b c->Le lt a c
 as:∀ a b,lt a b=true->Le lt a b
def Ord.refl (o:Ord lt) (a:Nat):Le lt a a:=by
 cases h:lt a a with
 | false=>show h
 | true=>show o.as a a h
def yT (n:Nat) (p:Array Nat):Prop:=p.Perm (List.range n).toArray
theorem yT.size {p:Array Nat}(h:yT n p):p.size=n:=by rw[Array.Perm.size_eq h];simp
theorem yT.below {p:Array Nat}(h:yT n p) {i:Nat}(hi:i<n):p.getD i 0<n:=by
 have hs:=h.size;have hm:p.getD i 0∈p:=by
  rw[Dp,Bm ⋯];show Array.getElem_mem ⋯
 have:p.getD i 0∈(List.range n).toArray:=(Array.Perm.mem_iff h).mp hm;exists this
def pX {p q:Array Nat}{i j:Nat}(h:p[i]?=q[j]?):p.getD i 0=q.getD j 0:=by rw[Dp,Dp,h]
def vb (lt:Nat->Nat->Bool) (p:Array Nat) (k:Nat):Prop:=∀ i j,i<=j->j<k->Le lt (p.getD i 0) (p.getD j 0)
def u_ (lt:Nat->Nat->Bool) (p:Array Nat) (k:Nat):Prop:=∀ i j,i<=j->j<k->Le lt (p.getD j 0) (p.getD i 0)
def vb.next (o:Ord lt) {p:Array Nat}{k:Nat}(h:vb lt p k) (hk:1<=k) (hl:Le lt (p.getD (k-1) 0) (p.getD k 0)):vb lt p (k+1):=λ i j A2 hj=>by
 by_cases Eb:j<k
 .show h i j A2 Eb
 .have e:j=k:=⋯;subst e;by_cases hi:i=j
  .subst hi;show o.refl _
  .show o.tr _ _ _ (h i (j-1) ⋯ ⋯) hl
def u_.next (o:Ord lt) {p:Array Nat}{k:Nat}(h:u_ lt p k) (hk:1<=k) (hl:Le lt (p.getD k 0) (p.getD (k-1) 0)):u_ lt p (k+1):=λ i j A2 hj=>by
 by_cases Eb:j<k
 .show h i j A2 Eb
 .have e:j=k:=⋯;subst e;by_cases hi:i=j
  .subst hi;show o.refl _
  .show o.tr _ _ _ hl (h i (j-1) ⋯ ⋯)
theorem jT (o:Ord lt) {p:Array Nat}(hp:yT n p):∀ (f a:Nat),1<=a->a+f<=n->vb lt p a->
  yi n lt (kas_asc p f a) λ m=>a<=m/\m<=a+f/\vb lt p m/\(m=a+f\/lt (p.getD m 0) (p.getD (m-1) 0)=true)
 | 0,a,_,_,hs=>#[Aj _,Aj _,hs,.inl rfl]
 | f+1,a,h1,h2,hs=>by
  exact#[hp.below ⋯,hp.below ⋯,?_];cases c:lt (p.getD a 0) (p.getD (a-1) 0) with
  | true=>show#[Aj _,⋯,hs,.inr c]
  | false=>
   exact yi.mono ?_ (jT o hp f (a+1) ⋯ ⋯ (hs.next o h1 c));rintro m ⟨g1,g2,g3,g4⟩;show#[⋯,⋯,g3,g4.imp (λ e=>⋯) id]
def q_ {p:Array Nat}(hp:yT n p) (i j:Nat):yT n (kas_rev p i j):=Array.Perm.trans (mirror_perm _ _ _ _) hp
theorem pb {p:Array Nat}(hp:yT n p) {i j:Nat}(hj:j<=n) (k:Nat):(kas_rev p i j).getD k 0=if i<=k/\k<j then p.getD (i+j-1-k) 0 else p.getD k 0:=by
 have e:=getElem?_mirror_all (xs:=p) (i:=i) (j:=j) (by rw[hp.size];show hj) k;split
 .rename_i h;rw[if_pos h] at e;show pX e
 .rename_i h;rw[if_neg h] at e;show pX e
def rev_eq (o:Ord lt) {p:Array Nat}(hp:yT n p) {i j:Nat}(hj:j<=n) (he:∀ a b,i<=a->a<j->i<=b->b<j->Le lt (p.getD a 0) (p.getD b 0)) (k:Nat):
  Le lt ((kas_rev p i j).getD k 0) (p.getD k 0)/\Le lt (p.getD k 0) ((kas_rev p i j).getD k 0):=by
 rw[pb hp hj];split
 .rename_i h;show#[he _ _ ⋯ ⋯ h.1 h.2,he _ _ h.1 h.2 ⋯ ⋯]
 .show#[o.refl _,o.refl _]
def u_.of_eq (o:Ord lt) {p q:Array Nat}{k:Nat}(h:u_ lt p k) (e:∀ k,Le lt (q.getD k 0) (p.getD k 0)/\Le lt (p.getD k 0) (q.getD k 0)):u_ lt q k:=λ i j A2 hj=>
 o.tr _ _ _ (e j).1 (o.tr _ _ _ (h i j A2 hj) (e i).2)
def iI (lt:Nat->Nat->Bool) (p:Array Nat) (m q:Nat):Prop:=∀ a b,m-(q+1)<=a->a<m->m-(q+1)<=b->b<m->Le lt (p.getD a 0) (p.getD b 0)
theorem mB (o:Ord lt):∀ (f:Nat) (p:Array Nat) (m q:Nat),yT n p->1<=m->m+f<=n->u_ lt p m->q+1<=m->iI lt p m q->
  yi n lt (kas_desc f p m q) λ r=>yT n r.1/\m<=r.2.1/\r.2.1<=m+f/\u_ lt r.1 r.2.1/\r.2.2+1<=r.2.1/\iI lt r.1 r.2.1 r.2.2
 | 0,p,m,q,hp,_,_,hd,hq,hb=>#[hp,Aj _,Aj _,hd,hq,hb]
 | f+1,p,m,q,hp,h1,h2,hd,hq,hb=>by
  have one:∀ p':Array Nat,iI lt p' (m+1) 0:=λ p' a b a1 a2 b1 b2=>by
   have:a=b:=⋯;subst this;show o.refl _
  exact#[hp.below ⋯,hp.below ⋯,?_];cases c:lt (p.getD m 0) (p.getD (m-1) 0) with
  | true=>
   dsimp only;rw[if_pos rfl];have hl:=o.as _ _ c;by_cases h0:q>0
   .rw[if_pos h0];have e:=rev_eq o hp (i:=m-(q+1)) (j:=m) ⋯ hb;have Hh:=q_ hp (m-(q+1)) m;exact yi.mono ?_ (mB o f _ (m+1) 0 Hh ⋯ ⋯ ((hd.of_eq o e).next o h1 (o.tr _ _ _ (e m).1 (o.tr _ _ _ hl (e (m-1)).2))) ⋯ (one _));rintro r ⟨a1,a2,a3,a4⟩;show#[a1,⋯,⋯,a4]
   .rw[if_neg h0];exact yi.mono ?_ (mB o f _ (m+1) 0 hp ⋯ ⋯ (hd.next o h1 hl) ⋯ (one _));rintro r ⟨a1,a2,a3,a4⟩;show#[a1,⋯,⋯,a4]
  | false=>
   dsimp only;rw[if_neg Bd];exact#[hp.below ⋯,hp.below ⋯,?_];cases d:lt (p.getD (m-1) 0) (p.getD m 0) with
   | true=>show#[hp,Aj _,(by change m<=m+(f+1);lia),hd,hq,hb]
   | false=>
    dsimp only;rw[if_neg Bd];exact yi.mono ?_ (mB o f _ (m+1) (q+1) hp ⋯ ⋯ (hd.next o h1 d) ⋯ λ a b a1 a2 b1 b2=>?_)
    .rintro r ⟨a1,a2,a3,a4⟩;show#[a1,⋯,⋯,a4]
    .by_cases ha:a=m
     .by_cases Gi:b=m
      .subst ha;subst Gi;show o.refl _
      .subst ha;show o.tr _ _ _ d (hb (a-1) b ⋯ ⋯ ⋯ ⋯)
     .by_cases Gi:b=m
      .subst Gi;show o.tr _ _ _ (hb a (b-1) ⋯ ⋯ ⋯ ⋯) c
      .show hb a b ⋯ ⋯ ⋯ ⋯
theorem gw (o:Ord lt) {p:Array Nat}{m:Nat}(hp:yT n p) (h1:1<=m) (h2:m<=n) (hd:u_ lt p m):yi n lt (kas_tail3 m n p) λ r=>yT n r.2/\r.1<=n/\vb lt r.2 r.1:=by
 exact yi.bind (yi.mono ?_ (jT o (q_ hp 0 m) (n-m) m h1 ⋯ λ i j A2 hj=>?_))
 .rintro k ⟨a1,a2,a3,_⟩;show#[q_ hp 0 m,⋯,a3]
 .rw[pb hp h2,pb hp h2,if_pos #[AZ _,⋯],if_pos #[AZ _,hj]];show hd _ _ ⋯ ⋯
theorem bg (o:Ord lt) {p:Array Nat}{m:Nat}(hp:yT n p) (h1:1<=m) (h2:m<n) (hd:u_ lt p m) (hl:lt (p.getD m 0) (p.getD (m-1) 0)=true):yi n lt (kas_descPart m n p) λ r=>yT n r.2/\r.1<=n/\vb lt r.2 r.1:=by
 exact yi.bind (yi.mono ?_ (mB o (n-(m+1)) p (m+1) 0 hp ⋯ ⋯ (hd.next o h1 (o.as _ _ hl)) ⋯ λ a b a1 a2 b1 b2=>?_))
 .rintro⟨p',m',q'⟩ ⟨a1,a2,a3,a4,a5,a6⟩;dsimp only at a1 a2 a3 a4 a5 a6 ⊢;by_cases h0:q'>0
  .rw[if_pos h0];show gw o (q_ a1 _ _) ⋯ ⋯ (a4.of_eq o (rev_eq o a1 (i:=m'-(q' + 1)) (j:=m') ⋯ a6))
  .rw[if_neg h0];show gw o a1 ⋯ ⋯ a4
 .have:a=b:=⋯;subst this;show o.refl _
theorem PQ (o:Ord lt) {p:Array Nat}(hp:yT n p) (h1:1<=n):yi n lt (kas_count n p) λ r=>yT n r.2/\r.1<=n/\vb lt r.2 r.1:=by
 exact yi.bind (yi.mono ?_ (jT o hp (n-1) 1 (Aj _) ⋯ λ i j A2 hj=>?_))
 .rintro m ⟨a1,a2,a3,a4⟩;by_cases hm:m=n
  .rw[if_pos (by simp[hm])];show#[hp,⋯,a3]
  .rw[if_neg (by simp[hm])];have hl:lt (p.getD m 0) (p.getD (m-1) 0)=true:=a4.resolve_left ⋯;by_cases h2:m>1
   .rw[if_pos h2];exact#[hp.below ⋯,hp.below ⋯,?_];cases c:lt (p.getD 0 0) (p.getD (m-1) 0) with
    | true=>show#[hp,⋯,a3]
    | false=>
     dsimp only;rw[if_neg Bd];have all:∀ a b,0<=a->a<m->0<=b->b<m->Le lt (p.getD a 0) (p.getD b 0):=λ a b _ ha _ hb=>
      o.tr _ _ _ (a3 a (m-1) ⋯ ⋯) (o.tr _ _ _ c (a3 0 b ⋯ hb))
     have e:=rev_eq o hp (i:=0) (j:=m) ⋯ all;exact bg o (q_ hp 0 m) ⋯ ⋯ (λ i j A2 hj=>o.tr _ _ _ (e j).1 (o.tr _ _ _ (all _ _ (AZ _) hj (AZ _) ⋯) (e i).2)) ?_;rw[pb hp ⋯,pb hp ⋯,if_neg ⋯,if_pos ⋯];cases q:lt (p.getD m 0) (p.getD (0+m-1-(m-1)) 0) with
     | true=>rfl
     | false=>
      have:=o.tr _ _ _ (all (m-1) (0+m-1-(m-1)) (AZ _) ⋯ (AZ _) ⋯) q;unfold Le at this;rw[this] at hl;cases hl
   .rw[if_neg h2];have e:m=1:=⋯;subst e;exact bg o hp (Aj _) ⋯ (λ i j A2 hj=>?_) hl;have:i=j:=⋯;subst this;show o.refl _
 .have:i=j:=⋯;subst this;show o.refl _
theorem ku {p:Array Nat}{k:Nat}(hp:yT n p) (hk:k<n) (hs:vb lt p k) (o:Ord lt):∀ (f l r:Nat),r-l<=f->l<=r->r<=k->(∀ i,i<l->Le lt (p.getD i 0) (p.getD k 0))->(∀ i,r<=i->i<k->lt (p.getD k 0) (p.getD i 0)=true)->
  yi n lt (kas_place p k f l r) λ m=>m<=k/\(∀ i,i<m->Le lt (p.getD i 0) (p.getD k 0))/\(∀ i,m<=i->i<k->lt (p.getD k 0) (p.getD i 0)=true)
 | 0,l,r,h0,h1,h2,ha,hb=>by
  have:l=r:=⋯;subst this;show#[h2,ha,hb]
 | f+1,l,r,h0,h1,h2,ha,hb=>by
  unfold kas_place;by_cases D_:l≥r
  .rw[if_pos D_];have:l=r:=⋯;subst this;show#[h2,ha,hb]
  .rw[if_neg D_];exact#[hp.below hk,hp.below ⋯,?_];cases c:lt (p.getD k 0) (p.getD ((l+r)/2) 0) with
   | true=>
    dsimp only;rw[if_pos rfl];exact ku hp hk hs o f l ((l+r)/2) ⋯ ⋯ ⋯ ha λ i hi Dz=>?_;cases q:lt (p.getD k 0) (p.getD i 0) with
    | true=>rfl
    | false=>
     have:=o.tr _ _ _ (hs ((l+r)/2) i hi Dz) q;unfold Le at this;rw[this] at c;cases c
   | false=>
    dsimp only;rw[if_neg Bd];exact ku hp hk hs o f ((l+r)/2+1) r ⋯ ⋯ h2 (λ i hi=>?_) hb;show o.tr _ _ _ (hs i ((l+r)/2) ⋯ ⋯) c
theorem bW (o:Ord lt):∀ (f:Nat) (p:Array Nat) (k:Nat),yT n p->k+f=n->vb lt p k->yi n lt (kas_bin f p k) λ r=>yT n r/\vb lt r n
 | 0,p,k,hp,h1,hs=>by
  have:k=n:=⋯;subst this;show#[hp,hs]
 | f+1,p,k,hp,h1,hs=>by
  exact yi.bind (yi.mono ?_ (ku hp ⋯ hs o k 0 k ⋯ (AZ _) (Aj _) (λ i hi=>absurd hi (Nat.not_lt_zero _)) λ i hi Dz=>absurd Dz ⋯));rintro l ⟨a1,a2,a3⟩;exact bW o f _ (k+1) (Array.Perm.trans (bubble_perm _ _ _) hp) ⋯ λ i j A2 hj=>?_;have ev:∀ x,(bubble p k (k-l)).getD x 0=if x=l then p.getD k 0 else if l<x/\x<=k then p.getD (x-1) 0 else p.getD x 0:=λ x=>by
   have e:=getElem?_bubble (xs:=p) (src:=k) (by rw[hp.size];lia) (k-l) ⋯ x;rw[show k-(k-l)=l by lia] at e;split
   .rename_i h;rw[if_pos h] at e;show pX e
   .rename_i h;rw[if_neg h] at e;split
    .rename_i h';rw[if_pos h'] at e;show pX e
    .rename_i h';rw[if_neg h'] at e;show pX e
  rw[ev i,ev j];by_cases hi:i=l
  .rw[if_pos hi];by_cases Gh:j=l
   .rw[if_pos Gh];show o.refl _
   .rw[if_neg Gh,if_pos #[⋯,⋯]];show o.as _ _ (a3 (j-1) ⋯ ⋯)
  .rw[if_neg hi];by_cases Gh:j=l
   .rw[if_pos Gh,if_neg ⋯];show a2 i ⋯
   .rw[if_neg Gh];by_cases hi2:l<i/\i<=k
    .rw[if_pos hi2,if_pos #[⋯,⋯]];show hs _ _ ⋯ ⋯
    .rw[if_neg hi2];by_cases hj2:l<j/\j<=k
     .rw[if_pos hj2];show hs _ _ ⋯ ⋯
     .rw[if_neg hj2];show hs _ _ A2 ⋯
theorem YL (o:Ord lt) (h1:1<=n):yi n lt (kas_sort n) λ r=>yT n r/\vb lt r n:=by
 have hp:yT n (List.range n).toArray:=Array.Perm.refl _;exact yi.bind (yi.mono ?_ (PQ o hp h1));rintro⟨m,p⟩ ⟨a1,a2,a3⟩;dsimp only at a1 a2 a3 ⊢;by_cases hm:m<n
 .rw[if_pos hm];exact bW o _ p (max m 1) a1 ⋯ ?_;by_cases h0:m=0
  .subst h0;intro i j A2 hj;have:i=j:=⋯;subst this;show o.refl _
  .rw[show max m 1=m by lia];show a3
 .rw[if_neg hm];have:m=n:=⋯;subst this;show#[a1,a3]
end
end L4
namespace L4
open PySem PySem.W PySem.Calls PyProof.Rows
section
variable {prog:Program}{w:World}{A:Around}{E:Af}{s:Shared}
def Core (prog:Program) (w:World) (A:Around) (E:Af) (vs:Ad) (Out:Array Value->Prop) (s6:Shared):Prop:=
 wpAny (model prog w) A (keyKind' vs.toArray) (fun κ s'=>s'=s6/\wpAny (model prog w) A ((sortRuns').run (SortSt.mk' κ (vs.toArray.zip vs.toArray) [].toArray 7 none))
  (λ r GJ=>GJ=s6/\failedOf r.2=none/\Out ((arrOf r.2).map (·.2))/\(arrOf r.2).size=vs.length) E s') E s6
def RK {a:Addr}{vs:Ad}{n:Nat}{P:PySem.Fin->Shared->Prop}{Out:Array Value->Prop}(ho:s.heap.get? a=↑(seqObj "list" vs.toArray n)) (hz:vs.length<=sizeLine)
  (core:2<=vs.length->∀ s6:Shared,(∀ b o,b≠a->s.heap.get? b=↑o->s6.heap.get? b=↑o)->Core prog w A E vs Out s6) (short:vs.length<2->Out vs.toArray)
  (fin:∀ out:Array Value,Out out->out.size=vs.length->P (.done (.ret .none)) { s with heap:=sortedHeap s.heap a vs out }):
  wpAny (model prog w) A (Builtin.«list.sort» #[[.ref a],[]]) P E s:=by
 have ha:a<s.heap.objs.size:=Ar ho;obtain⟨e1,g1⟩:∃ e1,(s.heap.update a (Obj.mapSeq λ _=>[].toArray)).get? a=↑(seqObj "list" [].toArray e1):=#[_,get?_update_seq ho (λ _=>[].toArray)];have G8:vs.toArray.size<=sizeLine:=by rw[Ax];show hz
 have g6:(((s.heap.update a (Obj.mapSeq λ _=>[].toArray)).push (seqObj "tuple" vs.toArray 0)).push (seqObj "list" [].toArray 0)).get? a=↑(seqObj "list" [].toArray e1):=JH _ (JH _ g1);have keep:∀ b o,b≠a->s.heap.get? b=↑o->(((s.heap.update a (Obj.mapSeq λ _=>[].toArray)).push (seqObj "tuple" vs.toArray 0)).push (seqObj "list" [].toArray 0)).get? b=↑o:=
  λ b o hb e=>JH _ (JH _ (by rw[Heap.get?_update_ne _ _ _ _ hb];show e))
 rw[list_sort_plain];exact IC (listItems_at ho rfl (IC (listUpdate_at ho rfl (IC (seqEpoch_at g1 rfl (IC (wpAny_newTuple (IC (wpAny_newList (JO ?_))) (by exists hz))))) G8 (AZ _))));by_cases h2:vs.toArray.size<2
 .rw[if_pos h2,if_pos h2];have e2:(arrOf (SortSt.mk' general' (vs.toArray.zip vs.toArray) [].toArray 7 none)).map (·.2)=vs.toArray:=by
   change (vs.toArray.zip vs.toArray).map (·.2)=vs.toArray;apply Array.ext #[];intro i h1 h2;simp
  exact IC (Ac ?_);dsimp only;rw[StateT.run_pure];exact IC (Ac ?_);dsimp only;exact IC (seqEpoch_at g6 rfl (IC (listUpdate_at g6 rfl ?_ (AZ _) ?_)))
  .simp![bne_self_eq_false,Bi,if_false];have q:=fin _ (e2▸short (by exists h2)) (by rw[e2];simp);show Ac q
  .change (((arrOf (SortSt.mk' general' (vs.toArray.zip vs.toArray) [].toArray 7 none)).map (·.2))).size<=sizeLine+1;rw[e2];lia
 .rw[if_neg h2,if_neg h2];have Jz:2<=vs.length:=by exists h2
  exact IC (JK (core Jz _ keep) (fun κ s7 #[hs,h7]=>?_) λ _ _ z=>z);subst hs;exact IC (JK h7 (λ r s8 #[hs,hf,D6,AH]=>?_) λ _ _ z=>z);subst hs;obtain⟨⟨⟩,st⟩:=r;exact IC (seqEpoch_at g6 rfl (IC (listUpdate_at g6 rfl ?_ (AZ _) ?_)))
  .have Gq:failedOf st=none:=hf;rw[Gq];simp![bne_self_eq_false,Bi,if_false];show Ac (fin _ D6 (by rw[CS];show AH))
  .change ((arrOf st).map (·.2)).size<=sizeLine+1;rw[CS];have:(arrOf st).size=vs.length:=AH;lia
def YK {h:Heap}{vs:Ad}(out:Av):∃ e,(sortedHeap (h.push (seqObj "list" vs.toArray 0)) h.objs.size vs out).get? h.objs.size=↑(seqObj "list" out e):=by
 have there:(h.push (seqObj "list" vs.toArray 0)).get? h.objs.size=↑(seqObj "list" vs.toArray 0):=AQ _ rfl;show#[_,get?_update_seq (JH _ (JH _ (get?_update_seq there λ _=>[].toArray))) λ _=>out]
def gH {a:Addr}{vs:Ad}{Q:Af}{Out:Array Value->Prop}{N:Addr->Prop}
  (C:∀ Q':List Value->Shared->Prop,(∀ h1 tk,(∀ b o,¬ N b->s.heap.get? b=↑o->h1.get? b=↑o)->s.heap.objs.size<=h1.objs.size->Q' vs { s with heap:=h1,toks:=tk })->wpAny (model prog w) A.in1 (collect (.ref a)) Q' E s) (hz:vs.length<=sizeLine)
  (core:2<=vs.length->∀ s6:Shared,(∀ b o,¬ N b->s.heap.get? b=↑o->s6.heap.get? b=↑o)->Core prog w A.in1.in1 E vs Out s6) (short:vs.length<2->Out vs.toArray)
  (fin:∀ (out:Av) (h':Heap) (tk l:Nat),Out out->out.size=vs.length->s.heap.objs.size<=l->(∀ b o,¬ N b->s.heap.get? b=↑o->h'.get? b=↑o)->(∃ e,h'.get? l=↑(seqObj "list" out e))->Q (.ref l) { s with heap:=h',toks:=tk }):
  wpAny (model prog w) A (call (.builtin "sorted") [.ref a]) Q E s:=by
 exact Calls.call_function_entry kind_sorted plain_sorted entry_sorted (args_sorted1 _) ?_;unfold Builtin.«sorted»;exact IC (m:=checkCount "sorted" 1 1 _) (Ac (IC (C _ λ h1 tk k1 k2=>IC (wpAny_newList ?_ hz))));have HL:(h1.push (seqObj "list" vs.toArray 0)).get? h1.objs.size=↑(seqObj "list" vs.toArray 0):=AQ _ rfl;change wpAny _ _ _ _ _ { s with heap:=h1.push (seqObj "list" vs.toArray 0),toks:=tk };exact IC (JO (JQ slot_list_sort #[_,HL,rfl] entry_list_sort (RK HL hz (λ h2 s6 k=>core h2 s6 λ b o n q=>k b o (AI (Ar (k1 b o n q))) (JH _ (k1 b o n q))) short λ out g1 g2=>#[_,rfl,?_]) (args_list_sort _)));exact Ac #[_,rfl,fin out _ tk h1.objs.size g1 g2 k2 (λ b o n q=>?_) (YK out)];have q1:=k1 b o n q;have hb:=AI (Ar q1);unfold sortedHeap;rw[Heap.get?_update_ne _ _ _ _ hb];exact JH _ (JH _ ?_);rw[Heap.get?_update_ne _ _ _ _ hb];show JH _ q1
end
end L4
namespace L4
open PySem PySem.W PySem.Calls PyProof.Rows L2
theorem kU:∀ a b:List Int,HT.lexLt a b=true->HT.lexLt b a=false
 | [],[],h=>by cases h
 | [],_::_,_=>rfl
 | _::_,[],h=>by cases h
 | x::a,y::b,h=>by
  rw[HT.pR] at h ⊢;by_cases e:x=y
  .subst e;rw[if_pos rfl] at h ⊢;show kU a b h
  .rw[if_neg e] at h;rw[if_neg (Ne.symm e)];have:=of_decide_eq_true h;show JM ⋯
theorem kW:∀ a b:List Int,HT.lexLt a b=false->HT.lexLt b a=false->a=b
 | [],[],_,_=>rfl
 | [],_::_,h,_=>by cases h
 | _::_,[],_,h=>by cases h
 | x::a,y::b,h,h'=>by
  rw[HT.pR] at h h';by_cases e:x=y
  .subst e;rw[if_pos rfl] at h h';rw[kW a b h h']
  .rw[if_neg e] at h;rw[if_neg (Ne.symm e)] at h';have h1:=of_decide_eq_false h;have h2:=of_decide_eq_false h';lia
theorem kT:∀ a b c:List Int,HT.lexLt b a=false->HT.lexLt c b=false->HT.lexLt c a=false
 | [],[],[],_,_=>rfl
 | [],[],_::_,_,h=>h
 | [],_::_,[],_,h=>by cases h
 | [],_::_,_::_,_,_=>rfl
 | _::_,[],_,h,_=>by cases h
 | _::_,_::_,[],_,h=>by cases h
 | x::a,y::b,z::c,h,h'=>by
  rw[HT.pR] at h h' ⊢;by_cases e1:y=x
  .subst e1;rw[if_pos rfl] at h;by_cases e2:z=y
   .subst e2;rw[if_pos rfl] at h' ⊢;show kT a b c h h'
   .rw[if_neg e2] at h' ⊢;show h'
  .rw[if_neg e1] at h;have h1:=of_decide_eq_false h;by_cases e2:z=y
   .subst e2;rw[if_neg e1];show h
   .rw[if_neg e2] at h';have h2:=of_decide_eq_false h';rw[if_neg ⋯];show JM ⋯
theorem kz {α:Type}{r:α->α->Prop}(an:∀ a b,r a b->r b a->a=b):∀ {l₁ l₂:List α},l₁.Perm l₂->l₁.Pairwise r->l₂.Pairwise r->l₁=l₂
 | [],l₂,h,_,_=>(List.nil_perm.mp h).symm
 | a::l₁,[],h,_,_=>absurd (List.perm_nil.mp h) #[]
 | a::l₁,b::l₂,h,h1,h2=>by
  have CG:a=b:=by
   have ha:a∈b::l₂:=h.mem_iff.mp Az;have hb:b∈a::l₁:=h.mem_iff.mpr Az;rcases Ao.mp ha with e | ha
   .show e
   .rcases Ao.mp hb with e | hb
    .show e.symm
    .show an _ _ (List.rel_of_pairwise_cons h1 hb) (List.rel_of_pairwise_cons h2 ha)
  subst CG;rw[kz an (List.Perm.cons_inv h) (B_.mp h1).2 (B_.mp h2).2]
def vL (El:List (List Int)):List (List Int):=El.mergeSort λ a b=>!HT.lexLt b a
def nF (El:List (List Int)):(vL El).Perm El:=List.mergeSort_perm _ _
def gI (El:List (List Int)):(vL El).Pairwise λ a b=>HT.lexLt b a=false:=by
 have:=List.pairwise_mergeSort (le:=λ a b:List Int=>!HT.lexLt b a) (λ a b c h1 h2=>by simp at h1 h2 ⊢;show kT a b c h1 h2)
  (λ a b=>by
   cases h:HT.lexLt b a with
   | false=>simp
   | true=>simp[kU b a h]) El
 show this.imp λ h=>by exists h
def YN {El out:List (List Int)}(hp:out.Perm El) (hs:out.Pairwise λ a b=>HT.lexLt b a=false):out=vL El:=
 kz (λ a b h1 h2=>kW a b h2 h1) (hp.trans (nF El).symm) hs (gI El)
def qY (El:List (List Int)) (i j:Nat):Bool:=HT.lexLt (El.getD i []) (El.getD j [])
def Xm (El:List (List Int)):Ord (qY El):=#[λ _ _ _ h1 h2=>kT _ _ _ h1 h2,λ _ _ h=>kU _ _ h]
section
variable {prog:Program}{w:World}{A:Around}{E:Af}{s:Shared}{Q:Bool->Shared->Prop}
theorem dJ {b:Bool}:∀ (ns ms:List Int) (us ws:Ad) (i:Nat),IntsAre us ns->IntsAre ws ms->Q (HT.lexLt ns ms) s->KatLex prog w A b (decide (ns.length<ms.length)) Q (us.zip ws) i s
 | [],[],_,_,_,.nil,.nil,h=>kat_nil (by simpa [HT.lexLt] using h)
 | [],_::_,_,_,_,.nil,.cons _ _ _,h=>kat_nil (by simpa [HT.lexLt] using h)
 | _::_,[],_,_,_,.cons _ _ _,.nil,h=>kat_nil (by simpa [HT.lexLt] using h)
 | n::ns,m::ms,_,_,i,.cons _ t hu,.cons _ u hw,h=>by
  rw[HT.pR] at h;exact kat_cons (SeqAt.EqAt.int_int n t m u prog w _ _ (kat_go (λ e=>kat_yes ?_) λ e=>kat_no ?_))
  .have e':n=m:=by exists e
   rw[if_pos e'] at h;rw[show decide ((n::ns).length<(m::ms).length)=decide (ns.length<ms.length) by simp];show dJ ns ms _ _ (i+1) hu hw h
  .have e':¬ n=m:=by exists e
   rw[if_neg e'] at h;cases b&&i == 0 with
   | true=>show kat_lt_int h
   | false=>show kat_one _ _ (lt_int h)
def rO (h:Heap):List Value->List (List Int)->Prop:=Paired λ v r=>r≠[]/\∃ b o its n,v=.ref b/\h.get? b=↑o/\o.cls=.type "tuple"/\o.data=.seq its n/\IntsAre its.toList r
theorem rO.cT {h:Heap}:∀ {vs:Ad}{El:List (List Int)},rO h vs El->∃ fs,KatTups h vs fs/\fs.length=vs.length/\∀ v∈fs,∃ n t,v=Value.int n t
 | _,_,.nil=>#[[],KatTups.nil,rfl,λ _ hv=>absurd hv #[]]
 | _,_,.cons #[Aw,b,o,its,n,hv,ho,hc,hd,hi] r=>by
  let#[fs,h1,h2,h3]:=rO.cT r;subst hv;let#[its]:=its;cases hi with
  | nil=>show absurd rfl Aw
  | cons k t _=>show#[.int k t::fs,KatTups.cons ho hc hd rfl h1,by simp[h2],λ v hv=>(Ao.mp hv).elim (λ e=>#[k,t,e]) (h3 v)]
theorem Paired.at' {α β:Type}{F:α->β->Prop}:∀ {l₁:List α}{l₂:List β}{i:Nat},Paired F l₁ l₂->i<l₁.length->∀ (d:α) (e:β),F (l₁.getD i d) (l₂.getD i e)
 | _,_,_,.nil,h,_,_=>absurd h #[]
 | _,_,0,.cons r _,_,_,_=>r
 | _,_,i+1,.cons _ t,h,d,e=>by exists Paired.at' (i:=i) t (by exists h) d e
def rO.ask {vs:Ad}{El:List (List Int)}{b:Bool}(r:rO s.heap vs El) {i j:Nat}(hi:i<vs.length) (hj:j<vs.length) {C:Bool->Shared->Prop}(h:C (qY El i j) s):kas_ask prog w A (tuples' b) vs i j C s:=by
 let#[_,b1,o1,its1,n1,e1,g1,_,d1,q1]:=Paired.at' r hi Value.none [];let#[_,b2,o2,EV,n2,e2,g2,_,d2,q2]:=Paired.at' r hj Value.none [];unfold kas_ask;rw[e1,e2];exact kat_lt g1 d1 g2 d2 ?_;have l1:=q1.length;have l2:=q2.length;rw[Bl] at l1 l2;rw[l1,l2];show dJ _ _ _ _ 0 q1 q2 h
theorem i_ {α:Type}{n:Nat}{lt:Nat->Nat->Bool}{cmp:Nat->Nat->(Bool->Shared->Prop)->Shared->Prop}{Q:α->Shared->Prop}(hc:∀ i j C,i<n->j<n->C (lt i j) s->cmp i j C s):∀ {t:KasT α},yi n lt t (λ a=>Q a s)->t.kasWp cmp Q s
 | .ret _,h=>h
 | .ask i j _,h=>hc i j _ h.1 h.2.1 (i_ hc h.2.2)
def iq (vs:Ad) (El:List (List Int)) (out:Av):Prop:=
 ∃ ps:List (Value×List Int),ps.Perm (vs.zip El)/\out.toList=ps.map (·.1)/\(ps.map (·.2)).Pairwise λ a b=>HT.lexLt b a=false
theorem Zv {α β:Type}{l:List α}{m:List β}(h:l.length=m.length) (a:α) (b:β):(List.range l.length).map (λ i=>(l.getD i a,m.getD i b))=l.zip m:=by
 exact List.ext_getElem (by simp;lia) λ i h1 h2=>?_;have h3:i<l.length/\i<m.length:=by simp at h1;lia
 simp[h3.1,h3.2]
theorem YG {El:List (List Int)}{p:Array Nat}{n:Nat}(hn:p.size=n) (h:vb (qY El) p n):(p.toList.map λ i=>El.getD i []).Pairwise λ a b=>HT.lexLt b a=false:=by
 rw[Dn,CQ];intro i j hi hj A2;have:=h i j (BA A2) (by rw[<- hn];exists hj);simp![Bl] at hi hj;unfold Le qY at this;simpa [Dp,hi,hj] using this
theorem PR {vs:Ad}{El:List (List Int)}(r:rO s.heap vs El) (h2:2<=vs.length) (F6:vs.length<64):Core prog w A E vs (iq vs El) s:=by
 let#[fs,t,hl,hf]:=r.cT;unfold Core;exact kat_kind (T:=.type "int") t ⋯ (λ v hv=>?_) rfl #[rfl,?_]
 .let#[n,t,rfl]:=hf v hv;show Looks.of_pure rfl
 .exact kat_run (ks:=vs) (Q:=λ st GJ=>GJ=s/\failedOf st=none/\iq vs El ((arrOf st).map (·.2))/\(arrOf st).size=vs.length) (G:=λ p GJ=>GJ=s/\yT vs.length p/\vb (qY El) p vs.length) rfl h2 F6 (λ p st s' hs ha Ef hg=>?_) ?_
  .let#[h1,h3,h4]:=hg;exact#[h1,Ef,#[p.toList.map λ i=>(vs.getD i Value.none,El.getD i []),?_,?_,?_],by rw[ha,CS];show hs]
   .rw[<- Zv (Paired.length r) Value.none []];have:=Array.Perm.toList h3;show List.Perm.map _ (by exists this)
   .rw[kat_snds rfl ha,AY];rfl
   .rw[AY];show YG hs h4
  .show i_ (λ i j C hi hj hC=>r.ask hi hj hC) (yi.mono (λ p hp=>#[rfl,hp]) (YL (Xm El) ⋯))
end
section
variable {X:Cx}
def Paired.perm {α β:Type}{F:α->β->Prop}{l l':List α}(p:l'.Perm l):∀ {m:List β},Paired F l m->∃ m',m'.Perm m/\Paired F l' m':=by
 induction p with
 | nil=>intro m h;show#[m,.refl _,h]
 | cons x _ ih=>
  intro m h;cases h with
  | cons a h=>
   let#[m',h1,h2]:=ih h;show#[_,h1.cons _,.cons a h2]
 | swap x y l=>
  intro m h;cases h with
  | cons a h=>
   cases h with
   | cons b h=>show#[_,.swap _ _ _,.cons b (.cons a h)]
 | trans _ _ IZ IY=>
  intro m h;let#[m1,h1,h2]:=IY h;let#[m2,h3,h4]:=IZ h2;show#[m2,h3.trans h1,h4]
abbrev ar (K:Ab) (H:Hp) (v:V) (r:List Int):Prop:=r≠[]/\∃ b,v=V.ref b/\zE K H b (r.map V.int)
abbrev qF (K:Ab) (H:Hp) (ys:List V) (El:List (List Int)):Prop:=Paired (ar K H) ys El
abbrev VR (K:Ab) (H:Hp):List Value->List (V×List Int)->Prop:=Paired λ u q=>RelV q.1 u/\ar K H q.1 q.2
theorem VR.of {K:Ab}{H:Hp}:∀ {ys:List V}{vs:Ad}{El:List (List Int)},Vals ys vs->qF K H ys El->VR K H vs (ys.zip El)
 | _,_,_,.nil,.nil=>.nil
 | _,_,_,.cons r t,.cons r' t'=>.cons #[r,r'] (VR.of t t')
abbrev ib (qs:List (V×List Int)) (H:Hp) (Q:VK):Prop:=∀ p (ps:List (V×List Int)),H p=none->ps.Perm qs->(ps.map (·.2)).Pairwise (λ a b=>HT.lexLt b a=false)->Q (.ref p) (upd H p (.lst (ps.map (·.1))))
def YM {Ek:Ah}{O:L2.St}{H:Hp}{s:Shared}{a:Addr}{vs:Ad}{qs:List (V×List Int)}{Q:VK}(I:Inv X Ek O H s)
  (C:∀ Q':List Value->Shared->Prop,(∀ h1 tk,(∀ b o,¬ False->s.heap.get? b=↑o->h1.get? b=↑o)->s.heap.objs.size<=h1.objs.size->Q' vs { s with heap:=h1,toks:=tk })->wpAny (model X.prog X.w) X.A.in1 (collect (.ref a)) Q' X.xe s)
  (hv:VR X.K H vs qs) (F6:qs.length<64) (q:ib qs H Q):wpAny (model X.prog X.w) X.A (call (.builtin "sorted") [.ref a]) (EP X Ek O Q) X.xe s:=by
 have hl:vs.length=qs.length:=Paired.length hv;have hz:qs.length<=sizeLine:=AF (BA F6) ();have Gd:∀ h6:Heap,(∀ b o,¬ False->s.heap.get? b=↑o->h6.get? b=↑o)->rO h6 vs (qs.map (·.2)):=λ h6 k=>by
  clear q hl F6 hz C
  induction hv with
  | nil=>show .nil
  | cons g t ih=>
   exact .cons ?_ ih;let#[r1,Aw,b,e1,hb]:=g;rw[e1] at r1;cases r1;let#[EV,G5,#[o,e,hc,n,hd],_]:=I.tuple hb;show#[Aw,b,o,_,n,rfl,k _ _ id e,hc,hd,by exists intsAre_of G5]
 exact gH (Out:=iq vs (qs.map (·.2))) C ⋯ (λ h2 s6 k=>PR (Gd _ k) h2 ⋯) (λ h1=>#[vs.zip (qs.map (·.2)),.refl _,by rw[List.map_fst_zip (by simp;lia)],?_]) λ out h' tk p ho hs hp k Ej=>?_
 .rw[List.map_snd_zip (by simp;lia),CQ];intro i j hi hj A2;simp at hi hj;lia
 .let#[ps,g1,g2,g3]:=ho;let#[e,he]:=Ej;have z:Paired (λ p q=>RelV q.1 p.1/\p.2=q.2) (vs.zip (qs.map (·.2))) qs:=by
   clear g1 hs hl F6 hz C Gd q
   induction hv with
   | nil=>show .nil
   | cons a _ ih=>show .cons #[a.1,rfl] ih
  let#[HA,q1,q2]:=Paired.perm g1 z;have f:Vals (HA.map (·.1)) (ps.map (·.1))/\HA.map (·.2)=ps.map (·.2):=by
   clear q1 g1 g2 g3
   induction q2 with
   | nil=>show#[.nil,rfl]
   | cons a _ ih=>show#[.cons a.1 ih.1,by rw[AD,AD,ih.2,a.2]]
  exact#[.ref p,_,I.laid (t':=tk) (o:=.lst (HA.map (·.1))) (λ b o e=>k b o id e) hp #[?_,out.toList,e,by rw[g2];show f.1,by exists he],rfl,q p HA (I.zl.fresh hp) q1 (by rw[f.2];show g3)];rw[An,q1.length_eq];show hz
end
end L4
namespace L2
open PySem PySem.Spec PyProof.Rows
def yO (ty T:String):Bool:=ty == T||(ty == "bool"&&T == "int")
def ni (ty T:String):Bool:=PySem.W.kitMeta T&&decide ((fastBuiltinMro ty).map (λ l=>l.contains (Value.type T))=↑(yO ty T))
def Yf:(["NoneType","bool","int","str","tuple","list","dict"].all λ ty=>["int","bool","tuple","list","str"].all λ T=>ni ty T)=true:=by decide +kernel
def R_ {K:Ab}{ty T:String}(h:ni ty T=true):PySem.W.kitOne K (.type ty) (.type T)=↑(yO ty T):=by
 unfold ni at h;rw[AX] at h;unfold PySem.W.kitOne;split
 .rename_i e;have e':ty=T:=by have:=eq_of_beq e;injection this
  subst e';simp[yO]
 .change (if PySem.W.kitMeta T=true then PySem.W.subIn K (.type ty) (.type T) else none)=_;rw[if_pos h.1];show of_decide_eq_true h.2
def aq (K:Ab) (H:Hp):V->String->Prop
 | .zk,t=>t="NoneType"
 | .bl _,t=>t="bool"
 | .int _,t=>t="int"
 | .str _,t=>t="str"
 | .ref a,t=>(t="tuple"/\∃ xs,zE K H a xs)\/(t="list"/\∃ xs,zA K H a xs)\/(t="dict"/\∃ Al,H a=↑(.dK Al))
 | _,_=>False
def Ot {X:Cx}:yM X (.builtin "isinstance") (λ xs H Q=>∃ x T ty,xs=[x,.ty T]/\aq X.K H x ty/\ni ty T=true/\Q (.bl (yO ty T)) H):=by
 intro Ek s O H xs us Q I r h;let#[x,T,ty,rfl,hx,hT,q]:=h;let#[u,c,rfl,ru,rc]:=vals2 r;cases (show c=Value.type T from rc);have e:PySem.W.kitOne X.K (.type ty) (.type T)=↑(yO ty T):=R_ hT;have fin:∀ tk,EP X Ek O Q (.bool (yO ty T)) { s with toks:=tk }:=λ tk=>#[.bl _,H,I.tok tk,rfl,q];cases x with
 | zk=>cases (show u=Value.none from ru);cases (show ty=_ from hx);show PySem.W.kia_one PySem.W.kitx_none I.yx True.intro e (λ z=>nomatch z) fin
 | bl y=>cases (show u=Value.bool y from ru);cases (show ty=_ from hx);show PySem.W.kia_one PySem.W.kitx_bool I.yx True.intro e (λ z=>nomatch z) fin
 | int i=>let#[t,rfl]:=(show ∃ t,u=Value.int i t from ru);cases (show ty=_ from hx);show PySem.W.kia_one PySem.W.kitx_int I.yx True.intro e (λ z=>nomatch z) fin
 | str y=>let#[t,rfl]:=(show ∃ t,u=Value.str y t from ru);cases (show ty=_ from hx);show PySem.W.kia_one PySem.W.kitx_str I.yx True.intro e (λ z=>nomatch z) fin
 | ref a=>
  cases (show u=Value.ref a from ru);rcases hx with ⟨rfl,ys,hq⟩ | ⟨rfl,ys,hq⟩ | ⟨rfl,Al,hq⟩
  .let#[its,_,#[o,h1,h2,_],_]:=I.tuple hq;show PySem.W.kia_one PySem.W.kitx_tuple I.yx #[o,h1,h2] e (λ z=>nomatch z) fin
  .let#[its,_,#[o,n,h1,h2,_],_]:=I.list hq;show PySem.W.kia_one PySem.W.kitx_list I.yx #[o,h1,h2] e (λ z=>nomatch z) fin
  .let#[_,_,vs,_,p]:=(show xD X.prog X.w H s.heap a (.dK Al) from I.zl a _ hq)
   let#[o,es,ep,h1,h2,_]:=p;show PySem.W.kia_one PySem.W.kitx_dict I.yx #[o,h1,h2.1] e (λ z=>nomatch z) fin
 | _=>show hx.elim
end L2
namespace L3
open PySem PySem.Spec L2
open PyProof.Rows hiding St
section
variable {X:Cx}{K:Ab}{a b e:Expr}{es:List Expr}{te:zj}{tA:zI}{pos p q:Pos}
def Ub (hm:X.mg "len"=none) (ha:yK X (e::es) tA) (hg:Gl X "len") (he:Aq X e es) (Ap:Ay X pos es):PD X (.Call (.Name "len" p) (e::es) [] pos) (vz ud tA):=
 p8 (pz (Oo.or Om) hg hm PySem.boot_len ha.pa () () he Ap) ud.mo ud.fits ha.mo
def Ua (hm:X.mg "list"=none) (ha:yK X (e::es) tA) (hg:Gl X "list") (he:Aq X e es) (Ap:Ay X pos es):PD X (.Call (.Name "list" p) (e::es) [] pos) (vz uc tA):=
 p8 (nW Ol hg hm PyProof.Rows.boot_list ha.pa () () he Ap) uc.mo uc.fits ha.mo
def VD (hm:X.mg "tuple"=none) (ha:yK X (e::es) tA) (hg:Gl X "tuple") (he:Aq X e es) (Ap:Ay X pos es):PD X (.Call (.Name "tuple" p) (e::es) [] pos) (vz vY tA):=
 p8 (nW Oa hg hm PyProof.Rows.boot_tuple ha.pa () () he Ap) vY.mo vY.fits ha.mo
def vN (r:List Int):D:=.tup (r.map D.int)
theorem zh.kr {H:Hp}:∀ {ps:List (V×List Int)},(∀ q∈ps,zf K H (vN q.2) q.1)->zh K H ((ps.map (·.2)).map vN) (ps.map (·.1))
 | [],_=>.nil
 | q::ps,h=>.cons (h q Az) (zh.kr λ q hq=>h q (AG _ hq))
theorem zh.lD {H:Hp}:∀ {El:List (List Int)}{ys:List V},zh K H (El.map vN) ys->∀ q∈ys.zip El,zf K H (vN q.2) q.1
 | [],ys,_,q,hq=>by simp at hq
 | r::El,ys,h,q,hq=>by
  rw[AD] at h;simp![zh] at h;let#[x,GQ,rfl,h1,h3]:=h;rcases Ao.mp hq with e | hq
  .subst e;show h1
  .show zh.lD h3 q hq
theorem kd {H:Hp}:∀ {El:List (List Int)}{ys:List V},zh K H (El.map vN) ys->(∀ r∈El,r≠[])->L4.qF K H ys El
 | [],ys,h,_=>by simp![A8,zh] at h;subst h;show .nil
 | r::El,ys,h,hn=>by
  rw[AD] at h;simp![zh,vN,zf] at h;let#[x,GQ,rfl,#[a,xs,rfl,g1,g2],h3]:=h;rw[g2.ints] at g1;show .cons #[hn r Az,a,rfl,g1] (kd h3 λ r' hr=>hn r' (AG _ hr))
def Vz {tg:Expr}(hm:X.mg "range"=none) (ha:yK X [a] tA) (hg:Gl X "range") (hs:starEach [a] X.env=[(false,eval a X.env)]):uX X tg (.Call (.Name "range" p) [a] [] pos) (ja tA):=V1 (Wf hg hm ha.pa hs) ha.mo
def Vx {tg:Expr}(hm:X.mg "range"=none) (ha:yK X [a,b] tA) (hg:Gl X "range") (hs:starEach [a,b] X.env=[(false,eval a X.env),(false,eval b X.env)]) (Gg:starEach [b] X.env=[(false,eval b X.env)]):uX X tg (.Call (.Name "range" p) [a,b] [] pos) (k_ tA):=Vy (We hg hm ha.pa hs Gg) ha.mo
def tX (d:D) (S:SS):Option String:=match d with
 | .zk=>↑"NoneType"
 | .bl _=>↑"bool"
 | .int _=>↑"int"
 | .str _=>↑"str"
 | .tup _=>↑"tuple"
 | .y_ _=>↑"list"
 | .ref p=>match S p with
  | some (.lst _)=>↑"list"
  | some (.yq _)=>↑"dict"
  | _=>none
 | .err _ _ _=>none
def rC (T:String) (te:zj):zj:=fun Y S Q=>te Y S λ x S1=>match tX x S1 with
 | some ty=>Q (.bl (yO ty T)) S1
 | _=>False
theorem tX.ok {H:Hp}{d:D}{v:V}{S:SS}{ty:String}(r:zf K H d v) (p:zv K H S) (h:tX d S=↑ty):aq K H v ty/\ty∈["NoneType","bool","int","str","tuple","list","dict"]:=by
 cases d with
 | err _ _ _=>cases h
 | tup ds=>
  simp![zf] at r;let#[a,xs,rfl,g1,_]:=r;cases h;show#[.inl #[rfl,xs,g1],#[]]
 | y_ ds=>
  simp![zf] at r;let#[a,xs,rfl,g1,_]:=r;cases h;show#[.inr (.inl #[rfl,xs,g1.sq]),#[]]
 | ref a=>
  simp![zf] at r;subst r;unfold tX at h;dsimp only at h;split at h
  .rename_i e;cases h;let#[xs,g1,_]:=p _ _ e;show#[.inr (.inl #[rfl,xs,zA.of g1]),#[]]
  .rename_i e;cases h;let#[xs,g1,_]:=p _ _ e;show#[.inr (.inr #[rfl,xs,g1]),#[]]
  .cases h
 | _=>simp![zf] at r;subst r;cases h;show#[rfl,#[]]
def p9 {T:String}{x:Str}(hT:T∈["int","bool","tuple","list","str"]) (hm:X.mg "isinstance"=none) (HN:X.mg x=none) (hv:bootBuiltins x=↑(.type T)) (F0:Gl X x) (hn:x≠"__name__") (hd:(x == ("__debug__":Str))=false) (he:PD X e te) (hg:Gl X "isinstance")
  (h1:Aq X e [.Name x q]) (h2:Ay X pos [.Name x q]) (h3:Aq X (.Name x q) []):
  PD X (.Call (.Name "isinstance" p) [e,.Name x q] [] pos) (rC T te):=by
 exact#[fun Y S Q Q' hq z=>he.mo Y S _ _ (λ y S1 z=>?_) z,PE.imp (pz Ot hg hm boot_isinstance (uI he.pe (uI (ez (v:=.ty T) F0 HN hv rfl hn hd) t7 h3) h1) () () h1 h2) fun O H Q hu=>?_]
 .split at z
  .show hq _ _ z
  .show z
 .let#[Y,S,r1,r2,z]:=hu;exact zw.go he.mo r1 r2 z λ y S1 v H1 z1 q1 e1 p1=>?_;split at z1
  .rename_i ty ht;let#[g1,g2]:=tX.ok q1 p1 ht;exact#[v,T,ty,rfl,g1,?_,z1 _ H1 (by simp![zf]) e1 p1];show A9.mp (A9.mp Yf ty g2) T hT
  .show z1.elim
def Uk (T:Bt X.mg) (he:PD X e te) (hg:Gl X "isinstance") (F0:Gl X "bool") (h1:Aq X e [.Name "bool" q]) (h2:Ay X pos [.Name "bool" q]) (h3:Aq X (.Name "bool" q) []):
  PD X (.Call (.Name "isinstance" p) [e,.Name "bool" q] [] pos) (rC "bool" te):=p9 #[] T.isinstance T.bool PyProof.Rows.boot_bool F0 () () he hg h1 h2 h3
def Uj (T:Bt X.mg) (he:PD X e te) (hg:Gl X "isinstance") (F0:Gl X "int") (h1:Aq X e [.Name "int" q]) (h2:Ay X pos [.Name "int" q]) (h3:Aq X (.Name "int" q) []):
  PD X (.Call (.Name "isinstance" p) [e,.Name "int" q] [] pos) (rC "int" te):=p9 #[] T.isinstance T.int PyProof.Rows.boot_int F0 () () he hg h1 h2 h3
def Ug (T:Bt X.mg) (he:PD X e te) (hg:Gl X "isinstance") (F0:Gl X "tuple") (h1:Aq X e [.Name "tuple" q]) (h2:Ay X pos [.Name "tuple" q]) (h3:Aq X (.Name "tuple" q) []):
  PD X (.Call (.Name "isinstance" p) [e,.Name "tuple" q] [] pos) (rC "tuple" te):=p9 #[] T.isinstance T.tuple PyProof.Rows.boot_tuple F0 () () he hg h1 h2 h3
def VX {o:Expr}{to:zj}{apos Aa:Pos}(ho:PD X o to) (he:PD X e te)
  (Ep:attributeBase o "append" X.env (eval o X.env)=eval o X.env)
  (Ai:((backTo Aa (starEach [e] X.env)).all (λ x=>!x.1)&&(backToKw Aa (keywordEach [] X.env)).all (λ x=>x.1.isSome)
   && decide ([e].length+([]:List Keyword).length+(if ([]:List Keyword).isEmpty then 0 else 1)<30))=true)
  (Et:(apos.endLine == Aa.line)=true) (hs:Aq X e []) (Es:Ay X Aa []):
  PD X (.Call (.Attribute o "append" apos) [e] [] Aa) (uk to te):=
 U5 (o:=o) (e:=e) (nX PySem.F.plainAttrs_list PySem.F.slot_list_append PySem.F.type_list_append kN ho.pe (uI he.pe t7 hs) Ep Ai Et hs Es) ho.mo he.mo
structure FD (P:Program) (w:World) (K:Ab) (mg:Au) (base:Heap) (x:Str) (k:Nat) (ps:List Str) (sp:yY):Prop where
 ex:∃ (f:Addr) (fd:FuncData),yL P w K mg base yv k f fd ps (uu K sp)/\mg x=↑(.ref f)/\PySem.W.keepIn K (.ref f)=true/\Binds K fd ps []
 mo:rR sp
def U0 {x:Str}{k:Nat}{ps:List Str}{sp:yY}(F:FD X.prog X.w X.K X.mg X.base x k ps sp) (hr:zQ k X.A) (ha:yK X (e::es) tA) (hg:Gl X x) (AR:(x == ("__debug__":Str))=false)
  (he:Aq X e es) (Ap:Ay X pos es):PD X (.Call (.Name x p) (e::es) [] pos) (rE sp tA):=by
 let#[#[f,fd,h1,h2,h3,h4],hm]:=F;show U1 (E:=E0) (WB h1 hr hg h2 h3 h4 .nil eF ha.pa AR he Ap) hm ha.mo
end
def Ph {S:SS}{p:Addr}{ds:List D}{Q:DK}(e:S p=↑(.lst ds)) (h:Q (.tup ds) S):vY [.ref p] S Q:=by
 unfold vY;dsimp only;rw[e];show h
def Pj {S:SS}{d:D}{ds:List D}{Q:DK}(e:zN d S=↑ds) (h:∀ p,S p=none->Q (.ref p) (ups S p (.lst ds))):uc [d] S Q:=by
 unfold uc;dsimp only;rw[e];show h
def Pk {S:SS}{d:D}{ds:List D}{Q:DK}(e:zN d S=↑ds) (h:Q (.int ds.length) S):ud [d] S Q:=by
 unfold ud;dsimp only;rw[e];show h
def Yo {S:SS}{p:Addr}{ds:List D}{Q:Bool->SS->Prop}(e:S p=↑(.lst ds)) (h:Q (!ds.isEmpty) S):wK (.ref p) S Q:=by
 unfold wK;dsimp only;rw[e];show h
def Pn {S:SS}{p:Addr}{ds:List D}{i:Int}{d:D}{Q:DK}(e:S p=↑(.lst ds)) (e2:L2.zP ds i=↑d) (h:Q d S):xI (.ref p) (.int i) S Q:=by
 unfold xI;dsimp only;rw[e];dsimp only;rw[e2];show h
def Pl {S:SS}{ds:List D}{i:Int}{d:D}{Q:DK}(e2:L2.zP ds i=↑d) (h:Q d S):xI (.tup ds) (.int i) S Q:=by
 unfold xI;dsimp only;rw[e2];show h
def Pm {S:SS}{ds:List D}{i:Int}{d:D}{Q:DK}(e2:L2.zP ds i=↑d) (h:Q d S):xI (.y_ ds) (.int i) S Q:=by
 unfold xI;dsimp only;rw[e2];show h
inductive T where
 | zk | bl (b:Bool) | int (i:Int) | str (x:Str) | tup (ts:List T) | lst (ts:List T) | yD | err (c f:Str) (t:T)
mutual
def eqT:T->T->Bool
 | .zk,.zk=>true
 | .bl a,.bl b=>a == b
 | .bl a,.int b=>(if a then 1 else 0) == b
 | .int a,.bl b=>a == (if b then 1 else 0)
 | .int a,.int b=>a == b
 | .str a,.str b=>a == b
 | .tup a,.tup b=>wV a b
 | .lst a,.lst b=>wV a b
 | .yD,.yD=>true
 | .err a b t,.err c d u=>a == c&&(b == d&&eqT t u)
 | _,_=>false
def wV:List T->List T->Bool
 | [],[]=>true
 | a::as,b::bs=>eqT a b&&wV as bs
 | _,_=>false
end
mutual
def dep:T->Nat
 | .tup ts=>1+xY ts
 | .lst ts=>1+xY ts
 | .yD=>cLine
 | .err _ _ _=>cLine
 | _=>0
def xY:List T->Nat
 | []=>0
 | t::ts=>max (dep t) (xY ts)
end
def kE:List T->Bool
 | []=>true
 | .int _::ts=>kE ts
 | _=>false
def UZ (ns:List Int):kE (ns.map T.int)=true:=by
 induction ns with
 | nil=>rfl
 | cons n ns ih=>show ih
mutual
def Sn (S:SS):T->D->Prop
 | .zk,d=>d=.zk
 | .bl b,d=>d=.bl b
 | .int i,d=>d=.int i
 | .str x,d=>d=.str x
 | .tup ts,d=>∃ ds,d=.tup ds/\zg S ts ds
 | .lst ts,d=>∃ ds,((d=.y_ ds/\kE ts=true)\/∃ a,d=.ref a/\S a=↑(.lst ds))/\zg S ts ds
 | .yD,d=>∃ a Al,(d=.ref a/\Al=[])/\S a=↑(.yq Al)
 | .err c f t,d=>∃ x,d=.err c f x/\Sn S t x
def zg (S:SS):List T->List D->Prop
 | [],ds=>ds=[]
 | t::ts,ds=>∃ c cs,ds=c::cs/\Sn S t c/\zg S ts cs
end
mutual
theorem cY:∀ t:T,eqT t t=true
 | .zk=>by simp[eqT]
 | .bl b=>by simp[eqT]
 | .int i=>by simp[eqT]
 | .str x=>by simp[eqT]
 | .tup ts=>by simp![eqT];show m8 ts
 | .lst ts=>by simp![eqT];show m8 ts
 | .yD=>by simp[eqT]
 | .err _ _ t=>by simp[eqT,cY t]
theorem m8:∀ ts:List T,wV ts ts=true
 | []=>by simp[wV]
 | t::ts=>by simp![wV,cY t,m8 ts,CP]
end
theorem jw:∀ ts us:List T,wV ts us=((List.range (min ts.length us.length)).all (λ j=>eqT (ts.getD j .zk) (us.getD j .zk))&&ts.length == us.length)
 | [],[]=>by simp[wV]
 | [],_::_=>by simp[wV]
 | _::_,[]=>by simp[wV]
 | t::ts,u::us=>by
  simp![wV,jw ts us,Ba];rw[show min (ts.length+1) (us.length+1)=min ts.length us.length+1 by lia,List.range_succ_eq_map,CO,CN];have:(ts.length+1 == us.length+1)=(ts.length == us.length):=by rw[DQ];simp
  rw[this,Bool.and_assoc];rfl
theorem zg.length {S:SS}:∀ {ts:List T}{ds:List D},zg S ts ds->ts.length=ds.length
 | [],ds,h=>by simp![zg] at h;subst h;rfl
 | t::ts,ds,h=>by
  simp![zg] at h;let#[c,cs,rfl,_,h2]:=h;simp[zg.length h2]
section
variable {X:Cx}{Ek:Ah}{O:St}{H:Hp}{s:Shared}{S:SS}
theorem dW (I:Inv X Ek O H s) {a:Addr}{xs ys:List V}(h1:zE X.K H a xs) (h2:zA X.K H a ys):False:=by
 let#[_,_,#[o,e,c,_],_]:=I.tuple h1;let#[_,_,#[o',n,e',c',_],_]:=I.list h2;rw[e] at e';cases e';rw[c] at c'
 injection c' with q
 show absurd q ()
def Sn.uM (p:zv X.K H S) {ts:List T}{d:D}{x:V}(h:Sn S (.lst ts) d) (r:zf X.K H d x):∃ a xs ds,x=.ref a/\zA X.K H a xs/\zh X.K H ds xs/\zg S ts ds:=by
 simp![Sn] at h;obtain⟨ds,⟨h,_⟩ | ⟨a,h,e⟩,h2⟩:=h
 .subst h;simp![zf] at r;let#[a,xs,rfl,g1,g2]:=r;show#[a,xs,ds,rfl,g1.sq,g2,h2]
 .subst h;simp![zf] at r;let#[xs,g1,g2]:=p _ _ e;show#[a,xs,ds,r,zA.of g1,g2,h2]
def Sn.uG {ts:List T}{d:D}{x:V}(h:Sn S (.tup ts) d) (r:zf X.K H d x):∃ a xs ds,x=.ref a/\zE X.K H a xs/\zh X.K H ds xs/\zg S ts ds:=by
 simp![Sn] at h;let#[ds,rfl,h2]:=h;simp![zf] at r;let#[a,xs,rfl,g1,g2]:=r;show#[a,xs,ds,rfl,g1,g2,h2]
def Sn.sv (p:zv X.K H S) {d:D}{x:V}(h:Sn S .yD d) (r:zf X.K H d x):∃ a vs,x=.ref a/\H a=↑(.dK vs):=by
 simp![Sn] at h;let#[a,Al,#[rfl,_],e]:=h;simp![zf] at r;let#[xs,g1,g2]:=p _ _ e;show#[a,xs,r,g1]
def cg (I:Inv X Ek O H s) {a:Addr}{vs:List (Key×V)}(h:H a=↑(.dK vs)):∃ o,s.heap.get? a=↑o/\o.cls=.type "dict":=by
 let#[_,_,_,_,o,_,_,e,c]:=(show xD X.prog X.w H s.heap a (.dK vs) from I.zl a _ h)
 show#[o,e,c.1.1]
theorem dY (I:Inv X Ek O H s) {a:Addr}{xs:List V}{vs:List (Key×V)}(h1:zE X.K H a xs) (h2:H a=↑(.dK vs)):False:=by
 let#[_,_,#[o,e,c,_],_]:=I.tuple h1;let#[o',e',c']:=cg I h2;rw[e] at e';cases e';rw[c] at c'
 injection c' with q
 show absurd q ()
theorem cb (I:Inv X Ek O H s) {a:Addr}{xs:List V}{vs:List (Key×V)}(h1:zA X.K H a xs) (h2:H a=↑(.dK vs)):False:=by
 let#[_,_,#[o,n,e,c,_],_]:=I.list h1;let#[o',e',c']:=cg I h2;rw[e] at e';cases e';rw[c] at c'
 injection c' with q
 show absurd q ()
theorem Sn.flat {t:T}{d:D}{x:V}(h:Sn S t d) (r:zf X.K H d x):match t with
  | .zk=>x=.zk
  | .bl b=>x=.bl b
  | .int i=>x=.int i
  | .str y=>x=.str y
  | _=>True:=by
 cases t <;> first
  | trivial
  | (simp![Sn] at h;subst h;simpa only [zf] using r)
def Sn.tJ {c f:Str}{t:T}{d:D}{x:V}(h:Sn S (.err c f t) d) (r:zf X.K H d x):∃ e C dx w y,x=.ref e/\(sO X.K c C/\H e=↑(wI e C dx)/\Xd H f w dx)/\Sn S t y/\zf X.K H y w:=by
 simp![Sn] at h;let#[y,rfl,h]:=h;simp![zf] at r;let#[e,C,dx,w,r1,r2,r3]:=r;show#[e,C,dx,w,y,r1,r2,h,r3]
def ml (I:Inv X Ek O H s) {e C:Addr}{dx:Option Addr}(h:H e=↑(wI e C dx)):∃ oe vs,s.heap.get? e=↑oe/\oe.cls=.ref C/\oe.dict=dx/\oe.data=.fields vs:=(show xD X.prog X.w H s.heap e (wI e C dx) from I.zl e _ h).1
def dX (I:Inv X Ek O H s) {a C:Addr}{dx:Option Addr}{xs:List V}(h1:zE X.K H a xs) (h2:H a=↑(wI a C dx)):False:=by
 let#[_,_,#[o,e,c,_],_]:=I.tuple h1;let#[o',_,e',c',_]:=ml I h2;rw[e] at e';cases e';rw[c] at c';cases c'
def d_ (I:Inv X Ek O H s) {a C:Addr}{dx:Option Addr}{xs:List V}(h1:zA X.K H a xs) (h2:H a=↑(wI a C dx)):False:=by
 let#[_,_,#[o,n,e,c,_],_]:=I.list h1;let#[o',_,e',c',_]:=ml I h2;rw[e] at e';cases e';rw[c] at c';cases c'
def cj (I:Inv X Ek O H s) {a C:Addr}{dx:Option Addr}{vs:List (Key×V)}(h1:H a=↑(.dK vs)) (h2:H a=↑(wI a C dx)):False:=by
 rw[h1] at h2;cases h2
def Q0 (I:Inv X Ek O H s) {e C C':Addr}{dx JD:Option Addr}(h1:H e=↑(wI e C dx)) (h2:H e=↑(wI e C' JD)):C=C'/\dx=JD:=by
 let#[o,_,e1,c1,d1,_]:=ml I h1;let#[o',_,e2,c2,d2,_]:=ml I h2;rw[e1] at e2;cases e2;rw[c1] at c2;rw[d1] at d2;cases c2;cases d2;show#[rfl,rfl]
def Xd.inj {H:Hp}{f f':Str}{w w':V}{dx:Option Addr}(h1:Xd H f w dx) (h2:Xd H f' w' dx):f=f'/\w=w':=by
 cases dx with
 | none=>show#[h1.1.trans h2.1.symm,h1.2.trans h2.2.symm]
 | some x=>have:=h1.symm.trans h2;cases this;show#[rfl,rfl]
def sO.inj {K:Ab}{c c':Str}{C:Addr}(h1:sO K c C) (h2:sO K c' C):c=c':=by
 let#[_,_,_,#[#[#[_,_,_,_,_,_,_,_,_,_,_,_,a],_],_,_,_,_]]:=h1;let#[_,_,_,#[#[#[_,_,_,_,_,_,_,_,_,_,_,_,b],_],_,_,_,_]]:=h2;rw[a] at b;cases b;rfl
mutual
theorem nh (I:Inv X Ek O H s) (p:zv X.K H S):∀ (t u:T) {d e:D}{x:V},Sn S t d->Sn S u e->zf X.K H d x->zf X.K H e x->t=u
 | .tup ts,u,d,e,x,h1,h2,r1,r2=>by
  let#[a,xs,ds,rfl,g1,g2,g3]:=h1.uG r1;cases u with
  | yD=>let#[_,_,q,g]:=h2.sv p r2;cases q;show (dY I g1 g).elim
  | err _ _ _=>let#[_,_,_,_,_,q,g,_]:=h2.tJ r2;cases q;show (dX I g1 g.2.1).elim
  | tup us=>
   let#[a',EI,GB,q,k1,k2,k3]:=h2.uG r2;cases q;have:=I.lO g1 k1;subst this;rw[lM I p ts us g3 k3 g2 k2]
  | lst us=>
   let#[a',EI,GB,q,k1,k2,k3]:=h2.uM p r2;cases q;show (dW I g1 k1).elim
  | _=>show nomatch h2.flat r2
 | .lst ts,u,d,e,x,h1,h2,r1,r2=>by
  let#[a,xs,ds,rfl,g1,g2,g3]:=h1.uM p r1;cases u with
  | yD=>let#[_,_,q,g]:=h2.sv p r2;cases q;show (cb I g1 g).elim
  | err _ _ _=>let#[_,_,_,_,_,q,g,_]:=h2.tJ r2;cases q;show (d_ I g1 g.2.1).elim
  | lst us=>
   let#[a',EI,GB,q,k1,k2,k3]:=h2.uM p r2;cases q;have:=I.kS g1 k1;subst this;rw[lM I p ts us g3 k3 g2 k2]
  | tup us=>
   let#[a',EI,GB,q,k1,k2,k3]:=h2.uG r2;cases q;show (dW I k1 g1).elim
  | _=>show nomatch h2.flat r2
 | .zk,u,d,e,x,h1,h2,r1,r2=>by
  have q:=h1.flat r1;subst q;cases u with
  | yD=>let#[_,_,q,g]:=h2.sv p r2;cases q
  | err _ _ _=>let#[_,_,_,_,_,q,_]:=h2.tJ r2;cases q
  | zk=>rfl
  | tup us=>let#[_,_,_,q,_]:=h2.uG r2;cases q
  | lst us=>let#[_,_,_,q,_]:=h2.uM p r2;cases q
  | _=>show nomatch h2.flat r2
 | .bl b,u,d,e,x,h1,h2,r1,r2=>by
  have q:=h1.flat r1;subst q;cases u with
  | yD=>let#[_,_,q,g]:=h2.sv p r2;cases q
  | err _ _ _=>let#[_,_,_,_,_,q,_]:=h2.tJ r2;cases q
  | bl _=>have q:=h2.flat r2;cases q;rfl
  | tup us=>let#[_,_,_,q,_]:=h2.uG r2;cases q
  | lst us=>let#[_,_,_,q,_]:=h2.uM p r2;cases q
  | _=>show nomatch h2.flat r2
 | .int b,u,d,e,x,h1,h2,r1,r2=>by
  have q:=h1.flat r1;subst q;cases u with
  | yD=>let#[_,_,q,g]:=h2.sv p r2;cases q
  | err _ _ _=>let#[_,_,_,_,_,q,_]:=h2.tJ r2;cases q
  | int _=>have q:=h2.flat r2;cases q;rfl
  | tup us=>let#[_,_,_,q,_]:=h2.uG r2;cases q
  | lst us=>let#[_,_,_,q,_]:=h2.uM p r2;cases q
  | _=>show nomatch h2.flat r2
 | .str b,u,d,e,x,h1,h2,r1,r2=>by
  have q:=h1.flat r1;subst q;cases u with
  | yD=>let#[_,_,q,g]:=h2.sv p r2;cases q
  | err _ _ _=>let#[_,_,_,_,_,q,_]:=h2.tJ r2;cases q
  | str _=>have q:=h2.flat r2;cases q;rfl
  | tup us=>let#[_,_,_,q,_]:=h2.uG r2;cases q
  | lst us=>let#[_,_,_,q,_]:=h2.uM p r2;cases q
  | _=>show nomatch h2.flat r2
 | .err c f t,u,d,e,x,h1,h2,r1,r2=>by
  let#[a,C,dx,w,y,rfl,#[g1,g2,g3],g4,g5]:=h1.tJ r1;cases u with
  | err c' f' t'=>
   let#[a',C',JD,w',y',q,#[k1,k2,k3],k4,k5]:=h2.tJ r2;cases q;let#[rfl,rfl]:=Q0 I g2 k2;let#[rfl,rfl]:=g3.inj k3;cases g1.inj k1;rw[nh I p t t' g4 k4 g5 k5]
  | yD=>let#[_,_,q,g]:=h2.sv p r2;cases q;show (cj I g g2).elim
  | tup us=>let#[_,_,_,q,k1,_]:=h2.uG r2;cases q;show (dX I k1 g2).elim
  | lst us=>let#[_,_,_,q,k1,_]:=h2.uM p r2;cases q;show (d_ I k1 g2).elim
  | _=>show nomatch h2.flat r2
 | .yD,u,d,e,x,h1,h2,r1,r2=>by
  let#[a,vs,rfl,g]:=h1.sv p r1;cases u with
  | yD=>rfl
  | err _ _ _=>let#[_,_,_,_,_,q,g',_]:=h2.tJ r2;cases q;show (cj I g g'.2.1).elim
  | tup us=>let#[_,_,_,q,g1,_]:=h2.uG r2;cases q;show (dY I g1 g).elim
  | lst us=>let#[_,_,_,q,g1,_]:=h2.uM p r2;cases q;show (cb I g1 g).elim
  | _=>show nomatch h2.flat r2
theorem lM (I:Inv X Ek O H s) (p:zv X.K H S):∀ (ts us:List T) {ds es:List D}{xs:List V},zg S ts ds->zg S us es->zh X.K H ds xs->zh X.K H es xs->ts=us
 | [],us,ds,es,xs,h1,h2,r1,r2=>by
  have e:=h1.length.trans (r1.length.trans (r2.length.symm.trans h2.length.symm));cases us with
  | nil=>rfl
  | cons _ _=>simp at e
 | t::ts,[],ds,es,xs,h1,h2,r1,r2=>by
  have e:=h1.length.trans (r1.length.trans (r2.length.symm.trans h2.length.symm));simp at e
 | t::ts,u::us,ds,es,xs,h1,h2,r1,r2=>by
  simp![zg] at h1 h2;let#[c,cs,rfl,a1,a2]:=h1;let#[c',cs',rfl,b1,b2]:=h2;simp![zh] at r1 r2;let#[y,ys,rfl,g1,g2]:=r1;let#[y',GQ,q,k1,k2]:=r2;cases q;rw[nh I p t u a1 b1 g1 k1,lM I p ts us a2 b2 g2 k2]
end
theorem zg.get {ts:List T}{ds:List D}(h:zg S ts ds):∀ {j:Nat},j<ts.length->∃ c,ds[j]?=↑c/\Sn S (ts.getD j .zk) c:=by
 induction ts generalizing ds with
 | nil=>intro j hj;simp at hj
 | cons t ts ih=>
  intro j hj;simp![zg] at h;let#[c,cs,rfl,h1,h2]:=h;cases j with
  | zero=>show#[c,rfl,h1]
  | succ j=>
   let#[c',e,h3]:=ih h2 (j:=j) (by exists hj);show#[c',by simpa using e,by exists h3]
theorem mC:∀ {ts:List T}{j:Nat},j<ts.length->dep (ts.getD j .zk)<=xY ts
 | [],j,h=>by simp at h
 | t::ts,0,_=>by simp![xY,List.getD_cons_zero];lia
 | t::ts,j+1,h=>by
  have:=mC (ts:=ts) (j:=j) (by exists h);simp![xY,List.getD_cons_succ];lia
inductive rM (K:Ab) (H:Hp) (S:SS) (s:Shared):T->Value->Prop
 | zk:rM K H S s .zk .none
 | bl {b:Bool}:rM K H S s (.bl b) (.bool b)
 | int {i:Int}{k:Tok}:rM K H S s (.int i) (.int i k)
 | str {i:Str}{k:Tok}:rM K H S s (.str i) (.str i k)
 | tup {ts:List T}{ds:List D}{xs:List V}{us:Ad}{l:Addr}(g:zg S ts ds) (r:zh K H ds xs) (v:Vals xs us) (h:s.heap.IsTuple l us.toArray):rM K H S s (.tup ts) (.ref l)
 | lst {ts:List T}{ds:List D}{xs:List V}{us:Ad}{l:Addr}(g:zg S ts ds) (r:zh K H ds xs) (v:Vals xs us) (h:s.heap.IsList l us.toArray):rM K H S s (.lst ts) (.ref l)
def gR (I:Inv X Ek O H s) (p:zv X.K H S) {t:T}{d:D}{x:V}{a:Value}(h:Sn S t d) (r:zf X.K H d x) (v:RelV x a) (z:dep t<cLine):rM X.K H S s t a:=by
 cases t with
 | zk=>have q:=h.flat r;subst q;cases v;show .zk
 | bl _=>have q:=h.flat r;subst q;cases v;show .bl
 | int _=>have q:=h.flat r;subst q;let#[_,rfl]:=v;show .int
 | str _=>have q:=h.flat r;subst q;let#[_,rfl]:=v;show .str
 | tup _=>let#[l,xs,ds,rfl,g,r,q]:=h.uG r;cases v;let#[_,w,i,_]:=I.tuple g;show .tup q r w i
 | lst _=>let#[l,xs,ds,rfl,g,r,q]:=h.uM p r;cases v;let#[_,w,i,_]:=I.list g;show .lst q r w i.isList
 | _=>simp![dep] at z;lia
abbrev J3 (A:Around) (s:Shared) (a b:Value) (k:Bool):Prop:=SeqAt.EqAt A s a b k/\SeqAt.RcAt A s a b k/\SeqAt.RcNeAt A s a b (!k)
theorem OA (I:Inv X Ek O H s) (p:zv X.K H S):∀ (n:Nat) (t u:T) {A:Around}{d e:D}{x y:V}{a b:Value},dep t<n->A.units+dep t<cLine->A.units+dep u<cLine->Sn S t d->Sn S u e->zf X.K H d x->zf X.K H e y->RelV x a->RelV y b->J3 A s a b (eqT t u):=by
 intro n
 induction n with
 | zero=>intros;lia
 | succ n ih=>
  intro t u A d e x y a b hn hu Hg h1 h2 r1 r2 v1 v2;have hq:a=b->t=u:=λ z=>by subst z;have:=v1.inj v2;subst this;show nh I p t u h1 h2 r1 r2
  have c1:=gR I p h1 r1 v1 ⋯;have c2:=gR I p h2 r2 v2 ⋯;clear h1 h2 r1 r2 v1 v2;have hA:A.units<cLine:=⋯;have el:∀ {ts us:List T}{ds GB:List D}{xs EI:List V}{is Hf:Ad},1+xY ts<n+1->A.units+(1+xY ts)<cLine->A.units+(1+xY us)<cLine->zg S ts ds->zg S us GB->zh X.K H ds xs->zh X.K H GB EI->Vals xs is->Vals EI Hf->is.toArray.size=ts.length/\Hf.toArray.size=us.length/\
    ∀ (j:Nat) (h1:j<is.toArray.size) (h2:j<Hf.toArray.size),SeqAt.EqAt A.in1 s is.toArray[j] Hf.toArray[j] (eqT (ts.getD j .zk) (us.getD j .zk)):=by
   intro ts us ds GB xs EI is Hf a1 a2 a3 g1 g2 r1 r2 v1 v2;have e1:is.toArray.size=ts.length:=by rw[Ax,<- v1.length,<- r1.length,<- g1.length]
   have e2:Hf.toArray.size=us.length:=by rw[Ax,<- v2.length,<- r2.length,<- g2.length]
   exact#[e1,e2,λ j h1 h2=>?_];let#[_,k1,s1]:=g1.get (e1▸h1);let#[_,k2,s2]:=g2.get (e2▸h2);let#[_,f1,q1]:=r1.get k1;let#[_,f2,q2]:=r2.get k2;let#[w1,o1,m1]:=v1.get f1;let#[w2,o2,m2]:=v2.get f2;have y1:=mC (e1▸h1);have y2:=mC (e2▸h2);let#[_,z1]:=A1.mp o1;let#[_,z2]:=A1.mp o2;rw[List.getElem_toArray,List.getElem_toArray,z1,z2];show (ih _ _ (A:=A.in1) ⋯ (by change A.units+1+_<_;lia) (by change A.units+1+_<_;lia) s1 s2 q1 q2 m1 m2).1
  have en:∀ {l l':Addr}{ts us:List T},(Value.ref l=.ref l'->ts=us)->SeqAt.RcAt A s (.ref l) (.ref l') (wV ts us)/\SeqAt.RcNeAt A s (.ref l) (.ref l') (!wV ts us)->J3 A s (.ref l) (.ref l') (wV ts us):=λ{l l' ts us} h q=>by
   exact#[?_,q];by_cases z:l=l'
   .subst z;rw[h rfl,m8];show .same _
   .show .of_refs z q.1
  cases c1 <;> cases c2 <;> simp![eqT,CC,CD]
  .show#[.same _,.none_none,.none_none]
  .show#[.none_bool _,.none_bool _,.none_bool _]
  .show#[.none_int _ _,.none_int _ _,.none_int _ _]
  .show#[.none_str _ _,.none_str _ _,.none_str _ _]
  .show#[.none_tuple ‹_› hA,.none_tuple ‹_› hA,.none_tuple ‹_› hA]
  .show#[.none_list ‹_› hA,.none_list ‹_› hA,.none_list ‹_› hA]
  .show#[.bool_none _,.bool_none _,.bool_none _]
  .show#[.bool_bool _ _,.bool_bool _ _,.bool_bool _ _]
  .show#[.bool_int _ _ _,.bool_int _ _ _,.bool_int _ _ _]
  .show#[.bool_str _ _ _,.bool_str _ _ _,.bool_str _ _ _]
  .show#[.bool_tuple _ ‹_› hA,.bool_tuple _ ‹_› hA,.bool_tuple _ ‹_› hA]
  .show#[.bool_list _ ‹_› hA,.bool_list _ ‹_› hA,.bool_list _ ‹_› hA]
  .show#[.int_none _ _,.int_none _ _,.int_none _ _]
  .show#[.int_bool _ _ _,.int_bool _ _ _,.int_bool _ _ _]
  .show#[.int_int _ _ _ _,.int_int _ _ _ _,.int_int _ _ _ _]
  .show#[.int_str _ _ _ _,.int_str _ _ _ _,.int_str _ _ _ _]
  .show#[.int_tuple _ _ ‹_› hA,.int_tuple _ _ ‹_› hA,.int_tuple _ _ ‹_› hA]
  .show#[.int_list _ _ ‹_› hA,.int_list _ _ ‹_› hA,.int_list _ _ ‹_› hA]
  .show#[.str_none _ _,.str_none _ _,.str_none _ _]
  .show#[.str_bool _ _ _,.str_bool _ _ _,.str_bool _ _ _]
  .show#[.str_int _ _ _ _,.str_int _ _ _ _,.str_int _ _ _ _]
  .show#[.str_str _ _ _ _,.str_str _ _ _ _,.str_str _ _ _ _]
  .show#[.str_tuple _ _ ‹_› hA,.str_tuple _ _ ‹_› hA,.str_tuple _ _ ‹_› hA]
  .show#[.str_list _ _ ‹_› hA,.str_list _ _ ‹_› hA,.str_list _ _ ‹_› hA]
  .show#[.tuple_none ‹_› hA,.tuple_none ‹_› hA,.tuple_none ‹_› hA]
  .show#[.tuple_bool _ ‹_› hA,.tuple_bool _ ‹_› hA,.tuple_bool _ ‹_› hA]
  .show#[.tuple_int _ _ ‹_› hA,.tuple_int _ _ ‹_› hA,.tuple_int _ _ ‹_› hA]
  .show#[.tuple_str _ _ ‹_› hA,.tuple_str _ _ ‹_› hA,.tuple_str _ _ ‹_› hA]
  .rename_i g1 r1 v1 k1 _ _ _ _ _ g2 r2 v2 k2;simp![dep] at hn hu Hg;let#[e1,e2,q]:=el hn hu Hg g1 g2 r1 r2 v1 v2;exact en (λ z=>by cases hq z;rfl) ?_;rw[jw,<- e1,<- e2];show#[.tuples k1 k2 hA q,.tuples k1 k2 hA q]
  .show#[.tuple_list ‹_› ‹_› hA,.tuple_list ‹_› ‹_› hA,.tuple_list ‹_› ‹_› hA]
  .show#[.list_none ‹_› hA,.list_none ‹_› hA,.list_none ‹_› hA]
  .show#[.list_bool _ ‹_› hA,.list_bool _ ‹_› hA,.list_bool _ ‹_› hA]
  .show#[.list_int _ _ ‹_› hA,.list_int _ _ ‹_› hA,.list_int _ _ ‹_› hA]
  .show#[.list_str _ _ ‹_› hA,.list_str _ _ ‹_› hA,.list_str _ _ ‹_› hA]
  .show#[.list_tuple ‹_› ‹_› hA,.list_tuple ‹_› ‹_› hA,.list_tuple ‹_› ‹_› hA]
  .rename_i i1 _ g1 r1 v1 k1 _ _ _ i2 _ g2 r2 v2 k2;simp![dep] at hn hu Hg;let#[e1,e2,q]:=el hn hu Hg g1 g2 r1 r2 v1 v2;exact en (λ z=>by cases hq z;rfl) ?_;rw[jw,<- e1,<- e2];by_cases z:i1.toArray.size=i2.toArray.size
   .rw[<- z,Nat.min_self,beq_self_eq_true,Bool.and_true];show#[.lists k1 k2 z hA q,.lists k1 k2 z hA q]
   .rw[beq_eq_false_iff_ne.mpr z,B2];have z':=bne_iff_ne.mpr z;show#[.lists_lengths k1 k2 z' hA,.lists_lengths k1 k2 z' hA]
def jW (I:Inv X Ek O H s) (p:zv X.K H S) (t u:T) {A:Around}{d e:D}{x y:V}{a b:Value}(hu:A.units+dep t<cLine) (Hg:A.units+dep u<cLine) (h1:Sn S t d) (h2:Sn S u e) (r1:zf X.K H d x) (r2:zf X.K H e y) (v1:RelV x a) (v2:RelV y b):J3 A s a b (eqT t u):=OA I p _ t u (CA _) hu Hg h1 h2 r1 r2 v1 v2
end
def ko (K:Ab) (neg:Bool):R2:=λ x y H Q=>∃ S d e t u,zf K H d x/\zf K H e y/\zv K H S/\Sn S t d/\Sn S u e/\dep t<=60/\dep u<=60/\Q (.bl (cond neg (!eqT t u) (eqT t u))) H
def wU (neg:Bool):yz:=λ x y S Q=>∃ t u,Sn S t x/\Sn S u y/\dep t<=60/\dep u<=60/\Q (.bl (cond neg (!eqT t u) (eqT t u))) S
def wU.mo {neg:Bool}:yU (wU neg):=λ _ _ _ _ _ hq #[t,u,a,b,c,d,h]=>#[t,u,a,b,c,d,hq _ _ h]
def wU.fits {K:Ab}{neg:Bool}:yZ K (wU neg) (ko K neg):=λ x y d e H S Q h1 h2 h3 #[t,u,a,b,c,c',h]=>#[S,d,e,t,u,h1,h2,h3,a,b,c,c',h _ H (by simp![zf]) (.refl H) h3]
section
variable {X:Cx}{a b:Expr}{ta tb:zj}{pos:Pos}
theorem eS (hu:X.A.units+64<cLine):zR X (compareOp .Eq) (ko X.K false):=by
 intro Ek s O H x y v u Q I rx ry h;let#[S,d,e,t,u',a1,a2,a3,a4,a5,a6,a7,q]:=h;show (jW I a3 t u' (A:=X.A) ⋯ ⋯ a4 a5 a1 a2 rx ry).2.1 X.prog X.w X.xe _ #[.bl _,H,I,rfl,q]
theorem UK (hu:X.A.units+64<cLine):zR X (compareOp .NotEq) (ko X.K true):=by
 intro Ek s O H x y v u Q I rx ry h;let#[S,d,e,t,u',a1,a2,a3,a4,a5,a6,a7,q]:=h;show (jW I a3 t u' (A:=X.A) ⋯ ⋯ a4 a5 a1 a2 rx ry).2.2 X.prog X.w X.xe _ #[.bl _,H,I,rfl,q]
def Uy {k:Nat}(hr:zQ k X.A) (ha:PD X a ta) (hb:PD X b tb):PD X (.Compare a [.Eq] [b] pos) (z_ (wU false) ta tb):=pB (eS hr.units) wU.fits wU.mo ha hb (se _)
def WZ {k:Nat}(hr:zQ k X.A) (ha:PD X a ta) (hb:PD X b tb):xx X (.Compare a [.Eq] [b] pos) (ug (z_ (wU false) ta tb)):=p7 (eS hr.units) wU.fits wU.mo ha hb (se _)
def WV {k:Nat}(hr:zQ k X.A) (ha:PD X a ta) (hb:PD X b tb):xx X (.Compare a [.NotEq] [b] pos) (ug (z_ (wU true) ta tb)):=p7 (UK hr.units) wU.fits wU.mo ha hb (se _)
def fP (K:Ab) (neg:Bool):R2:=λ x y H Q=>∃ S d e u ts ds,zf K H d x/\zf K H e y/\zv K H S/\Sn S u d/\zN e S=↑ds/\zg S ts ds/\dep u<=60/\xY ts<=60/\Q (.bl (cond neg (!(ts.any λ t=>eqT t u)) (ts.any λ t=>eqT t u))) H
def u6 (neg:Bool):yz:=λ x y S Q=>∃ u ts ds,Sn S u x/\zN y S=↑ds/\zg S ts ds/\dep u<=60/\xY ts<=60/\Q (.bl (cond neg (!(ts.any λ t=>eqT t u)) (ts.any λ t=>eqT t u))) S
def u6.mo {neg:Bool}:yU (u6 neg):=λ _ _ _ _ _ hq #[u,ts,ds,a,b,c,d,e,h]=>#[u,ts,ds,a,b,c,d,e,hq _ _ h]
def u6.fits {K:Ab}{neg:Bool}:yZ K (u6 neg) (fP K neg):=λ x y d e H S Q h1 h2 h3 #[u,ts,ds,a,b,c,c',c2,h]=>#[S,d,e,u,ts,ds,h1,h2,h3,a,b,c,c',c2,h _ H (by simp![zf]) (.refl H) h3]
open Classical in
def uT (its:Ad) (ts:List T) (u:T) (v:Value):Bool:=if h:∃ j,its[j]?=↑v then eqT (ts.getD (Classical.choose h) .zk) u else false
def jV {Ek:Ah}{O:St}{H:Hp}{s:Shared}{S:SS}(I:Inv X Ek O H s) (p:zv X.K H S) {ts:List T}{ds:List D}{xs:List V}{its:Ad}(h1:zg S ts ds) (h2:zh X.K H ds xs) (h3:Vals xs its) (u:T) {j:Nat}{v:Value}(hj:its[j]?=↑v):
  uT its ts u v=eqT (ts.getD j .zk) u:=by
 have h:∃ j,its[j]?=↑v:=#[j,hj];unfold uT;rw[dif_pos h];have hc:=Classical.choose_spec h;have lt:∀ i,its[i]?=↑v->i<ts.length:=λ i hi=>by
  rw[h1.length,h2.length,h3.length];show (A1.mp hi).1
 let#[c1,e1,s1]:=h1.get (lt _ hc);let#[c2,e2,s2]:=h1.get (lt _ hj);let#[x1,f1,r1]:=h2.get e1;let#[x2,f2,r2]:=h2.get e2;let#[v1,g1,q1]:=h3.get f1;let#[v2,g2,q2]:=h3.get f2;rw[hc] at g1;cases g1;rw[hj] at g2;cases g2;have hx:=q1.inj q2;subst hx;rw[nh I p _ _ s1 s2 r1 r2]
theorem ai {Ek:Ah}{O:St}{H:Hp}{s:Shared}{S:SS}(I:Inv X Ek O H s) (p:zv X.K H S) {ts:List T}{ds:List D}{xs:List V}{its:Ad}(h1:zg S ts ds) (h2:zh X.K H ds xs) (h3:Vals xs its) (u:T):its.any (uT its ts u)=ts.any λ t=>eqT t u:=by
 have hl:ts.length=its.length:=by rw[h1.length,h2.length,h3.length]
 rw[DQ,Dm,Dm];constructor
 .rintro⟨v,hv,h⟩;let#[j,hj,rfl]:=B1.mp hv;rw[jV I p h1 h2 h3 u (j:=j) (by simp[hj])] at h;have Gh:j<ts.length:=⋯;show#[ts[j],CZ Gh,by simpa [Gh] using h]
 .rintro⟨t,ht,h⟩;let#[j,hj,rfl]:=B1.mp ht;have Gh:j<its.length:=⋯;show#[its[j],CZ Gh,by rw[jV I p h1 h2 h3 u (j:=j) (by simp[Gh])];simpa [hj] using h]
def aj {Ek:Ah}{O:St}{H:Hp}{s:Shared}{S:SS}(I:Inv X Ek O H s) (p:zv X.K H S) {ts:List T}{ds:List D}{xs:List V}{its:Ad}(h1:zg S ts ds) (h2:zh X.K H ds xs) (h3:Vals xs its) {u:T}{d:D}{x:V}{v:Value}(hu:Sn S u d) (hd:zf X.K H d x) (hx:RelV x v) {A:Around}(b1:A.units+xY ts<cLine) (b2:A.units+dep u<cLine) {y:Value}(hy:y∈its):
  SeqAt.EqAt A s y v (uT its ts u y):=by
 let#[j,hj,rfl]:=B1.mp hy;have hjt:j<ts.length:=by rw[h1.length,h2.length,h3.length];show hj
 rw[jV I p h1 h2 h3 u (j:=j) (by simp[hj])];let#[c1,e1,s1]:=h1.get hjt;let#[x1,f1,r1]:=h2.get e1;let#[v1,g1,q1]:=h3.get f1;have:its[j]=v1:=by
  have:=A1.mp g1;show this.2
 rw[this];have:=mC hjt;show (jW I p _ u (A:=A) ⋯ b2 s1 hu r1 hd q1 hx).1
theorem eR (hu:X.A.units+64<cLine):zR X (compareOp .In) (fP X.K false):=by
 intro Ek s O H x y v w Q I rx ry h;let#[S,d,e,u,ts,ds,a1,a2,a3,a4,a5,a6,a7,a8,q]:=h;let#[l,xs,rfl,g1,g2]:=zN.sq a2 a3 a5;cases ry;rcases g1 with g1 | g1
 .let#[its,w1,pl,_]:=I.list g1;exact SeqAt.in_listAt (uT its ts u) pl.isList (λ y hy=>aj I a3 a6 g2 w1 a4 a1 rx (A:=X.A.in1) (by change X.A.units+1+_<_;lia) (by change X.A.units+1+_<_;lia) (by exists hy)) #[.bl _,H,I,rfl,?_];rw[show its.toArray.any (uT its ts u)=its.any (uT its ts u) by simp,ai I a3 a6 g2 w1];show q
 .let#[its,w1,pt,_]:=I.tuple g1;exact SeqAt.in_tupleAt (uT its ts u) pt (λ y hy=>aj I a3 a6 g2 w1 a4 a1 rx (A:=X.A.in1) (by change X.A.units+1+_<_;lia) (by change X.A.units+1+_<_;lia) (by exists hy)) #[.bl _,H,I,rfl,?_];rw[show its.toArray.any (uT its ts u)=its.any (uT its ts u) by simp,ai I a3 a6 g2 w1];show q
def Uq {k:Nat}(hr:zQ k X.A) (ha:PD X a ta) (hb:PD X b tb) (hm:behindInMarks .In b=false):PD X (.Compare a [.In] [b] pos) (z_ (u6 false) ta tb):=pB (eR hr.units) u6.fits u6.mo ha hb hm
def WY {k:Nat}(hr:zQ k X.A) (ha:PD X a ta) (hb:PD X b tb) (hm:behindInMarks .In b=false):xx X (.Compare a [.In] [b] pos) (ug (z_ (u6 false) ta tb)):=p7 (eR hr.units) u6.fits u6.mo ha hb hm
end
end L3
namespace L3
open PySem L2
section
variable {S S':SS}
mutual
theorem Sn.sx (h:Sx S S'):∀ (t:T) {d:D},Sn S t d->Sn S' t d
 | .zk,d,q=>by simpa only [Sn] using q
 | .bl b,d,q=>by simpa only [Sn] using q
 | .int i,d,q=>by simpa only [Sn] using q
 | .str x,d,q=>by simpa only [Sn] using q
 | .tup ts,d,q=>by
  simp![Sn] at q ⊢;let#[ds,q1,q2]:=q;show#[ds,q1,zg.sx h ts q2]
 | .lst ts,d,q=>by
  simp![Sn] at q ⊢;let#[ds,q1,q2]:=q;exact#[ds,?_,zg.sx h ts q2];rcases q1 with q1 | ⟨a,q1,q3⟩
  .show .inl q1
  .show .inr #[a,q1,h _ _ q3]
 | .err _ _ t,d,q=>by
  simp![Sn] at q ⊢;let#[x,q1,q2]:=q;show#[x,q1,Sn.sx h t q2]
 | .yD,d,q=>by
  simp![Sn] at q ⊢;let#[a,Al,q1,q2]:=q;show#[a,Al,q1,h _ _ q2]
theorem zg.sx (h:Sx S S'):∀ (ts:List T) {ds:List D},zg S ts ds->zg S' ts ds
 | [],ds,q=>by simpa only [zg] using q
 | t::ts,ds,q=>by
  simp![zg] at q ⊢;let#[c,cs,q1,q2,q3]:=q;show#[c,cs,q1,Sn.sx h t q2,zg.sx h ts q3]
end
def zg.nil:zg S [] []:=by simp![zg]
def zg.cons {t:T}{ts:List T}{d:D}{ds:List D}(h:Sn S t d) (h':zg S ts ds):zg S (t::ts) (d::ds):=by
 simp![zg];show#[d,ds,rfl,h,h']
theorem zg.append:∀ {ts us:List T}{ds es:List D},zg S ts ds->zg S us es->zg S (ts++us) (ds++es)
 | [],us,ds,es,h,h'=>by simp![zg] at h;subst h;exists h'
 | t::ts,us,ds,es,h,h'=>by
  simp![zg] at h;let#[c,cs,rfl,h1,h2]:=h;show zg.cons h1 (zg.append h2 h')
theorem zg.jj:∀ {ts:List T}{ds:List D}{i:Nat}{t:T},zg S ts ds->ts[i]?=↑t->∃ d,ds[i]?=↑d/\Sn S t d
 | [],_,i,t,_,e=>by simp at e
 | u::ts,ds,i,t,h,e=>by
  simp![zg] at h;let#[c,cs,rfl,h1,h2]:=h;cases i with
  | zero=>simp at e;subst e;show#[c,rfl,h1]
  | succ i=>
   let#[y,e1,e2]:=zg.jj (i:=i) h2 (by exists e);show#[y,by simpa using e1,e2]
theorem zg.jl:∀ {ts:List T}{ds:List D}{i:Nat}{d:D},zg S ts ds->ds[i]?=↑d->∃ t,ts[i]?=↑t/\Sn S t d
 | [],ds,i,t,h,e=>by simp![zg] at h;subst h;simp at e
 | u::ts,ds,i,t,h,e=>by
  simp![zg] at h;let#[c,cs,rfl,h1,h2]:=h;cases i with
  | zero=>simp at e;subst e;show#[u,rfl,h1]
  | succ i=>
   let#[y,e1,e2]:=zg.jl (i:=i) h2 (by exists e);show#[y,by simpa using e1,e2]
def zg.len {ts:List T}{ds:List D}(h:zg S ts ds):ds.length=ts.length:=(L3.zg.length h).symm
theorem zg.at {ts:List T}{ds:List D}{i:Int}{t:T}(h:zg S ts ds) (e:L2.zP ts i=↑t):∃ d,L2.zP ds i=↑d/\Sn S t d:=by
 unfold L2.zP at e ⊢;rw[h.len];cases q:L2.wx ts.length i with
 | none=>rw[q] at e;cases e
 | some j=>
  rw[q] at e;show h.jj e
theorem zg.gS:∀ {ts:List T}{ds:List D}{t:T}{d:D}(i:Nat),zg S ts ds->Sn S t d->zg S (ts.set i t) (ds.set i d)
 | [],ds,t,d,i,h,_=>by simp![zg] at h;subst h;exists zg.nil
 | u::ts,ds,t,d,0,h,hd=>by
  simp![zg] at h;let#[c,cs,rfl,h1,h2]:=h;show zg.cons hd h2
 | u::ts,ds,t,d,i+1,h,hd=>by
  simp![zg] at h;let#[c,cs,rfl,h1,h2]:=h;show zg.cons h1 (zg.gS i h2 hd)
theorem zg.take':∀ {ts:List T}{ds:List D}(n:Nat),zg S ts ds->zg S (ts.take n) (ds.take n)
 | ts,ds,0,h=>by exists zg.nil
 | [],ds,n+1,h=>by simp![zg] at h;subst h;exists zg.nil
 | t::ts,ds,n+1,h=>by
  simp![zg] at h;let#[c,cs,rfl,h1,h2]:=h;show zg.cons h1 (zg.take' n h2)
theorem zg.drop':∀ {ts:List T}{ds:List D}(n:Nat),zg S ts ds->zg S (ts.drop n) (ds.drop n)
 | ts,ds,0,h=>h
 | [],ds,n+1,h=>by simp![zg] at h;subst h;exists zg.nil
 | t::ts,ds,n+1,h=>by
  simp![zg] at h;let#[c,cs,rfl,h1,h2]:=h;show zg.drop' n h2
def zg.empty {ts:List T}{ds:List D}(h:zg S ts ds):ds.isEmpty=ts.isEmpty:=by
 have:=h.len;cases ds <;> cases ts <;> simp_all
theorem zg.bR:∀ {bs:List Bool}{ds:List D},zg S (bs.map T.bl) ds->ds=bs.map D.bl
 | [],ds,h=>by simpa only [A8,zg] using h
 | b::bs,ds,h=>by
  rw[AD] at h;simp![zg,Sn] at h;let#[c,cs,rfl,rfl,h3]:=h;rw[zg.bR h3];rfl
end
end L3
namespace L5
open PySem L2 L3
def zF (S:SS) (Z:Addr->Prop):SS:=open Classical in λ a=>if Z a then none else S a
section
variable {S S':SS}{Z Z':Addr->Prop}{a p:Addr}
def vW (h:¬ Z a):zF S Z a=S a:=if_neg h
def je (h:Z a):zF S Z a=none:=if_pos h
def u4 {o:O}(h:zF S Z a=↑o):¬ Z a/\S a=↑o:=by
 by_cases z:Z a
 .rw[je z] at h;cases h
 .rw[vW z] at h;show#[z,h]
def mw (S:SS) (Z:Addr->Prop):Sx (zF S Z) S:=λ _ _ h=>(u4 h).2
def vq (h:Sx S S'):Sx (zF S Z) (zF S' Z):=λ b o q=>by
 let#[q1,q2]:=u4 q;rw[vW q1];show h _ _ q2
def vX (h:∀ a,Z' a->Z a):Sx (zF S Z) (zF S Z'):=λ b o q=>by
 let#[q1,q2]:=u4 q;rw[vW (λ z=>q1 (h _ z))];show q2
def qt (h:Sx S S') (hp:S p=none):Sx (zF S Z) (zF S' λ a=>Z a\/a=p):=λ b o q=>by
 let#[q1,q2]:=u4 q;rw[vW]
 .show h _ _ q2
 .rintro (z | z)
  .show q1 z
  .subst z;rw[hp] at q2;cases q2
theorem Q8 {o:O}(h:Z p):zF (ups S p o) Z=zF S Z:=by
 funext b;by_cases z:Z b
 .rw[je z,je z]
 .rw[vW z,vW z,tm (λ e=>z (by rw[e];show h))]
end
inductive C where
 | lst (ts:List T) | yq (Al:List (Key×T)) | obj (a:Option Addr) (c:Str) (fs:List (Str×T))
def tV {κ:Type}(S:SS):List (κ × T)->List (κ × D)->Prop
 | [],l=>l=[]
 | (k,t)::r,l=>∃ d m,l=(k,d)::m/\Sn S t d/\tV S r m
theorem tV.sx {κ:Type}{S S':SS}(h:Sx S S'):∀ {a:List (κ × T)}{b:List (κ × D)},tV S a b->tV S' a b
 | [],_,q=>q
 | (k,t)::r,_,q=>by
  let#[d,m,q1,q2,q3]:=q;show#[d,m,q1,Sn.sx h t q2,tV.sx h q3]
def uV (S:SS):C->O->Prop
 | .lst ts,.lst ds=>zg S ts ds
 | .yq a,.yq b=>tV S a b
 | .obj _ c a,.obj c' b=>c=c'/\tV S a b
 | _,_=>False
theorem uV.sx {S S':SS}(h:Sx S S'):∀ {c:C}{o:O},uV S c o->uV S' c o
 | .lst ts,.lst ds,q=>zg.sx h ts q
 | .yq a,.yq b,q=>tV.sx h q
 | .obj _ _ _,.obj _ _,q=>#[q.1,tV.sx h q.2]
def adr:C->Addr->Prop
 | .obj ↑q _ _,p=>q=p
 | _,_=>True
inductive W where
 | im (t:T) | own (c:C)
abbrev Ev:=List (Option W)
abbrev Ae:=Ev->Option T
abbrev Ak:=List T->Option T
structure ER (S:SS) (Z:Addr->Prop) (Y:zS) (J:Ev):Prop where
 zd:∀ a,Z a->S a≠none
 im:∀ (i:Nat) t,J[i]?=↑↑(.im t)->∃ d,Y[i]?=↑↑d/\Sn (zF S Z) t d
 ow:∀ (i:Nat) c,J[i]?=↑↑(.own c)->∃ p o,Y[i]?=↑↑(.ref p)/\S p=↑o/\uV (zF S Z) c o/\Z p
def Vw (S:SS) (Z:Addr->Prop) (y:T) (d:D):Prop:=Sn (zF S Z) y d\/∃ ts p ds,y=.lst ts/\d=.ref p/\S p=↑(.lst ds)/\zg (zF S Z) ts ds/\Z p
abbrev Rk:=SS->SS->(Addr->Prop)->T->D->Prop
def au:Rk:=λ _ S' Z y d=>Vw S' Z y d
def wa:Rk:=λ _ S' Z y d=>Sn (zF S' Z) y d
def zx:Rk:=λ S S' Z y d=>Sn (zF S' Z) y d/\∀ ts,y=.lst ts->∃ p ds,d=.ref p/\S p=none/\S' p=↑(.lst ds)/\zg (zF S' λ a=>Z a\/a=p) ts ds
class Cl (R:Rk):Prop where
 cl:∀ {S S1 S':SS}{Z:Addr->Prop}{y:T}{d:D},Sx S S1->R S1 S' Z y d->R S S' Z y d
 of:∀ {S S':SS}{Z:Addr->Prop}{y:T}{d:D},(∀ ts,y≠.lst ts)->Sn (zF S' Z) y d->R S S' Z y d
instance:Cl au:=#[λ _ h=>h,λ _ h=>.inl h]
instance:Cl wa:=#[λ _ h=>h,λ _ h=>h]
instance:Cl zx:=#[λ s h=>#[h.1,λ ts e=>by
 let#[p,ds,h1,h2,h3]:=h.2 ts e;show#[p,ds,h1,s.none h2,h3]],λ n h=>#[h,λ ts e=>absurd e (n ts)]]
section
variable {S S':SS}{Z:Addr->Prop}{Y:zS}{J:Ev}{y:T}{d:D}
def ER.grow (h:ER S Z Y J) (s:Sx S S'):ER S' Z Y J:=
 #[λ a z q=>h.zd a z (s.none q),λ i t e=>by
  let#[d,h1,h2]:=h.im i t e;show#[d,h1,Sn.sx (vq s) t h2],λ i ts e=>by
  let#[p,ds,h1,h2,h3,h4]:=h.ow i ts e;show#[p,ds,h1,s _ _ h2,uV.sx (vq s) h3,h4]]
def Vw.grow (h:Vw S Z y d) (s:Sx S S'):Vw S' Z y d:=by
 rcases h with h | ⟨ts,p,ds,h1,h2,h3,h4,h5⟩
 .show .inl (Sn.sx (vq s) y h)
 .show .inr #[ts,p,ds,h1,h2,s _ _ h3,zg.sx (vq s) ts h4,h5]
def Vw.sn (h:Vw S Z y d):Sn S y d:=by
 rcases h with h | ⟨ts,p,ds,rfl,rfl,h3,h4,_⟩
 .show Sn.sx (mw S Z) y h
 .simp![Sn];show#[ds,.inr #[p,rfl,h3],zg.sx (mw S Z) ts h4]
theorem Vw.zk (h:Vw S Z .zk d):d=.zk:=by
 rcases h with h | ⟨_,_,_,h,_⟩
 .simpa only [Sn] using h
 .cases h
theorem Vw.bl {b:Bool}(h:Vw S Z (.bl b) d):d=.bl b:=by
 rcases h with h | ⟨_,_,_,h,_⟩
 .simpa only [Sn] using h
 .cases h
theorem Vw.int {b:Int}(h:Vw S Z (.int b) d):d=.int b:=by
 rcases h with h | ⟨_,_,_,h,_⟩
 .simpa only [Sn] using h
 .cases h
theorem Vw.str {b:Str}(h:Vw S Z (.str b) d):d=.str b:=by
 rcases h with h | ⟨_,_,_,h,_⟩
 .simpa only [Sn] using h
 .cases h
theorem Vw.tup {ts:List T}(h:Vw S Z (.tup ts) d):∃ ds,d=.tup ds/\zg (zF S Z) ts ds:=by
 rcases h with h | ⟨_,_,_,h,_⟩
 .simpa only [Sn] using h
 .cases h
theorem Vw.lst {ts:List T}(h:Vw S Z (.lst ts) d):∃ ds,(d=.y_ ds\/∃ a,d=.ref a/\S a=↑(.lst ds))/\zg (zF S Z) ts ds:=by
 rcases h with h | ⟨us,p,ds,h1,h2,h3,h4,_⟩
 .simp![Sn] at h;let#[ds,h1,h2]:=h;exact#[ds,?_,h2];rcases h1 with h1 | ⟨a,h1,h3⟩
  .show .inl h1.1
  .show .inr #[a,h1,(u4 h3).2]
 .cases h1;show#[ds,.inr #[p,h2,h3],h4]
def wq:T->Option (List T)
 | .tup ts=>↑ts
 | .lst ts=>↑ts
 | _=>none
@[simp] theorem Xb (ts:List T):wq (.tup ts)=↑ts:=rfl
@[simp] theorem Xc (ts:List T):wq (.lst ts)=↑ts:=rfl
def Vw.seq {ts:List T}(h:Vw S Z y d) (e:wq y=↑ts):∃ ds,zN d S=↑ds/\zg (zF S Z) ts ds:=by
 cases y with
 | tup us=>cases e;let#[ds,rfl,h2]:=h.tup;show#[ds,rfl,h2]
 | lst us=>
  cases e;obtain⟨ds,h1 | ⟨a,rfl,h1⟩,h2⟩:=h.lst
  .subst h1;show#[ds,rfl,h2]
  .show#[ds,by unfold zN;dsimp only;rw[h1],h2]
 | _=>cases e
theorem Vw.yD (h:Vw S Z .yD d):∃ a Al,(d=.ref a/\Al=[])/\S a=↑(.yq Al):=by
 rcases h with h | ⟨_,_,_,h,_⟩
 .simp![Sn] at h;let#[a,Al,h1,h2]:=h;show#[a,Al,h1,(u4 h2).2]
 .cases h
def gL:Sn S .zk .zk:=by simp![Sn]
def wo {b:Bool}:Sn S (.bl b) (.bl b):=by simp![Sn]
def wM {i:Int}:Sn S (.int i) (.int i):=by simp![Sn]
def tZ {x:Str}:Sn S (.str x) (.str x):=by simp![Sn]
def sY {ts:List T}{ds:List D}(h:zg S ts ds):Sn S (.tup ts) (.tup ds):=by simp![Sn];show#[ds,rfl,h]
def sa {ts:List T}{ds:List D}{p:Addr}(hz:∀ a,Z a->S a≠none) (hp:S p=none) (h:zg (zF S Z) ts ds):zx S (ups S p (.lst ds)) Z (.lst ts) (.ref p):=by
 have nz:¬ Z p:=λ z=>hz p z hp;have s:Sx S (ups S p (.lst ds)):=.new hp _;exact#[?_,λ us e=>?_]
 .simp![Sn];show#[ds,.inr #[p,rfl,by rw[vW nz,sT]],zg.sx (vq s) ts h]
 .cases e;show#[p,ds,rfl,hp,sT,zg.sx (qt s hp) ts h]
end
def xm (R:Rk) (f:Ae) (t:zj):Prop:=∀ S Z Y J y Q,ER S Z Y J->f J=↑y->(∀ d S',Sx S S'->R S S' Z y d->Q d S')->t Y S Q
abbrev uY:=xm wa
abbrev ya:=xm au
abbrev yI:=xm zx
def xm.imp {R R':Rk}{f:Ae}{t:zj}(h:xm R f t) (i:∀ S S' Z y d,R S S' Z y d->R' S S' Z y d):xm R' f t:=λ S Z Y J y Q hE e hq=>h S Z Y J y Q hE e λ d S' s r=>hq d S' s (i _ _ _ _ _ r)
def xm.er {f:Ae}{t:zj}(h:uY f t):ya f t:=h.imp λ _ _ _ _ _ r=>.inl r
def xm.fe {f:Ae}{t:zj}(h:yI f t):uY f t:=h.imp λ _ _ _ _ _ r=>r.1
def xm.fr {f:Ae}{t:zj}(h:yI f t):ya f t:=h.fe.er
@[simp] def zp (i:Nat):Ae:=fun J=>match J[i]? with
 | some ↑(.im t)=>↑t
 | _=>none
@[simp] def zb (i:Nat):Ae:=fun J=>match J[i]? with
 | some ↑(.im t)=>↑t
 | some ↑(.own (.lst ts))=>↑(.lst ts)
 | _=>none
@[simp] def cS (t:T):Ae:=λ _=>↑t
@[simp] abbrev cI (i:Int):Ae:=cS (.int i)
def eY (i:Nat):uY (zp i) (yp i):=λ S Z Y J y Q hE e hq=>by
 unfold zp at e;split at e
 .rename_i t h;cases e;let#[d,h1,h2]:=hE.im i _ h;unfold yp;rw[h1];show hq d S (.refl S) h2
 .cases e
def TH (i:Nat):ya (zb i) (yp i):=λ S Z Y J y Q hE e hq=>by
 unfold zb at e;split at e
 .rename_i t h;cases e;let#[d,h1,h2]:=hE.im i _ h;unfold yp;rw[h1];show hq d S (.refl S) (.inl h2)
 .rename_i ts h;cases e;let#[p,o,h1,h2,h3,h4]:=hE.ow i _ h;unfold yp;rw[h1];cases o with
  | lst ds=>show hq _ S (.refl S) (.inr #[ts,p,ds,rfl,rfl,h2,h3,h4])
  | _=>show h3.elim
 .cases e
def SU (i:Int):yI (cS (.int i)) (dC (.int i)):=λ S Z Y J y Q hE e hq=>by cases e;show hq _ S (.refl S) (Cl.of (λ _=>nofun) wM)
def Rg (i:Bool):yI (cS (.bl i)) (dC (.bl i)):=λ S Z Y J y Q hE e hq=>by cases e;show hq _ S (.refl S) (Cl.of (λ _=>nofun) wo)
def TR (i:Str):yI (cS (.str i)) (dC (.str i)):=λ S Z Y J y Q hE e hq=>by cases e;show hq _ S (.refl S) (Cl.of (λ _=>nofun) tZ)
def Sk:yI (cS .zk) (dC .zk):=λ S Z Y J y Q hE e hq=>by cases e;show hq _ S (.refl S) (Cl.of (λ _=>nofun) gL)
@[simp] def zc (f:T->T->Option T) (fa fb:Ae):Ae:=fun J=>(fa J).bind λ x=>(fb J).bind λ y=>f x y
def Good2 (R:Rk) (f:T->T->Option T) (g:yz):Prop:=∀ S Z x y z d e Q,(∀ a,Z a->S a≠none)->Vw S Z x d->Vw S Z y e->f x y=↑z->(∀ c S',Sx S S'->R S S' Z z c->Q c S')->g d e S Q
def tB {R:Rk} [Cl R] {f:T->T->Option T}{g:yz}{fa fb:Ae}{ta tb:zj}(hg:Good2 R f g) (ha:ya fa ta) (hb:ya fb tb):xm R (zc f fa fb) (z_ g ta tb):=λ S Z Y J y Q hE e hq=>by
 unfold zc at e;let#[x,e1,e]:=Am.mp e;let#[z,e2,e]:=Am.mp e;exact ha S Z Y J x _ hE e1 λ d S1 s1 r1=>?_;exact hb S1 Z Y J z _ (hE.grow s1) e2 λ d2 S2 s2 r2=>?_;show hg S2 Z x z y d d2 Q ((hE.grow (s1.trans s2)).zd) (Vw.grow r1 s2) r2 e λ c S' s r=>hq c S' ((s1.trans s2).trans s) (Cl.cl (s1.trans s2) r)
@[simp] def i2 (g:Int->Int->T):T->T->Option T
 | .int i,.int j=>↑(g i j)
 | _,_=>none
instance {i j:Int}:Decidable (wg i j):=by unfold wg;infer_instance
instance {i j:Int}:Decidable (yA i j):=by unfold yA;infer_instance
instance {i j:Int}:Decidable (sR i j):=by unfold sR;infer_instance
@[simp] def qq (C:Int->Int->Prop) [∀ i j,Decidable (C i j)] (g:Int->Int->T):T->T->Option T
 | .int i,.int j=>if C i j then ↑(g i j) else none
 | _,_=>none
def jh {g:Int->Int->T}{g':Int->Int->D}(h:∀ i j S,Sn S (g i j) (g' i j)) (n:∀ i j ts,g i j≠.lst ts):Good2 zx (i2 g) (yX g'):=λ S Z x y z d e Q hz hx hy ef hq=>by
 unfold i2 at ef;split at ef
 .cases ef;cases hx.int;cases hy.int;show hq _ S (.refl S) (Cl.of (n _ _) (h _ _ _))
 .cases ef
def my {C:Int->Int->Prop} [∀ i j,Decidable (C i j)] {g:Int->Int->T}{g':Int->Int->D}(h:∀ i j S,Sn S (g i j) (g' i j)) (n:∀ i j ts,g i j≠.lst ts):Good2 zx (qq C g) (fI C g'):=λ S Z x y z d e Q hz hx hy ef hq=>by
 unfold qq at ef;split at ef
 .split at ef
  .rename_i hh;cases ef;cases hx.int;cases hy.int;show#[hh,hq _ S (.refl S) (Cl.of (n _ _) (h _ _ _))]
  .cases ef
 .cases ef
@[simp] def sX:T->T->Option T:=i2 λ i j=>.int (i-j)
@[simp] def zZ:T->T->Option T:=qq (λ _ j=>0<j) λ i j=>.int (i%j)
@[simp] def y8:T->T->Option T:=qq yA λ i j=>.int (i/j)
@[simp] def pj:T->T->Option T:=qq sR λ i j=>.int (i ^ j.toNat)
@[simp] def l_:T->T->Option T:=qq (λ _ j=>0<=j) λ i j=>.int (i/2 ^ j.toNat)
@[simp] def jO:T->T->Option T:=i2 λ i j=>.int (Builtin.bitAnd i j)
@[simp] def qk:T->T->Option T:=i2 λ i j=>.bl (decide (i<=j))
section
variable {fa fb:Ae}{ta tb:zj}
def TQ (ha:ya fa ta) (hb:ya fb tb):yI (zc sX fa fb) (z_ (yX λ i j=>.int (i-j)) ta tb):=tB (jh (λ _ _ _=>wM) λ _ _ _=>nofun) ha hb
def So (ha:ya fa ta) (hb:ya fb tb):yI (zc zZ fa fb) (z_ (fI (λ _ j=>0<j) λ i j=>.int (i%j)) ta tb):=tB (my (λ _ _ _=>wM) λ _ _ _=>nofun) ha hb
def SX (ha:ya fa ta) (hb:ya fb tb):yI (zc y8 fa fb) (z_ (fI yA λ i j=>.int (i/j)) ta tb):=tB (my (λ _ _ _=>wM) λ _ _ _=>nofun) ha hb
def Si (ha:ya fa ta) (hb:ya fb tb):yI (zc pj fa fb) (z_ (fI sR λ i j=>.int (i ^ j.toNat)) ta tb):=tB (my (λ _ _ _=>wM) λ _ _ _=>nofun) ha hb
def TX (ha:ya fa ta) (hb:ya fb tb):yI (zc l_ fa fb) (z_ (fI (λ _ j=>0<=j) λ i j=>.int (i/2 ^ j.toNat)) ta tb):=tB (my (λ _ _ _=>wM) λ _ _ _=>nofun) ha hb
def Rh (ha:ya fa ta) (hb:ya fb tb):yI (zc jO fa fb) (z_ (yX λ i j=>.int (Builtin.bitAnd i j)) ta tb):=tB (jh (λ _ _ _=>wM) λ _ _ _=>nofun) ha hb
end
def zV (neg:Bool):T->T->Option T:=λ x y=>if dep x<=60/\dep y<=60 then ↑(.bl (cond neg (!eqT x y) (eqT x y))) else none
def vV (neg:Bool):T->T->Option T:=λ x y=>match wq y with
 | some ts=>if dep x<=60/\xY ts<=60 then ↑(.bl (cond neg (!(ts.any λ t=>eqT t x)) (ts.any λ t=>eqT t x))) else none
 | none=>none
def QN {neg:Bool}:Good2 zx (zV neg) (wU neg):=λ S Z x y z d e Q hz hx hy ef hq=>by
 unfold zV at ef;split at ef
 .rename_i h;cases ef;show#[x,y,hx.sn,hy.sn,h.1,h.2,hq _ S (.refl S) (Cl.of (λ _=>nofun) wo)]
 .cases ef
def QM {neg:Bool}:Good2 zx (vV neg) (u6 neg):=λ S Z x y z d e Q hz hx hy ef hq=>by
 unfold vV at ef;split at ef
 .rename_i ts ht;split at ef
  .rename_i h;cases ef;let#[ds,h1,h2]:=hy.seq ht;show#[x,ts,ds,hx.sn,h1,zg.sx (mw S Z) ts h2,h.1,h.2,hq _ S (.refl S) (Cl.of (λ _=>nofun) wo)]
  .cases ef
 .cases ef
@[simp] def zr:T->T->Option T:=λ x y=>match x,y with
 | .str z,.int i=>if z.length<=sizeLine then (L2.zP z.cps.toList i).map λ c=>.str #[[c].toArray] else none
 | x,y=>match wq x,y with
  | some ts,.int i=>L2.zP ts i
  | _,_=>none
def c7:Good2 wa zr xI:=λ S Z x y z d e Q hz hx hy ef hq=>by
 unfold zr at ef;split at ef
 .split at ef
  .rename_i h0;let#[c,h1,rfl]:=AO.mp ef;cases hx.str;cases hy.int;unfold xI;dsimp only;rw[h1];show#[h0,hq _ S (.refl S) tZ]
  .cases ef
 split at ef
 .rename_i ts i ht _;cases hy.int;let#[ds,h1,h2]:=hx.seq ht;let#[c,h3,h4]:=h2.at ef;unfold zN at h1;split at h1
  .cases h1;show Pl h3 (hq c S (.refl S) h4)
  .cases h1;show Pm h3 (hq c S (.refl S) h4)
  .split at h1
   .rename_i q;cases h1;show Pn q h3 (hq c S (.refl S) h4)
   .cases h1
  .cases h1
 .cases ef
@[simp] def zq:T->T->Option T
 | .int i,.int j=>↑(.int (i+j))
 | .str i,.str j=>if i.length+j.length<=sizeLine then ↑(.str (i++j)) else none
 | .lst ts,.lst us=>if ts.length+us.length<=sizeLine then ↑(.lst (ts++us)) else none
 | .tup ts,.tup us=>if ts.length+us.length<=sizeLine then ↑(.tup (ts++us)) else none
 | _,_=>none
def uf:yz:=λ x y S Q=>match x,y with
 | .int i,.int j=>Q (.int (i+j)) S
 | .str i,.str j=>i.length+j.length<=sizeLine/\Q (.str (i++j)) S
 | .tup ds,.tup es=>ds.length+es.length<=sizeLine/\Q (.tup (ds++es)) S
 | .zk,_=>False
 | .bl _,_=>False
 | .int _,_=>False
 | .str _,_=>False
 | .tup _,_=>False
 | x,y=>match zN x S,zN y S with
  | some ds,↑es=>(∀ ts,y≠.tup ts)/\ds.length+es.length<=sizeLine/\∀ r,S r=none->Q (.ref r) (ups S r (.lst (ds++es)))
  | _,_=>False
def good_add:Good2 zx zq uf:=λ S Z x y z d e Q hz hx hy ef hq=>by
 unfold zq at ef;split at ef
 .cases ef;cases hx.int;cases hy.int;show hq _ S (.refl S) (Cl.of (λ _=>nofun) wM)
 .split at ef
  .rename_i h;cases ef;cases hx.str;cases hy.str;show#[h,hq _ S (.refl S) (Cl.of (λ _=>nofun) tZ)]
  .cases ef
 .split at ef
  .rename_i h;cases ef;let#[ds,h1,h2]:=hx.seq rfl;let#[es,h3,h4]:=hy.seq rfl;have nt:∀ ts,e≠.tup ts:=by
    obtain⟨_,q | ⟨_,q,_⟩,_⟩:=hy.lst <;> subst q <;> show λ _=>nofun
   have key:(∀ ts,e≠.tup ts)/\ds.length+es.length<=sizeLine/\∀ r,S r=none->Q (.ref r) (ups S r (.lst (ds++es))):=
    #[nt,by rw[h2.len,h4.len];show h,λ r hr=>hq _ _ (.new hr _) (sa hz hr (h2.append h4))]
   obtain⟨_,q | ⟨a,q,_⟩,_⟩:=hx.lst
   .subst q;unfold uf;dsimp only;rw[h1,h3];show key
   .subst q;unfold uf;dsimp only;rw[h1,h3];show key
  .cases ef
 .split at ef
  .rename_i h;cases ef;let#[ds,rfl,h2]:=hx.tup;let#[es,rfl,h4]:=hy.tup;show#[by rw[h2.len,h4.len];show h,hq _ S (.refl S) (Cl.of (λ _=>nofun) (sY (h2.append h4)))]
  .cases ef
 .cases ef
def vA (f:Ev->Option Bool) (t:yt):Prop:=∀ S Z Y J y Q,ER S Z Y J->f J=↑y->(∀ S',Sx S S'->Q y S')->t Y S Q
@[simp] def yn (f:Ae):Ev->Option Bool:=fun J=>(f J).bind λ x=>match x with
 | .bl b=>↑b
 | _=>none
@[simp] def gu:T->Option Bool
 | .zk=>↑false
 | .bl b=>↑b
 | .int i=>↑(i != 0)
 | .str x=>if x.length<=sizeLine then ↑((x.length:Int) != 0) else none
 | .tup ts=>↑(!ts.isEmpty)
 | .lst ts=>↑(!ts.isEmpty)
 | .yD=>none
 | .err _ _ _=>none
@[simp] def y7 (f:Ae):Ev->Option Bool:=fun J=>(f J).bind gu
@[simp] def oh (f g:Ev->Option Bool):Ev->Option Bool:=fun J=>(f J).bind λ b=>if b=true then g J else ↑false
@[simp] def wW (f g:Ev->Option Bool):Ev->Option Bool:=fun J=>(f J).bind λ b=>if b=true then ↑true else g J
@[simp] def xv (f:Ev->Option Bool):Ev->Option Bool:=fun J=>(f J).map (!·)
section
variable {f g:Ae}{t u:zj}{fb gb:Ev->Option Bool}{tb ub:yt}{R:Rk}
def TK (h:ya f t):vA (yn f) (ug t):=λ S Z Y J y Q hE e hq=>by
 let#[x,e1,e2]:=Am.mp e;exact h S Z Y J x _ hE e1 λ d S1 s1 r1=>?_;split at e2
 .cases e2;cases Vw.bl r1;show hq S1 s1
 .cases e2
def TN (h:ya f t):vA (y7 f) (jx t):=λ S Z Y J y Q hE e hq=>by
 let#[x,e1,e2]:=Am.mp e;exact h S Z Y J x _ hE e1 λ d S1 s1 r1=>?_;cases x with
 | zk=>cases Vw.zk r1;cases e2;show hq S1 s1
 | bl b=>cases Vw.bl r1;cases e2;show hq S1 s1
 | int b=>cases Vw.int r1;cases e2;show hq S1 s1
 | str b=>
  cases Vw.str r1;simp![gu] at e2;split at e2
  .rename_i hh;cases e2;show#[hh,hq S1 s1]
  .cases e2
 | tup ts=>
  let#[ds,rfl,h2]:=Vw.tup r1;cases e2;change Q (!ds.isEmpty) S1;rw[h2.empty];show hq S1 s1
 | lst ts=>
  obtain⟨ds,rfl | ⟨a,rfl,h1⟩,h2⟩:=Vw.lst r1
  .cases e2;change Q (!ds.isEmpty) S1;rw[h2.empty];show hq S1 s1
  .cases e2;exact Yo h1 ?_;rw[h2.empty];show hq S1 s1
 | _=>cases e2
def Ra (h:vA fb tb) (h':vA gb ub):vA (oh fb gb) (oj tb ub):=λ S Z Y J y Q hE e hq=>by
 let#[b,e1,e2]:=Am.mp e;exact h S Z Y J b _ hE e1 λ S1 s1=>?_;split at e2
 .rename_i hb;rw[if_pos hb];show h' S1 Z Y J y _ (hE.grow s1) e2 λ S2 s2=>hq S2 (s1.trans s2)
 .rename_i hb;rw[if_neg hb];cases e2;show hq S1 s1
def SY (h:vA fb tb) (h':vA gb ub):vA (wW fb gb) (oa tb ub):=λ S Z Y J y Q hE e hq=>by
 let#[b,e1,e2]:=Am.mp e;exact h S Z Y J b _ hE e1 λ S1 s1=>?_;split at e2
 .rename_i hb;rw[if_pos hb];cases e2;show hq S1 s1
 .rename_i hb;rw[if_neg hb];show h' S1 Z Y J y _ (hE.grow s1) e2 λ S2 s2=>hq S2 (s1.trans s2)
def S_ (h:vA fb tb):vA (xv fb) (og tb):=λ S Z Y J y Q hE e hq=>by
 unfold xv at e;let#[b,e1,rfl]:=AO.mp e;show h S Z Y J b _ hE e1 λ S1 s1=>hq S1 s1
@[simp] def xP (f g:Ae):Ae:=fun J=>(f J).bind λ x=>match x with
 | .bl k=>if k=true then g J else ↑(.bl false)
 | _=>none
@[simp] def da (f:Ae):Ae:=fun J=>(f J).bind λ x=>match x with
 | .bl k=>↑(.bl (!k))
 | _=>none
def Rp [Cl R] (h:ya f t) (h':xm R g u):xm R (xP f g) (ou t u):=λ S Z Y J y Q hE e hq=>by
 let#[x,e1,e2]:=Am.mp e;exact h S Z Y J x _ hE e1 λ d S1 s1 r1=>?_;split at e2
 .cases Vw.bl r1;split at e2
  .rename_i hb;dsimp only;rw[if_pos hb];show h' S1 Z Y J y _ (hE.grow s1) e2 λ d S2 s2 r2=>hq d S2 (s1.trans s2) (Cl.cl s1 r2)
  .rename_i hb;dsimp only;rw[if_neg hb];cases e2;show hq _ S1 s1 (Cl.of (λ _=>nofun) wo)
 .cases e2
def Sj [Cl R] (h:ya f t):xm R (da f) (oo t):=λ S Z Y J y Q hE e hq=>by
 let#[x,e1,e2]:=Am.mp e;exact h S Z Y J x _ hE e1 λ d S1 s1 r1=>?_;split at e2
 .cases Vw.bl r1;cases e2;show hq _ S1 s1 (Cl.of (λ _=>nofun) wo)
 .cases e2
end
def oH (S:SS) (Z:Addr->Prop):List T->List D->Prop
 | [],ds=>ds=[]
 | t::ts,ds=>∃ c cs,ds=c::cs/\Vw S Z t c/\oH S Z ts cs
def sG (f:Ev->Option (List T)) (t:zI):Prop:=∀ S Z Y J ys Q,ER S Z Y J->f J=↑ys->(∀ ds S',Sx S S'->oH S' Z ys ds->Q ds S')->t Y S Q
def sF (f:Ev->Option (List T)) (t:zI):Prop:=∀ S Z Y J ys Q,ER S Z Y J->f J=↑ys->(∀ ds S',Sx S S'->zg (zF S' Z) ys ds->Q ds S')->t Y S Q
@[simp] def ze:Ev->Option (List T):=λ _=>↑[]
@[simp] def za (f:Ae) (g:Ev->Option (List T)):Ev->Option (List T):=fun J=>(f J).bind λ x=>(g J).bind λ xs=>↑(x::xs)
section
variable {f:Ae}{g:Ev->Option (List T)}{t:zj}{u:zI}
def TC:sG ze qx:=λ S Z Y J y Q hE e hq=>by cases e;show hq [] S (.refl S) rfl
def T9:sF ze qx:=λ S Z Y J y Q hE e hq=>by cases e;show hq [] S (.refl S) .nil
def TF (h:ya f t) (h':sG g u):sG (za f g) (tK t u):=λ S Z Y J y Q hE e hq=>by
 let#[x,e1,e0]:=Am.mp e;let#[xs,e2,e3]:=Am.mp e0;cases e3;exact h S Z Y J x _ hE e1 λ d S1 s1 r1=>?_;exact h' S1 Z Y J xs _ (hE.grow s1) e2 λ ds S2 s2 r2=>?_;show hq _ S2 (s1.trans s2) #[d,ds,rfl,Vw.grow r1 s2,r2]
def TB (h:uY f t) (h':sF g u):sF (za f g) (tK t u):=λ S Z Y J y Q hE e hq=>by
 let#[x,e1,e0]:=Am.mp e;let#[xs,e2,e3]:=Am.mp e0;cases e3;exact h S Z Y J x _ hE e1 λ d S1 s1 r1=>?_;exact h' S1 Z Y J xs _ (hE.grow s1) e2 λ ds S2 s2 r2=>?_;show hq _ S2 (s1.trans s2) (.cons (Sn.sx (vq s2) x r1) r2)
@[simp] def tupS (g:Ev->Option (List T)):Ae:=fun J=>(g J).bind λ xs=>if xs.length<=sizeLine then ↑(.tup xs) else none
@[simp] def yk (g:Ev->Option (List T)):Ae:=fun J=>(g J).bind λ xs=>if xs.length<=sizeLine then ↑(.lst xs) else none
def TJ (h:sF g u):yI (tupS g) (bp u):=λ S Z Y J y Q hE e hq=>by
 let#[xs,e1,e2]:=Am.mp e;split at e2
 .rename_i hl;cases e2;exact h S Z Y J xs _ hE e1 λ ds S1 s1 r1=>#[by rw[r1.len];show hl,hq _ S1 s1 (Cl.of (λ _=>nofun) (sY r1))]
 .cases e2
def Sq (h:sF g u):yI (yk g) (bx u):=λ S Z Y J y Q hE e hq=>by
 let#[xs,e1,e2]:=Am.mp e;split at e2
 .rename_i hl;cases e2;exact h S Z Y J xs _ hE e1 λ ds S1 s1 r1=>#[by rw[r1.len];show hl,λ p hp=>hq _ _ (s1.trans (.new hp _)) (Cl.cl s1 (sa (hE.grow s1).zd hp r1))]
 .cases e2
end
@[simp] def zi (F:Ak) (g:Ev->Option (List T)):Ae:=fun J=>(g J).bind F
def uq (R:Rk) (F:Ak) (f:yS):Prop:=∀ S Z ys z ds Q,(∀ a,Z a->S a≠none)->oH S Z ys ds->F ys=↑z->(∀ c S',Sx S S'->R S S' Z z c->Q c S')->f ds S Q
def Rf {R:Rk} [Cl R] {F:Ak}{f:yS}{g:Ev->Option (List T)}{u:zI}(hf:uq R F f) (h:sG g u):xm R (zi F g) (vz f u):=λ S Z Y J y Q hE e hq=>by
 let#[xs,e1,e2]:=Am.mp e;exact h S Z Y J xs _ hE e1 λ ds S1 s1 r1=>?_;show hf S1 Z xs y ds Q (hE.grow s1).zd r1 e2 λ c S' s r=>hq c S' (s1.trans s) (Cl.cl s1 r)
@[simp] def xb:Ak
 | [.str z]=>if z.length<=sizeLine then ↑(.int z.length) else none
 | [y]=>(wq y).map λ ts=>.int ts.length
 | _=>none
def tj {S:SS}{Z:Addr->Prop}{y:T}{ds:List D}(h:oH S Z [y] ds):∃ d,ds=[d]/\Vw S Z y d:=by
 let#[c,cs,rfl,h1,h2]:=h;cases h2;show#[c,rfl,h1]
def qP {S:SS}{Z:Addr->Prop}{y z:T}{ds:List D}(h:oH S Z [y,z] ds):∃ d e,ds=[d,e]/\Vw S Z y d/\Vw S Z z e:=by
 let#[c,cs,rfl,h1,c2,cs2,rfl,h2,h3]:=h;cases h3;show#[c,c2,rfl,h1,h2]
def QJ:uq zx xb ud:=λ S Z ys z ds Q hz hv e hq=>by
 unfold xb at e;split at e
 .let#[d,rfl,h1]:=tj hv;split at e
  .rename_i hl;cases e;cases h1.str;show#[hl,hq _ S (.refl S) (Cl.of (λ _=>nofun) wM)]
  .cases e
 .let#[d,rfl,h1]:=tj hv;let#[ts,e1,rfl]:=AO.mp e;let#[es,h2,h3]:=h1.seq e1;exact Pk h2 ?_;rw[h3.len];show hq _ S (.refl S) (Cl.of (λ _=>nofun) wM)
 .cases e
@[simp] def listS:Ak
 | [y]=>(wq y).map .lst
 | _=>none
def QI:uq zx listS uc:=λ S Z ys z ds Q hz hv e hq=>by
 unfold listS at e;split at e
 .let#[d,rfl,h1]:=tj hv;let#[ts,e1,rfl]:=AO.mp e;let#[es,h2,h3]:=h1.seq e1;show Pj h2 λ p hp=>hq _ _ (.new hp _) (sa hz hp h3)
 .cases e
@[simp] def vi:Ak
 | [y]=>(wq y).map .tup
 | _=>none
def QC:uq zx vi vY:=λ S Z ys z ds Q hz hv e hq=>by
 unfold vi at e;split at e
 .rename_i y;let#[d,rfl,h1]:=tj hv;let#[ts,e1,rfl]:=AO.mp e;let#[es,h2,h3]:=h1.seq e1;have k:Q (.tup es) S:=hq _ S (.refl S) (Cl.of (λ _=>nofun) (sY h3));unfold zN at h2;split at h2
  .cases h2;show k
  .cases h2;show k
  .split at h2
   .rename_i q;cases h2;show Ph q k
   .cases h2
  .cases h2
 .cases e
def tP:List T->Option (List Bool)
 | []=>↑[]
 | .bl b::ts=>(tP ts).map (b::·)
 | _::_=>none
theorem bQ:∀ {ts:List T}{bs:List Bool},tP ts=↑bs->ts=bs.map T.bl
 | [],bs,h=>by cases h;rfl
 | .bl b::ts,bs,h=>by
  unfold tP at h;let#[cs,h1,rfl]:=AO.mp h;rw[AD,<- bQ h1]
 | .zk::ts,bs,h=>by cases h
 | .int _::ts,bs,h=>by cases h
 | .str _::ts,bs,h=>by cases h
 | .tup _::ts,bs,h=>by cases h
 | .lst _::ts,bs,h=>by cases h
def Oy (bs:List Bool):tP (bs.map T.bl)=↑bs:=by
 induction bs with
 | nil=>rfl
 | cons b bs ih=>rw[AD];unfold tP;rw[ih];rfl
@[simp] def uS (g:List Bool->Bool):Ak
 | [.lst ts]=>(tP ts).map λ bs=>.bl (g bs)
 | _=>none
def uO (g:List Bool->Bool):yS:=λ ds S Q=>match ds with
 | [.tup _]=>False
 | [d]=>∃ bs:List Bool,zN d S=↑(bs.map D.bl)/\Q (.bl (g bs)) S
 | _=>False
def QO {g:List Bool->Bool}:uq zx (uS g) (uO g):=λ S Z ys z ds Q hz hv e hq=>by
 unfold uS at e;split at e
 .let#[d,rfl,h1]:=tj hv;let#[bs,e1,rfl]:=AO.mp e;cases bQ e1;let#[es,h2,h3]:=h1.seq rfl;cases h3.bR;have key:∃ bs:List Bool,zN d S=↑(bs.map D.bl)/\Q (.bl (g bs)) S:=#[bs,h2,hq _ S (.refl S) (Cl.of (λ _=>nofun) wo)];obtain⟨_,q | ⟨a,q,_⟩,_⟩:=h1.lst
  .subst q;show key
  .subst q;show key
 .cases e
structure FR (S0:SS) (Z0:Addr->Prop) (S:SS) (Z:Addr->Prop) (Y:zS) (J:Ev):Prop where
 er:ER S Z Y J
 len:Y.length=J.length
 sx:Sx S0 S
 z0:∀ a,Z0 a->S0 a≠none
 zz:∀ a,Z0 a->Z a
 zn:∀ a,Z a->Z0 a\/S0 a=none
 fr:∀ (i:Nat) ts p,J[i]?=↑↑(.own ts)->Y[i]?=↑↑(.ref p)->S0 p=none/\adr ts p
 dj:∀ (i j:Nat) ts us p,i≠j->J[i]?=↑↑(.own ts)->J[j]?=↑↑(.own us)->Y[i]?=↑↑(.ref p)->Y[j]?=↑↑(.ref p)->False
def yg {α:Type}{l:List α}{i j:Nat}{a b:α}(h:(l.set i a)[j]?=↑b):(i=j/\i<l.length/\b=a)\/(i≠j/\l[j]?=↑b):=by
 rw[Cs] at h;by_cases e:i=j
 .subst e;rw[if_pos rfl] at h;by_cases hl:i<l.length
  .rw[if_pos hl] at h;cases h;show .inl #[rfl,hl,rfl]
  .rw[if_neg hl] at h;cases h
 .rw[if_neg e] at h;show .inr #[e,h]
def xu {α:Type}{l:List α}{i j:Nat}{a:α}(h:i≠j):(l.set i a)[j]?=l[j]?:=by rw[Cs,if_neg h]
def qu {α:Type}{l:List α}{i:Nat}{a:α}(h:i<l.length):(l.set i a)[i]?=↑a:=by rw[Cs,if_pos rfl,if_pos h]
section
variable {S0 S S':SS}{Z0 Z:Addr->Prop}{Y:zS}{J:Ev}{y:T}{d:D}
theorem FR.grow (h:FR S0 Z0 S Z Y J) (s:Sx S S'):FR S0 Z0 S' Z Y J:=#[h.er.grow s,h.len,h.sx.trans s,h.z0,h.zz,h.zn,h.fr,h.dj]
theorem FR.s_ (h:FR S0 Z0 S Z Y J) (i:Nat) (r:Sn (zF S Z) y d):FR S0 Z0 S Z (Y.set i ↑d) (J.set i ↑(.im y)):=by
 exact#[#[h.er.zd,λ j t e=>?_,λ j ts e=>?_],by simp[h.len],h.sx,h.z0,h.zz,h.zn,λ j ts p e e'=>?_,λ j k ts us p n e1 e2 e3 e4=>?_]
 .rcases yg e with ⟨rfl,hl,e⟩ | ⟨n,e⟩
  .cases e;show#[d,qu (by rw[h.len];show hl),r]
  .rw[xu n];show h.er.im j t e
 .rcases yg e with ⟨rfl,hl,e⟩ | ⟨n,e⟩
  .cases e
  .rw[xu n];show h.er.ow j ts e
 .rcases yg e with ⟨rfl,hl,e⟩ | ⟨n,e⟩
  .cases e
  .rw[xu n] at e';show h.fr j ts p e e'
 .rcases yg e1 with ⟨rfl,hl,e⟩ | ⟨n1,e1⟩
  .cases e
  rcases yg e2 with ⟨rfl,hl,e⟩ | ⟨n2,e2⟩
  .cases e
  rw[xu n1] at e3;rw[xu n2] at e4;show h.dj j k ts us p n e1 e2 e3 e4
theorem FR.YZ {ts:C}{ds:O}{p:Addr}(h:FR S0 Z0 S Z Y J) (s:Sx S S') (i:Nat) (hp:S p=none) (hd:S' p=↑ds) (r:uV (zF S' λ a=>Z a\/a=p) ts ds) (ha:adr ts p:=by show trivial):
  FR S0 Z0 S' (λ a=>Z a\/a=p) (Y.set i ↑(.ref p)) (J.set i ↑(.own ts)):=by
 have np:∀ (j:Nat) us q,J[j]?=↑↑(.own us)->Y[j]?=↑↑(.ref q)->q≠p:=λ j us q e e' z=>by
  subst z;let#[p',GB,h1,h2,_]:=h.er.ow j us e;rw[e'] at h1;cases h1;rw[hp] at h2;cases h2
 exact#[#[λ a z=>?_,λ j t e=>?_,λ j us e=>?_],by simp[h.len],h.sx.trans s,h.z0,λ a z=>.inl (h.zz a z),λ a z=>z.elim (h.zn a) (λ q=>.inr (by subst q;show h.sx.none hp)),λ j us q e e'=>?_,λ j k us vs q n e1 e2 e3 e4=>?_]
 .rcases z with z | rfl
  .show λ q=>h.er.zd a z (s.none q)
  .rw[hd];nofun
 .rcases yg e with ⟨rfl,hl,e⟩ | ⟨n,e⟩
  .cases e
  .rw[xu n];let#[d,h1,h2]:=h.er.im j t e;show#[d,h1,Sn.sx (qt s hp) t h2]
 .rcases yg e with ⟨rfl,hl,e⟩ | ⟨n,e⟩
  .cases e;show#[p,ds,qu (by rw[h.len];show hl),hd,r,.inr rfl]
  .rw[xu n];let#[q,es,h1,h2,h3,h4]:=h.er.ow j us e;show#[q,es,h1,s _ _ h2,uV.sx (qt s hp) h3,.inl h4]
 .rcases yg e with ⟨rfl,hl,e⟩ | ⟨n,e⟩
  .rw[qu (by rw[h.len];show hl)] at e';cases e';cases e;show#[h.sx.none hp,ha]
  .rw[xu n] at e';show h.fr j us q e e'
 .rcases yg e1 with ⟨rfl,hl,e⟩ | ⟨n1,e1⟩
  .rcases yg e2 with ⟨rfl,_,_⟩ | ⟨n2,e2⟩
   .show n rfl
   .rw[qu (by rw[h.len];show hl)] at e3;cases e3;rw[xu n2] at e4;show np k vs p e2 e4 rfl
  .rcases yg e2 with ⟨rfl,hl,_⟩ | ⟨n2,e2⟩
   .rw[qu (by rw[h.len];show hl)] at e4;cases e4;rw[xu n1] at e3;show np j us p e1 e3 rfl
   .rw[xu n1] at e3;rw[xu n2] at e4;show h.dj j k us vs q n e1 e2 e3 e4
def FR.forget (h:FR S0 Z0 S Z Y J) (i:Nat):FR S0 Z0 S Z Y (J.set i none):=by
 exact#[#[h.er.zd,λ j t e=>?_,λ j ts e=>?_],by simp[h.len],h.sx,h.z0,h.zz,h.zn,λ j ts p e e'=>?_,λ j k ts us p n e1 e2 e3 e4=>?_]
 .rcases yg e with ⟨rfl,hl,e⟩ | ⟨n,e⟩
  .cases e
  .show h.er.im j t e
 .rcases yg e with ⟨rfl,hl,e⟩ | ⟨n,e⟩
  .cases e
  .show h.er.ow j ts e
 .rcases yg e with ⟨rfl,hl,e⟩ | ⟨n,e⟩
  .cases e
  .show h.fr j ts p e e'
 .rcases yg e1 with ⟨rfl,hl,e⟩ | ⟨n1,e1⟩
  .cases e
  rcases yg e2 with ⟨rfl,hl,e⟩ | ⟨n2,e2⟩
  .cases e
  show h.dj j k ts us p n e1 e2 e3 e4
@[simp] def xi (is:List Nat) (J:Ev):Ev:=is.foldl (fun J i=>J.set i none) J
theorem FR.xi:∀ (is:List Nat) {J:Ev},FR S0 Z0 S Z Y J->FR S0 Z0 S Z Y (xi is J)
 | [],_,h=>h
 | i::is,_,h=>FR.xi is (h.forget i)
def FR.freeze {ts:List T}{p:Addr}(h:FR S0 Z0 S Z Y J) (i:Nat) (e:J[i]?=↑↑(.own (.lst ts))) (ed:Y[i]?=↑↑(.ref p)):
  FR S0 Z0 S (λ a=>Z a/\a≠p) Y (J.set i ↑(.im (.lst ts)))/\Sn (zF S λ a=>Z a/\a≠p) (.lst ts) (.ref p):=by
 let#[p',o,h1,h2,h3,h4]:=h.er.ow i _ e;rw[ed] at h1;cases h1;obtain⟨ds,rfl⟩:∃ ds,o=.lst ds:=by
  cases o with
  | lst ds=>show#[ds,rfl]
  | _=>show h3.elim
 replace h3:zg (zF S Z) ts ds:=h3;have hS:Sn (zF S λ a=>Z a/\a≠p) (.lst ts) (.ref p):=by
  simp![Sn];show#[ds,.inr #[p,rfl,by rw[vW (λ z=>z.2 rfl)];show h2],zg.sx (vX λ a z=>z.1) ts h3]
 exact#[?_,hS];exact#[#[λ a z=>h.er.zd a z.1,λ j t e'=>?_,λ j us e'=>?_],by simp[h.len],h.sx,h.z0,λ a z=>#[h.zz a z,λ q=>?_],λ a z=>h.zn a z.1,λ j us q e' H_=>?_,λ j k us vs q n e1 e2 e3 e4=>?_]
 .rcases yg e' with ⟨rfl,hl,e'⟩ | ⟨n,e'⟩
  .cases e';show#[_,ed,hS]
  .let#[d,g1,g2]:=h.er.im j t e';show#[d,g1,Sn.sx (vX λ a z=>z.1) t g2]
 .rcases yg e' with ⟨rfl,hl,e'⟩ | ⟨n,e'⟩
  .cases e'
  .let#[q,es,g1,g2,g3,g4]:=h.er.ow j us e';show#[q,es,g1,g2,uV.sx (vX λ a z=>z.1) g3,g4,λ z=>by subst z;show h.dj i j _ us q n e e' ed g1]
 .subst q;show h.z0 a z (h.fr i _ a e ed).1
 .rcases yg e' with ⟨rfl,hl,e'⟩ | ⟨n,e'⟩
  .cases e'
  .show h.fr j us q e' H_
 .rcases yg e1 with ⟨rfl,hl,e⟩ | ⟨n1,e1⟩
  .cases e
  rcases yg e2 with ⟨rfl,hl,e⟩ | ⟨n2,e2⟩
  .cases e
  show h.dj j k us vs q n e1 e2 e3 e4
def FR.mut {ts us:C}{es:O}{p:Addr}(h:FR S0 Z0 S Z Y J) (i:Nat) (e:J[i]?=↑↑(.own ts)) (ed:Y[i]?=↑↑(.ref p)) (r:uV (zF S Z) us es) (ha:adr ts p->adr us p:=by show λ _=>trivial):
  FR S0 Z0 (ups S p es) Z Y (J.set i ↑(.own us)):=by
 let#[p',ds,h1,h2,h3,h4]:=h.er.ow i ts e;rw[ed] at h1;cases h1;have hh:zF (ups S p es) Z=zF S Z:=Q8 h4;let#[hpn,Cf]:=h.fr i ts p e ed;exact#[#[λ a z=>?_,λ j t e'=>?_,λ j vs e'=>?_],by simp[h.len],λ b o q=>?_,h.z0,h.zz,h.zn,λ j vs q e' H_=>?_,λ j k vs ws q n e1 e2 e3 e4=>?_]
 .by_cases hp:a=p
  .subst hp;rw[sT];nofun
  .rw[tm hp];show h.er.zd a z
 .rw[hh];rcases yg e' with ⟨rfl,hl,e'⟩ | ⟨n,e'⟩
  .cases e'
  .show h.er.im j t e'
 .rw[hh];rcases yg e' with ⟨rfl,hl,e'⟩ | ⟨n,e'⟩
  .cases e';show#[p,es,ed,sT,r,h4]
  .let#[q,Fs,g1,g2,g3,g4]:=h.er.ow j vs e';exact#[q,Fs,g1,?_,g3,g4];rw[tm (λ z=>by subst z;show h.dj i j ts vs q n e e' ed g1)];show g2
 .rw[tm (λ z=>by subst z;rw[hpn] at q;cases q)];show h.sx b o q
 .rcases yg e' with ⟨rfl,hl,_⟩ | ⟨n,e'⟩
  .rw[ed] at H_;cases H_;rename_i e';cases e';show#[hpn,ha Cf]
  .show h.fr j vs q e' H_
 .rcases yg e1 with ⟨rfl,hl,_⟩ | ⟨n1,e1⟩
  .rcases yg e2 with ⟨rfl,hl,_⟩ | ⟨n2,e2⟩
   .show n rfl
   .show h.dj _ k ts ws q n e e2 e3 e4
  .rcases yg e2 with ⟨rfl,hl,_⟩ | ⟨n2,e2⟩
   .show h.dj j _ vs ts q n e1 e e3 e4
   .show h.dj j k vs ws q n e1 e2 e3 e4
def kh (S0 S:SS) (Z:Addr->Prop):SS:=open Classical in λ a=>if S0 a=none/\Z a then none else S a
def nN {a:Addr}(h:¬ (S0 a=none/\Z a)):kh S0 S Z a=S a:=if_neg h
def kg {a:Addr}(h:S0 a=none/\Z a):kh S0 S Z a=none:=if_pos h
def FR.rebase (h:FR S0 Z0 S Z Y J):∃ S1,Sx S0 S1/\FR S1 Z0 S Z Y J/\Sx (zF S Z) S1:=by
 exact#[kh S0 S Z,λ b o q=>?_,#[h.er,h.len,λ b o q=>?_,λ a z=>?_,h.zz,λ a z=>?_,λ i ts p e ed=>?_,h.dj],λ b o q=>?_]
 .rw[nN (λ z=>by rw[z.1] at q;cases q)];show h.sx _ _ q
 .by_cases w:S0 b=none/\Z b
  .rw[kg w] at q;cases q
  .rw[nN w] at q;show q
 .rw[nN (λ q=>h.z0 a z q.1)];show h.er.zd a (h.zz a z)
 .rcases h.zn a z with w | w
  .show .inl w
  .show .inr (kg #[w,z])
 .let#[p',ds,h1,h2,h3,h4]:=h.er.ow i ts e;rw[ed] at h1;cases h1;show#[kg #[(h.fr i ts p e ed).1,h4],(h.fr i ts p e ed).2]
 .let#[q1,q2]:=u4 q;rw[nN (λ z=>q1 z.2)];show q2
def FR.back {S1:SS}(h:FR S1 Z0 S Z Y J) (s:Sx S0 S1) (z0:∀ a,Z0 a->S0 a≠none):FR S0 Z0 S Z Y J:=#[h.er,h.len,s.trans h.sx,z0,h.zz,λ a z=>(h.zn a z).imp id s.none,λ i ts p e ed=>#[s.none (h.fr i ts p e ed).1,(h.fr i ts p e ed).2],h.dj]
def FR.Xe {S1:SS}{Z1:Addr->Prop}(h:FR S0 Z0 S Z Y J) (b:Sx (zF S1 Z1) S0) (zz:∀ a,Z0 a->Z1 a):Sx (zF S1 Z1) (zF S Z):=λ a o q=>by
 have q0:=b _ _ q;let#[q1,q2]:=u4 q;rw[vW]
 .show h.sx _ _ q0
 .intro z;rcases h.zn a z with w | w
  .show q1 (zz a w)
  .rw[w] at q0;cases q0
end
inductive Out where
 | nx (J:Ev) | rt (t:T) | bk (J:Ev) | ct (J:Ev)
abbrev Sm:=Ev->Option Out
def OI (R:Rk) (S0:SS) (Z0:Addr->Prop) (o:Out) (E:sP):Prop:=match o with
 | .nx J=>∀ S Z Y,FR S0 Z0 S Z Y J->E.nx Y S
 | .bk J=>∀ S Z Y,FR S0 Z0 S Z Y J->E.bk Y S
 | .ct J=>∀ S Z Y,FR S0 Z0 S Z Y J->E.ct Y S
 | .rt y=>∀ d S,Sx S0 S->R S0 S Z0 y d->E.rt d S
def zX (R:Rk) (g:Sm) (t:zW):Prop:=∀ S0 Z0 S Z Y J o E,FR S0 Z0 S Z Y J->g J=↑o->OI R S0 Z0 o E->t E Y S
class Lo (R:Rk):Prop extends Cl R where
 lo:∀ {S0 S S':SS}{Z0 Z:Addr->Prop}{y:T}{d:D},Sx S0 S->(∀ a,Z0 a->Z a)->R S S' Z y d->R S0 S' Z0 y d
instance:Lo wa:=#[λ _ z h=>Sn.sx (vX z) _ h]
instance:Lo zx:=#[λ s z h=>#[Sn.sx (vX z) _ h.1,λ ts e=>by
 let#[p,ds,h1,h2,h3,h4]:=h.2 ts e;show#[p,ds,h1,s.none h2,h3,zg.sx (vX λ a q=>q.imp (z a) id) ts h4]]]
@[simp] def zo (g h:Sm):Sm:=fun J=>(g J).bind λ o=>match o with
 | .nx J'=>h J'
 | o=>↑o
@[simp] def yb:Sm:=fun J=>↑(.nx J)
@[simp] def zK (i:Nat) (f:Ae):Sm:=fun J=>(f J).map λ y=>.nx (J.set i ↑(.im y))
@[simp] def uB (i:Nat) (f:Ae):Sm:=fun J=>(f J).bind λ y=>match y with
 | .lst ts=>↑(.nx (J.set i ↑(.own (.lst ts))))
 | y=>↑(.nx (J.set i ↑(.im y)))
@[simp] def retS (f:Ae):Sm:=fun J=>(f J).map .rt
@[simp] def nM (i:Nat):Sm:=fun J=>match J[i]? with
 | some ↑(.own (.lst ts))=>↑(.rt (.lst ts))
 | _=>none
@[simp] def zU (c:Ev->Option Bool) (g h:Sm):Sm:=fun J=>(c J).bind λ b=>if b=true then g J else h J
@[simp] def jm (i:Nat) (J:Ev):Ev:=match J[i]? with
 | some ↑(.own (.lst ts))=>J.set i ↑(.im (.lst ts))
 | _=>J
@[simp] def cE (i:Nat) (g:Sm):Sm:=fun J=>g (jm i J)
section
variable {R:Rk}{g h:Sm}{t u:zW}{f:Ae}{te:zj}
def Tb (hg:zX R g t) (hh:zX R h u):zX R (zo g h) (rA t u):=λ S0 Z0 S Z Y J o E F e P=>by
 let#[o1,e1,e2]:=Am.mp e;exact hg S0 Z0 S Z Y J o1 { E with nx:=u E } F e1 ?_;cases o1 with
 | nx J1=>show λ S1 Z1 Y1 F1=>hh S0 Z0 S1 Z1 Y1 J1 o E F1 e2 P
 | rt y=>cases e2;show P
 | bk y=>cases e2;show P
 | ct y=>cases e2;show P
def Ta:zX R yb j4:=λ S0 Z0 S Z Y J o E F e P=>by cases e;show P S Z Y F
def Tr (i:Nat) (hf:uY f te):zX R (zK i f) (rF te (hName i)):=λ S0 Z0 S Z Y J o E F e P=>by
 let#[y,e1,rfl]:=AO.mp e;show hf S Z Y J y _ F.er e1 λ d S1 s1 r1=>P S1 Z _ ((F.grow s1).s_ i r1)
def Tq (i:Nat) (hf:yI f te):zX R (uB i f) (rF te (hName i)):=λ S0 Z0 S Z Y J o E F e P=>by
 let#[y,e1,e2]:=Am.mp e;exact hf S Z Y J y _ F.er e1 λ d S1 s1 r1=>?_;cases y with
 | lst ts=>
  cases e2;let#[p,ds,rfl,h1,h2,h3]:=r1.2 ts rfl;show P S1 _ _ (F.YZ (ts:=.lst ts) (ds:=.lst ds) s1 i h1 h2 h3)
 | _=>cases e2;show P S1 Z _ ((F.grow s1).s_ i r1.1)
def Te [Lo R] (hf:xm R f te):zX R (retS f) (j0 te):=λ S0 Z0 S Z Y J o E F e P=>by
 let#[y,e1,rfl]:=AO.mp e;show hf S Z Y J y _ F.er e1 λ d S1 s1 r1=>P d S1 (F.sx.trans s1) (Lo.lo F.sx F.zz r1)
def eV (i:Nat):zX zx (nM i) (j0 (yp i)):=λ S0 Z0 S Z Y J o E F e P=>by
 unfold nM at e;split at e
 .rename_i ts h;cases e;let#[p,ob,h1,h2,h3,h4]:=F.er.ow i _ h;obtain⟨ds,rfl⟩:∃ ds,ob=.lst ds:=by
   cases ob with
   | lst ds=>show#[ds,rfl]
   | _=>show h3.elim
  replace h3:zg (zF S Z) ts ds:=h3;have hn:=(F.fr i _ p h h1).1;have nz:¬ Z0 p:=λ z=>F.z0 p z hn;change yp i Y S E.rt;unfold yp;rw[h1];exact P _ S F.sx #[?_,λ us e=>?_]
  .simp![Sn];show#[ds,.inr #[p,rfl,by rw[vW nz];show h2],zg.sx (vX F.zz) ts h3]
  .cases e;show#[p,ds,rfl,hn,h2,zg.sx (vX λ a q=>q.elim (F.zz a) λ q=>q▸h4) ts h3]
 .cases e
def zX.fv (h:zX zx g t):zX wa g t:=λ S0 Z0 S Z Y J o E F e P=>by
 exact h S0 Z0 S Z Y J o E F e ?_;cases o with
 | rt y=>show λ d S s r=>P d S s r.1
 | _=>show P
def Tg {c:Ev->Option Bool}{tc:yt}(hc:vA c tc) (hg:zX R g t) (hh:zX R h u):zX R (zU c g h) (mE tc t u):=λ S0 Z0 S Z Y J o E F e P=>by
 let#[b,e1,e2]:=Am.mp e;exact hc S Z Y J b _ F.er e1 λ S1 s1=>?_;split at e2
 .rename_i hb;rw[if_pos hb];show hg S0 Z0 S1 Z Y J o E (F.grow s1) e2 P
 .rename_i hb;rw[if_neg hb];show hh S0 Z0 S1 Z Y J o E (F.grow s1) e2 P
def FR.fz {S0 S:SS}{Z0 Z:Addr->Prop}{Y:zS}{J:Ev}(F:FR S0 Z0 S Z Y J) (i:Nat):∃ Z',FR S0 Z0 S Z' Y (jm i J):=by
 unfold jm;split
 .rename_i ts h;let#[p,ds,h1,_]:=F.er.ow i _ h;show#[_,(F.freeze i h h1).1]
 .show#[Z,F]
def Th (i:Nat) (hg:zX R g t):zX R (cE i g) t:=λ S0 Z0 S Z Y J o E F e P=>by
 let#[Z',F']:=F.fz i;show hg S0 Z0 S Z' Y _ o E F' e P
def az (g:T->Ev->Option Ev) (t:xl):Prop:=∀ S0 Z0 S Z Y J J' y d Q,FR S0 Z0 S Z Y J->Sn (zF S Z) y d->g y J=↑J'->(∀ Y',FR S0 Z0 S Z Y' J'->Q Y' S)->t d Y S Q
@[simp] def zG (i:Nat):T->Ev->Option Ev:=λ y J=>↑(J.set i ↑(.im y))
@[simp] def kM:List T->Ev->Option Ev
 | [],J=>↑J
 | _::_,_=>none
@[simp] def ox (g:T->Ev->Option Ev) (h:List T->Ev->Option Ev):List T->Ev->Option Ev
 | y::ys,J=>(g y J).bind fun J'=>h ys J'
 | [],_=>none
@[simp] def nk (n:Nat) (g:List T->Ev->Option Ev):T->Ev->Option Ev
 | .tup ys,J=>if ys.length=n then g ys J else none
 | _,_=>none
def Tz (i:Nat):az (zG i) (hName i):=λ S0 Z0 S Z Y J J' y d Q F r e hq=>by cases e;show hq _ (F.s_ i r)
def rQ (free:Bool) (f:Ev->Option (List T)) (ti:xQ):Prop:=∀ S Z Y J ts Q,ER S Z Y J->f J=↑ts->(∀ I S',Sx S S'->zg (zF S' Z) ts I.items->(∀ Ho,Sx (if free=true then zF S' Z else S') Ho->I.keep Ho)->Q I S')->ti Y S Q
@[simp] def xc (f:Ae):Ev->Option (List T):=fun J=>(f J).bind wq
def Tu {f:Ae}{te:zj}(hf:ya f te):rQ false (xc f) (kZ te):=λ S Z Y J ts Q hE e hq=>by
 let#[y,e1,e2]:=Am.mp e;exact hf S Z Y J y _ hE e1 λ d S1 s1 r1=>?_;cases y with
 | tup us=>
  cases e2;let#[ds,rfl,h2]:=Vw.tup r1;show hq _ S1 s1 h2 λ _ _=>trivial
 | lst us=>
  cases e2;obtain⟨ds,rfl | ⟨a,rfl,h1⟩,h2⟩:=Vw.lst r1
  .show hq _ S1 s1 h2 λ _ _=>trivial
  .dsimp only;rw[h1];show hq #[ds,_] S1 s1 h2 λ Ho s=>s _ _ h1
 | _=>cases e2
def Tv {f:Ae}{te:zj}(hf:uY f te):rQ true (xc f) (kZ te):=λ S Z Y J ts Q hE e hq=>by
 let#[y,e1,e2]:=Am.mp e;exact hf S Z Y J y _ hE e1 λ d S1 s1 r1=>?_;cases y with
 | tup us=>
  cases e2;let#[ds,rfl,h2]:=Vw.tup (.inl r1);show hq _ S1 s1 h2 λ _ _=>trivial
 | lst us=>
  cases e2;have r2:=r1;unfold wa at r2;simp![Sn] at r2;obtain⟨ds,⟨rfl,_⟩ | ⟨a,rfl,h1⟩,h2⟩:=r2
  .show hq _ S1 s1 h2 λ _ _=>trivial
  .dsimp only;rw[(u4 h1).2];show hq #[ds,_] S1 s1 h2 λ Ho s=>s _ _ h1
 | _=>cases e2
def rangeT (lo:Int) (n:Nat):List T:=(List.range n).map λ(k:Nat)=>T.int (lo+(k:Int))
def gK {S:SS}(lo:Int) (n:Nat):zg S (rangeT lo n) (uz lo n):=by
 unfold rangeT uz
 induction List.range n with
 | nil=>show .nil
 | cons k l ih=>show .cons wM ih
def inR (j:Int):Bool:=decide (-100000000<=j)&&decide (j<=100000000)
def mm {j:Int}:inR j=true↔-100000000<=j/\j<=100000000:=by simp[inR]
def mn {j:Int}(h:inR j=true):-(2 ^ 62)<=j/\j<2 ^ 62:=by have:=mm.mp h;lia
def wN:List T->Option (List T)
 | [.int j]=>if inR j=true then ↑(rangeT 0 j.toNat) else none
 | _=>none
def qf:List T->Option (List T)
 | [.int i,.int j]=>if inR i=true/\inR j=true then ↑(rangeT i (j-i).toNat) else none
 | _=>none
@[simp] def xf (F:List T->Option (List T)) (g:Ev->Option (List T)):Ev->Option (List T):=fun J=>(g J).bind F
def Tx {b:Bool}{g:Ev->Option (List T)}{tA:zI}(h:sG g tA):rQ b (xf wN g) (ja tA):=λ S Z Y J ts Q hE e hq=>by
 let#[ys,e1,e2]:=Am.mp e;exact h S Z Y J ys _ hE e1 λ ds S1 s1 r1=>?_;unfold wN at e2;split at e2
 .split at e2
  .rename_i hc;cases e2;let#[d,rfl,h1]:=tj r1;cases h1.int;show#[mn hc,hq _ S1 s1 (gK _ _) λ _ _=>trivial]
  .cases e2
 .cases e2
def Tw {b:Bool}{g:Ev->Option (List T)}{tA:zI}(h:sG g tA):rQ b (xf qf g) (k_ tA):=λ S Z Y J ts Q hE e hq=>by
 let#[ys,e1,e2]:=Am.mp e;exact h S Z Y J ys _ hE e1 λ ds S1 s1 r1=>?_;unfold qf at e2;split at e2
 .split at e2
  .rename_i hc;cases e2;let#[d,d',rfl,h1,h2]:=qP r1;cases h1.int;cases h2.int;show#[#[(mn hc.1).1,(mn hc.1).2,mn hc.2],hq _ S1 s1 (gK _ _) λ _ _=>trivial]
  .cases e2
 .cases e2
def xF (is:List Nat) (g:T->Ev->Option Ev) (b:Sm):List T->Ev->Option Out
 | [],J=>↑(.nx (xi is J))
 | y::ys,J=>(g y (xi is J)).bind fun J1=>(b J1).bind λ o=>match o with
  | .nx J2=>xF is g b ys J2
  | .ct J2=>xF is g b ys J2
  | .bk J2=>↑(.nx (xi is J2))
  | .rt t=>↑(.rt t)
@[simp] def vw (is:List Nat) (f:Ev->Option (List T)) (g:T->Ev->Option Ev) (b:Sm):Sm:=fun J=>(f J).bind λ ts=>xF is g b ts J
def Ti {is:List Nat}{fi:Ev->Option (List T)}{ti:xQ}{g:T->Ev->Option Ev}{tg:xl}{b:Sm}{tb:zW} [Lo R] (hi:rQ true fi ti) (hg:az g tg) (hb:zX R b tb):zX R (vw is fi g b) (oq ti tg tb):=λ S0 Z0 S Z Y J o E F e P=>by
 let#[ts,e1,e2]:=Am.mp e;exact hi S Z Y J ts _ F.er e1 λ I S1 s1 r1 hk=>?_;rw[if_pos rfl] at hk;let#[SB,b1,FB,b2]:=(F.grow s1).rebase;have lo:∀ S' d y,R SB S' Z0 y d->R S0 S' Z0 y d:=λ S' d y r=>Lo.lo b1 (λ _ z=>z) r;have zz:=F.zz;exact#[λ i Y' S'=>∃ Z' J',FR SB Z0 S' Z' Y' J'/\xF is g b (ts.drop i) J'=↑o,#[Z,J,FB,e2],λ i Y' S' #[Z',J',F',_]=>hk S' (b2.trans F'.sx),λ i d Y' S' hd #[Z',J',F',e']=>?_,fun Y' S' #[Z',J',F',e']=>?_]
 .let#[y,hy,r2]:=r1.jl hd;have AE:=(A1.mp hy).1;have DC:ts.drop i=y::ts.drop (i+1):=by
   rw[Dl AE,(A1.mp hy).2]
  rw[DC] at e';unfold xF at e';let#[J1,g1,e']:=Am.mp e';let#[o1,g2,e']:=Am.mp e';exact hg SB Z0 S' Z' Y' _ J1 y d _ (F'.xi is) (Sn.sx (F'.Xe b2 zz) y r2) g1 fun Y2 F2=>?_
  exact hb SB Z0 S' Z' Y2 J1 o1 _ F2 g2 ?_;cases o1 with
  | nx J2=>show λ S3 Z3 Y3 F3=>#[Z3,J2,F3,e']
  | ct J2=>show λ S3 Z3 Y3 F3=>#[Z3,J2,F3,e']
  | bk J2=>cases e';show λ S3 Z3 Y3 F3=>P S3 Z3 Y3 ((F3.xi is).back b1 F.z0)
  | rt y=>cases e';show λ d S3 s3 r3=>P d S3 (b1.trans s3) (lo _ _ _ r3)
 .rw[show I.items.length=ts.length from r1.len,List.drop_length] at e';unfold xF at e';cases e';show P S' Z' Y' ((F'.xi is).back b1 F.z0)
end
@[simp] def wZ (i:Nat) (f:Ae):Sm:=fun J=>match J[i]? with
 | some ↑(.own (.lst ts))=>(f J).bind λ y=>if ts.length<sizeLine then ↑(.nx (J.set i ↑(.own (.lst (ts++[y]))))) else none
 | _=>none
section
variable {R:Rk}{f:Ae}{te:zj}
def Ts (i:Nat) (hf:uY f te):zX R (wZ i f) (ot (uk (yp i) te)):=λ S0 Z0 S Z Y J o E F e P=>by
 unfold wZ at e;split at e
 .rename_i ts h;let#[y,e1,e2]:=Am.mp e;split at e2
  .rename_i hl;cases e2;let#[p,ob,h1,h2,h3,h4]:=F.er.ow i _ h;obtain⟨ds,rfl⟩:∃ ds,ob=.lst ds:=by
    cases ob with
    | lst ds=>show#[ds,rfl]
    | _=>show h3.elim
   replace h3:zg (zF S Z) ts ds:=h3;change uk (yp i) te Y S _;unfold uk yp;rw[h1];exact#[#[ds,h2],hf S Z Y J y _ F.er e1 λ d S1 s1 r1=>?_];dsimp only;rw[s1 _ _ h2];have F1:=F.grow s1;exact#[by rw[h3.len];show hl,P _ Z Y (F1.mut (us:=.lst (ts++[y])) (es:=.lst (ds++[d])) i h h1 ((zg.sx (vq s1) ts h3).append (.cons r1 .nil)))]
  .cases e2
 .cases e
end
def rB (pick:List (Option Nat)) (ti:xQ) (g:xl) (tc:yt) (te:zj):zj:=fun Y S Q=>ti Y S λ I S1=>I.items.length<=sizeLine/\(∀ S,Sx S1 S->I.keep S)/\∀ p,S1 p=none->∃ W:Nat->SS->List D->Prop,W 0 S1 []/\
 (∀ i S S' acc,(∀ b o,b≠p->S b=↑o->S' b=↑o)->W i S acc->W i S' acc)/\
 (∀ i d S acc,I.items[i]?=↑d->Sx S1 S->S p=↑(.lst acc)->W i S acc->g d (vQ pick Y) S fun Y2 S2=>rL (vQ pick Y) Y2/\tc Y2 S2 λ b S3=>if b=true then te Y2 S3 λ y S4=>Sx S S4/\W (i+1) S4 (acc++[y]) else Sx S S3/\W (i+1) S3 acc)/\
 ∀ S2 acc,Sx S1 S2->S2 p=↑(.lst acc)->W I.items.length S2 acc->Q (.ref p) S2
@[simp] def pq (pick:List (Option Nat)) (J:Ev):Ev:=pick.map λ o=>o.bind λ i=>(J[i]?).join
def sA (h:T->Option (Option T)):List T->Option (List T)
 | []=>↑[]
 | y::ys=>(h y).bind λ o=>(sA h ys).map λ zs=>match o with
  | some z=>z::zs
  | none=>zs
@[simp] def xG (pick:List (Option Nat)) (g:T->Ev->Option Ev) (c:Ev->Option Bool) (f:Ae) (J:Ev) (y:T):Option (Option T):=
 (g y (pq pick J)).bind fun J2=>(c J2).bind λ b=>if b=true then (f J2).map some else ↑none
def yJ (pick:List (Option Nat)) (it:Ev->Option (List T)) (g:T->Ev->Option Ev) (c:Ev->Option Bool) (f:Ae):Ae:=fun J=>(it J).bind λ ts=>if ts.length<=sizeLine then (sA (xG pick g c f J) ts).map .lst else none
@[simp] def xj:Ev->Option Bool:=λ _=>↑true
def TL:vA xj ba:=λ S Z Y J y Q hE e hq=>by cases e;show hq S (.refl S)
def mV (pick:List (Option Nat)) (g:T->Ev->Option Ev) (t:xl):Prop:=∀ B S Z Y J J' y d Q,(∀ i:Nat,pick[i]?=↑none->B[i]?=↑none)->rL B Y->Y.length=J.length->ER S Z Y J->Sn (zF S Z) y d->g y J=↑J'->
 (∀ Y',ER S Z Y' J'->rL B Y'->Y'.length=J'.length->Q Y' S)->t d Y S Q
def mU (pick:List (Option Nat)) (g:List T->Ev->Option Ev) (t:w_):Prop:=∀ B S Z Y J J' y d Q,(∀ i:Nat,pick[i]?=↑none->B[i]?=↑none)->rL B Y->Y.length=J.length->ER S Z Y J->zg (zF S Z) y d->g y J=↑J'->
 (∀ Y',ER S Z Y' J'->rL B Y'->Y'.length=J'.length->Q Y' S)->t d Y S Q
theorem ER.s_ {S:SS}{Z:Addr->Prop}{Y:zS}{J:Ev}{y:T}{d:D}(h:ER S Z Y J) (hl:Y.length=J.length) (i:Nat) (r:Sn (zF S Z) y d):ER S Z (Y.set i ↑d) (J.set i ↑(.im y)):=by
 exact#[h.zd,λ j t e=>?_,λ j ts e=>?_]
 .rcases yg e with ⟨rfl,FP,e⟩ | ⟨n,e⟩
  .cases e;show#[d,qu (by rw[hl];show FP),r]
  .rw[xu n];show h.im j t e
 .rcases yg e with ⟨rfl,FP,e⟩ | ⟨n,e⟩
  .cases e
  .rw[xu n];show h.ow j ts e
variable {pick:List (Option Nat)}
theorem T5 (i:Nat) (hi:pick[i]?=↑none:=by rfl):mV pick (zG i) (hName i):=λ B S Z Y J J' y d Q hB hs hl hE r e hq=>by
 cases e;exact hq _ (hE.s_ hl i r) #[by rw[Cu];show hs.1,λ j c q=>?_] (by simp[hl]);by_cases hj:i=j
 .subst hj;rw[hB i hi] at q;cases q
 .rw[xu hj];show hs.2 j c q
def T2:mU pick kM cy:=λ B S Z Y J J' y d Q hB hs hl hE r e hq=>by
 cases y with
 | nil=>simp![zg] at r;subst r;cases e;show#[rfl,hq _ hE hs hl]
 | cons _ _=>cases e
def T3 {g:T->Ev->Option Ev}{h:List T->Ev->Option Ev}{t:xl}{u:w_}(hg:mV pick g t) (hh:mU pick h u):mU pick (ox g h) (cz t u):=λ B S Z Y J J' y d Q hB hs hl hE r e hq=>by
 cases y with
 | nil=>cases e
 | cons y ys=>
  simp![zg] at r;let#[c,cs,rfl,r1,r2]:=r;let#[J1,e1,e2]:=Am.mp e;show hg B S Z Y J J1 y c _ hB hs hl hE r1 e1 fun Y1 E1 s1 l1=>hh B S Z Y1 J1 J' ys cs Q hB s1 l1 E1 r2 e2 hq
def T4 {n:Nat}{g:List T->Ev->Option Ev}{t:w_}(hg:mU pick g t):mV pick (nk n g) (mx n t):=λ B S Z Y J J' y d Q hB hs hl hE r e hq=>by
 cases y with
 | tup ys=>
  simp![Sn] at r;let#[ds,rfl,r]:=r;simp![nk] at e;split at e
  .rename_i hn;show#[by rw[r.len];show hn,hg B S Z Y J J' ys ds Q hB hs hl hE r e hq]
  .cases e
 | _=>cases e
def f_ {J:Ev}{i:Nat}{w:W}(h:(pq pick J)[i]?=↑↑w):∃ j:Nat,pick[i]?=↑↑j/\J[j]?=↑↑w:=by
 unfold pq at h;rw[A0] at h;cases q:pick[i]? with
 | none=>rw[q] at h;cases h
 | some o=>
  rw[q] at h;cases o with
  | none=>simp at h
  | some j=>
   simp![Option.map_some,BQ,Option.some.injEq] at h;exact#[j,rfl,?_];cases q2:J[j]? with
   | none=>rw[q2] at h;cases h
   | some o2=>rw[q2] at h;simp![Option.join_some] at h;rw[h]
def ec {Y:zS}{i j:Nat}{d:D}(h:pick[i]?=↑↑j) (h':Y[j]?=↑↑d):(vQ pick Y)[i]?=↑↑d:=by
 unfold vQ;rw[A0,h];simp[h']
def ER.Wb {S:SS}{Z:Addr->Prop}{Y:zS}{J:Ev}(h:ER S Z Y J):ER S Z (vQ pick Y) (pq pick J):=by
 exact#[h.zd,λ i t e=>?_,λ i ts e=>?_]
 .let#[j,h1,h2]:=f_ e;let#[d,h3,h4]:=h.im j t h2;show#[d,ec h1 h3,h4]
 .let#[j,h1,h2]:=f_ e;let#[p,ds,h3,h4]:=h.ow j ts h2;show#[p,ds,ec h1 h3,h4]
def ER.hide {S S':SS}{Z:Addr->Prop}{Y:zS}{J:Ev}{p:Addr}(h:ER S Z Y J) (s:Sx S S') (hp:S p=none) (Hh:S' p≠none):ER S' (λ a=>Z a\/a=p) Y J:=by
 exact#[λ a z q=>?_,λ i t e=>?_,λ i ts e=>?_]
 .rcases z with z | rfl
  .show h.zd a z (s.none q)
  .show Hh q
 .let#[d,h1,h2]:=h.im i t e;show#[d,h1,Sn.sx (qt s hp) t h2]
 .let#[q,ds,h1,h2,h3,h4]:=h.ow i ts e;show#[q,ds,h1,s _ _ h2,uV.sx (qt s hp) h3,.inl h4]
def Ss {it:Ev->Option (List T)}{ti:xQ}{g:T->Ev->Option Ev}{tg:xl}{c:Ev->Option Bool}{tc:yt}{f:Ae}{te:zj}{b:Bool}(hi:rQ b it ti) (hg:mV pick g tg) (hc:vA c tc) (hf:uY f te):
  yI (yJ pick it g c f) (rB pick ti tg tc te):=λ S Z Y J y Q hE e hq=>by
 let#[ts,e1,e2]:=Am.mp e;split at e2
 case isFalse=>cases e2
 rename_i hlen;let#[zs,e3,rfl]:=AO.mp e2;exact hi S Z Y J ts _ hE e1 λ I S1 s1 r1 hk=>#[by rw[r1.len];show hlen,λ S' s'=>hk S' ?_,λ p hp=>?_]
 .cases b
  .show s'
  .show (mw _ _).trans s'
 have E1:=hE.grow s1;have nz:¬ Z p:=λ z=>E1.zd p z hp;exact#[λ i S' acc=>∃ us ws,zg (zF S' λ a=>Z a\/a=p) us acc/\sA (xG pick g c f J) (ts.drop i)=↑ws/\zs=us++ws,#[[],zs,.nil,e3,rfl],λ i S' Ho acc hh #[us,ws,h1,h2]=>#[us,ws,zg.sx (λ a o q=>?_) us h1,h2],λ i d S2 acc hd s2 AW #[us,ws,h1,h2,h3]=>?_,λ S2 acc s2 AW #[us,ws,h1,h2,h3]=>?_]
 .let#[q1,q2]:=u4 q;rw[vW q1];show hh a o (λ z=>q1 (.inr z)) q2
 .let#[x,hx,rx]:=r1.jl hd;have AE:=(A1.mp hx).1;have DC:ts.drop i=x::ts.drop (i+1):=by rw[Dl AE,(A1.mp hx).2]
  rw[DC] at h2;unfold sA at h2;let#[o,o1,h2]:=Am.mp h2;let#[Iz,o2,rfl]:=AO.mp h2;have E2:=(E1.hide s2 hp (by rw[AW];nofun)).Wb (pick:=pick);unfold xG at o1;let#[J2,g1,o1]:=Am.mp o1;let#[bb,g2,o1]:=Am.mp o1;exact hg (vQ pick Y) S2 _ _ _ J2 x d _ (λ j hj=>?_) #[rfl,λ _ _ q=>q] (by unfold vQ pq;simp) E2 (Sn.sx (qt s2 hp) x rx) g1 fun Y2 E3 l3 _=>#[l3,?_]
  .unfold vQ;rw[A0,hj];rfl
  exact hc S2 _ Y2 J2 bb _ E3 g2 λ S3 s3=>?_;split at o1
  .rename_i hb;rw[if_pos hb];let#[z,g3,rfl]:=AO.mp o1;exact hf S3 _ Y2 J2 z _ (E3.grow s3) g3 λ dz S4 s4 r4=>#[s3.trans s4,us++[z],Iz,?_,o2,by rw[h3];simp];show (zg.sx (vq (s3.trans s4)) us h1).append (.cons r4 .nil)
  .rename_i hb;rw[if_neg hb];cases o1;show#[s3,us,Iz,zg.sx (vq s3) us h1,o2,h3]
 .rw[show I.items.length=ts.length from r1.len,List.drop_length] at h2;cases h2;rw[Bx] at h3;subst h3;exact hq _ S2 (s1.trans s2) #[?_,λ vs e=>?_]
  .simp![Sn];show#[acc,.inr #[p,rfl,by rw[vW nz];show AW],zg.sx (vX λ a z=>.inl z) zs h1]
  .cases e;show#[p,acc,rfl,s1.none hp,AW,h1]
class Sr (R:Rk):Prop extends Lo R where
 sn:∀ {S S':SS}{Z:Addr->Prop}{y:T}{d:D},R S S' Z y d->Sn (zF S' Z) y d
instance:Sr wa:=#[λ h=>h]
instance:Sr zx:=#[λ h=>h.1]
def zB (R:Rk) (F:Ak):yY:=λ ds S Q=>∃ Z ys y,(∀ a,Z a->S a≠none)/\zg (zF S Z) ys ds/\F ys=↑y/\∀ d S',Sx S S'->R S S' Z y d->Q d S'
def zB.mo {R:Rk}{F:Ak}:rR (zB R F):=λ _ _ _ _ hq #[Z,ys,y,h1,h2,h3,h4]=>#[Z,ys,y,h1,h2,h3,λ d S' s r=>hq _ _ (h4 d S' s r)]
def kF {R:Rk} [Lo R] {F:Ak}{g:Ev->Option (List T)}{u:zI}(h:sF g u):xm R (zi F g) (rE (zB R F) u):=λ S Z Y J y Q hE e hq=>by
 let#[xs,e1,e2]:=Am.mp e;exact h S Z Y J xs _ hE e1 λ ds S1 s1 r1=>?_;show#[Z,xs,y,(hE.grow s1).zd,r1,e2,λ d S' s r=>hq d S' (s1.trans s) (Cl.cl s1 r)]
@[simp] def tY (N:List Str) (ys:List T):Ev:=ys.map (λ y=>↑(.im y))++List.replicate (N.length-ys.length) none
@[simp] def t8:Option Out->Option T
 | some (.rt y)=>↑y
 | some (.nx _)=>↑.zk
 | _=>none
@[simp] def zO (N:List Str) (n:Nat) (g:Sm):Ak:=λ ys=>if ys.length=n then t8 (g (tY N ys)) else none
theorem zB.len {R:Rk}{N:List Str}{n:Nat}{g:Sm}{ds:List D}{S:SS}{Q:DK}(hs:zB R (zO N n g) ds S Q):ds.length=n:=by
 let#[Z,ys,y,hz,r,e,hq]:=hs;unfold zO at e;split at e
 .rename_i h;rw[r.len];show h
 .cases e
theorem YC {N:List Str}{ds:List D}{i:Nat}{d:D}(h:ds[i]?=↑d):(uw N ds)[i]?=↑↑d:=by
 have hi:=(A1.mp h).1;unfold uw;rw[Ca (by exists hi),A0,h];rfl
theorem ny {N:List Str}{ys:List T}{i:Nat}{w:W}(h:(tY N ys)[i]?=↑↑w):∃ y,ys[i]?=↑y/\w=.im y:=by
 unfold tY at h;have hi:i<ys.length:=by
  rcases Br i ys.length with q | q
  .show q
  .rw[CV (by exists q),DS] at h;split at h <;> cases h
 rw[Ca (by exists hi),A0] at h;cases q:ys[i]? with
 | none=>rw[q] at h;cases h
 | some y=>rw[q] at h;cases h;show#[y,rfl,rfl]
def bP {R:Rk} [Lo R] {N:List Str}{n:Nat}{g:Sm}{t:zW}(h:zX R g t) {ds:List D}{S:SS}{Q:DK}(hs:zB R (zO N n g) ds S Q):t { nx:=λ _ S'=>Q .zk S',rt:=Q } (uw N ds) S:=by
 let#[Z,ys,y,hz,r,e,hq]:=hs;unfold zO at e;split at e
 case isFalse=>cases e
 obtain⟨o,e1,e2⟩:∃ o,g (tY N ys)=↑o/\t8 ↑o=↑y:=by
  cases q:g (tY N ys) with
  | none=>rw[q] at e;cases e
  | some o=>show#[o,rfl,by rw[<- q];show e]
 exact h S Z S Z _ _ o _ #[#[hz,λ i t e=>?_,λ i ts e=>?_],?_,.refl S,hz,λ _ z=>z,λ _ z=>.inl z,λ i ts p e _=>?_,λ i j ts us p _ e _ _ _=>?_] e1 ?_
 .let#[y',h1,h2]:=ny e;cases h2;let#[d,h3,h4]:=r.jj h1;show#[d,YC h3,h4]
 .let#[y',h1,h2]:=ny e;cases h2
 .unfold uw tY;have:=r.len;simp[this]
 .let#[y',h1,h2]:=ny e;cases h2
 .let#[y',h1,h2]:=ny e;cases h2
 .cases o with
  | rt y'=>cases e2;show λ d S' s r=>hq d S' s r
  | nx J'=>
   cases e2;show λ S' Z' Y' F=>hq .zk S' F.sx (Cl.of (λ _=>nofun) gL)
  | _=>cases e2
def ZW (Al:List (Key×T)) (k:Key):Option T:=(Al.find? λ kv=>decide (kv.1=k)).map (·.2)
@[simp] def zam (i:Nat) (f:Ae):Ae:=fun J=>(f J).bind λ y=>match J[i]?,y with
 | some ↑(.own (.yq Al)),.int k=>ZW Al (.inl k)
 | _,_=>none
@[simp] def pL (f:Ae):Ae:=fun J=>(f J).bind λ x=>match x with
 | .int i=>↑(.int (-i))
 | _=>none
def bw (ta:zj):zj:=fun Y S Q=>ta Y S λ x S1=>match x with
 | .int i=>Q (.int (-i)) S1
 | _=>False
def Sl {f:Ae}{te:zj}(h:ya f te):yI (pL f) (bw te):=λ S Z Y J y Q hE e hq=>by
 let#[x,e1,e2]:=Am.mp e;exact h S Z Y J x _ hE e1 λ d S1 s1 r1=>?_;split at e2
 .cases Vw.int r1;cases e2;show hq _ S1 s1 (Cl.of (λ _=>nofun) wM)
 .cases e2
def vU:List T->Option (List Int)
 | []=>↑[]
 | .int i::ts=>(vU ts).map (i::·)
 | _::_=>none
def uH:List T->Option (List (List Int))
 | []=>↑[]
 | .tup r::ts=>(vU r).bind λ x=>(uH ts).map (x::·)
 | _::_=>none
def zm (r:List Int):T:=.tup (r.map T.int)
theorem pU:∀ {ts:List T}{is:List Int},vU ts=↑is->ts=is.map T.int
 | [],is,h=>by cases h;rfl
 | .int b::ts,is,h=>by
  unfold vU at h;let#[cs,h1,rfl]:=AO.mp h;rw[AD,<- pU h1]
 | .zk::ts,bs,h=>by cases h
 | .bl _::ts,bs,h=>by cases h
 | .str _::ts,bs,h=>by cases h
 | .tup _::ts,bs,h=>by cases h
 | .lst _::ts,bs,h=>by cases h
theorem fg:∀ {ts:List T}{rs:List (List Int)},uH ts=↑rs->ts=rs.map zm
 | [],is,h=>by cases h;rfl
 | .tup r::ts,is,h=>by
  unfold uH at h;let#[x,h1,h]:=Am.mp h;let#[cs,h2,rfl]:=AO.mp h;rw[AD,<- fg h2,pU h1];rfl
 | .zk::ts,bs,h=>by cases h
 | .bl _::ts,bs,h=>by cases h
 | .str _::ts,bs,h=>by cases h
 | .int _::ts,bs,h=>by cases h
 | .lst _::ts,bs,h=>by cases h
def jc (is:List Int):vU (is.map T.int)=↑is:=by
 induction is with
 | nil=>rfl
 | cons b bs ih=>rw[AD];unfold vU;rw[ih];rfl
def Xk (rs:List (List Int)):uH (rs.map zm)=↑rs:=by
 induction rs with
 | nil=>rfl
 | cons b bs ih=>
  change uH (.tup (b.map T.int)::bs.map zm)=_;unfold uH;rw[jc,ih];rfl
theorem t4 {S:SS}:∀ {is:List Int}{ds:List D},zg S (is.map T.int) ds↔ds=is.map D.int
 | [],ds=>by simp![A8,zg]
 | i::is,ds=>by
  rw[AD];simp![zg,Sn];constructor
  .rintro⟨c,cs,rfl,rfl,h⟩;rw[t4.mp h];rfl
  .rintro rfl;show#[.int i,_,rfl,rfl,t4.mpr rfl]
theorem nH {S:SS}:∀ {rs:List (List Int)}{ds:List D},zg S (rs.map zm) ds↔ds=rs.map vN
 | [],ds=>by simp![A8,zg]
 | r::rs,ds=>by
  rw[AD];simp![zg,zm,Sn];constructor
  .rintro⟨c,cs,rfl,⟨es,rfl,h1⟩,h⟩;rw[nH.mp h,t4.mp h1];rfl
  .rintro rfl;show#[vN r,_,rfl,#[_,rfl,t4.mpr rfl],nH.mpr rfl]
@[simp] def Ye:T->Option String
 | .zk=>↑"NoneType"
 | .bl _=>↑"bool"
 | .int _=>↑"int"
 | .str _=>↑"str"
 | .tup _=>↑"tuple"
 | .lst _=>↑"list"
 | .yD=>↑"dict"
 | .err _ _ _=>none
@[simp] def Ex (ty:String) (f:Ae):Ae:=fun J=>(f J).bind λ x=>(Ye x).map λ t=>.bl (yO t ty)
theorem Vw.err {S:SS}{Z:Addr->Prop}{c f:Str}{t:T}{d:D}(h:Vw S Z (.err c f t) d):∃ x,d=.err c f x/\Sn (zF S Z) t x:=by
 rcases h with h | ⟨_,_,_,h,_⟩
 .simpa only [Sn] using h
 .cases h
def SV {ty:String}{f:Ae}{te:zj}(hf:ya f te):yI (Ex ty f) (rC ty te):=λ S Z Y J y Q hE e hq=>by
 let#[x,e1,e2]:=Am.mp e;let#[n,e3,rfl]:=AO.mp e2;exact hf S Z Y J x _ hE e1 λ d S1 s1 r1=>?_;have key:tX d S1=↑n:=by
  rw[<- e3];cases x with
  | zk=>cases Vw.zk r1;rfl
  | bl _=>cases Vw.bl r1;rfl
  | int _=>cases Vw.int r1;rfl
  | str _=>cases Vw.str r1;rfl
  | tup _=>let#[ds,rfl,_]:=Vw.tup r1;rfl
  | lst _=>
   obtain⟨ds,rfl | ⟨a,rfl,h1⟩,h2⟩:=Vw.lst r1
   .rfl
   .unfold tX;dsimp only;rw[h1];rfl
  | yD=>
   let#[a,Al,#[rfl,_],h1]:=Vw.yD r1;unfold tX;dsimp only;rw[h1];rfl
  | err _ _ _=>cases e3
 rw[key];show hq _ S1 s1 (Cl.of (λ _=>nofun) wo)
@[simp] def isNone:T->Bool
 | .zk=>true
 | _=>false
def qp:D->Bool
 | .zk=>true
 | _=>false
def xy (p:Int×Int):T:=.tup [.int p.1,.int p.2]
def yH (ns:List Int):T:=.lst (ns.map .int)
@[simp] theorem zaa:sizeLine=16777216:=rfl
theorem wD {α:Type}{xs:List α}{k:Nat}{x:α}(h:xs[k]?=↑x):L2.zP xs (k:Int)=↑x:=by
 unfold L2.zP L2.wx;have hk:=(A1.mp h).1;rw[if_pos ⋯,if_pos ⋯];exists h
@[simp] theorem O7 {α:Type}{xs:List α}{x:α}:L2.zP (xs++[x]) (-1)=↑x:=by
 unfold L2.zP L2.wx;rw[if_neg ⋯,if_pos (by simp;lia)];have:(-1+((xs++[x]).length:Int)).toNat=xs.length:=by simp;lia
 rw[BQ,this];simp
@[simp] theorem zaq {α:Type}{x:α}{xs:List α}:L2.zP (x::xs) 0=↑x:=wD (k:=0) rfl
@[simp] theorem zap {α:Type}{x y:α}{xs:List α}:L2.zP (x::y::xs) 1=↑y:=wD (k:=1) rfl
@[simp] theorem zao {α:Type}{x y z:α}{xs:List α}:L2.zP (x::y::z::xs) 2=↑z:=wD (k:=2) rfl
@[simp] theorem zan {α:Type}{x y z w:α}{xs:List α}:L2.zP (x::y::z::w::xs) 3=↑w:=wD (k:=3) rfl
theorem b9 {α:Type}(enc:α->T) (g:α->Option T) (h:T->Option (Option T)):∀ (xs:List α),(∀ x∈xs,h (enc x)=↑(g x))->sA h (xs.map enc)=↑(xs.filterMap g)
 | [],_=>rfl
 | x::xs,hh=>by
  rw[AD];unfold sA;rw[hh x Az,b9 enc g h xs λ y hy=>hh y (AG _ hy)];cases q:g x <;> simp[q]
def PV {α:Type}(enc:α->T) (g:α->T) (h:T->Option (Option T)) (xs:List α) (hh:∀ x∈xs,h (enc x)=↑↑(g x)):sA h (xs.map enc)=↑(xs.map g):=by
 rw[b9 enc (λ x=>↑(g x)) h xs hh];simp
def xX {α:Type}(enc:α->T) (h:α->T) {pick:List (Option Nat)}{it:Ev->Option (List T)}{g:T->Ev->Option Ev}{c:Ev->Option Bool}{f:Ae}{J:Ev}(xs:List α) (hi:it J=↑(xs.map enc)) (hl:xs.length<=16777216)
  (hh:∀ x∈xs,xG pick g c f J (enc x)=↑↑(h x)):yJ pick it g c f J=↑(.lst (xs.map h)):=by
 unfold yJ;rw[hi,BQ,if_pos (by rw[An];show hl),PV enc h _ xs hh];rfl
section
variable {α:Type}{is:List Nat}{g:T->Ev->Option Ev}{b:Sm}
def turn (g:T->Ev->Option Ev) (b:Sm) (y:T) (J:Ev):Option Out:=(g y J).bind b
theorem dw (y:T) (ys:List T) (J:Ev):xF is g b (y::ys) J=(turn g b y (xi is J)).bind λ o=>match o with
  | .nx J2=>xF is g b ys J2
  | .ct J2=>xF is g b ys J2
  | .bk J2=>↑(.nx (xi is J2))
  | .rt t=>↑(.rt t):=by
 unfold turn;rw[xF];cases g y (xi is J) <;> rfl
theorem du (enc:α->T) (I:List α->Ev->Prop):∀ (xs:List α) (pre:List α) (J:Ev),I pre (xi is J)->
  (∀ p x q,pre++xs=p++x::q->∀ J,I p J->∃ J',turn g b (enc x) J=↑(.nx J')/\I (p++[x]) (xi is J'))->∃ J',xF is g b (xs.map enc) J=↑(.nx J')/\I (pre++xs) J'
 | [],pre,J,h,_=>#[xi is J,by rw[A8,xF],by exists h]
 | x::xs,pre,J,h,hs=>by
  let#[J',h1,h2]:=hs pre x xs rfl _ h;rw[AD,dw,h1];have ih:=du enc I xs (pre++[x]) J' h2 λ p y q e=>hs p y q (by rw[<- e];simp);exists ih
def rn (enc:α->T) (I:List α->Ev->Prop) (xs:List α) (J:Ev) (h:I [] (xi is J))
  (hs:∀ p x q,xs=p++x::q->∀ J,I p J->∃ J',turn g b (enc x) J=↑(.nx J')/\I (p++[x]) (xi is J')):∃ J',xF is g b (xs.map enc) J=↑(.nx J')/\I xs J':=du enc I xs [] J h hs
end
theorem rh (n:Nat) (h:n<=100000):wN [.int (n:Int)]=↑((List.range n).map λ(k:Nat)=>T.int (0+(k:Int))):=by
 change (if inR (n:Int)=true then ↑(rangeT 0 (n:Int).toNat) else none)=_;rw[if_pos (mm.mpr #[⋯,⋯])];rfl
theorem Xn (a n:Nat) (h:a<=100000) (h':n<=100000):qf [.int (a:Int),.int (n:Int)]=↑((List.range (n-a)).map λ(k:Nat)=>T.int ((a:Int)+(k:Int))):=by
 change (if inR (a:Int)=true/\inR (n:Int)=true then ↑(rangeT a ((n:Int)-a).toNat) else none)=_;rw[if_pos #[mm.mpr #[⋯,⋯],mm.mpr #[⋯,⋯]],show ((n:Int)-a).toNat=n-a by lia];rfl
end L5
namespace L2
open PySem PySem.Spec PyProof.Rows
section
variable {X:Cx}
def fT (K:Ab):R2:=λ x y H Q=>∃ l b xs zs,x=.ref l/\y=.ref b/\zA K H l xs/\zA K H b zs/\xs.length+zs.length<=sizeLine/\∀ p,H p=none->Q (.ref p) (upd H p (.lst (xs++zs)))
theorem UU:zR X (binaryOp .Add) (fT X.K):=by
 intro Ek s O H x y v u Q I rx ry h;let#[l,b,xs,zs,rfl,rfl,hH,hB,hz,q]:=h;cases rx;cases ry;let#[its,r,p1,_]:=I.list hH;let#[EV,r2,p2,_]:=I.list hB;let#[#[cls,dd,data,sl],ho,hc,n,hd]:=p1.isList;let#[#[Hd,GI,data2,GG],Gn,FT,n2,hd2]:=p2.isList;simp only at hc hd FT hd2;subst hc hd FT hd2;have e:its.toArray++EV.toArray=(its++EV).toArray:=#[];exact concat_meets #[_,ho,rfl] #[_,Gn,rfl] noFill_list_add seq_list_add PySem.F.slot_list_add PySem.F.entry_list_add (PySem.F.args_list_add_2 _ _) (list_addW l b its.toArray EV.toArray n n2 dd GI sl GG (by rw[Ax,Ax,<- r.length,<- r2.length];show hz)) #[ho,Gn,?_];rw[e];show#[.ref _,_,I.RI (t':=s.toks) (r.append r2) (by rw[Bg];lia),rfl,q _ I.fresh]
def fR (K:Ab):R2:=λ x y H Q=>∃ a b ys,x=.ref a/\y=.ref b/\zE K H a []/\zE K H b ys/\Q (.ref b) H
theorem US:zR X (binaryOp .Add) (fR X.K):=by
 intro Ek s O H x y v u Q I rx ry h;let#[l,b,ys,rfl,rfl,hH,hB,q]:=h;cases rx;cases ry;let#[its,r,p1,_]:=I.tuple hH;let#[EV,r2,p2,_]:=I.tuple hB;let#[#[cls,dd,data,sl],ho,hc,n,hd]:=id p1;let#[#[Hd,GI,data2,GG],Gn,FT,n2,hd2]:=id p2;simp only at hc hd FT hd2;subst hc hd FT hd2;show concat_meets #[_,ho,rfl] #[_,Gn,rfl] noFill_tuple_add seq_tuple_add PySem.F.slot_tuple_add PySem.F.entry_tuple_add (PySem.F.args_tuple_add_2 _ _)
   (tuple_addW0 l b its.toArray EV.toArray n n2 dd GI sl GG (by cases r;rfl)) #[ho,Gn,#[.ref b,H,I,rfl,q]]
end
end L2
namespace L5
open PySem PySem.Spec L2 L3
open PyProof.Rows hiding St
section
variable {X:Cx}{K:Ab}{a b c e:Expr}{es:List Expr}{ta tb tc te:zj}{tA:zI}{pos p:Pos}
def uf.mo:yU uf:=λ x y S Q Q' hq h=>by
 cases x with
 | int i=>cases y <;> first | show hq _ _ h | show h
 | str i=>cases y <;> first | show#[h.1,hq _ _ h.2] | show h
 | tup i=>cases y <;> first | show#[h.1,hq _ _ h.2] | show h
 | y_ ds=>
  unfold uf at h ⊢;dsimp only at h ⊢;split at h
  .show#[h.1,h.2.1,λ r hr=>hq _ _ (h.2.2 r hr)]
  .show h.elim
 | ref q=>
  unfold uf at h ⊢;dsimp only at h ⊢;split at h
  .show#[h.1,h.2.1,λ r hr=>hq _ _ (h.2.2 r hr)]
  .show h.elim
 | _=>show h
def t_ {H:Hp}{S:SS}{d:D}{v:V}{ds:List D}(r:zf K H d v) (p:zv K H S) (e:zN d S=↑ds) (n:∀ ts,d≠.tup ts):∃ a xs,v=.ref a/\zA K H a xs/\zh K H ds xs:=by
 unfold zN at e;split at e
 .show absurd rfl (n _)
 .cases e;simp![zf] at r;let#[a,xs,h1,h2,h3]:=r;show#[a,xs,h1,h2.sq,h3]
 .split at e
  .rename_i q;cases e;simp![zf] at r;subst r;let#[xs,h1,h2]:=p _ _ q;show#[_,xs,rfl,zA.of h1,h2]
  .cases e
 .cases e
abbrev fU (K:Ab):R2:=λ x y H Q=>vO (λ i j=>.int (i+j)) x y H Q\/((∃ i j,x=.str i/\y=.str j/\i.length+j.length<=sizeLine/\Q (.str (i++j)) H)\/(fT K x y H Q\/(fR K x y H Q\/fS K x y H Q)))
def uf.fits:yZ K uf (fU K):=λ x y d e H S Q h1 h2 h3 h=>by
 have lst:(∀ ts,d≠.tup ts)->(match zN d S,zN e S with
  | some ds,↑es=>(∀ ts,e≠.tup ts)/\ds.length+es.length<=sizeLine/\∀ r,S r=none->xJ K H Q (.ref r) (ups S r (.lst (ds++es)))
  | _,_=>False)->fU K x y H Q:=λ n h=>by
  split at h
  .rename_i ds es q1 q2;let#[a,xs,rfl,g1,g2]:=t_ h1 h3 q1 n;let#[b,ys,rfl,g3,g4]:=t_ h2 h3 q2 h.1;exact .inr (.inr (.inl #[a,b,xs,ys,rfl,rfl,g1,g3,by rw[<- g2.length,<- g4.length];show h.2.1,λ p hp=>?_]));show h.2.2 p (h3.none hp) _ _ (by simp![zf]) (.new hp _) (h3.ups (.new hp _) #[_,yf,zh.ext (.new hp _) _ (g2.append g4)])
  .show h.elim
 cases d with
 | int i=>
  cases e with
  | int j=>
   simp![zf] at h1 h2;show .inl #[_,_,h1,h2,h _ H (by simp![zf]) (.refl H) h3]
  | _=>show h.elim
 | str i=>
  cases e with
  | str j=>
   simp![zf] at h1 h2;show .inr (.inl #[_,_,h1,h2,h.1,h.2 _ H (by simp![zf]) (.refl H) h3])
  | _=>show h.elim
 | tup ds=>
  cases e with
  | tup es=>
   have HX:=h1;have Jz:=h2;simp![zf] at h1 h2;let#[a,xs,rfl,g1,g2]:=h1;let#[b,ys,rfl,g3,g4]:=h2;have hl:=g2.length;have FP:=g4.length;by_cases hx:xs=[]
   .subst hx;have:ds=[]:=by cases ds <;> simp_all
    subst this;show .inr (.inr (.inr (.inl #[a,b,ys,rfl,rfl,g1,g3,h.2 _ H Jz (.refl H) h3])))
   .exact .inr (.inr (.inr (.inr #[a,b,xs,ys,rfl,rfl,g1,g3,hx,by rw[<- hl,<- FP];show h.1,λ hy=>?_,λ hy p hp=>?_])))
    .subst hy;have:es=[]:=by cases es <;> simp_all
     subst this;exact h.2 _ H ?_ (.refl H) h3;rw[Bx];show HX
    .exact h.2 _ _ ?_ (.new hp _) (h3.new hp);simp![zf];show#[p,_,rfl,zE.of yf,zh.ext (.new hp _) _ (g2.append g4)]
  | _=>show h.elim
 | y_ ds=>show lst (λ _=>nofun) h
 | ref q=>show lst (λ _=>nofun) h
 | _=>show h.elim
def U8 (ha:PD X a ta) (hb:PD X b tb):PD X (.BinOp a .Add b pos) (z_ uf ta tb):=sd (UY.or (UX.or (UU.or (US.or UT)))) uf.fits uf.mo ha hb
def uO.mo {g:List Bool->Bool}:we (uO g):=λ ds S Q Q' hq h=>by
 unfold uO at h ⊢;split at h
 .show h.elim
 .let#[bs,h1,h2]:=h;show#[bs,h1,hq _ _ h2]
 .show h.elim
def uO.fits {g:List Bool->Bool}:ur K (uO g) (λ xs H Q=>∃ p,∃ bs:List Bool,xs=[.ref p]/\zA K H p (bs.map V.bl)/\Q (.bl (g bs)) H):=λ xs ds H S Q h0 h2 h=>by
 unfold uO at h;split at h
 .show h.elim
 .rename_i d hn;let#[x,hx,h1]:=h0.one;subst hx;let#[bs,e,h]:=h;let#[a,ys,rfl,g1,g2]:=t_ h1 h2 e (λ ts z=>hn ts z);rw[g2.bools] at g1;show#[a,bs,rfl,g1,h _ H (by simp![zf]) (.refl H) h2]
 .show h.elim
def U7 (hm:X.mg "all"=none) (ha:yK X (e::es) tA) (hc:X.calm=true) (hg:Gl X "all") (he:Aq X e es) (Ap:Ay X pos es):PD X (.Call (.Name "all" p) (e::es) [] pos) (vz (uO λ bs=>bs.all id) tA):=
 p8 (pz (Ou hc) hg hm boot_all ha.pa () () he Ap) uO.mo uO.fits ha.mo
def Qp {H:Hp}{d:D}{v:V}(r:zf K H d v):decide (v=.zk)=qp d:=by
 cases d with
 | tup _=>simp![zf] at r;let#[a,xs,rfl,_]:=r;rfl
 | y_ _=>simp![zf] at r;let#[a,xs,rfl,_]:=r;rfl
 | err _ _ _=>simp![zf] at r;let#[a,_,_,_,rfl,_]:=r;rfl
 | _=>simp![zf] at r;subst r;rfl
theorem VS (ha:PD X a ta):PD X (.UnaryOp .USub a pos) (bw ta):=by
 exact#[fun Y S Q Q' hq h=>ha.mo Y S _ _ (λ x S1 z=>by
  cases x <;> first
   | show hq _ _ z
   | show z) h,PE.imp (Wv Yc ha.pe) fun O H Q hu=>?_]
 let#[Y,S,r1,r2,h]:=hu;exact zw.go ha.mo r1 r2 h λ x S1 v H1 h1 q1 e1 p1=>?_;cases x with
 | int i=>simp![zf] at q1;show#[i,q1,h1 _ H1 (by simp![zf]) e1 p1]
 | _=>show h1.elim
section
variable {N':List Str}{pick:List (Option Nat)}{scope:Scope}{tg elt iter:Expr}{ifs:List Expr}{ti:xQ}{g:xl}{GF:yt}
def rB.mo (hi:mY ti):zL (rB pick ti g GF te):=fun Y S Q Q' hq z=>hi Y S _ _ (λ I S1 #[h1,h2,h3]=>#[h1,h2,λ p hp=>by
 let#[W,w0,w1,w2,w3]:=h3 p hp;show#[W,w0,w1,w2,λ S2 acc a b c=>hq _ _ (w3 S2 acc a b c)]]) z
theorem ZZ (hi:mY ti) (hg:mZ g) (hc:wH GF) (he:zL te) {O:St}{H:Hp}{Q:VK}(hu:zw K (rB pick ti g GF te) O H Q):gy pick (vI K ti) (lL K g) (xM K GF) (zw K te) O H Q:=by
 let#[Y,S,r1,r2,z]:=hu;exact#[Y,S,r1,r2,hi Y S _ _ (λ I S1 hF J H1 e1 p1 rep D hD=>?_) z];let#[hlen,hk,hF]:=hF;have Ju:S1 D=none:=p1.none hD;let#[W,w0,wm,Hr,IA]:=hF D Ju;exact#[λ i m O H2=>m=I.items.length-i/\i<=I.items.length/\Ext H1 H2/\yj K H2 (vQ pick Y) O/\∃ S2 acc,zv K H2 S2/\Sx S1 S2/\S2 D=↑(.lst acc)/\acc.length<=i/\W i S2 acc,#[_,rfl,AZ _,.new hD _,((r1.ext e1).pick pick).ext (.new hD _),ups S1 D (.lst []),[],?_,.new Ju _,sT,Aj _,?_],?_]
 .show p1.ups (.new hD _) #[[],yf,.nil]
 .show wm 0 S1 _ [] (λ b o hb q=>by rw[tm hb];show q) w0
 rintro i m O2 H2 ⟨rfl,FZ,x2,q1,S2,acc,q2,sx,Iw,AW,hW⟩;let#[g1,g2]:=rep i H2 S2 x2 q2 (hk S2 sx);by_cases hl:i<I.items.length
 .have hd:I.items[i]?=↑I.items[i]:=by simp[hl]
  let#[go,yl]:=g1 _ hd;exact .inr #[go,λ x H3 hy=>?_];let#[x3,p3,d3]:=yl x H3 hy;exact#[_,_,S2,d3,q1.ext x3,p3,hg _ _ S2 _ _ (fun Y4 S4 z4 O4 H4 a1 a2 a3=>?_) (Hr i _ S2 acc hd sx Iw hW)];let#[hle,z4]:=z4;exact xM.go hc a1 a3 z4 λ b S5 H5 z5 x5 p5=>wy (λ z5=>?_) (λ z5=>?_) z5
  .exact zw.go he (a1.ext x5) p5 z5 λ y S6 v H6 z6 q6 x6 p6=>?_;let#[s6,hW6]:=z6;let#[ys,h6,r6]:=p6 _ _ (s6 _ _ Iw);have e6:Ext H6 (upd H6 D (.lst (ys++[v]))):=.lst h6 _;have hlen2:ys.length<=i:=by rw[<- r6.length];show AW
   exact#[ys,I.items.length-(i+1),h6,⋯,⋯,rfl,hl,((((x2.trans x3).trans a2).trans x5).trans x6).trans e6,hle.rep ((a1.ext (x5.trans x6)).ext e6),ups S6 D (.lst (acc++[y])),acc++[y],?_,λ b o hb=>?_,sT,by simp;lia,?_]
   .show p6.ups e6 #[_,yf,zh.ext e6 _ (r6.snoc q6)]
   .rw[tm (by intro q;subst q;rw[Ju] at hb;cases hb)];show s6 _ _ (sx _ _ hb)
   .show wm _ S6 _ _ (λ b o hb q=>by rw[tm hb];show q) hW6
  .let#[s5,hW5]:=z5;show#[I.items.length-(i+1),⋯,rfl,hl,((x2.trans x3).trans a2).trans x5,hle.rep (a1.ext x5),S5,acc,p5,sx.trans s5,s5 _ _ Iw,⋯,hW5]
 .have e:i=I.items.length:=⋯;subst e;show .inl #[g2 (Aj _),IA S2 acc sx Iw hW _ H2 (by simp![zf]) (e1.trans x2) q2]
def VY (Sc:qN X N' pick scope) (hc:X.calm=true) (hi:uX X tg iter ti) (hg:∀ cl C s H fp,tU (yF X N' scope cl C s H fp) tg g) (hf:∀ cl C s H fp,mQ (yF X N' scope cl C s H fp) ifs GF) (he:∀ cl C s H fp,PD (yF X N' scope cl C s H fp) elt te)
  (hs:∀ x,foldedSetIterable iter X.env x=pure x):
  PD X (.ListComp elt [#[tg,iter,ifs,0]] scope pos) (rB pick ti g GF te):=
 #[rB.mo hi.mo,λ Ek s O H Q I hu=>W5 (g:=lL X.K g) (tc:=xM X.K GF) (te:=zw X.K te) Sc hc hi.pi (λ cl C s H fp=>(hg cl C s H fp).pg) (λ cl C s H fp=>(hf cl C s H fp).pf) (λ cl C s H fp=>(he cl C s H fp).pe) hs Ek s O H Q I (ZZ hi.mo (hg [] 0 s H []).mo (hf [] 0 s H []).mo (he [] 0 s H []).mo hu)]
end
end
section
variable {P:Program}{w:World}{K:Ab}{mg:Au}{base:Heap}{f:Addr}{fd:FuncData}
def cO {R:Rk} [Lo R] {x:Str}{st:Stmt}{N ps:List Str}{k n:Nat}{g:Sm}(F:vC K x x st f fd) (Sc:vE N ps (zC st)) (hn:n=ps.length)
  (ED:∀ (Ag:Value) (A:Around) (outer:List Env) (s:Shared) (H:Hp) (E:XK),zQ k (A.deeper (envOfC x (zC st) s.heap.objs.size f Ag))->
   ∃ t,wF (yE yv P w K mg base N x (zC st) f Ag A outer s H E).yW (yP st) t/\zX R g t):yL P w K mg base yv (k+1) f fd ps (uu K (zB R (zO N n g))):=
 QU F Sc (λ ds S Q h=>by rw[h.len,hn]) λ Ag A outer s H E hr=>by
  let#[t,h1,h2]:=ED Ag A outer s H E hr;show#[t,h1,λ ds S Q h=>bP h2 h]
def Pf {R:Rk} [Lo R] {x:Str}{st:Stmt}{N ps:List Str}{k n:Nat}{g:Sm}(F:vC K x x st f fd) (hm:mg x=↑(.ref f)) (Sc:vE N ps (zC st)) (hn:n=ps.length)
  (hb:∀ (kV doc pm:Value) (an:Option Addr) (Ag ct:Value) (us:Ad),us.length=ps.length->bindArgs (PySem.W.fnOf x x (vy st) (yP st) (zC st) .none kV doc pm an Ag ct) #[us,[]]=pure (ps.zip us))
  (ED:∀ (Ag:Value) (A:Around) (outer:List Env) (s:Shared) (H:Hp) (E:XK),zQ k (A.deeper (envOfC x (zC st) s.heap.objs.size f Ag))->
   ∃ t,wF (yE yv P w K mg base N x (zC st) f Ag A outer s H E).yW (yP st) t/\zX R g t):FD P w K mg base x (k+1) ps (zB R (zO N n g)):=
 #[#[f,fd,cO F Sc hn ED,hm,F.kp,F.binds hb],zB.mo]
def RY {R:Rk} [Sr R] {F:Ak}(hF:∀ ns:List Int,ns.length<=63->F [.lst (ns.map T.int)]=↑(.bl true)) {H:Hp}{a:Addr}{ns:List Int}{E:XK}(hO:mT H) (hS:zA K H a (ns.map V.int)) (hl:ns.length<=63):uu K (zB R F) [.ref a] H (λ v _=>v=.bl true) E:=by
 have hFz:qE K H a (ns.map V.int):=by
  rcases hS with (h | h) | h
  .rcases hO a with z | ⟨o,xs,z⟩
   .rw[h] at z;cases z
   .rw[h] at z;cases z
  .show .inl h
  .show .inr h
 exact#[[.y_ (ns.map D.int)],λ _=>none,.cons ?_ .nil,(λ a o z=>nomatch z),λ _=>False,[.lst (ns.map T.int)],.bl true,nofun,.cons ?_ .nil,hF ns hl,λ d S' s r v H' rv _ _=>?_]
 .simp![zf];show#[a,_,rfl,hFz,zh.kI ns]
 .simp![Sn];show#[_,.inl #[rfl,UZ ns],t4.mpr rfl]
 .have:=Sr.sn r;simp![Sn] at this;subst this;simpa only [zf] using rv
end
end L5
namespace ST
open PySem PySem.SetTable
def uC (xs:List Nat):Prop:=xs.Pairwise (· < ·)
def jk {xs:Array Nat}{m d:Nat}(h:m<xs.size):xs.getD m d=xs[m]:=by simp[Array.getD,h]
theorem jN (xs:Array Nat) (j:Nat) (hr:uC xs.toList):∀ (f lo hi:Nat),hi-lo<=f->lo<=hi->hi<=xs.size->(∀ i (h:i<xs.size),i<lo->xs[i]<j)->(∀ i (h:i<xs.size),hi<=i->j<=xs[i])->
  below.go xs j f lo hi<=xs.size/\(∀ i (h:i<xs.size),i<below.go xs j f lo hi->xs[i]<j)/\∀ i (h:i<xs.size),below.go xs j f lo hi<=i->j<=xs[i]
 | 0,lo,hi,h1,h2,h3,h4,h5=>by
  unfold below.go;have:lo=hi:=⋯;subst this;show#[h3,h4,h5]
 | f+1,lo,hi,h1,h2,h3,h4,h5=>by
  unfold below.go;have xW:∀ i k (hi:i<xs.size) (hk:k<xs.size),i<=k->xs[i]<=xs[k]:=λ i k hi hk Dz=>by
   rcases Br i k with q | q
   .have r:=CQ.mp hr i k (by exists hi) (by exists hk) q;rw[B9,B9] at r;show BA r
   .have:i=k:=⋯;subst this;show Aj _
  by_cases hl:lo<hi
  .rw[if_pos hl];dsimp only;have hm:(lo+hi)/2<xs.size:=⋯;rw[jk hm];by_cases c:xs[(lo+hi)/2]<j
   .rw[if_pos c];exact jN xs j hr f _ hi ⋯ ⋯ h3 (λ i FZ AE=>?_) h5;have:=xW i ((lo+hi)/2) FZ hm ⋯;lia
   .rw[if_neg c];exact jN xs j hr f lo _ ⋯ ⋯ ⋯ h4 (λ i FZ hge=>?_);have:=xW ((lo+hi)/2) i hm FZ hge;lia
  .rw[if_neg hl];have:lo=hi:=⋯;subst this;show#[h3,h4,h5]
def mG {xs:Array Nat}{j:Nat}(hr:uC xs.toList):below xs j<=xs.size/\(∀ i (h:i<xs.size),i<below xs j->xs[i]<j)/\∀ i (h:i<xs.size),below xs j<=i->j<=xs[i]:=
 jN xs j hr xs.size 0 xs.size ⋯ ⋯ (Aj _) (λ i h q=>⋯) (λ i h q=>⋯)
theorem below_at {xs:Array Nat}{j i:Nat}(hr:uC xs.toList) (h:xs[i]?=↑j):below xs j=i:=by
 let#[h1,h2,h3]:=mG (j:=j) hr;let#[hi,e]:=Array.getElem?_eq_some_iff.mp h;have a:¬ i<below xs j:=λ q=>by have:=h2 i hi q;lia
 have b:¬ below xs j<i:=λ q=>by
  have:=h3 (below xs j) ⋯ (Aj _);have r:=CQ.mp hr (below xs j) i (by simp;lia) (by exists hi) q;simp at r;lia
 lia
def O1 {xs:Array Nat}{j:Nat}(hr:uC xs.toList):(xs[below xs j]?=↑j)↔j∈xs.toList:=by
 constructor
 .intro h;let#[hi,e]:=Array.getElem?_eq_some_iff.mp h;rw[<- e];simp
 .intro h;let#[i,hi,e]:=B1.mp h;have hx:xs[i]?=↑j:=by
   simp at hi;simp[hi] at e ⊢;show e
  rw[below_at hr hx];show hx
def um (M:Nat) (p:Probe):Probe:=
 if p.more>0 then { p with j:=p.j+1,more:=p.more-1 } else
 let (i,perturb):=leap M p.i p.perturb
 { p with j:=i,more:=runEnd M i-i,i,perturb }
def jX (t:SetTable) (p:Probe):t.advance p=um t.mask p:=rfl
def qe (M i perturb:Nat):Probe:={ j:=i,more:=runEnd M i-i,i:=i,perturb:=perturb,dummy:=none }
def way (M:Nat) (h:Int):Nat->Probe
 | 0=>qe M (bits h%(M+1)) (bits h)
 | k+1=>um M (way M h k)
def OB (M:Nat) (p:Probe) (h:p.dummy=none):(um M p).dummy=none:=by
 unfold um;split
 .show h
 .show h
theorem lJ (M:Nat) (h:Int):∀ k,(way M h k).dummy=none
 | 0=>rfl
 | k+1=>OB M _ (lJ M h k)
def zJ (M:Nat) (h:Int):Nat->Nat×Nat
 | 0=>(bits h%(M+1),bits h)
 | n+1=>leap M (zJ M h n).1 (zJ M h n).2
theorem kc (M i pt:Nat) (h:Int) (k:Nat) (hk:way M h k=qe M i pt):∀ m,m<=runEnd M i-i->way M h (k+m)={ j:=i+m,more:=runEnd M i-i-m,i:=i,perturb:=pt,dummy:=none }
 | 0,_=>by rw[Nat.add_zero,hk];rfl
 | m+1,hm=>by
  have ih:=kc M i pt h k hk m ⋯;change um M (way M h (k+m))=_;rw[ih];unfold um;rw[if_pos (by change runEnd M i-i-m>0;lia)];simp![Probe.mk.injEq];show#[⋯,⋯,trivial,trivial,trivial]
def Xj (M i:Nat):runEnd M i-i<=9:=by unfold runEnd;split <;> lia
theorem gY (M:Nat) (h:Int) (n k:Nat) (hk:way M h k=qe M (zJ M h n).1 (zJ M h n).2):way M h (k+(runEnd M (zJ M h n).1-(zJ M h n).1)+1)=qe M (zJ M h (n+1)).1 (zJ M h (n+1)).2:=by
 have:=kc M _ _ h k hk _ (Aj _);change um M (way M h (k+_))=_;rw[this];unfold um;rw[if_neg (by change ¬ _-_-(_-_)>0;lia)];rfl
theorem g_ (M:Nat) (h:Int):∀ n,∃ k,k<=10*n/\way M h k=qe M (zJ M h n).1 (zJ M h n).2
 | 0=>#[0,⋯,rfl]
 | n+1=>by
  let#[k,h1,h2]:=g_ M h n;have:=Xj M (zJ M h n).1;show#[_,⋯,gY M h n k h2]
def Oz (h:Int):bits h<2 ^ 64:=by
 unfold bits;have h1:=Cz h (show (2 ^ 64:Int)≠0 by decide);have h2:=Cy h (show (0:Int)<2 ^ 64 by decide);lia
theorem eg (M:Nat) (h:Int):∀ n,(zJ M h n).2*32 ^ n<=bits h
 | 0=>by simp[zJ]
 | n+1=>by
  have ih:=eg M h n;change ((zJ M h n).2/32)*32 ^ (n+1)<=_;have:(zJ M h n).2/32*32<=(zJ M h n).2:=Nat.div_mul_le_self _ _
  calc (zJ M h n).2/32*32 ^ (n+1)=((zJ M h n).2/32*32)*32 ^ n:=by rw[Nat.pow_succ,Dk (32 ^ n) 32,Nat.mul_assoc]
   _<=(zJ M h n).2*32 ^ n:=CM _ this
   _<=_:=ih
theorem Wq (M:Nat) (h:Int) (n:Nat) (hn:13<=n):(zJ M h n).2=0:=by
 rcases Nat.eq_zero_or_pos (zJ M h n).2 with q | q
 .show q
 .have h1:=eg M h n;have h2:=Oz h;have h3:32 ^ 13<=32 ^ n:=Nat.pow_le_pow_right () hn;have h4:1*32 ^ n<=(zJ M h n).2*32 ^ n:=CM _ q;have h5:(2:Nat) ^ 64<32 ^ 13:=()
  lia
def t9 (M:Nat) (i:Nat):Nat->Nat
 | 0=>i
 | n+1=>(t9 M i n*5+1)%(M+1)
theorem d7 (M:Nat) (h:Int):∀ n,(zJ M h (13+n)).1=t9 M (zJ M h 13).1 n
 | 0=>rfl
 | n+1=>by
  have ih:=d7 M h n;have hz:=Wq M h (13+n) ⋯;change ((zJ M h (13+n)).1*5+1+(zJ M h (13+n)).2/32)%(M+1)=_;rw[hz,ih];rfl
theorem pE (M i:Nat):∀ a b,t9 M i (a+b)=t9 M (t9 M i a) b
 | a,0=>rfl
 | a,b+1=>by
  change (t9 M i (a+b)*5+1)%(M+1)=_;rw[pE M i a b];rfl
def pD (M:Nat):Nat->Nat->List Nat
 | 0,_=>[]
 | n+1,i=>i::pD M n ((i*5+1)%(M+1))
theorem kC (M:Nat):∀ n i x,x∈pD M n i->∃ k,k<n/\t9 M i k=x
 | 0,i,x,h=>by cases h
 | n+1,i,x,h=>by
  rcases Ao.mp h with e | e
  .show#[0,⋯,e.symm]
  .let#[k,h1,h2]:=kC M n _ x e;show#[k+1,⋯,by rw[Nat.add_comm,pE];show h2]
def vd (M:Nat):Prop:=M=7\/M=31\/M=127
theorem UG (M:Nat) (hM:vd M):(∀ e,e<=M->e∈pD M (M+1) 0)/\t9 M 0 (M+1)=0:=by
 have key:∀ M,((List.range (M+1)).all λ e=>(pD M (M+1) 0).contains e)=true->∀ e,e<=M->e∈pD M (M+1) 0:=λ M h e he=>by
  have:=A9.mp h e (A6.mpr ⋯);exists this
 rcases hM with rfl | rfl | rfl
 .show#[key 7 (AM),AM]
 .show#[key 31 (AM),AM]
 .show#[key 127 (AM),AM]
theorem UE (M:Nat) (hM:vd M) (i e:Nat) (hi:i<=M) (he:e<=M):∃ n,n<=M/\t9 M i n=e:=by
 let#[h1,h2]:=UG M hM;let#[a,a1,a2]:=kC M _ _ _ (h1 i hi);let#[b,b1,b2]:=kC M _ _ _ (h1 e he);rcases Br b a with q | q
 .exact#[M+1+b-a,⋯,?_];rw[<- a2,<- pE,show a+(M+1+b-a)=(M+1)+b by lia,pE,h2,b2]
 .exact#[b-a,⋯,?_];rw[<- a2,<- pE,show a+(b-a)=b by lia,b2]
theorem RP (M:Nat) (h:Int):∀ n,(zJ M h n).1<=M
 | 0=>by have:=CL (bits h) (show 0<M+1 by lia);change bits h%(M+1)<=M;lia
 | n+1=>by
  have:=CL ((zJ M h n).1*5+1+(zJ M h n).2/32) (show 0<M+1 by lia);change (_%(M+1):Nat)<=M;lia
theorem dA (M:Nat) (hM:vd M) (h:Int) (e:Nat) (he:e<=M):∃ n,n<M+14/\(zJ M h n).1=e:=by
 let#[n,h1,h2]:=UE M hM (zJ M h 13).1 e (RP M h 13) he;show#[13+n,⋯,by rw[d7,h2]]
theorem ZR (M:Nat) (hM:vd M) (h:Int) (e:Nat) (he:e<=M):∃ k,k<10*(M+15)/\(way M h k).j=e:=by
 let#[n,h1,h2]:=dA M hM h e he;let#[k,k1,k2]:=g_ M h n;show#[k,⋯,by rw[k2];show h2]
theorem h_ (M:Nat) (h:Int):∀ k,(way M h k).j+(way M h k).more<=M/\(way M h k).i<=M
 | 0=>by
  have h1:bits h%(M+1)<=M:=by have:=CL (bits h) (show 0<M+1 by lia);lia
  exact#[?_,h1];change bits h%(M+1)+(runEnd M (bits h%(M+1))-bits h%(M+1))<=M;unfold runEnd;split <;> lia
 | k+1=>by
  let#[h1,h2]:=h_ M h k;change (um M (way M h k)).j+(um M (way M h k)).more<=M/\(um M (way M h k)).i<=M;unfold um;split
  .rename_i c;show#[by change (way M h k).j+1+((way M h k).more-1)<=M;lia,h2]
  .have h3:((way M h k).i*5+1+(way M h k).perturb/32)%(M+1)<=M:=by have:=CL ((way M h k).i*5+1+(way M h k).perturb/32) (show 0<M+1 by lia);lia
   exact#[?_,h3];change _%(M+1)+(runEnd M (_%(M+1))-_%(M+1))<=M;unfold runEnd;split <;> lia
def lI (M:Nat) (h:Int) (k:Nat):(way M h k).j<=M:=by have:=(h_ M h k).1;lia
structure Tab (t:SetTable) (hs:List Int):Prop where
 mask:vd t.mask
 su:t.dummies=[].toArray
 len:t.place.size=hs.length
 xW:uC t.place.toList
 top:∀ j∈t.place.toList,j<=t.mask
 ph:∀ (i:Nat) h j,hs[i]?=↑h->t.place[i]?=↑j->∃ k,(way t.mask h k).j=j/\∀ k'<k,(way t.mask h k').j∈t.place.toList
theorem Tab.live {t:SetTable}{hs:List Int}(T:Tab t hs) {i j:Nat}(h:t.place[i]?=↑j):t.slot j=.live i:=by
 unfold SetTable.slot;dsimp only;rw[below_at T.xW h,if_pos (by rw[h];simp)]
theorem Tab.empty {t:SetTable}{hs:List Int}(T:Tab t hs) {j:Nat}(h:j∉t.place.toList):t.slot j=.empty:=by
 unfold SetTable.slot;dsimp only;have n1:¬ (t.place[below t.place j]? == ↑j)=true:=λ q=>h ((O1 T.xW).mp (by exists q));rw[if_neg n1,if_neg (by rw[T.su];simp[has])]
theorem Tab.at {t:SetTable}{hs:List Int}(T:Tab t hs) {j:Nat}(h:j∈t.place.toList):∃ (i:Nat) (g:Int),t.place[i]?=↑j/\hs[i]?=↑g:=by
 let#[i,hi,e]:=B1.mp h;have FZ:i<t.place.size:=by exists hi
 exact#[i,hs[i]'(by rw[<- T.len];show FZ),?_,#[]];rw[Bm FZ];rw[B9] at e;rw[e]
theorem c8 {t:SetTable}{hs:List Int}(T:Tab t hs) {hashAt:Nat->Int}(hA:∀ (i:Nat) g,hs[i]?=↑g->hashAt i=g) (h:Int):∀ (f k:Nat),(∃ e,k<=e/\e<k+f/\(way t.mask h e).j∉t.place.toList)->
  ∃ k1,k<=k1/\(∀ m,k<=m->m<k1->∃ (i:Nat) (g:Int),t.place[i]?=↑(way t.mask h m).j/\hs[i]?=↑g/\g≠h)/\
   ((way t.mask h k1).j∉t.place.toList/\probe.go t hashAt h f (way t.mask h k)=↑(.empty (way t.mask h k1).j none)\/
    ∃ i,t.place[i]?=↑(way t.mask h k1).j/\hs[i]?=↑h/\probe.go t hashAt h f (way t.mask h k)=↑(.candidate (way t.mask h k1).j i (way t.mask h (k1+1))))
 | 0,k,#[e,h1,h2,_]=>⋯
 | f+1,k,#[e,h1,h2,h3]=>by
  by_cases hm:(way t.mask h k).j∈t.place.toList
  .let#[i,g,p1,p2]:=T.at hm;by_cases hg:g=h
   .exact#[k,Aj _,λ m a b=>⋯,.inr #[i,p1,by rw[<- hg];show p2,?_]];unfold probe.go;rw[T.live p1];dsimp only;rw[hA i g p2,if_pos (by simp[hg]),jX];rfl
   .have Aw:e≠k:=λ q=>by subst q;show h3 hm
    let#[k1,q1,q2,q3]:=c8 T hA h f (k+1) #[e,⋯,⋯,h3];have eq:probe.go t hashAt h (f+1) (way t.mask h k)=probe.go t hashAt h f (way t.mask h (k+1)):=by
     conv=>lhs;unfold probe.go
     rw[T.live p1];dsimp only;rw[hA i g p2,if_neg (by simp[hg]),jX];rfl
    rw[eq];exact#[k1,⋯,λ m a b=>?_,q3];rcases Nat.eq_or_lt_of_le a with w | w
    .subst w;show#[i,g,p1,p2,hg]
    .show q2 m w b
  .exact#[k,Aj _,λ m a b=>⋯,.inl #[hm,?_]];unfold probe.go;rw[T.empty hm,lJ]
def dg {xs ys:List Nat}(hx:xs.Nodup) (h:∀ x∈xs,x∈ys):xs.length<=ys.length:=by
 induction xs generalizing ys with
 | nil=>simp
 | cons x xs ih=>
  have h1:=Bj.mp hx;have hxy:=h x Az;have:=ih h1.2 (ys:=ys.erase x) λ z hz=>by
   have Aw:z≠x:=λ e=>h1.1 (e▸hz);show (List.mem_erase_of_ne Aw).mpr (h z (AG _ hz))
  rw[List.length_erase_of_mem hxy] at this;have hp:=List.length_pos_of_mem hxy;simp![Ba];lia
theorem least {P:Nat->Prop}(k:Nat) (h:P k):∃ m,m<=k/\P m/\∀ m'<m,¬ P m':=by
 induction k using Nat.strongRecOn with
 | ind k ih=>
  rcases Classical.em (∃ m',m'<k/\P m') with ⟨m',h1,h2⟩ | q
  .let#[m,g1,g2]:=ih m' h1 h2;show#[m,⋯,g2]
  .show#[k,Aj _,h,λ m' hm hp=>q #[m',hm,hp]]
theorem QV {xs:List Nat}{M:Nat}(h:xs.length<=M):∃ e,e<=M/\e∉xs:=by
 rcases Classical.em (∃ e,e<=M/\e∉xs) with q | q
 .show q
 .have:=dg (xs:=List.range (M+1)) (ys:=xs) DP λ e he=>by
   have:=A6.mp he;rcases Classical.em (e∈xs) with w | w
   .show w
   .show absurd #[e,⋯,w] q
  simp at this;lia
def iw (t:SetTable) (h:Int) (j:Nat):Prop:=j∉t.place.toList/\∃ k,(way t.mask h k).j=j/\∀ k'<k,(way t.mask h k').j∈t.place.toList
theorem Tab.first {t:SetTable}{hs:List Int}(T:Tab t hs) (hl:hs.length<=t.mask) (h:Int):∃ K,K<10*(t.mask+15)/\(way t.mask h K).j∉t.place.toList/\∀ k'<K,(way t.mask h k').j∈t.place.toList:=by
 let#[e,e1,e2]:=QV (xs:=t.place.toList) (M:=t.mask) (by rw[Bl,T.len];show hl);let#[k,k1,k2]:=ZR t.mask T.mask h e e1;let#[K,q1,q2,q3]:=least (P:=λ n=>(way t.mask h n).j∉t.place.toList) k (by rw[k2];show e2);show#[K,⋯,q2,λ k' hk=>Classical.not_not.mp (q3 k' hk)]
def Xo {xs:List Nat}{j p:Nat}(h:uC xs) (h1:∀ x∈xs.take p,x<j) (h2:∀ x∈xs.drop p,j<x):uC (xs.take p++j::xs.drop p):=by
 exact List.pairwise_append.mpr #[h.sublist (List.take_sublist _ _),B_.mpr #[h2,h.sublist (List.drop_sublist _ _)],λ a ha b hb=>?_];rcases Ao.mp hb with e | e
 .subst e;show h1 a ha
 .have:=h1 a ha;have:=h2 b e;lia
theorem cp {α:Type}{xs:List α}{p i:Nat}{x y:α}(hp:p<=xs.length) (h:(xs.take p++x::xs.drop p)[i]?=↑y):(i=p/\y=x)\/(i<p/\xs[i]?=↑y)\/(p<i/\xs[i-1]?=↑y):=by
 have hl:(xs.take p).length=p:=by rw[Cv];lia
 rcases CK i p with q | q | q
 .rw[Ca ⋯,List.getElem?_take,if_pos q] at h;show .inr (.inl #[q,h])
 .subst q;rw[CV ⋯,hl] at h;simp at h;show .inl #[rfl,h.symm]
 .rw[CV ⋯,hl] at h;obtain⟨d,hd⟩:∃ d,i-p=d+1:=#[i-p-1,⋯];rw[hd] at h;simp![List.getElem?_cons_succ,List.getElem?_drop] at h;exact .inr (.inr #[q,?_]);rw[show i-1=p+d by lia];show h
theorem Tab.put {t:SetTable}{hs:List Int}(T:Tab t hs) {h:Int}{j:Nat}(F:iw t h j):
  (t.put j).2<=hs.length/\(t.put j).1={ t with place:=insertAt t.place (t.put j).2 j }/\Tab (t.put j).1 (hs.take (t.put j).2++h::hs.drop (t.put j).2):=by
 let#[b1,b2,b3]:=mG (xs:=t.place) (j:=j) T.xW;let#[fn,K,k1,k2]:=F;have e2:(t.put j).2=below t.place j:=rfl;have e1:(t.put j).1={ t with place:=insertAt t.place (t.put j).2 j }:=by
  change ({ t with place:=insertAt t.place (below t.place j) j,dummies:=_ }:SetTable)=_;rw[if_neg (by rw[T.su];simp[has]),e2]
 have pl:(insertAt t.place (below t.place j) j).toList=t.place.toList.take (below t.place j)++j::t.place.toList.drop (below t.place j):=toList_insertAt _ _ _;have old:∀ x∈t.place.toList,x∈(insertAt t.place (below t.place j) j).toList:=λ x hx=>by
  rw[pl];have:=B8 (below t.place j) t.place.toList;rw[<- this] at hx;rcases AV.mp hx with q | q
  .show CY _ q
  .show Bb _ (AG _ q)
 rw[e2] at e1 ⊢;exact#[by rw[<- T.len];show b1,e1,?_];rw[e1];exact#[T.mask,T.su,?_,?_,?_,?_]
 .change (insertAt t.place (below t.place j) j).size=_;rw[<- Bl,pl];simp[T.len]
 .change uC (insertAt t.place (below t.place j) j).toList;rw[pl];exact Xo T.xW (λ x hx=>?_) (λ x hx=>?_)
  .let#[i,hi,e]:=B1.mp hx;rw[Cv] at hi;rw[List.getElem_take,B9] at e;rw[<- e];show b2 i (by simp at hi;lia) ⋯
  .let#[i,hi,e]:=B1.mp hx;rw[BU] at hi;rw[List.getElem_drop,B9] at e;have h3:=b3 (below t.place j+i) (by simp at hi;lia) ⋯;have hm:x∈t.place.toList:=DN hx;have Aw:x≠j:=λ q=>fn (q▸hm);lia
 .intro x hx;change x<=t.mask;have hx:x∈(insertAt t.place (below t.place j) j).toList:=hx;rw[pl] at hx;rcases AV.mp hx with q | q
  .show T.top x (List.mem_of_mem_take q)
  .rcases Ao.mp q with e | e
   .subst e;rw[<- k1];show lI _ _ _
   .show T.top x (DN e)
 .intro i g x hg hx;change ∃ k,(way t.mask g k).j=x/\∀ k'<k,(way t.mask g k').j∈(insertAt t.place (below t.place j) j).toList;have hx:(insertAt t.place (below t.place j) j)[i]?=↑x:=hx;rw[<- BB,pl] at hx;have Ap:below t.place j<=t.place.toList.length:=by exists b1
  have D4:below t.place j<=hs.length:=by rw[<- T.len];show b1
  rcases cp Ap hx with ⟨c1,c2⟩ | ⟨c1,c2⟩ | ⟨c1,c2⟩ <;> rcases cp D4 hg with ⟨d1,d2⟩ | ⟨d1,d2⟩ | ⟨d1,d2⟩ <;> first
   | lia
   | (subst c2 d2;show#[K,k1,λ k' hk=>old _ (k2 k' hk)])
   | (let#[k,g1,g2]:=T.ph _ g x d2 (by rw[<- BB];show c2)
      show#[k,g1,λ k' hk=>old _ (g2 k' hk)])
def sH (owner:Array (Option Nat)) (j:Nat):Prop:=∃ k,owner[j]?=↑↑k
theorem Pa {P:Nat->Bool}{n k:Nat}(h:(List.range n).find? P=↑k):k<n/\P k=true/\∀ k'<k,P k'=false:=by
 let#[h1,as,bs,h2,h3]:=List.find?_eq_some_iff_append.mp h;have hlen:as.length=k:=by
  have e:(List.range n)[as.length]?=↑k:=by rw[h2];simp
  have:=(A1.mp e)
  let#[q1,q2]:=this;rw[List.getElem_range] at q2;show q2
 have hk:k<n:=by
  have:k∈List.range n:=by rw[h2];simp
  show A6.mp this
 exact#[hk,h1,λ k' Gp=>?_];have:k'∈as:=by
  have e:(List.range n)[k']?=↑k':=List.getElem?_range ⋯;rw[h2,Ca ⋯] at e;show BH e
 have:=h3 k' this;exists this
def getD_none {owner:Array (Option Nat)}{j:Nat}(h:((owner.getD j ↑0).isNone)=true):owner[j]?=↑none:=by
 unfold Array.getD at h;split at h
 .rename_i hj;have e:owner[j]=none:=by exists h
  rw[Bm hj,e]
 .simp at h
def cA {owner:Array (Option Nat)}{j:Nat}(hj:j<owner.size) (h:((owner.getD j ↑0).isNone)=false):sH owner j:=by
 unfold Array.getD at h;rw[dif_pos hj] at h;cases q:owner[j] with
 | none=>simp[q] at h
 | some k=>show#[k,by rw[Bm hj,q]]
theorem cG (M:Nat) (owner:Array (Option Nat)) (AH:owner.size=M+1) (h:Int):∀ (fuel n kn:Nat),way M h kn=qe M (zJ M h n).1 (zJ M h n).2->(∀ q<kn,sH owner (way M h q).j)->
  (∃ n',n<=n'/\n'<n+fuel/\owner[(zJ M h n').1]?=↑none)->
  ∃ j q,layClean.free M owner fuel (zJ M h n).1 (zJ M h n).2=↑j/\(way M h q).j=j/\owner[j]?=↑none/\∀ q'<q,sH owner (way M h q').j
 | 0,n,kn,_,_,#[n',h1,h2,_]=>⋯
 | fuel+1,n,kn,hk,ho,#[n',h1,h2,h3]=>by
  have hre:runEnd M (zJ M h n).1+1-(zJ M h n).1=runEnd M (zJ M h n).1-(zJ M h n).1+1:=by unfold runEnd;split <;> lia
  have Ge:∀ m,m<=runEnd M (zJ M h n).1-(zJ M h n).1->(way M h (kn+m)).j=(zJ M h n).1+m:=λ m hm=>by rw[kc M _ _ h kn hk m hm]
  unfold layClean.free;cases hf:(List.range (runEnd M (zJ M h n).1+1-(zJ M h n).1)).find? (λ k=>(owner.getD ((zJ M h n).1+k) ↑0).isNone) with
  | some k=>
   let#[f1,f2,f3]:=Pa hf;exact#[_,kn+k,rfl,Ge k ⋯,getD_none f2,λ q' hq=>?_];rcases Br q' kn with w | w
   .show ho q' w
   .have e:(way M h q').j=(zJ M h n).1+(q'-kn):=by
     have:=Ge (q'-kn) ⋯
     rwa [show kn+(q'-kn)=q' by lia] at this
    have hle:=lI M h q';rw[e] at hle ⊢;show cA ⋯ (f3 (q'-kn) ⋯)
  | none=>
   have f3:=List.find?_eq_none.mp hf;have occ:∀ m,m<=runEnd M (zJ M h n).1-(zJ M h n).1->sH owner ((zJ M h n).1+m):=λ m hm=>by
    have hle:=lI M h (kn+m);rw[Ge m hm] at hle;show cA ⋯ (Bool.eq_false_iff.mpr (f3 m (A6.mpr ⋯)))
   have Aw:n'≠n:=λ e=>by
    subst e;let#[k,Gp]:=occ 0 (AZ _);rw[Nat.add_zero] at Gp;rw[Gp] at h3;cases h3
   dsimp only;let#[j,q,r1,r2]:=cG M owner AH h fuel (n+1) _ (gY M h n kn hk) (λ q hq=>by
    rcases Br q kn with w | w
    .show ho q w
    .have e:=Ge (q-kn) ⋯;rw[show kn+(q-kn)=q by lia] at e;rw[e];show occ _ ⋯) #[n',⋯,⋯,h3]
   show#[j,q,r1,r2]
structure Lay (M:Nat) (hs:List Int) (owner:Array (Option Nat)) (m:Nat):Prop where
 size:owner.size=M+1
 below:∀ (j k:Nat),owner[j]?=↑↑k->k<m
 each:∀ (k:Nat),k<m->∃ (j:Nat),owner[j]?=↑↑k
 once:∀ (i j k:Nat),owner[i]?=↑↑k->owner[j]?=↑↑k->i=j
 ph:∀ (j k:Nat) h,owner[j]?=↑↑k->hs[k]?=↑h->∃ q,(way M h q).j=j/\∀ q'<q,sH owner (way M h q').j
theorem Lay.none {M:Nat}(hM:vd M) {hs:List Int}{owner:Array (Option Nat)}{m:Nat}(L:Lay M hs owner m) (hm:m<=M):∃ (e:Nat),e<=M/\owner[e]?=↑Option.none:=by
 rcases Classical.em (∃ (e:Nat),e<=M/\owner[e]?=↑Option.none) with q | q
 .show q
 .exfalso;have AN:∀ (e:Nat),e<=M->∃ (k:Nat),owner[e]?=↑↑k:=λ e he=>by
   have AE:e<owner.size:=by rw[L.size];lia
   cases w:owner[e] with
   | none=>show absurd #[e,he,by rw[Bm AE,w]] q
   | some k=>show#[k,by rw[Bm AE,w]]
  have:=dg (xs:=(List.range (M+1)).map λ e=>((owner[e]?).getD Option.none).getD 0) (ys:=List.range m) (by
   exact Dn.mpr (List.Pairwise.imp_of_mem ?_ DP);intro a b ha hb Aw e;exact Aw ?_;let#[k,hk]:=AN a (by have:=A6.mp ha;lia);let#[k',Gp]:=AN b (by have:=A6.mp hb;lia);rw[hk,Gp] at e;simp at e;subst e;show L.once a b k hk Gp) (λ x hx=>by
   let#[e,he,rfl]:=AA.mp hx;let#[k,hk]:=AN e (by have:=A6.mp he;lia);rw[hk];show A6.mpr (L.below e k hk))
  simp at this;lia
def nJ {α:Type}{xs:Array α}{j i:Nat}{a b:α}(h:(xs.setIfInBounds j a)[i]?=↑b):(i=j/\b=a)\/(i≠j/\xs[i]?=↑b):=by
 rw[Dj] at h;by_cases e:j=i
 .subst e;rw[if_pos rfl] at h;split at h
  .cases h;show .inl #[rfl,rfl]
  .cases h
 .rw[if_neg e] at h;show .inr #[λ q=>e q.symm,h]
def Lay.step {M:Nat}(hM:vd M) {hs:List Int}{owner:Array (Option Nat)}{m:Nat}{h:Int}(L:Lay M hs owner m) (hm:m<=M) (hh:hs[m]?=↑h):
  ∃ j,layClean.free M owner (turns M) (bits h%(M+1)) (bits h)=↑j/\Lay M hs (owner.setIfInBounds j ↑m) (m+1):=by
 let#[e,e1,e2]:=L.none hM hm;let#[n',n1,n2]:=dA M hM h e e1;let#[j,q,r1,r2,r3,r4]:=cG M owner L.size h (turns M) 0 0 rfl (λ q hq=>⋯) #[n',⋯,by unfold turns;lia,by rw[n2];show e2];have hj:j<owner.size:=(Array.getElem?_eq_some_iff.mp r3).1;have keep:∀ x,sH owner x->sH (owner.setIfInBounds j ↑m) x:=λ x #[k,hk]=>by
  have Aw:j≠x:=λ w=>by subst w;rw[r3] at hk;cases hk
  show#[k,by rw[Dj,if_neg Aw];show hk]
 have self:(owner.setIfInBounds j ↑m)[j]?=↑↑m:=by rw[Dj,if_pos rfl,if_pos hj]
 exact#[j,r1,#[by simp[L.size],λ x k hx=>?_,λ k hk=>?_,λ x y k hx hy=>?_,λ x k g hx hg=>?_]]
 .rcases nJ hx with ⟨_,w⟩ | ⟨_,w⟩
  .cases w;lia
  .have:=L.below x k w;lia
 .rcases Br k m with w | w
  .let#[x,hx]:=L.each k w;have Aw:j≠x:=λ w=>by subst w;rw[r3] at hx;cases hx
   show#[x,by rw[Dj,if_neg Aw];show hx]
  .have:k=m:=⋯;subst this;show#[j,self]
 .rcases nJ hx with ⟨w1,w⟩ | ⟨w1,w⟩ <;> rcases nJ hy with ⟨v1,v⟩ | ⟨v1,v⟩
  .lia
  .cases w;have:=L.below y _ v;lia
  .cases v;have:=L.below x _ w;lia
  .show L.once x y k w v
 .rcases nJ hx with ⟨w1,w⟩ | ⟨w1,w⟩
  .cases w;rw[hh] at hg;cases hg;subst w1;show#[q,r2,λ q' hq=>keep _ (r4 q' hq)]
  .let#[q,g1,g2]:=L.ph x k g w hg;show#[q,g1,λ q' hq=>keep _ (g2 q' hq)]
theorem dB {M:Nat}(hM:vd M) {hs:List Int}(hl:hs.length<=M+1):∀ (En:List Int) (owner:Array (Option Nat)) (m:Nat),m<=hs.length->hs.drop m=En->Lay M hs owner m->
  ∃ Gu,En.foldl (λ acc h=>do
   let (owner,k) <- acc
   let j <- layClean.free M owner (turns M) (bits h%(M+1)) (bits h)
   pure (owner.setIfInBounds j ↑k,k+1)) ↑(owner,m)=↑(Gu,hs.length)/\Lay M hs Gu hs.length
 | [],owner,m,hl2,hd,L=>by
  have hm:hs.length<=m:=List.drop_eq_nil_iff.mp hd;have e:m=hs.length:=⋯;subst e;show#[owner,rfl,L]
 | h::En,owner,m,hl2,hd,L=>by
  have hm:hs[m]?=↑h:=by
   have:=congrArg (λ l=>l[0]?) hd;exists this
  have AE:m<hs.length:=(A1.mp hm).1;let#[j,j1,j2]:=L.step hM ⋯ hm;have GN:hs.drop (m+1)=En:=by
   have:=congrArg List.tail hd;exists this
  let#[o',h1,h2]:=dB hM hl En _ (m+1) ⋯ GN j2;exact#[o',?_,h2];rw[Cr,<- h1];change _=_;congr 1;change ((layClean.free M owner (turns M) (bits h%(M+1)) (bits h)).bind λ j=>↑(owner.setIfInBounds j ↑m,m+1))=_;rw[j1];rfl
theorem RT (M:Nat) (hs:List Int):Lay M hs (Array.replicate (M+1) Option.none) 0:=by
 have no:∀ (j k:Nat),(Array.replicate (M+1) (Option.none:Option Nat))[j]?≠↑↑k:=λ j k h=>by
  rw[Array.getElem?_replicate] at h;split at h <;> cases h
 show#[#[],λ j k h=>absurd h (no j k),λ k hk=>⋯,λ i j k h=>absurd h (no i k),λ j k h e=>absurd e (no j k)]
theorem RU {M:Nat}(hM:vd M) (hashes:Array Int) (hl:hashes.size<=M+1):∃ owner,layClean M hashes=↑owner/\Lay M hashes.toList owner hashes.size:=by
 let#[o,h1,h2]:=dB hM (hs:=hashes.toList) (by exists hl) hashes.toList _ 0 (AZ _) #[] (RT M _);exact#[o,?_,by exists h2];unfold layClean;rw[<- Array.foldl_toList,h1];rfl
def lives (M:Nat) (owner:Array (Option Nat)):List (Nat×Nat):=(List.range (M+1)).filterMap λ j=>(owner.getD j Option.none).map (j,·)
theorem getD_some {owner:Array (Option Nat)}{j k:Nat}:owner.getD j Option.none=↑k↔owner[j]?=↑↑k:=by
 unfold Array.getD;split
 .rename_i h;rw[Bm h];simp
 .rename_i h;rw[Cp ⋯];simp
theorem rp {M:Nat}{owner:Array (Option Nat)}(hs:owner.size=M+1) {j k:Nat}:(j,k)∈lives M owner↔owner[j]?=↑↑k:=by
 unfold lives;rw[Cw];constructor
 .rintro⟨x,hx,e⟩;let#[y,e1,e2]:=AO.mp e;cases e2;show getD_some.mp e1
 .intro h;have hj:=(Array.getElem?_eq_some_iff.mp h).1;show#[j,A6.mpr ⋯,by rw[getD_some.mpr h];rfl]
def d6 (M:Nat) (owner:Array (Option Nat)):(lives M owner).Pairwise λ a b=>a.1<b.1:=by
 unfold lives;rw[List.pairwise_filterMap];exact List.Pairwise.imp ?_ List.pairwise_lt_range;intro a b CG x hx y hy;let#[_,_,e1]:=AO.mp hx;let#[_,_,e2]:=AO.mp hy;subst e1 e2;show CG
def dE {M:Nat}(hM:vd M) (finger moves:Nat) (led plain:Bool) (hashes:Array Int) (hl:hashes.size<=M+1):
  ∃ t order,laid M finger moves led plain hashes=↑(t,order)/\t.mask=M/\t.finger=finger/\t.led=led/\t.plain=plain/\order.toList.Perm (List.range hashes.size)/\Tab t (order.toList.map λ k=>hashes.toList.getD k 0):=by
 let#[owner,h1,L]:=RU hM hashes hl;exact#[_,_,by unfold laid;rw[h1];rfl,rfl,rfl,rfl,rfl,?_,?_]
 .change ((lives M owner).map (·.2)).toArray.toList.Perm _;rw[CJ];exact (DM ?_ DP).mpr λ k=>?_
  .exact Dn.mpr (List.Pairwise.imp_of_mem ?_ (d6 M owner));intro a b ha hb CG e;have h2:=(rp L.size (j:=a.1) (k:=a.2)).mp ha;have h3:=(rp L.size (j:=b.1) (k:=b.2)).mp hb;have e:a.2=b.2:=e;rw[e] at h2;have:=L.once _ _ _ h2 h3;lia
  .rw[A6];constructor
   .intro h;let#[#[j,k'],h2,rfl]:=AA.mp h;show L.below j _ ((rp L.size).mp h2)
   .intro h;let#[j,hj]:=L.each k h;show AA.mpr #[(j,k),(rp L.size).mpr hj,rfl]
 .have pl:∀ x,x∈(lives M owner).map (·.1)↔sH owner x:=λ x=>by
   constructor
   .intro h;let#[#[j,k],h2,rfl]:=AA.mp h;show#[k,(rp L.size).mp h2]
   .rintro⟨k,hk⟩;show AA.mpr #[(x,k),(rp L.size).mpr hk,rfl]
  exact#[hM,rfl,?_,?_,?_,?_]
  .change ((lives M owner).map (·.1)).toArray.size=(((lives M owner).map (·.2)).toArray.toList.map _).length;simp
  .change uC ((lives M owner).map (·.1)).toArray.toList;rw[CJ];show Dn.mpr (d6 M owner)
  .intro x hx;change x<=M;have hx:x∈((lives M owner).map (·.1)).toArray.toList:=hx;rw[CJ] at hx;let#[k,hk]:=(pl x).mp hx;have:=(Array.getElem?_eq_some_iff.mp hk).1;rw[L.size] at this;lia
  .intro i g x hg hx;have hx:((lives M owner).map (·.1)).toArray[i]?=↑x:=hx;have hg:(((lives M owner).map (·.2)).toArray.toList.map λ k=>hashes.toList.getD k 0)[i]?=↑g:=hg;rw[List.getElem?_toArray,A0] at hx;rw[CJ,A0,A0] at hg;let#[p,p1,p2]:=AO.mp hx;rw[p1] at hg;simp![Option.map_some,Option.some.injEq] at hg;let#[j,k]:=p;cases p2;have hm:=(rp L.size).mp (BH p1);have hk:=L.below _ _ hm;let#[q,q1,q2]:=L.ph _ k g hm (by rw[<- hg];simp[hk]);exact#[q,q1,λ q' hq=>?_];change _∈((lives M owner).map (·.1)).toArray.toList;rw[CJ];show (pl _).mpr (q2 q' hq)
section
variable {prog:Program}{w:World}{A:Around}{E:Af}{s:Shared}
abbrev rk (prog:Program) (w:World):HeapKind prog w (List Int):=tupleKind (intKind prog w)
def items_int {ks:List Int}{vs:Ad}(h:ItemsAre (intKind prog w) ks vs):∀ v∈vs,∃ n t,v=.int n t:=by
 induction h with
 | nil=>intro v hv;cases hv
 | cons h1 _ ih=>
  intro v hv;rcases Ao.mp hv with rfl | hv
  .let#[t,e]:=Value.isInt_shape h1;show#[_,t,e]
  .show ih v hv
def dh {ks:List Int}{a:Addr}{Q:Bool->Shared->Prop}(hk:IsTupleKey (intKind prog w) s.heap ks a) (h:Q false s):wpAny (model prog w) A (ofAClassStatement 8 (.ref a)) Q E s:=by
 have hT:=hk.typeIs;let#[o,items,n,ho,_,hd,hi]:=hk;unfold ofAClassStatement;exact IC (JX hT ?_);change wpAny _ _ (pure true >>= _) _ _ s;exact IC (Ac ?_);simp![CC,Bi,if_false];exact IC (JU ho hd ?_);dsimp only;exact IC ?_;change wpAny _ _ (forIn items _ _) _ _ s;rw[<- Array.forIn_toList];exact wpAny_forIn_list _ (λ En r s'=>r.1=none/\s'=s/\∀ v∈En,∃ n t,v=.int n t) _ ?_ ?_ _ _ #[rfl,rfl,items_int hi]
 .rintro v En r s' ⟨hr,rfl,AN⟩;let#[m,t,rfl]:=AN v Az;change wpAny _ _ (pure false >>= _) _ _ _;exact IC (Ac ?_);simp![Bi,if_false];show Ac #[rfl,rfl,λ u hu=>AN u (AG _ hu)]
 .rintro⟨r1,r2⟩ s' ⟨hr,rfl,_⟩;simp only at hr;subst hr;show Ac h
def QB {ks:List Int}{a:Addr}{Q:Bool->Shared->Prop}(hk:IsTupleKey (intKind prog w) s.heap ks a) (h:Q true s):wpAny (model prog w) A (hashByValue 8 (.ref a)) Q E s:=by
 have hT:=hk.typeIs;let#[o,items,n,ho,_,hd,hi]:=hk;unfold hashByValue;exact IC (wpAny_specialOf hT F.slot_tuple_hash.lookup ?_);dsimp only;exact IC (JU ho hd ?_);exact IC ?_;change wpAny _ _ (forIn items _ _) _ _ s;rw[<- Array.forIn_toList];exact wpAny_forIn_list _ (λ En r s'=>r.1=none/\s'=s/\∀ v∈En,∃ n t,v=.int n t) _ ?_ ?_ _ _ #[rfl,rfl,items_int hi]
 .rintro v En r s' ⟨hr,rfl,AN⟩;let#[m,t,rfl]:=AN v Az;change wpAny _ _ (pure true >>= _) _ _ _;exact IC (Ac ?_);simp![CC,Bi,if_false];show Ac #[rfl,rfl,λ u hu=>AN u (AG _ hu)]
 .rintro⟨r1,r2⟩ s' ⟨hr,rfl,_⟩;simp only at hr;subst hr;show Ac h
def Ya {ks:List Int}{b:Addr}{Q:Bool->Shared->Prop}(hk:IsTupleKey (intKind prog w) s.heap ks b) (l:Ad) (hl:∀ v∈l,∃ k c,v=.ref c/\IsTupleKey (intKind prog w) s.heap k c) (h:Q false s):
  wpAny (model prog w) A (searchCouldBeSeen (.ref b) l) Q E s:=by
 unfold searchCouldBeSeen;exact IC ?_;exact wpAny_forIn_list _ (λ En r s'=>r.1=none/\s'=s/\∀ v∈En,∃ k c,v=.ref c/\IsTupleKey (intKind prog w) s.heap k c) _ ?_ ?_ _ _ #[rfl,rfl,hl]
 .rintro v En r s' ⟨hr,rfl,AN⟩;let#[k,c,rfl,hc]:=AN v Az;have GU:∀ u∈En,∃ k c,u=Value.ref c/\IsTupleKey (intKind prog w) s'.heap k c:=λ u hu=>AN u (AG _ hu);dsimp only;by_cases e:(b == c||(carriedByValue (.ref b)&&carriedByValue (.ref c)))=true
  .rw[if_pos e];show Ac #[rfl,rfl,GU]
  .rw[if_neg e];exact IC ((rk prog w).quiet hk ?_);simp![CC,Bi,if_false];exact IC ((rk prog w).quiet hc ?_);simp![CC,Bi,if_false];exact IC (dh hk ?_);simp![Bi,if_false];exact IC (dh hc ?_);simp![Bi,if_false];show Ac #[rfl,rfl,GU]
 .rintro⟨r1,r2⟩ s' ⟨hr,rfl,_⟩;simp only at hr;subst hr;show Ac h
structure sQ (h:Heap) (es:Array (Int×Value)) (t:SetTable) (xs:List (List Int×Addr)):Prop where
 es:es.toList=xs.map λ e=>((rk prog w).hash e.1,Value.ref e.2)
 is:∀ e∈xs,IsTupleKey (intKind prog w) h e.1 e.2
 tab:Tab t (xs.map λ e=>(rk prog w).hash e.1)
 ju:xs.length<=t.mask
theorem sQ.fits {h:Heap}{es:Array (Int×Value)}{t:SetTable}{xs:List (List Int×Addr)}(X:sQ (prog:=prog) (w:=w) h es t xs):t.fits es.size=true:=by
 have hl:es.size=xs.length:=by have:=congrArg List.length X.es;exists this
 have h1:=X.tab.len;rw[An] at h1;have h2:=X.ju;unfold SetTable.fits SetTable.fill;rw[X.tab.su,hl,h1];simp;lia
def sQ.at {h:Heap}{es:Array (Int×Value)}{t:SetTable}{xs:List (List Int×Addr)}(X:sQ (prog:=prog) (w:=w) h es t xs) {i:Nat}{e:List Int×Addr}(he:xs[i]?=↑e):es[i]?=↑((rk prog w).hash e.1,Value.ref e.2):=by
 rw[<- BB,X.es,A0,he];rfl
theorem gT {a:Addr}{o:Obj}{es:Array (Int×Value)}{ep:Nat}{t:SetTable}{xs:List (List Int×Addr)}{key:List Int}{b:Addr}{Q:SetFound->Shared->Prop}
  (hu:A.units<cLine) (ho:s.heap.get? a=↑o) (hd:o.data=.set es ep t) (X:sQ (prog:=prog) (w:=w) s.heap es t xs) (hb:IsTupleKey (intKind prog w) s.heap key b)
  (h1:key∈xs.map (·.1)->Q (.there none) s) (h2:key∉xs.map (·.1)->∀ j,iw t ((rk prog w).hash key) j->Q (.free j false) s):
  ∀ (fuel k:Nat) (Gb:Option Probe),Gb.getD (t.probeStart ((rk prog w).hash key))=way t.mask ((rk prog w).hash key) k->(∀ m<k,∃ (i:Nat) (e:List Int×Addr),t.place[i]?=↑(way t.mask ((rk prog w).hash key) m).j/\xs[i]?=↑e/\e.1≠key)->(∃ K,k<=K/\K<k+fuel/\K<10*(t.mask+15)/\(way t.mask ((rk prog w).hash key) K).j∉t.place.toList/\∀ m<K,(way t.mask ((rk prog w).hash key) m).j∈t.place.toList)->
   wpAny (model prog w) A (setSearchFrom a (.ref b) ((rk prog w).hash key) true fuel Gb) Q E s
 | 0,k,Gb,_,_,#[K,q1,q2,_]=>⋯
 | fuel+1,k,Gb,AJ,HK,#[K,q1,q2,q3,q4,q5]=>by
  have T:=X.tab;have D7:t.gaveWay=false:=by
   unfold SetTable.gaveWay;rcases T.mask with e | e | e <;> rw[e] <;> rfl
  unfold setSearchFrom;exact IC (JR ho hd X.fits ?_);dsimp only;rw[D7];simp![Bi,if_false];have hA:∀ (i:Nat) g,(xs.map λ e=>(rk prog w).hash e.1)[i]?=↑g->((es[i]?).map (·.1)).getD 0=g:=λ i g hg=>by
   rw[A0] at hg;let#[e,e1,e2]:=AO.mp hg;rw[X.at e1];show e2
  let#[k1,g1,g2,g3]:=c8 T (hashAt:=λ i=>((es[i]?).map (·.1)).getD 0) hA ((rk prog w).hash key) (10*turns t.mask) k #[K,q1,by unfold turns;lia,q4];rw[AJ];have look:∀ (i:Nat) g,(xs.map λ e=>(rk prog w).hash e.1)[i]?=↑g->∃ e,xs[i]?=↑e/\(rk prog w).hash e.1=g:=λ i g hg=>by
   rw[A0] at hg;let#[e,e1,e2]:=AO.mp hg;show#[e,e1,e2]
  have FW:∀ m<k1,∃ (i:Nat) (e:List Int×Addr),t.place[i]?=↑(way t.mask ((rk prog w).hash key) m).j/\xs[i]?=↑e/\e.1≠key:=λ m hm=>by
   rcases Br m k with c | c
   .show HK m c
   .let#[i,g,p1,p2,p3]:=g2 m c hm;let#[e,e1,e2]:=look i g p2;show#[i,e,p1,e1,λ q=>p3 (by rw[<- e2,q])]
  rcases g3 with ⟨n1,n2⟩ | ⟨i,n1,n2,n3⟩
  .have n2':t.probe _ ((rk prog w).hash key) (way t.mask ((rk prog w).hash key) k)=_:=n2;simp![SetTable.probe] at n2' ⊢
   erw [n2]
   dsimp only;exact Ac (h2 (λ hm=>?_) _ #[n1,k1,rfl,λ m hm=>?_])
   .let#[e,he,ek]:=AA.mp hm;let#[i,hi]:=DL.mp he;have hh:(xs.map λ e=>(rk prog w).hash e.1)[i]?=↑((rk prog w).hash key):=by rw[A0,hi,<- ek];rfl
    have C_:i<t.place.size:=by rw[T.len];show (A1.mp hh).1
    let#[kk,w1,w2]:=T.ph i _ _ hh (Bm C_);rcases CK kk k1 with c | c | c
    .let#[i',e',p1,p2,p3]:=FW kk c;rw[w1] at p1;have:i=i':=by
      rw[<- below_at T.xW (Bm C_),<- below_at T.xW p1]
     subst this;rw[hi] at p2;cases p2;show p3 ek
    .subst c;rw[w1] at n1;show n1 #[]
    .show n1 (w2 k1 c)
   .let#[i',e',p1,_]:=FW m hm;show BH (by rw[BB];show p1)
  .simp![SetTable.probe]
   erw [n3]
   dsimp only;let#[e,e1,e2]:=look i _ n2;have DA:=X.at e1;have hey:=X.is e (BH e1);have main:wpAny (model prog w) A (holding [Value.ref e.2] (eqBool (.ref e.2) (.ref b)) >>= λ equal=>setState a >>= λ x=>match x with
     | (Fs,_,t')=>if (true&&equal)=true then pure (SetFound.there none) else
      match t'.sameMemory t.moves t.mask with
      | some same=>
       have jp:=λ FC=>match FC with
        | none=>do
         rule "set.search.anew"
         setSearchFrom a (.ref b) ((rk prog w).hash key) true fuel none
        | some i'=>if equal=true then pure (SetFound.there ↑i') else setSearchFrom a (.ref b) ((rk prog w).hash key) true fuel ↑(way t.mask ((rk prog w).hash key) (k1+1))
       match if same=true then t'.slot (way t.mask ((rk prog w).hash key) k1).j else Slot.empty with
       | .live i'=>match Fs[i']? with
        | some (_,y')=>do
         let r <- isSame y' (.ref e.2)
         let FC <- pure (if r=true then ↑i' else none)
         jp FC
        | none=>do
         let FC <- pure none
         jp FC
       | _=>do
        let FC <- pure none
        jp FC
      | _=>unsupported "set.changed-during-lookup:is-the-new-block-at-the-old-address") Q E s:=by
    exact IC (JO ((rk prog w).eqBool hu hey hb ?_));exact IC (JR ho hd X.fits ?_);dsimp only;by_cases hk:e.1=key
    .rw[JY hk];simp![CP,if_true];show Ac (h1 (AA.mpr #[e,BH e1,hk]))
    .rw[JM hk];simp![B2,Bi,if_false];have sm:t.sameMemory t.moves t.mask=↑true:=by unfold SetTable.sameMemory;simp
     rw[sm];dsimp only;rw[if_pos rfl,T.live n1];dsimp only;rw[DA];dsimp only;exact IC (wpAny_isSame_ref_self ?_);exact IC (Ac ?_);rw[if_pos rfl];dsimp only;have hKk:k1<K:=by
      rcases CK K k1 with c | c | c
      .let#[i',e',p1,_]:=FW K c;show absurd (BH (by rw[BB];show p1)) q4
      .subst c;show absurd (BH (by rw[BB];show n1)) q4
      .show c
     exact gT hu ho hd X hb h1 h2 fuel (k1+1) _ rfl (λ m hm=>?_) #[K,⋯,⋯,q3,q4,q5];rcases Br m k1 with c | c
     .show FW m c
     .have:m=k1:=⋯;subst this;show#[i,e,n1,e1,hk]
   rw[DA];by_cases hl:t.led=true
   .rw[hl];simp![CC,Bi,if_false];show main
   .have FP:t.led=false:=by exists hl
    rw[FP];simp![CD,if_true];exact IC (Ya hb _ (λ v hv=>?_) ?_)
    .let#[p,hp,rfl]:=AA.mp hv;rw[Array.toList_filter,DW,X.es] at hp;let#[#[e',he',rfl],_]:=(And.intro (AA.mp hp.1) hp.2)
     show#[e'.1,e'.2,rfl,X.is e' he']
    .simp![Bi,if_false];show main
structure sC (prog:Program) (w:World) (h:Heap) (a:Addr) (xs:List (List Int×Addr)) (led:Bool):Prop where
 ex:∃ es ep t,h.get? a=↑{ cls:=.type "set",dict:=none,data:=.set es ep t }/\sQ (prog:=prog) (w:=w) h es t xs/\t.led=led/\t.plain=true/\xs.length*5<t.mask*3
 nd:(xs.map (·.1)).Nodup
def lP {h h':Heap}{ks:List Int}{b a:Addr}{es:Array (Int×Value)}{ep:Nat}{t:SetTable}{c:Value}{d:Option Addr}{sl:Array (Option Value)}(x:IsTupleKey (intKind prog w) h ks b) (ho:h.get? a=↑{ cls:=c,dict:=d,data:=.set es ep t,slots:=sl }) (hs:Heap.SameBut a h h'):IsTupleKey (intKind prog w) h' ks b:=by
 let#[o',items,n,E9,hc,GN,hi]:=x;have Aw:b≠a:=by
  rintro rfl;obtain rfl:o'=_:=Bh (E9.symm.trans ho);cases GN
 show#[o',items,n,(hs.2 b Aw).trans E9,hc,GN,hi]
theorem nS {h:Heap}{a:Addr}{es Fs:Array (Int×Value)}{ep:Nat}{t t':SetTable}(ho:h.get? a=↑{ cls:=.type "set",dict:=none,data:=.set es ep t }):(h.update a (Obj.putSet Fs t')).get? a=↑{ cls:=.type "set",dict:=none,data:=.set Fs (ep+1) t' }:=by
 have e:Obj.putSet Fs t' { cls:=.type "set",dict:=none,data:=.set es ep t }={ cls:=.type "set",dict:=none,data:=.set Fs (ep+1) t' }:=putSet_of Fs t' rfl;have:=JN (Obj.putSet Fs t') ho (by rw[e];rfl);rw[e] at this;show this
theorem ky {α β:Type}(l:List α) (f:α->β) (d:β):∀ (order:List Nat),(∀ k∈order,k<l.length)->order.map (λ k=>(l.map f).getD k d)=(order.filterMap λ k=>l[k]?).map f
 | [],_=>rfl
 | k::order,h=>by
  have hk:=h k Az;have ih:=ky l f d order λ j hj=>h j (AG _ hj);rw[AD,Dt,BC hk];dsimp only;rw[AD,ih];congr 1;simp[hk]
def Xs {a:Addr}{es:Array (Int×Value)}{ep:Nat}{t:SetTable}{xs:List (List Int×Addr)}{led:Bool}{wanted M:Nat}{Q:Unit->Shared->Prop}
  (ho:s.heap.get? a=↑{ cls:=.type "set",dict:=none,data:=.set es ep t }) (X:sQ (prog:=prog) (w:=w) s.heap es t xs) (BF:t.led=led) (Ap:t.plain=true) (hM:vd M) (hw:sizeAbove wanted=M+1) (Ai:xs.length*5<M*3) (BG:(xs.map (·.1)).Nodup)
  (h:∀ h' EI,Heap.SameBut a s.heap h'->sC prog w h' a EI led->EI.Perm xs->Q Unit.unit { s with heap:=h' }):wpAny (model prog w) A (setRelay a wanted) Q E s:=by
 have hlen:es.size=xs.length:=by have:=congrArg List.length X.es;exists this
 have Ed:(es.map (·.1)).toList=xs.map λ e=>(rk prog w).hash e.1:=by rw[Array.toList_map,X.es,AY];rfl
 have AH:(es.map (·.1)).size=xs.length:=by rw[CS,hlen]
 let#[t',order,h1,h2,h3,h4,h5,h6,h7]:=dE hM t.finger (t.movedTo M) t.led t.plain (es.map (·.1)) (by rw[AH];lia);rw[AH] at h6;have AE:∀ k∈order.toList,k<xs.length:=λ k hk=>by exists h6.mem_iff.mp hk
 unfold setRelay;exact IC (JR ho rfl X.fits ?_);dsimp only;rw[if_neg (by rw[hw];rcases hM with e | e | e <;> rw[e] <;> decide)];have hr:t.relaid (es.map (·.1)) wanted=↑(t',order):=by
  unfold SetTable.relaid;rw[hw,Nat.add_sub_cancel];show h1
 rw[hr];have BM:(order.filterMap (es[·]?)).toList=(order.toList.filterMap λ k=>xs[k]?).map λ e=>((rk prog w).hash e.1,Value.ref e.2):=by
  rw[Array.toList_filterMap,List.map_filterMap];congr 1;funext k;rw[<- BB,X.es,A0]
 have EC:(order.toList.filterMap λ k=>xs[k]?).Perm xs:=(h6.filterMap _).trans (by rw[List.filterMap_getElem?_range_length]);have BI:(order.filterMap (es[·]?)).size=es.size:=by
  rw[<- Bl,BM,An,EC.length_eq,hlen]
 exact IC (m:=_) ?_;change wpAny _ _ (do
  let ↑(t,order):=↑(t',order) | unsupported "internal:set-table-without-room"
  let Fs:=order.filterMap (es[·]?)
  if Fs.size != es.size then unsupported "internal:set-table-lost-an-element"
  pure (Fs,t)) _ _ _
 dsimp only;rw[if_neg (by rw[BI];simp)];exact Ac ?_;have BR:(order.filterMap (es[·]?)).size<=sizeLine:=by
  rw[BI,hlen];have:sizeLine=16777216:=rfl;rcases hM with e | e | e <;> subst e <;> lia
 exact wpAny_storeSet_of ho rfl ?_ BR;have sb:=Heap.SameBut.update s.heap a (Obj.putSet (order.filterMap (es[·]?)) t');exact h _ _ sb #[#[_,ep+1,t',nS ho,#[BM,λ e he=>lP (X.is e (EC.mem_iff.mp he)) ho sb,?_,?_],by rw[h4];show BF,by rw[h5];show Ap,?_],(EC.map _).nodup_iff.mpr BG] EC
 .rw[<- ky xs (λ e=>(rk prog w).hash e.1) 0 order.toList AE,<- Ed];show h7
 .rw[EC.length_eq,h2];lia
 .rw[EC.length_eq,h2];show Ai
theorem gQ (n:Nat) (M:Nat) (hM:vd M) (h1:n*5<M*3) (h2:M*3<=(n+1)*5) (hn:n<70):∃ M',vd M'/\sizeAbove (grown (n+1))=M' + 1/\(n+1)*5<M'*3:=by
 rcases hM with e | e | e <;> subst e
 .have:n=4:=⋯;subst this;show#[31,.inr (.inl rfl),AM,⋯]
 .have:n=18:=⋯;subst this;show#[127,.inr (.inr rfl),AM,⋯]
 .lia
def OD {a:Addr}{xs:List (List Int×Addr)}{key:List Int}{b:Addr}{led:Bool}{Q:Bool->Shared->Prop}(hu:A.units<cLine) (S:sC prog w s.heap a xs led) (hb:IsTupleKey (intKind prog w) s.heap key b) (hn:xs.length<70)
  (h:∀ h' EI r,Heap.SameBut a s.heap h'->sC prog w h' a EI led->(key∈xs.map (·.1)/\EI=xs\/key∉xs.map (·.1)/\EI.Perm (xs++[(key,b)]))->Q r { s with heap:=h' }):
  wpAny (model prog w) A (setAddHashed a (.ref b) ((rk prog w).hash key)) Q E s:=by
 let#[#[es,ep,t,ho,X,BF,Ap,Ai],BG]:=S;have hlen:es.size=xs.length:=by have:=congrArg List.length X.es;exists this
 unfold setAddHashed setAddHashedIn;exact JO (IC (JR ho rfl X.fits ?_));dsimp only;rw[if_neg (by simp[byScan,Value.scannable])];let#[K,k1,k2,k3]:=X.tab.first (by rw[An];show X.ju) ((rk prog w).hash key);have hmk:t.mask<=127:=by rcases X.tab.mask with e | e | e <;> lia
 exact IC ?_;unfold setSearch;exact gT (key:=key) (b:=b) hu ho rfl X hb (λ hm=>?_) (λ hm j F=>?_) 100000 0 none rfl (λ m hm=>⋯) #[K,⋯,⋯,k1,k2,k3]
 .dsimp only;exact Ac ?_;have:=h s.heap xs false #[rfl,λ _ _=>rfl] #[#[es,ep,t,ho,X,BF,Ap,Ai],BG] (.inl #[hm,rfl]);show this
 .dsimp only;exact IC (JR ho rfl X.fits ?_);dsimp only;let#[p1,p2,p3]:=X.tab.put F;rw[An] at p1;have Ce:(t.put j).1.plain=true:=by rw[p2];show Ap
  have BX:(t.put j).1.mask=t.mask:=by rw[p2]
  have AE:(t.put j).1.led=led:=by rw[p2];show BF
  generalize hT:(t.put j)=P at *;let#[t1,p]:=P;dsimp only at *;rw[Ce];simp![if_true];exact IC (QB hb ?_);simp![if_true];let FL:=xs.take p++(key,b)::xs.drop p
  have EC:FL.Perm (xs++[(key,b)]):=by
   have e:xs.take p++xs.drop p=xs:=B8 p xs;have:FL.Perm ((key,b)::(xs.take p++xs.drop p)):=List.perm_middle;rw[e] at this;show this.trans (List.perm_append_singleton _ _).symm
  have F5:FL.length=xs.length+1:=by rw[EC.length_eq];simp
  have Gr:(insertAt es p ((rk prog w).hash key,Value.ref b)).toList=FL.map λ e=>((rk prog w).hash e.1,Value.ref e.2):=by
   rw[toList_insertAt,X.es];simp[FL,CI,B0]
  have Gw:(insertAt es p ((rk prog w).hash key,Value.ref b)).size=xs.length+1:=by rw[<- Bl,Gr,An,F5]
  have BR:(insertAt es p ((rk prog w).hash key,Value.ref b)).size<=sizeLine:=by
   rw[Gw];have:sizeLine=16777216:=rfl;lia
  exact IC (wpAny_storeSet_of ho rfl ?_ BR);have sb:=Heap.SameBut.update s.heap a (Obj.putSet (insertAt es p ((rk prog w).hash key,Value.ref b)) t1);have Hi:=nS (Fs:=insertAt es p ((rk prog w).hash key,Value.ref b)) (t':=t1) ho;have hm7:7<=t.mask:=by rcases X.tab.mask with e | e | e <;> lia
  have X1:sQ (prog:=prog) (w:=w) (s.heap.update a (Obj.putSet (insertAt es p ((rk prog w).hash key,Value.ref b)) t1)) (insertAt es p ((rk prog w).hash key,Value.ref b)) t1 FL:=by
   exact#[Gr,λ e he=>?_,?_,by rw[F5,BX];lia]
   .rcases AV.mp (EC.mem_iff.mp he) with q | q
    .show lP (X.is e q) ho sb
    .cases AK.mp q;show lP hb ho sb
   .have:FL.map (λ e=>(rk prog w).hash e.1)=(xs.map λ e=>(rk prog w).hash e.1).take p++(rk prog w).hash key::(xs.map λ e=>(rk prog w).hash e.1).drop p:=by simp[FL,CI,B0]
    rw[this];show p3
  have Gy:(FL.map (·.1)).Nodup:=by
   exact (EC.map _).nodup_iff.mpr ?_;rw[Bf,List.nodup_append];exact#[BG,#[],λ x hx y hy=>?_];simp at hy;subst hy;show λ e=>hm (e▸hx)
  by_cases hf:t1.tooFull=true
  .rw[hf];simp![CD,CP,if_true];have FQ:t1.fill=xs.length+1:=by
    unfold SetTable.fill;rw[p3.su,p3.len];simp;lia
   have FE:t.mask*3<=(xs.length+1)*5:=by
    have:=hf;unfold SetTable.tooFull at this;rw[FQ,BX] at this;exists this
   let#[M',g1,g2,g3]:=gQ xs.length t.mask X.tab.mask Ai FE hn;rw[hlen];exact IC (Xs (led:=led) Hi X1 AE Ce g1 g2 (by rw[F5];show g3) Gy λ h' EI sb' S' pm=>?_);exact Ac ?_;show h h' EI true (sb.trans sb') S' (.inr #[hm,pm.trans EC])
  .have Gq:t1.tooFull=false:=by exists hf
   rw[Gq];simp![CD,B2,Bi,if_false];exact Ac ?_;have FQ:t1.fill=xs.length+1:=by
    unfold SetTable.fill;rw[p3.su,p3.len];simp;lia
   have FE:(xs.length+1)*5<t.mask*3:=by
    have:=Gq;unfold SetTable.tooFull at this;rw[FQ,BX] at this;exists this
   show h _ FL true sb #[#[_,ep+1,t1,Hi,X1,AE,Ce,by rw[F5,BX];show FE],Gy] (.inr #[hm,EC])
end
def tG (w:World):Bool:=!w.params.followText "set-order"
def xV (w:World):Obj:={ cls:=.type "set",dict:=none,data:=.set [].toArray 0 (.fresh 0 0 (tG w)) }
section
variable {prog:Program}{w:World}{A:Around}{E:Af}{s:Shared}
set_option maxHeartbeats 3200000 in
def PY (a:Value) {Q:Af}(h:Q (.ref s.heap.objs.size) { s with heap:=s.heap.push (xV w) }):
  codeAny (model prog w) A (.call (.builtin "set.__new__") #[[.type "set",a],[]]) (wants Q E) s:=by
 exact codeAny_of_tree ?_;change wpAny _ A.in1 (checkBuiltinCall "set.__new__" #[[.type "set",a],[]] >>= λ _=>again (.builtin "set.__new__" #[[.type "set",a],[]])) _ _ s;exact IC (wpAny_of_eq (F.newCall_set_1 a) (Ac #[plainId_quiet F.plain_set_new _,codeAny_builtin F.entry_set_new ?_]));rw[Around.under_plainId F.plain_set_new _];unfold Builtin.«set.__new__» Builtin.Frozenset.newClass newSet setsByText;have sub:=sub_set_self;let#[hp,g,d,tk,os]:=s;dsimp only
 wp_walk
 exact J8 (Ac ?_);dsimp only;simp![newObj];show IC (wpAny_alloc (Ac (Ac h)))
def Y_ {h:Heap}{a:Addr}(ho:h.get? a=↑(xV w)):sC prog w h a [] (tG w):=
 #[#[[].toArray,0,_,ho,#[rfl,λ e he=>(by cases he),#[.inl rfl,rfl,rfl,.nil,λ j hj=>(by cases hj),λ i g j hg=>(by cases hg)],#[]],rfl,rfl,by change 0*5<7*3;lia],.nil]
end
end ST
namespace ST
open PySem PySem.SetTable PyProof.Rows
section
variable {κ β:Type}[DecidableEq κ]{val:κ->β->Value}{its:Av}{ks:List κ}{i:Nat}{xs EI:List (κ × β)}
structure Up (val:κ->β->Value) (its:Av) (ks:List κ) (i:Nat) (xs:List (κ × β)):Prop where
 own:∀ e∈xs,∃ j,j<i/\its[j]?=↑(val e.1 e.2)/\ks[j]?=↑e.1
 all:∀ (j:Nat) r,j<i->ks[j]?=↑r->r∈xs.map (·.1)
theorem kK:∀ (l m:List κ),l.Nodup->(∀ x∈l,x∈m)->l.length<=m.length
 | [],m,_,_=>AZ _
 | x::l,m,hn,hs=>by
  have h1:=Bj.mp hn;have hx:=hs x Az;have:=kK l (m.erase x) h1.2 λ z hz=>(List.mem_erase_of_ne (λ e:z=x=>h1.1 (by rw[<- e];show hz))).mpr (hs z (AG _ hz));rw[List.length_erase_of_mem hx] at this;have:=List.length_pos_of_mem hx;simp![Ba];lia
def Up.len (U:Up val its ks i xs) (nd:(xs.map (·.1)).Nodup):xs.length<=i:=by
 have:=kK (xs.map λ e=>↑e.1) ((List.range i).map λ j=>ks[j]?) (by
  have:(xs.map λ e=>↑e.1)=(xs.map (·.1)).map some:=by rw[AY];rfl
  rw[this];show List.Pairwise.map _ (λ a b h e=>h (Bh e)) nd) λ x hx=>by
  let#[e,he,rfl]:=AA.mp hx;let#[j,h1,_,h3]:=U.own e he;show AA.mpr #[j,A6.mpr h1,h3]
 exists this
def Up.step {key:κ}{b:β}(U:Up val its ks i xs) (hi:its[i]?=↑(val key b)) (hr:ks[i]?=↑key)
  (h:key∈xs.map (·.1)/\EI=xs\/key∉xs.map (·.1)/\EI.Perm (xs++[(key,b)])):Up val its ks (i+1) EI:=by
 have eqi:∀ j:Nat,j<i+1->¬ j<i->j=i:=λ j a b=>⋯;rcases h with ⟨hm,rfl⟩ | ⟨_,hp⟩
 .exact#[λ e he=>?_,λ j r hj Cd=>?_]
  .let#[j,h1,h2]:=U.own e he;show#[j,B7 h1,h2]
  .by_cases q:j<i
   .show U.all j r q Cd
   .rw[eqi j hj q,hr] at Cd;cases Cd;show hm
 .exact#[λ e he=>?_,λ j r hj Cd=>?_]
  .rcases AV.mp (hp.mem_iff.mp he) with q | q
   .let#[j,h1,h2]:=U.own e q;show#[j,B7 h1,h2]
   .cases AK.mp q;show#[i,CA i,hi,hr]
  .rw[(hp.map (·.1)).mem_iff,Bf];by_cases q:j<i
   .show CY _ (U.all j r q Cd)
   .rw[eqi j hj q,hr] at Cd;cases Cd;show Bb _ Az
structure Kd (prog:Program) (w:World) (A:Around) (val:κ->β->Value) (its:Av) (ks:List κ) (Sa:Addr) (wr:List Addr) (Se:Heap->List (κ × β)->Prop) (Tp:Heap->Prop):Prop where
 nd:∀ {h xs},Se h xs->(xs.map (·.1)).Nodup
 keep:∀ {h h' xs i},(∀ b o,b∉wr->h.get? b=↑o->h'.get? b=↑o)->Up val its ks i xs->Se h xs->Se h' xs
 mi:∀ {h h'},(∀ b o,b∉Sa::wr->h.get? b=↑o->h'.get? b=↑o)->Tp h->Tp h'
 add:∀ {s:Shared}{xs:List (κ × β)}{i:Nat}{v:Value}{Q:Bool->Shared->Prop}{E:Af},Tp s.heap->Se s.heap xs->xs.length<70->its[i]?=↑v->
  (∀ h' tk EI rr k b,v=val k b->ks[i]?=↑k->Heap.SameBut Sa s.heap h'->s.toks<=tk->Se h' EI->(k∈xs.map (·.1)/\EI=xs\/k∉xs.map (·.1)/\EI.Perm (xs++[(k,b)]))->Q rr { s with heap:=h',toks:=tk })->
  wpAny (model prog w) A (setAdd Sa v) Q E s
variable {prog:Program}{w:World}{A:Around}{R:Result->Shared->Prop}{I:Addr}{fp wr:List Addr}{G:Array GenState->Array GenState->Prop}{n:Nat}{P:Nat->Value->Prop}{St:Nat->Shared->Prop}{Sa:Addr}{Se:Heap->List (κ × β)->Prop}{Tp:Heap->Prop}
def d0 (W:WalksS prog w A.in1 I fp wr G n (λ i v=>P i v) St) (D:Kd prog w A.in1 val its ks Sa wr Se Tp) (hSf:Sa∉fp) (hP:∀ i v,P i v->its[i]?=↑v) (hn:n<70):
  ∀ (k i:Nat) (s:Shared) (xs:List (κ × β)),n-i=k->i<=n->St i s->Se s.heap xs->Tp s.heap->Up val its ks i xs->
   (∀ s' EI,Moved (Sa::wr) G s s'->Se s'.heap EI->Up val its ks n EI->R (.ok (.ret .none)) s')->
   codeAny (model prog w) A (.builtin "set.update.loop" #[[.ref Sa,.ref I],[]]) R s:=by
 have more:∀ b∈wr,b∈Sa::wr:=λ b hb=>AG _ hb;intro k
 induction k with
 | zero=>
  intro i s xs hk hi AJ hS hT hU hR;have e:i=n:=⋯;subst e;exact codeAny_builtin F.entry_set_update_loop ?_;rw[Around.under_plainId F.plain_set_update_loop _];change wpAny _ A.in1 (pyNext (.ref I) >>= _) _ _ s;show IC (W.done s _ _ AJ λ s' hm=>Ac (hR s' xs (hm.mono more) (D.keep hm.heap hU hS) hU))
 | succ k ih=>
  intro i s xs hk hi AJ hS hT hU hR;have AE:i<n:=⋯;exact codeAny_builtin F.entry_set_update_loop ?_;rw[Around.under_plainId F.plain_set_update_loop _];change wpAny _ A.in1 (pyNext (.ref I) >>= _) _ _ s;exact IC (W.item i s _ _ AE AJ λ v s1 hPv Je hm=>?_);have hv:=hP i v hPv;have T1:=D.mi (λ b o hb e=>hm.heap b o (λ z=>hb (more _ z)) e) hT;have hl:xs.length<70:=by have:=hU.len (D.nd hS);lia
  change wpAny _ A.in1 (holding [v] (setAdd Sa v) >>= _) _ _ s1;exact IC (JO (D.add T1 (D.keep hm.heap hU hS) hl hv λ h' tk EI rr key b ev hr sb ht S' hx=>?_));subst ev;have fr:=W.frame (i+1) s1 h' tk Je ht λ c hc o e=>(sb.2 c (λ z:c=Sa=>hSf (z▸hc))).trans e;exact Ac #[plainId_quiet F.plain_set_update_loop _,ih (i+1) _ EI ⋯ AE fr S' (D.mi (λ c o hc e=>(sb.2 c (λ z=>hc (z▸Az))).trans e) T1) (hU.step hv hr hx) λ s2 Il HN S2 U2=>?_];exact hR s2 Il (Moved.trans W.gtrans ((hm.mono more).then_heap ht λ c o hc e=>?_) HN) S2 U2;show (sb.2 c (λ z=>hc (z▸Az))).trans e
end
section
variable {prog:Program}{w:World}{A:Around}{its:Av}{El:List (List Int)}{Sa:Addr}{wr:List Addr}
def qC (prog:Program) (w:World) (h:Heap) (its:Av) (El:List (List Int)):Prop:=∀ (i:Nat) v,its[i]?=↑v->∃ b r,v=.ref b/\El[i]?=↑r/\IsTupleKey (intKind prog w) h r b
def qC.at {h h':Heap}(T:qC prog w h its El) (k:∀ (i:Nat) b,its[i]?=↑(.ref b)->∀ o,h.get? b=↑o->h'.get? b=↑o):qC prog w h' its El:=λ i v hv=>by
 let#[b,r,rfl,h1,o,items,m,h2,h3]:=T i v hv;show#[b,r,rfl,h1,o,items,m,k i b hv o h2,h3]
abbrev gh:List Int->Addr->Value:=λ _ b=>.ref b
def Qg {led:Bool}(Jt:Sa∉wr) (hu:A.units<cLine) (C4:∀ (i:Nat) b,its[i]?=↑(.ref b)->b∉Sa::wr):Kd prog w A gh its El Sa wr (λ h xs=>sC prog w h Sa xs led) (λ h=>qC prog w h its El) where
 nd:=λ S=>S.nd
 keep:=λ{h h' xs i} k U S=>by
  let#[#[es,ep,t,ho,X,r],nd]:=S;exact#[#[es,ep,t,k Sa _ Jt ho,#[X.es,λ e he=>?_,X.tab,X.ju],r],nd];let#[o,items,m,g1,g2]:=X.is e he;let#[j,_,h2,_]:=U.own e he;show#[o,items,m,k _ _ (λ z=>C4 j e.2 h2 (AG _ z)) g1,g2]
 mi:=λ k T=>T.at λ i b hi o e=>k b o (C4 i b hi) e
 add:=λ{s xs i v Q E} T S hl hv hQ=>by
  let#[b,r,rfl,hr,hb]:=T i v hv;unfold setAdd;exact JO (IC ((rk prog w).pyHash (k:=r) (a:=b) (A:=A) hu hb ?_));show OD (s:={ s with toks:=s.toks+(rk prog w).draws r }) (A:=A) hu S hb hl λ h' EI rr sb S' hx=>hQ h' _ EI rr r b rfl hr sb (Co _ _) S' hx
end
section
variable {prog:Program}{w:World}{A:Around}{E:Af}{s:Shared}
set_option maxHeartbeats 6400000 in
def bG {κ β:Type} [DecidableEq κ] {val:κ->β->Value}{ks:List κ}{Se:Heap->List (κ × β)->Prop}{Tp:Heap->Prop}{l:Addr}{its:Av}{Q:Af}(hh:A.handled=none) (hl:s.heap.IsList l its\/s.heap.IsTuple l its) (hn:its.size<70)
  (D:Kd prog w A.in1.in1.in1 val its ks s.heap.objs.size [s.heap.objs.size+1] Se Tp) (hS0:∀ h,h.get? s.heap.objs.size=↑(xV w)->Se h []) (hT0:∀ h,(∀ b o,s.heap.get? b=↑o->h.get? b=↑o)->Tp h)
  (h:∀ (h':Heap) (tk:Nat) xs,Se h' xs->Up val its ks its.size xs->(∀ b o,b<s.heap.objs.size->s.heap.get? b=↑o->h'.get? b=↑o)->Q (.ref s.heap.objs.size) { s with heap:=h',toks:=tk }):
  wpAny (model prog w) A (call (.type "set") [.ref l]) Q E s:=by
 let#[c,tl,hmro]:=F.called_set.mro;have made:=F.called_set.made;have subm:=F.called_set.sub;exact wpAny_call (codeAny_of_tree ?_);change wpAny _ _ (callAny (.type "set") _) _ _ _;exact Ac #[Code.quiet_builtin _ (AM),codeAny_builtin F.entry_type_call ?_];rw[Around.under_plain (weight_type_call_type "set" [.ref l] []) rfl];have nt:=F.called_set.notType;have cc:=F.called_set.canCreate;have tc:=F.typeCall_set_1 (.ref l)
 repeat (any_goals (first | assumption | wp_step))
 exact codeAny_mono (PY (.ref l) (E:=E) (Q:=λ obj s₁=>obj=.ref s.heap.objs.size/\s₁={ s with heap:=s.heap.push (xV w) }) #[rfl,rfl]) λ r s₁ hr=>?_;cases r with
 | error e=>show hr
 | ok fl=>
  cases fl with
  | ret obj=>
   let#[rfl,rfl]:=hr;have hS:(s.heap.push (xV w)).get? s.heap.objs.size=↑(xV w):=AQ _ rfl;have hTy:Shared.TypeIs { s with heap:=s.heap.push (xV w) } (.ref s.heap.objs.size) "set":=#[_,hS,rfl];have li:=F.called_set.init.lookup;have bi:=F.called_set.init.bind (.ref s.heap.objs.size)
   repeat (any_goals (first | assumption | wp_step))
   let s1:Shared:={ s with heap:=s.heap.push (xV w) }
   exact codeAny_mono (codeAny_call_builtin (R:=wants (λ r s₂=>r=.none/\∃ h' tk xs,s₂={ s with heap:=h',toks:=tk }/\Se h' xs/\Up val its ks its.size xs/\
     ∀ b o,b<s.heap.objs.size->s.heap.get? b=↑o->h'.get? b=↑o) E) F.called_set.init.plain F.entry_set_init (check_set_init_1 hTy ?_)) λ r₂ s₂ Jf=>?_
   .have AH:(s.heap.push (xV w)).objs.size=s.heap.objs.size+1:=Heap.size_push _ _;have IG:s.heap.objs.size≠(s.heap.push (xV w)).objs.size:=by rw[AH];show AI (CA _)
    have low:∀ b:Addr,b<s.heap.objs.size->b≠(s.heap.push (xV w)).objs.size:=λ b hb=>by rw[AH];show AI (B7 hb)
    rw[<- AH] at D;rcases hl with hl | hl
    all_goals
     let#[#[ocls,odict,odata,IT],hol,Ck,nl,hdl]:=id hl;simp only at Ck hdl;subst Ck hdl;have hol1:=JH (xV w) hol;have sls:=F.sub_list_set;have slf:=F.sub_list_frozenset;have sts:=F.sub_tuple_set;have stf:=F.sub_tuple_frozenset;have nd:(Value.type "list" == Value.type "dict")=false:=()
     have nd':(Value.type "tuple" == Value.type "dict")=false:=()
     have hlS:l<s.heap.objs.size:=Ar hol;have HM:l≠(s.heap.push (xV w)).objs.size:=low l hlS;have F5:=hl.push (xV w);unfold Builtin.«set.__init__» noKeywords Builtin.Frozenset.updateFrom;generalize hPI:pyIter=PI;unfold xV at *
     wp_walk
     subst hPI
     first | exact wpAny_pyIter_list F5 (IC (wpAny_runValue ?_)) | exact wpAny_pyIter_tuple F5 (IC (wpAny_runValue ?_))
     first
      | exact d0 (A:=A.in1.in1) (P:=λ i v=>its[i]?=↑v) ((Walks.list (A:=A.in1.in1.in1) (by simp[hh]) _ l HM its).toS) D ?_ (λ _ _ q=>q) hn its.size 0 _ [] ⋯ (AZ _) #[#[_,AQ _ rfl,rfl,rfl],F5.push _] ?_ ?_ #[λ e he=>(by cases he),λ j r hj=>⋯] ?_
      | exact d0 (A:=A.in1.in1) (P:=λ i v=>its[i]?=↑v) ((Walks.tuple (A:=A.in1.in1.in1) (by simp[hh]) _ l HM its).toS) D ?_ (λ _ _ q=>q) hn its.size 0 _ [] ⋯ (AZ _) #[#[_,AQ _ rfl,rfl,rfl],F5.push _] ?_ ?_ #[λ e he=>(by cases he),λ j r hj=>⋯] ?_
     .intro hm;rcases Ao.mp hm with q | q
      .show IG q
      .show Bk hlS (AK.mp q)
     .show hS0 _ (JH _ hS)
     .show hT0 _ λ b o e=>JH _ (JH _ e)
     .intro s' EI hm S' U';let#[h',g',d',ID,G6]:=s';obtain rfl:g'=s.gens:=hm.gens;obtain rfl:d'=s.drawn:=hm.drawn;obtain rfl:G6=s.os:=hm.os;exact Ac (Ac #[rfl,h',ID,EI,rfl,S',U',λ b o hb e=>?_]);exact hm.heap b o (λ q=>?_) (JH _ (JH _ e));rcases Ao.mp q with q | q
      .show AI hb q
      .show low b hb (AK.mp q)
   .cases r₂ with
    | error e=>show Jf
    | ok fl₂=>
     cases fl₂ with
     | ret r=>
      let#[rfl,h',tk,xs,rfl,g1,g2,g3]:=Jf
      repeat (any_goals (first | assumption | wp_step))
      show h h' tk xs g1 g2 g3
     | _=>show Jf.elim
  | _=>show hr.elim
def Oj {l:Addr}{its:Av}{El:List (List Int)}{Q:Af}(hh:A.handled=none) (hu:A.units+64<cLine) (hl:s.heap.IsList l its\/s.heap.IsTuple l its) (hT:qC prog w s.heap its El) (hn:its.size<70)
  (h:∀ (h':Heap) (tk:Nat) xs,sC prog w h' s.heap.objs.size xs (tG w)->Up gh its El its.size xs->(∀ b o,b<s.heap.objs.size->s.heap.get? b=↑o->h'.get? b=↑o)->Q (.ref s.heap.objs.size) { s with heap:=h',toks:=tk }):
  wpAny (model prog w) A (call (.type "set") [.ref l]) Q E s:=by
 exact bG hh hl hn (Qg #[] (show A.units+1+1+1<cLine by lia) λ i b hb hm=>?_) (λ h e=>Y_ e) (λ h k=>hT.at λ i b _ o e=>k b o e) h;let#[b',r,e,_,o,_,_,ho,_]:=hT i _ hb;cases e;have:=Ar ho;rcases Ao.mp hm with q | q
 .show AI this q
 .show AI (B7 this) (AK.mp q)
end
end ST
namespace ST
open PySem PySem.SetTable
section facts
def eL:Manifest.owners.lookup (String.ofList ['r','o','t','a','r','e','t','i','_','t','e','s'].reverse)=↑Manifest.sig_set_iterator:=by kernel_rfl
def qd:Slot "set_iterator" "__next__" "set_iterator.__next__":=
 .of (owner:="set_iterator") (n:="__next__") (by rw[typeLookup_type,builtinLookup_eq_fast];kernel_rfl) (AM) (AM) (AM) (by first | show .inl (AM) | show .inr (AM)) (by rw[isSubtype_type];kernel_rfl)
def c_:entryFor table "set_iterator.__next__"=↑Builtin.«set_iterator.__next__»:=entryFor_of_tree (by kernel_rfl)
theorem b_ (a:Value):argsOk "set_iterator.__next__" #[[a],[]]:=by
 unfold argsOk;rw[signature?_of (id:="set_iterator.__next__") (n:=['_','_','t','x','e','n','_','_']) (o:=['r','o','t','a','r','e','t','i','_','t','e','s']) (by kernel_rfl) eL]
 kernel_rfl
def Py:entryFor table "set.__iter__"=↑Builtin.«frozenset.__iter__»:=entryFor_alias (id':="frozenset.__iter__") (by kernel_rfl) rfl (AM) (by kernel_rfl)
def gP:Slot "set_iterator" "__iter__" "set_iterator.__iter__":=
 .of (owner:="set_iterator") (n:="__iter__") (by rw[typeLookup_type,builtinLookup_eq_fast];kernel_rfl) (AM) (AM) (AM) (by first | show .inl (AM) | show .inr (AM)) (by rw[isSubtype_type];kernel_rfl)
def Px:entryFor table "set_iterator.__iter__"=↑Builtin.«dict_keyiterator.__iter__»:=entryFor_alias (id':="dict_keyiterator.__iter__") (by kernel_rfl) rfl (AM) (by kernel_rfl)
theorem O8 (a:Value):argsOk "set_iterator.__iter__" #[[a],[]]:=by
 unfold argsOk;rw[signature?_of (id:="set_iterator.__iter__") (n:=['_','_','r','e','t','i','_','_']) (o:=['r','o','t','a','r','e','t','i','_','t','e','s']) (by kernel_rfl) eL]
 kernel_rfl
end facts
theorem cX {α:Type}:∀ (l:List α) (i:Nat) (x:α),l[i]?=↑x->l.Perm (x::l.eraseIdx i)
 | [],i,x,h=>by simp at h
 | y::l,0,x,h=>by simp at h;subst h;simp
 | y::l,i+1,x,h=>by
  have ih:=cX l i x (by exists h);rw[List.eraseIdx_cons_succ];show (ih.cons y).trans (.swap x y _)
theorem fZ {α:Type}(next:Nat->Nat):∀ (f k:Nat) (left:List α) (out:Array α),left.length=f->(pickOrder.go next f k left out).toList.Perm (out.toList++left)
 | 0,k,left,out,h=>by
  cases left with
  | nil=>unfold pickOrder.go;simp
  | cons _ _=>simp at h
 | f+1,k,left,out,h=>by
  unfold pickOrder.go;have AE:next k%left.length<left.length:=CL _ ⋯;rw[BC AE];dsimp only;exact (fZ next f (k+1) _ _ (by rw[List.length_eraseIdx_of_lt AE];lia)).trans ?_;rw[Array.toList_push,Bz];show (cX left _ _ (BC AE)).symm.append_left _
theorem X_ {α:Type}(next:Nat->Nat) (xs:Array α):(pickOrder next xs).toList.Perm xs.toList:=by
 unfold pickOrder;exists fZ next xs.size 0 xs.toList [].toArray #[]
def comes (w:World) (a:Addr) (es:Array (Int×Value)) (ep:Nat):Array (Int×Value):=if w.params.followText "set-order"=true then pickOrder (w.params.setOrder a ep) es else es
def oy (w:World) (a:Addr) (es:Array (Int×Value)) (ep:Nat):(comes w a es ep).toList.Perm es.toList:=by
 unfold comes;split
 .show X_ _ _
 .show .refl _
def sf (a:Addr) (slot i n ep:Nat):Obj:={ cls:=.type "set_iterator",data:=.fields [rawInt slot,rawInt i,.ref a,rawInt n,rawInt ep].toArray }
def slotAt (t:SetTable):Nat->Nat
 | 0=>0
 | i+1=>t.place.getD i 0+1
theorem O0 {t:SetTable}(hr:uC t.place.toList):∀ i,i<=t.place.size->below t.place (slotAt t i)=i
 | 0,_=>by
  let#[h1,h2,h3]:=mG (xs:=t.place) (j:=0) hr;rcases Nat.eq_zero_or_pos (below t.place 0) with q | q
  .show q
  .have:=h2 0 ⋯ q;lia
 | i+1,hi=>by
  have hd:t.place.getD i 0=t.place[i]:=jk ⋯;change below t.place (t.place.getD i 0+1)=i+1;rw[hd];let#[h1,h2,h3]:=mG (xs:=t.place) (j:=t.place[i] + 1) hr;have xW:∀ a b (ha:a<t.place.size) (hb:b<t.place.size),a<b->t.place[a]<t.place[b]:=λ a b ha hb CG=>by
   have r:=CQ.mp hr a b (by exists ha) (by exists hb) CG;rw[B9,B9] at r;show r
  rcases CK (below t.place (t.place[i] + 1)) (i+1) with q | q | q
  .have:=h3 i ⋯ ⋯;lia
  .show q
  .have a:=h2 (i+1) ⋯ q;have b:=xW i (i+1) ⋯ ⋯ ⋯;lia
structure x_ (w:World) (h:Heap) (a:Addr) (es:Array (Int×Value)) (ep:Nat) (t:SetTable):Prop where
 get:h.get? a=↑{ cls:=.type "set",dict:=none,data:=.set es ep t }
 fits:t.fits es.size=true
 xW:uC t.place.toList
 led:t.led=tG w
 plain:t.plain=true
theorem x_.size {w:World}{h:Heap}{a:Addr}{es:Array (Int×Value)}{ep:Nat}{t:SetTable}(S:x_ w h a es ep t):t.place.size=es.size:=by
 have:=S.fits;simp![SetTable.fits,AX,beq_iff_eq] at this;show this.1
section
variable {prog:Program}{w:World}{A:Around}{E:Af}{s:Shared}
def di {a:Addr}{es:Array (Int×Value)}{ep:Nat}{t:SetTable}{i:Nat}{Q:Option (Value×Nat)->Shared->Prop}(S:x_ w s.heap a es ep t) (hi:i<=es.size) (slot:Nat) (hs:w.params.followText "set-order"=false->slot=slotAt t i)
  (h:∀ EY,(w.params.followText "set-order"=false->EY=slotAt t (i+1))->Q ((comes w a es ep)[i]?.map λ e=>(e.2,EY)) s):wpAny (model prog w) A (setNext a slot i ep) Q E s:=by
 unfold setNext setsByText;exact IC (JR S.get rfl S.fits ?_);dsimp only;exact IC (IC (J8 (Ac ?_)));change wpAny _ A (if w.params.followText "set-order"=true then _ else _) Q E s;cases hb:w.params.followText "set-order" with
 | true=>
  rw[if_pos rfl,if_neg #[]];unfold setWalk setsByText;exact IC (IC (JR S.get rfl S.fits ?_));dsimp only;exact IC (IC (J8 (Ac ?_)));change wpAny _ A (if w.params.followText "set-order"=true then _ else _) _ E s;rw[if_pos hb];exact IC (J8 (Ac ?_));exact Ac ?_;have:=h slot (λ q=>by rw[hb] at q;cases q);unfold comes at this;rw[if_pos hb] at this;show this
 | false=>
  rw[if_neg #[]];split
  .rename_i hd;have GN:(!t.plain&&decide (es.size>1))=true:=hd;rw[S.plain] at GN;simp at GN
  .change wpAny _ A ((if (!t.led&&!es.isEmpty)=true then unsupported "set:maker-not-led" else pure Unit.unit) >>= _) Q E s;have hl:t.led=true:=by rw[S.led];unfold tG;rw[hb];rfl
   rw[if_neg (by rw[hl];simp)];exact IC (Ac (Ac ?_));have BR:=hs hb;have hz:=S.size;rw[BR,O0 S.xW i (by rw[hz];show hi)];have:=h (slotAt t (i+1)) (λ _=>rfl);unfold comes at this;rw[if_neg (by rw[hb];simp)] at this;rcases Br i es.size with q | q
   .have hp:i<t.place.size:=by rw[hz];show q
    rw[Bm q] at this;rw[Bm q,Bm hp];have e:slotAt t (i+1)=t.place[i] + 1:=by change t.place.getD i 0+1=_;rw[jk hp]
    rw[e] at this;show this
   .rw[Cp q] at this;rw[Cp q];show this
def rz {a I:Addr}{slot i n ep:Nat}(ho:s.heap.get? I=↑(sf a slot i n ep)):s.TypeIs (.ref I) "set_iterator":=#[_,ho,rfl]
def gv (k:Nat):((k:Int)).toNat=k:=DJ k
def YX {I a:Addr}{es:Array (Int×Value)}{ep:Nat}{t:SetTable}{i slot:Nat}{e:Int×Value}{Q:Option Value->Shared->Prop}(ho:s.heap.get? I=↑(sf a slot i es.size ep)) (S:x_ w s.heap a es ep t) (hs:w.params.followText "set-order"=false->slot=slotAt t i) (he:(comes w a es ep)[i]?=↑e)
  (hi:i<es.size) (h:∀ h' EY,(w.params.followText "set-order"=false->EY=slotAt t (i+1))->h'.get? I=↑(sf a EY (i+1) es.size ep)->Heap.SameBut I s.heap h'->Q ↑e.2 { s with heap:=h' }):wpAny (model prog w) A (pyNext (.ref I)) Q E s:=by
 unfold pyNext;exact IC (wpAny_attempt (JW (name:=Str.ofString "__next__") (rz ho) qd (JQ qd (rz ho) c_ ?_ (b_ _))));exact IC (Ac ?_);dsimp only;exact IC (wpAny_fieldsOf ho rfl ?_);dsimp only[rawInt];exact IC (IC (JR S.get rfl S.fits (Ac ?_)));rw[if_neg #[]];exact IC (di S ⋯ slot hs λ EY HJ=>?_);rw[gv] at HJ ⊢;rw[he];dsimp only[Option.map_some];exact IC (JS ho rfl #[] ?_);have o1:=JN (Obj.mapFields (·.set! 0 (Value.int (EY:Int) 0))) ho rfl;exact IC (JS o1 rfl #[] ?_);have o2:=JN (Obj.mapFields (·.set! 1 (Value.int ((i:Int)+1) 0))) o1 rfl;exact Ac #[_,rfl,Ac (h _ EY HJ o2 ((Heap.SameBut.update ..).trans (Heap.SameBut.update ..)))]
def YY {I a:Addr}{es:Array (Int×Value)}{ep:Nat}{t:SetTable}{slot:Nat}{Q:Option Value->Shared->Prop}(hh:A.handled=none) (ho:s.heap.get? I=↑(sf a slot es.size es.size ep)) (S:x_ w s.heap a es ep t) (hs:w.params.followText "set-order"=false->slot=slotAt t es.size)
  (h:∀ h',Heap.ExtBut I s.heap h'->Q none { s with heap:=h' }):wpAny (model prog w) A (pyNext (.ref I)) Q E s:=by
 have hn:(comes w a es ep)[es.size]?=none:=by
  have:=(oy w a es ep).length_eq;simp![Bl] at this;rw[Cp ⋯]
 unfold pyNext;exact IC (wpAny_attempt (JW (name:=Str.ofString "__next__") (rz ho) qd (JQ qd (rz ho) c_ ?_ (b_ _))));exact IC (Ac ?_);dsimp only;exact IC (wpAny_fieldsOf ho rfl ?_);dsimp only[rawInt];exact IC (IC (JR S.get rfl S.fits (Ac ?_)));rw[if_neg #[]];exact IC (di S #[] slot (by exists hs) λ EY HJ=>?_);rw[gv,hn];dsimp only[Option.map_none];exact IC (JS ho rfl #[] ?_);exact IC ?_;simp![newExc,newTuple];exact IC (JP ?_ (by size_fits));exact IC (m:=firstArgMember _ _) (wpAny_of_eq (a:=Value.none) (by first | rfl | (simp![firstArgMember];rfl)) (JP ?_ (by size_fits)));unfold raiseNew;exact IC (wpAny_handled ?_);rw[show A.in1.handled=none from hh];exact IC ((Ac (wpAny_throw ?_)));exact IC ((wpAny_isInstance (T:="StopIteration") (b:=true) #[_,AQ _ rfl,rfl] isSubtype_stop ?_));show Ac (h _ (((Heap.SameBut.update ..).extBut.push _).push _))
def YW {I a:Addr}{slot i n ep:Nat}{Q:Af}(ho:s.heap.get? I=↑(sf a slot i n ep)) (h:Q (.ref I) s):wpAny (model prog w) A (pyIter (.ref I)) Q E s:=by
 exact wpAny_pyIter_slot (rz ho) gP (JQ gP (rz ho) Px ?_ (O8 _));show Ac #[_,rfl,"set_iterator",_,rz ho,qd.lookup,h]
def x_.keep {h h':Heap}{a:Addr}{es:Array (Int×Value)}{ep:Nat}{t:SetTable}(S:x_ w h a es ep t) (k:∀ o,h.get? a=↑o->h'.get? a=↑o):x_ w h' a es ep t:=#[k _ S.get,S.fits,S.xW,S.led,S.plain]
def ZS (hh:A.handled=none) (I a:Addr) (Aw:a≠I) (es:Array (Int×Value)) (ep:Nat) (t:SetTable):
  Walks prog w A I [I,a] [I] es.size (λ i v=>∃ e,(comes w a es ep)[i]?=↑e/\v=e.2) (λ i h=>(∃ slot,(w.params.followText "set-order"=false->slot=slotAt t i)/\h.get? I=↑(sf a slot i es.size ep))/\x_ w h a es ep t) where
 sub:=λ b hb=>by simp at hb;simp[hb]
 frame:=λ _ _ _ st k=>by
  let#[#[slot,h1,h2],S]:=st;show#[#[slot,h1,k I #[] _ h2],S.keep λ o e=>k a #[] o e]
 item:=λ i s Q E hi st hQ=>by
  let#[#[slot,h1,h2],S]:=st;have hl:i<(comes w a es ep).size:=by
   have:=(oy w a es ep).length_eq;simp![Bl] at this;lia
  exact YX h2 S h1 (Bm hl) hi λ h' EY g1 g2 g3=>?_;show hQ _ h' s.toks #[_,Bm hl,rfl] #[#[EY,g1,g2],S.keep λ o e=>(g3.2 a Aw).trans e] λ b o hb e=>(g3.2 b (λ z=>hb (by simp[z]))).trans e
 done:=λ s Q E st hQ=>by
  let#[#[slot,h1,h2],S]:=st;show YY hh h2 S h1 λ h' g=>hQ h' s.toks λ b o hb e=>g b o (λ z=>hb (by simp[z])) e
 self:=λ _ _ _ _ st hQ=>by
  let#[#[slot,h1,h2],S]:=st;show YW h2 hQ
def RJ:typeLookup (.type "set") "__len__"=pure ↑(.builtin "set.__len__"):=F.slot_set_len.lookup
def split_len:splitId "set.__len__"=↑("set","__len__"):=by decide +kernel
def Rx {a:Addr}{es:Array (Int×Value)}{ep:Nat}{t:SetTable}{Q:Bool->Shared->Prop}(S:x_ w s.heap a es ep t) (h:Q false s):wpAny (model prog w) A (setDrawn a) Q E s:=by
 unfold setDrawn setsByText;exact IC (JR S.get rfl S.fits ?_);dsimp only;exact IC (IC (J8 (Ac (Ac ?_))));change Q (!w.params.followText "set-order"&&(!t.plain&&decide (es.size>1))) s;rw[S.plain];exists h
set_option maxHeartbeats 4000000 in
theorem R0 {a:Addr}{es:Array (Int×Value)}{ep:Nat}{t:SetTable}{Q:Bool->Shared->Prop}(S:x_ w s.heap a es ep t) (h:Q false s):wpAny (model prog w) A (Builtin.List.listLengthHint (.ref a)) Q E s:=by
 have Ty:s.TypeIs (.ref a) "set":=#[_,S.get,rfl];unfold Builtin.List.listLengthHint;exact IC (wpAny_specialOf Ty RJ ?_);dsimp only;rw[split_len];dsimp only;exact IC (wpAny_isInstance (b:=true) Ty sub_set_self ?_);rw[if_neg ()];rw[if_pos (AM)];exact IC (JX Ty ?_);show Ac h
set_option maxHeartbeats 4000000 in
def PX {a:Addr}{es:Array (Int×Value)}{ep:Nat}{t:SetTable}{Q:List Value->Shared->Prop}(hh:A.handled=none) (S:x_ w s.heap a es ep t) (hn:es.size<=sizeLine)
  (h:∀ (h':Heap) (tk:Nat),(∀ b o,b<s.heap.objs.size->s.heap.get? b=↑o->h'.get? b=↑o)->s.heap.objs.size<=h'.objs.size->Q ((comes w a es ep).toList.map (·.2)) { s with heap:=h',toks:=tk }):wpAny (model prog w) A (collect (.ref a)) Q E s:=by
 have ha:a<s.heap.objs.size:=Ar S.get;unfold collect;exact IC (wpAny_runValue (codeAny_builtin F.entry_proto_collect ?_));rw[Around.under_plainId F.plain_proto_collect _];change wpAny _ A.in1 (newList [] >>= λ l=>again (.builtin "list.__iadd__" #[[l,.ref a],[]])) _ _ s;exact IC (JP (Ac #[plainId_quiet F.plain_list_iadd _,codeAny_builtin F.entry_list_iadd ?_]));rw[Around.under_plainId F.plain_list_iadd _];let L0:Obj:={ cls:=.type "list",data:=.seq ([]:Ad).toArray }
 have S1:x_ w (s.heap.push L0) a es ep t:=S.keep λ o e=>JH _ e;have T1:Shared.TypeIs { s with heap:=s.heap.push L0 } (.ref a) "set":=#[_,S1.get,rfl];change wpAny _ A.in1 (Builtin.List.listExtendWith (.ref s.heap.objs.size) (.ref a) (.ref s.heap.objs.size)) _ _ { s with heap:=s.heap.push L0 };unfold Builtin.List.listExtendWith;exact IC (JX T1 ?_);have Aw:s.heap.objs.size≠a:=Bk ha;have c1:Builtin.List.listSameRef (.ref s.heap.objs.size) (.ref a)=false:=by simp[Builtin.List.listSameRef,Aw]
 rw[if_neg (by rw[c1];decide)];exact IC (wpAny_pyIter_slot T1 F.slot_set_iter (JQ F.slot_set_iter T1 Py ?_ (F.args_set_iter_1 _)));exact IC (IC (Ac (Ac ?_)));exact IC (IC (IC (JR S1.get rfl S1.fits (Ac (Ac ?_)))));exact IC (Rx S1 ?_);rw[if_neg ()];exact IC (Ac ?_);exact IC (wpAny_setEpoch_of S1.get rfl S1.fits ?_);exact IC (JP (Ac #[_,rfl,"set_iterator",_,#[_,AQ _ rfl,rfl],qd.lookup,?_]));let I:=(s.heap.push L0).objs.size
 let h2:=(s.heap.push L0).push (sf a 0 0 es.size ep)
 have S2:x_ w h2 a es ep t:=S1.keep λ o e=>JH _ e;have hI:h2.get? I=↑(sf a 0 0 es.size ep):=AQ _ rfl;have hL:h2.get? s.heap.objs.size=↑L0:=JH _ (AQ _ rfl);have AH:(s.heap.push L0).objs.size=s.heap.objs.size+1:=Heap.size_push _ _;change wpAny _ A.in1 _ _ _ { s with heap:=h2 };exact IC (JO (R0 (s:={ s with heap:=h2 }) S2 ?_));rw[if_pos (AM)];exact IC (wpAny_rule ?_);exact IC ?_;change wpAny _ A.in1 (updateSeq s.heap.objs.size (·.push .none) >>= λ _=>updateSeq s.heap.objs.size (·.pop)) _ _ { s with heap:=h2 };exact IC (wpAny_updateSeq hL rfl ?_);have hL2:=JN (Obj.mapSeq (·.push Value.none)) hL rfl;exact wpAny_updateSeq hL2 rfl ?_;have hL3:=JN (Obj.mapSeq (·.pop)) hL2 rfl;let h3:=(h2.update s.heap.objs.size (Obj.mapSeq (·.push Value.none))).update s.heap.objs.size (Obj.mapSeq (·.pop))
 have IQ:∀ b o,b≠s.heap.objs.size->h2.get? b=↑o->h3.get? b=↑o:=λ b o hb e=>(JL _ _ (Ne.symm hb)).trans ((JL _ _ (Ne.symm hb)).trans e);have haI:a≠I:=by change a≠(s.heap.push L0).objs.size;rw[AH];show AI (B7 ha)
 have hIn:I≠s.heap.objs.size:=by change (s.heap.push L0).objs.size≠_;rw[AH];show Bk (CA _)
 exact Ac #[plainId_quiet F.plain_extend_loop _,codeAny_extend_loopS ((ZS (A:=A.in1) hh I a haI es ep t).toS) hn s.heap.objs.size ?_ _ es.size 0 { s with heap:=h3 } [].toArray _ rfl (AZ _) #[#[0,λ _=>rfl,IQ I _ hIn hI],S2.keep λ o e=>IQ a o (Ne.symm Aw) e] hL3 (ItemsOf.nil _) λ s' acc c' hm hS' AW=>?_]
 .intro hm;rcases Ao.mp hm with q | q
  .show hIn q.symm
  .show Aw (AK.mp q)
 .exact IC (wpAny_load hS' (Ac ?_));let#[h',g',d',ID,G6]:=s';obtain rfl:g'=s.gens:=hm.gens;obtain rfl:d'=s.drawn:=hm.drawn;obtain rfl:G6=s.os:=hm.os;have hcm:(comes w a es ep).size=es.size:=by
   have:=(oy w a es ep).length_eq;exists this
  have e:acc.toList=(comes w a es ep).toList.map (·.2):=by
   exact List.ext_getElem? λ j=>?_;rw[A0];rcases Br j es.size with q | q
   .have C9:j<acc.size:=by rw[AW.1];show q
    have hj:acc[j]?=↑acc[j]:=Bm C9;let#[e,e1,e2]:=AW.2 j _ hj;rw[BB,BB,hj,e1,e2];rfl
   .rw[BB,BB,Cp (by rw[AW.1];show q),Cp (by rw[hcm];show q)];rfl
  rw[e];exact h h' ID (λ b o hb e=>hm.heap b o (λ q=>?_) (IQ b o (AI hb) (JH _ (JH _ e)))) ?_
  .rcases Ao.mp q with q | q
   .show AI hb q
   .have q':b=(s.heap.push L0).objs.size:=AK.mp q;rw[AH] at q';show AI (B7 hb) q'
  .show BA (Ar hS')
end
end ST
namespace ST
open PySem PySem.SetTable PyProof.Rows L4
section
variable {prog:Program}{w:World}{A:Around}{E:Af}{s:Shared}
def bA {a:Addr}{es:Array (Int×Value)}{ep:Nat}{t:SetTable}(hh:A.handled=none) (S:x_ w s.heap a es ep t) (hz:es.size<=sizeLine) (Q':List Value->Shared->Prop)
  (h:∀ h1 tk,(∀ b o,¬ False->s.heap.get? b=↑o->h1.get? b=↑o)->s.heap.objs.size<=h1.objs.size->Q' ((comes w a es ep).toList.map (·.2)) { s with heap:=h1,toks:=tk }):wpAny (model prog w) A (collect (.ref a)) Q' E s:=
 PX hh S hz λ h1 tk k1 k2=>h h1 tk (λ b o _ q=>k1 b o (Ar q) q) k2
end
end ST
namespace ST
open PySem PySem.SetTable PySem.Spec PyProof.Rows L2
def yy (w:World) (a:Addr) (us:Ad):Heap->Prop:=λ h=>∃ es ep t,x_ w h a es ep t/\es.toList.map (·.2)=us
def yy.vk {w:World}{a:Addr}{us:Ad}{h1 h2:Heap}(S:yy w a us h1) (k:∀ o,h1.get? a=↑o->h2.get? a=↑o):yy w a us h2:=by
 let#[es,ep,t,S,e]:=S;show#[es,ep,t,S.keep k,e]
def sC.at {prog:Program}{w:World}{h:Heap}{a:Addr}{xs:List (List Int×Addr)}(S:sC prog w h a xs (tG w)):yy w a (xs.map λ e=>Value.ref e.2) h:=by
 let#[#[es,ep,t,ho,X,h1,h2,h3],_]:=S;show#[es,ep,t,#[ho,X.fits,X.tab.xW,h1,h2],by rw[X.es,AY];rfl]
section
variable {X:Cx}
theorem dQ:∀ {ns:List Int}{us:Ad},Vals (ns.map V.int) us->∀ {prog:Program}{w:World},ItemsAre (intKind prog w) ns us
 | [],_,.nil,_,_=>.nil
 | n::ns,_,.cons r t,prog,w=>by
  let#[tk,rfl]:=r;show .cons (intKind_is _ _ _ _) (dQ t)
def Oe (hc:X.calm=true) (hu:X.A.units+64<cLine):yM X (.type "set") (λ xs H Q=>∃ p ys,∃ El:List (List Int),xs=[.ref p]/\(zA X.K H p ys\/zE X.K H p ys)/\L4.qF X.K H ys El/\El.length<64/\
  ∀ (l:Addr) (us:Ad) (ps:List (V×List Int)),H l=none->Vals (ps.map (·.1)) us->(∀ q∈ps,q∈ys.zip El)->(ps.map (·.2)).Nodup->(∀ r∈El,r∈ps.map (·.2))->Q (.ref l) (upd H l (.ext (yy X.w l us)))):=by
 intro Ek s O H xs us Q I r h;let#[p,ys,El,rfl,hq,hr,F6,q]:=h;let#[u,rfl,ru]:=vals1 r;cases ru;obtain⟨its,rv,pl,hz⟩:∃ its,Vals ys its/\(s.heap.IsList p its.toArray\/s.heap.IsTuple p its.toArray)/\True:=by
  rcases hq with hq | hq
  .let#[its,rv,pl,_]:=I.list hq;show#[its,rv,.inl pl.isList,trivial]
  .let#[its,rv,pl,_]:=I.tuple hq;show#[its,rv,.inr pl,trivial]
 have hl:=rv.length;have D_:ys.length=El.length:=Paired.length hr;have wJ:qC X.prog X.w s.heap its.toArray El:=λ i v hv=>by
  have HH:its[i]?=↑v:=by exists hv
  have hi:i<its.length:=(A1.mp HH).1;let#[Aw,b,hb,hsq]:=L4.Paired.at' hr (i:=i) ⋯ V.zk ([]:List Int);have hy:ys[i]?=↑(V.ref b):=by
   rw[BC ⋯];have:ys.getD i V.zk=ys[i]'⋯:=by simp[show i<ys.length by lia]
   rw[this] at hb;rw[hb]
  let#[v',e1,e2]:=rv.get hy;rw[HH] at e1;cases e1;cases (show v=Value.ref b from e2);let#[EV,G5,#[o,e,Ck,n,hd],_]:=I.tuple hsq;exact#[b,El.getD i [],rfl,?_,o,EV.toArray,n,e,Ck,hd,by exists dQ G5];simp[show i<El.length by lia]
 have hh:X.A.handled=none:=I.ok.hd hc;exact Oj (A:=X.A) hh hu pl wJ (by rw[Ax];lia) λ h' tk xs S U k=>?_;have kk:∀ b o,s.heap.get? b=↑o->h'.get? b=↑o:=λ b o e=>k b o (Ar e) e;have A3:H s.heap.objs.size=none:=I.zl.fresh (Aj _);have Hl:=S.at;have vals:Vals ((xs.map λ e=>(V.ref e.2,e.1)).map (·.1)) (xs.map λ e=>Value.ref e.2):=by
  clear S U Hl
  induction xs with
  | nil=>show .nil
  | cons e xs ih=>show .cons rfl ih
 have snd:(xs.map λ e=>(V.ref e.2,e.1)).map (·.2)=xs.map (·.1):=by rw[AY];rfl
 exact#[.ref s.heap.objs.size,_,I.laid (t':=tk) (o:=.ext (yy X.w s.heap.objs.size (xs.map λ e=>Value.ref e.2))) kk (Aj _) ?_,rfl,q _ _ (xs.map λ e=>(V.ref e.2,e.1)) A3 vals (λ x hx=>?_) (by rw[snd];show S.nd) λ r G_=>?_]
 .let#[es,ep,t,St,e]:=id Hl;show#[Hl,#[_,St.get],λ h1 h2 S1 k=>S1.vk k]
 .let#[e,he,rfl]:=AA.mp hx;let#[j,j1,j2,j3]:=U.own e he;have Gh:its[j]?=↑(Value.ref e.2):=by exists j2
  have C9:j<ys.length:=by rw[hl];show (A1.mp Gh).1
  let#[v',e2,e3]:=rv.get (BC C9);rw[Gh] at e2;cases e2;let#[Aw,b,hb,_]:=L4.Paired.at' hr (i:=j) ⋯ V.zk ([]:List Int);have:ys.getD j V.zk=ys[j]:=by simp[C9]
  rw[this] at hb;rw[hb] at e3;cases (show Value.ref e.2=Value.ref b from e3);exact BH (i:=j) ?_;rw[List.getElem?_zip_eq_some];show#[by rw[BC C9,hb],j3]
 .rw[snd];let#[j,hj]:=DL.mp G_;show U.all j r (by have:=(A1.mp hj).1;rw[Ax];lia) hj
theorem Od (hc:X.calm=true):yM X (.builtin "sorted") (λ xs H Q=>∃ l us vs,∃ rs:List (List Int),xs=[.ref l]/\H l=↑(.ext (yy X.w l us))/\Vals vs us/\L4.qF X.K H vs rs/\rs.length<64/\L4.ib (vs.zip rs) H Q):=by
 intro Ek s O H xs us0 Q I r h;let#[l,us,vs,rs,rfl,hl,hv,hr,F6,q]:=h;let#[u,rfl,ru]:=vals1 r;cases ru;obtain⟨⟨es,ep,t,S,eu⟩,-,-⟩:=(show xD X.prog X.w H s.heap l (.ext (yy X.w l us)) from I.zl l _ hl)
 have hp:((comes X.w l es ep).toList.map (·.2)).Perm us:=by rw[<- eu];show (oy X.w l es ep).map _
 let#[qs,q1,q2]:=L4.Paired.perm hp (L4.VR.of hv hr);have hzl:(vs.zip rs).length<64:=by rw[List.length_zip];lia
 have DA:es.size<=sizeLine:=by
  have h1:us.length=(vs.zip rs).length:=Paired.length (L4.VR.of hv hr);have h2:=congrArg List.length eu;rw[An,Bl] at h2;have:sizeLine=16777216:=rfl;lia
 show L4.YM I (λ Q' h=>bA (by show I.ok.hd hc) S DA Q' h) q2 (by rw[q1.length_eq];show hzl) λ p ps hf hp hs=>q p ps hf (hp.trans q1) hs
end
end ST
namespace L5
open PySem PySem.Spec L2 L3
open PyProof.Rows hiding St
def x8:List (List Int)->List (List Int)
 | []=>[]
 | r::rs=>if r∈x8 rs then x8 rs else r::x8 rs
theorem pQ {r:List Int}:∀ {rs:List (List Int)},r∈x8 rs↔r∈rs
 | []=>.rfl
 | x::rs=>by
  unfold x8;split
  .rename_i h;rw[pQ,Ao];show#[.inr,λ h'=>h'.elim (λ e=>e▸pQ.mp h) id]
  .rw[Ao,Ao,pQ]
theorem nZ:∀ rs:List (List Int),(x8 rs).Nodup
 | []=>.nil
 | x::rs=>by
  unfold x8;split
  .show nZ rs
  .rename_i h;show Bj.mpr #[h,nZ rs]
theorem kJ:∀ rs:List (List Int),(x8 rs).length<=rs.length
 | []=>Aj _
 | x::rs=>by
  unfold x8;have:=kJ rs;split <;> simp![Ba] <;> lia
def v_:yS:=λ ds S Q=>match ds with
 | [d]=>∃ El:List (List Int),zN d S=↑(El.map vN)/\El.length<64/\(∀ r∈El,r≠[])/\∀ l,S l=none->Q (.ref l) (ups S l (.lst ((L4.vL (x8 El)).map vN)))
 | _=>False
def qX:Ak
 | [.lst ts]=>(uH ts).bind λ rs=>if rs.length<64/\∀ r∈rs,r≠[] then ↑(.lst ((L4.vL (x8 rs)).map zm)) else none
 | [.tup ts]=>(uH ts).bind λ rs=>if rs.length<64/\∀ r∈rs,r≠[] then ↑(.lst ((L4.vL (x8 rs)).map zm)) else none
 | _=>none
def c5:uq zx qX v_:=λ S Z ys z ds Q hz hv e hq=>by
 have key:∀ y ts,ys=[y]->wq y=↑ts->((uH ts).bind λ rs=>if rs.length<64/\∀ r∈rs,r≠[] then ↑(.lst ((L4.vL (x8 rs)).map zm)) else none)=↑z->v_ ds S Q:=λ y ts ey et e'=>by
  subst ey;let#[d,rfl,h1]:=tj hv;let#[rs,e1,e2]:=Am.mp e';split at e2
  .rename_i hc;cases e2;cases fg e1;let#[es,h2,h3]:=h1.seq et;cases nH.mp h3;show#[rs,h2,hc.1,hc.2,λ l hl=>hq _ _ (.new hl _) (sa hz hl (nH.mpr rfl))]
  .cases e2
 unfold qX at e;split at e
 .show key _ _ rfl rfl e
 .show key _ _ rfl rfl e
 .cases e
section
variable {K:Ab}{e:Expr}{p:Pos}
def v_.mo:we v_:=λ ds S Q Q' hq h=>by
 unfold v_ at h ⊢;split at h
 .let#[El,h1,h2,h3,h4]:=h;show#[El,h1,h2,h3,λ l hl=>hq _ _ (h4 l hl)]
 .show h.elim
def v_.fits {w:World}:ur K v_ (λ xs H Q=>∃ p ys,∃ El:List (List Int),xs=[.ref p]/\(zA K H p ys\/zE K H p ys)/\L4.qF K H ys El/\El.length<64/\
  ∀ (l:Addr) (us:Ad) (ps:List (V×List Int)),H l=none->Vals (ps.map (·.1)) us->(∀ q∈ps,q∈ys.zip El)->(ps.map (·.2)).Nodup->(∀ r∈El,r∈ps.map (·.2))->
   ∃ l' GR F7,∃ IM:List (List Int),[V.ref l]=[.ref l']/\(upd H l (.ext (ST.yy w l us))) l'=↑(.ext (ST.yy w l' GR))/\Vals F7 GR/\L4.qF K (upd H l (.ext (ST.yy w l us))) F7 IM/\IM.length<64/\L4.ib (F7.zip IM) (upd H l (.ext (ST.yy w l us))) Q):=λ xs ds H S Q h0 h2 h=>by
 unfold v_ at h;split at h
 .rename_i d;let#[x,hx,h1]:=h0.one;subst hx;let#[El,e,F6,Aw,h]:=h;obtain⟨a,ys,rfl,g1,g2⟩:∃ a xs,x=.ref a/\(zA K H a xs\/zE K H a xs)/\zh K H (El.map vN) xs:=by
   by_cases hn:∃ ts,d=.tup ts
   .let#[ts,rfl]:=hn;cases e;simp![zf] at h1;let#[a,xs,q1,q2,q3]:=h1;show#[a,xs,q1,.inr q2,q3]
   .let#[a,ys,q1,q2,q3]:=t_ h1 h2 e (λ ts z=>hn #[ts,z]);show#[a,ys,q1,.inl q2,q3]
  exact#[a,ys,El,rfl,g1,kd g2 Aw,F6,λ l us ps hf hv sub nd all=>?_];have mem:∀ r,r∈ps.map (·.2)↔r∈El:=λ r=>#[λ h=>by
   let#[q,hq,rfl]:=AA.mp h;show (CW (sub q hq)).2,all r]
  have x1:Ext H (upd H l (.ext (ST.yy w l us))):=.new hf _;have g3:zh K H ((ps.map (·.2)).map vN) (ps.map (·.1)):=zh.kr λ q hq=>zh.lD g2 q (sub q hq);have C3:(ps.map (·.2)).Perm (x8 El):=(DM nd (nZ El)).mpr λ r=>by rw[mem,pQ]
  have DX:(ps.map (·.1)).zip (ps.map (·.2))=ps:=by rw[List.zip_map',List.map_id''];intro a;rfl
  exact#[l,us,ps.map (·.1),ps.map (·.2),rfl,yf,hv,kd (zh.ext x1 _ g3) λ r hr=>Aw r ((mem r).mp hr),by rw[C3.length_eq];have:=kJ El;lia,λ p qs hp hi hs=>?_];rw[DX] at hi;have heq:=L4.YN ((hi.map (·.2)).trans C3) hs;have Ap:p≠l:=λ z=>by subst z;rw[yf] at hp;cases hp
  have Jm:H p=none:=by rw[zM Ap] at hp;show hp
  have x2:Ext (upd H l (.ext (ST.yy w l us))) (upd (upd H l (.ext (ST.yy w l us))) p (.lst (qs.map (·.1)))):=.new hp _;have r1:zv K (upd H l (.ext (ST.yy w l us))) S:=h2.new hf;exact h p (h2.none Jm) _ _ (by simp![zf]) (x1.trans x2) (r1.ups x2 #[_,yf,?_]);rw[<- heq];show zh.ext (x1.trans x2) _ (zh.kr λ q hq=>zh.lD g2 q (sub q (hi.mem_iff.mp hq)))
 .show h.elim
end
end L5
namespace ST
open PySem PySem.SetTable PyProof.Rows
theorem c9 {t:SetTable}{hs:List Int}(T:Tab t hs) (h:Int):∀ (f k K:Nat),k<=K->K<k+f->(way t.mask h K).j∉t.place.toList->(∀ m<K,(way t.mask h m).j∈t.place.toList)->probe.go t (λ _=>h+1) h f (way t.mask h k)=↑(.empty (way t.mask h K).j none)
 | 0,k,K,h1,h2,_,_=>⋯
 | f+1,k,K,h1,h2,h3,h4=>by
  by_cases e:k=K
  .subst e;unfold probe.go;rw[T.empty h3,lJ]
  .let#[i,g,p1,_]:=T.at (h4 k ⋯);have ih:=c9 T h f (k+1) K ⋯ ⋯ h3 h4
   conv=>lhs;unfold probe.go
   rw[T.live p1];dsimp only;rw[if_neg (by intro q;have:=eq_of_beq q;lia),jX];show ih
theorem QW {t:SetTable}{hs:List Int}(T:Tab t hs) (hl:hs.length<=t.mask) (h:Int):∃ j,t.freeSlot h=↑(j,false)/\iw t h j:=by
 let#[K,k1,k2,k3]:=T.first hl h;exact#[(way t.mask h K).j,?_,#[k2,K,rfl,k3]];have g:=c9 T h (10*turns t.mask) 0 K (AZ _) (by unfold turns;lia) k2 k3;unfold SetTable.freeSlot;have e:t.probe (λ _=>h+1) h (t.probeStart h)=↑(.empty (way t.mask h K).j none):=g;rw[e];rfl
structure rN (prog:Program) (w:World) (h:Heap) (a:Addr) (xs:List (Int×Tok)) (led:Bool):Prop where
 ex:∃ es ep t,h.get? a=↑{ cls:=.type "set",dict:=none,data:=.set es ep t }/\es.toList=xs.map (λ e=>((intKind prog w).hash e.1,Value.int e.1 e.2))/\Tab t (xs.map λ e=>(intKind prog w).hash e.1)/\t.led=led/\t.plain=true/\xs.length*5<t.mask*3
 nd:(xs.map (·.1)).Nodup
section
variable {prog:Program}{w:World}{A:Around}{E:Af}{s:Shared}
def fits_of {es:Array (Int×Value)}{t:SetTable}{hs:List Int}{n:Nat}(h1:es.size=n) (T:Tab t hs) (h2:hs.length=n) (h3:n<=t.mask):t.fits es.size=true:=by
 have l:=T.len;unfold SetTable.fits SetTable.fill;rw[T.su,h1,l,h2];simp;lia
def pS {n m:Int}{t:Tok}:(intKind prog w).is n (.int m t)=true↔n=m:=by
 constructor
 .intro h;let#[t',e]:=Value.isInt_shape (show Value.isInt n (.int m t)=true from h);cases e;rfl
 .rintro rfl;show intKind_is _ _ _ _
def Pz {es:Array (Int×Value)}{xs:List (Int×Tok)}(h:es.toList=xs.map (λ e=>((intKind prog w).hash e.1,Value.int e.1 e.2))):ElemsOf (intKind prog w) es.toList:=λ e he=>by
 rw[h] at he;let#[x,_,rfl]:=AA.mp he;show#[#[x.1,pS.mpr rfl,rfl],rfl]
def Xt {es:Array (Int×Value)}{t:SetTable}{xs:List (Int×Tok)}{M wanted:Nat}(he:es.toList=xs.map (λ e=>((intKind prog w).hash e.1,Value.int e.1 e.2))) (hM:vd M) (hw:sizeAbove wanted=M+1) (Ai:xs.length*5<M*3):
  ∃ Fs t',∃ EI:List (Int×Tok),relayAll t es wanted=(Fs,t',false)/\Fs.toList=EI.map (λ e=>((intKind prog w).hash e.1,Value.int e.1 e.2))/\EI.Perm xs/\Tab t' (EI.map λ e=>(intKind prog w).hash e.1)/\t'.mask=M/\t'.led=t.led/\t'.plain=t.plain/\Fs.size=es.size:=by
 have hlen:es.size=xs.length:=by have:=congrArg List.length he;exists this
 have Ed:(es.map (·.1)).toList=xs.map λ e=>(intKind prog w).hash e.1:=by rw[Array.toList_map,he,AY];rfl
 have AH:(es.map (·.1)).size=xs.length:=by rw[CS,hlen]
 let#[t',order,h1,h2,h3,h4,h5,h6,h7]:=dE hM t.finger (t.movedTo M) t.led t.plain (es.map (·.1)) (by rw[AH];lia);rw[AH] at h6;have AE:∀ k∈order.toList,k<xs.length:=λ k hk=>by exists h6.mem_iff.mp hk
 have hr:t.relaid (es.map (·.1)) wanted=↑(t',order):=by
  unfold SetTable.relaid;rw[hw,Nat.add_sub_cancel];show h1
 have BM:(order.filterMap (es[·]?)).toList=(order.toList.filterMap λ k=>xs[k]?).map λ e=>((intKind prog w).hash e.1,Value.int e.1 e.2):=by
  rw[Array.toList_filterMap,List.map_filterMap];congr 1;funext k;rw[<- BB,he,A0]
 have EC:(order.toList.filterMap λ k=>xs[k]?).Perm xs:=(h6.filterMap _).trans (by rw[List.filterMap_getElem?_range_length]);have BI:(order.filterMap (es[·]?)).size=es.size:=by
  rw[<- Bl,BM,An,EC.length_eq,hlen]
 have hT:Tab t' ((order.toList.filterMap λ k=>xs[k]?).map λ e=>(intKind prog w).hash e.1):=by
  rw[<- ky xs (λ e=>(intKind prog w).hash e.1) 0 order.toList AE,<- Ed];show h7
 exact#[_,t',_,?_,BM,EC,hT,h2,h4,h5,BI];have PN:coversAll order es.size=true:=by
  unfold coversAll;rw[List.isPerm_iff,hlen];show h6
 have fit:t'.fits (order.filterMap (es[·]?)).size=true:=fits_of (n:=xs.length) (by rw[BI,hlen]) hT (by rw[An,EC.length_eq]) (by rw[h2];lia);unfold relayAll;rw[hr];dsimp only;rw[PN,fit];rfl
def add_int {a:Addr}{xs:List (Int×Tok)}{n:Int}{tk:Tok}{led:Bool}{Q:Bool->Shared->Prop}(S:rN prog w s.heap a xs led) (hn:xs.length<70)
  (h:∀ h' EI r,Heap.SameBut a s.heap h'->rN prog w h' a EI led->(n∈xs.map (·.1)/\EI=xs\/n∉xs.map (·.1)/\EI.Perm (xs++[(n,tk)]))->Q r { s with heap:=h' }):
  wpAny (model prog w) A (setAddHashed a (.int n tk) ((intKind prog w).hash n)) Q E s:=by
 have S0:=S;let#[#[es,ep,t,ho,he,T,BF,Ap,Ai],BG]:=S;have hlen:es.size=xs.length:=by have:=congrArg List.length he;exists this
 have hm7:7<=t.mask/\t.mask<=127:=by rcases T.mask with e | e | e <;> lia
 have fit:t.fits es.size=true:=fits_of (n:=xs.length) hlen T #[] ⋯;have hel:=Pz (prog:=prog) (w:=w) he;unfold setAddHashed setAddHashedIn;exact JO (IC (JR ho rfl fit ?_));dsimp only;have bs:byScan (.int n tk) es=true:=by
  have h1:decide (es.size<scanBound)=true:=JY (by unfold scanBound;lia);have h2:es.all (·.2.scannable)=true:=by
   rw[Array.all_eq_true_iff_forall_mem];intro e hm;show (hel e (by exists hm)).2
  unfold byScan;rw[h1,h2];rfl
 rw[if_pos bs];exact IC ?_;unfold setAddByScan;exact IC (wpAny_rule (IC (wpAny_setScan_of (k:=n) (pS.mpr rfl) ho rfl fit hel ?_)));have GZ:(es.toList.findIdx? (λ e=>(intKind prog w).is n e.2)).isSome=true↔n∈xs.map (·.1):=by
  rw[he,List.findIdx?_isSome,Dm];constructor
  .rintro⟨e,hm,q⟩;let#[x,hx,rfl]:=AA.mp hm;show AA.mpr #[x,hx,(pS.mp q).symm]
  .intro hm;let#[x,hx,rfl]:=AA.mp hm;show#[_,AA.mpr #[x,hx,rfl],pS.mpr rfl]
 cases hc:es.toList.findIdx? (λ e=>(intKind prog w).is n e.2) with
 | some j=>
  dsimp only;have hm:=GZ.mp (by rw[hc];rfl);exact Ac ?_;dsimp only;show Ac (h s.heap xs false #[rfl,λ _ _=>rfl] S0 (.inl #[hm,rfl]))
 | none=>
  dsimp only;have hm:n∉xs.map (·.1):=λ q=>by have:=GZ.mpr q;rw[hc] at this;cases this
  let#[j,fs,F]:=QW T (by rw[An];lia) ((intKind prog w).hash n);let#[p1,p2,p3]:=T.put F;rw[An] at p1;have Ce:(t.put j).1.plain=true:=by rw[p2];show Ap
  have BX:(t.put j).1.mask=t.mask:=by rw[p2]
  have AE:(t.put j).1.led=led:=by rw[p2];show BF
  generalize hT:(t.put j)=P at *;let#[t1,p]:=P;dsimp only at *;let FL:=xs.take p++(n,tk)::xs.drop p
  have EC:FL.Perm (xs++[(n,tk)]):=by
   have e:xs.take p++xs.drop p=xs:=B8 p xs;have:FL.Perm ((n,tk)::(xs.take p++xs.drop p)):=List.perm_middle;rw[e] at this;show this.trans (List.perm_append_singleton _ _).symm
  have F5:FL.length=xs.length+1:=by rw[EC.length_eq];simp
  have Gr:(insertAt es p ((intKind prog w).hash n,Value.int n tk)).toList=FL.map λ e=>((intKind prog w).hash e.1,Value.int e.1 e.2):=by
   rw[toList_insertAt,he];simp[FL,CI,B0]
  have Gw:(insertAt es p ((intKind prog w).hash n,Value.int n tk)).size=xs.length+1:=by rw[<- Bl,Gr,An,F5]
  have T1:Tab t1 (FL.map λ e=>(intKind prog w).hash e.1):=by
   have:FL.map (λ e=>(intKind prog w).hash e.1)=(xs.map λ e=>(intKind prog w).hash e.1).take p++(intKind prog w).hash n::(xs.map λ e=>(intKind prog w).hash e.1).drop p:=by simp[FL,CI,B0]
   rw[this];show p3
  have JB:t1.fits (insertAt es p ((intKind prog w).hash n,Value.int n tk)).size=true:=fits_of (n:=xs.length+1) Gw T1 (by rw[An,F5]) (by rw[BX];lia);have C8:layNew t es ((intKind prog w).hash n) (.int n tk)=(insertAt es p ((intKind prog w).hash n,Value.int n tk),t1,false,false):=by
   unfold layNew;rw[fs];dsimp only;rw[hT];dsimp only;unfold SetTable.orStandIn;rw[JB];rfl
  have BR:(insertAt es p ((intKind prog w).hash n,Value.int n tk)).size<=sizeLine:=by
   rw[Gw];have:sizeLine=16777216:=rfl;lia
  have Gy:(FL.map (·.1)).Nodup:=by
   exact (EC.map _).nodup_iff.mpr ?_;rw[Bf,List.nodup_append];exact#[BG,#[],λ x hx y hy=>?_];simp at hy;subst hy;show λ e=>hm (e▸hx)
  have Hi:=nS (Fs:=insertAt es p ((intKind prog w).hash n,Value.int n tk)) (t':=t1) ho;have sb:=Heap.SameBut.update s.heap a (Obj.putSet (insertAt es p ((intKind prog w).hash n,Value.int n tk)) t1);have FQ:t1.fill=xs.length+1:=by
   have l:=T1.len;rw[An,F5] at l;unfold SetTable.fill;rw[T1.su,l];simp
  rw[C8];dsimp only;exact IC (m:=pure Unit.unit) (Ac ?_);rw[Ce];simp![if_true];exact IC (m:=pure true) (Ac ?_);simp![if_true];exact IC (wpAny_storeSet_of ho rfl ?_ BR);by_cases hf:t1.tooFull=true
  .rw[hf];simp![CD,CP,if_true];have FE:t.mask*3<=(xs.length+1)*5:=by
    have:=hf;unfold SetTable.tooFull at this;rw[FQ,BX] at this;exists this
   let#[M',g1,g2,g3]:=gQ xs.length t.mask T.mask Ai FE hn;let#[es2,t2,Il,r1,r2,r3,r4,r5,r6,r7,r8]:=Xt (prog:=prog) (w:=w) (t:=t1) Gr g1 (wanted:=grown (insertAt es p ((intKind prog w).hash n,Value.int n tk)).size) (by rw[Gw];show g2) (by rw[F5];show g3);rw[r1];dsimp only;exact IC (m:=pure Unit.unit) (Ac (IC (wpAny_storeSet_of Hi rfl ?_ (by rw[r8];show BR))));exact Ac ?_;dsimp only;exact Ac (h _ Il true (sb.trans (Heap.SameBut.update _ a _)) #[#[es2,ep+1+1,t2,nS Hi,r2,r4,by rw[r6];show AE,by rw[r7];show Ce,by rw[r3.length_eq,F5,r5];show g3],(r3.map _).nodup_iff.mpr Gy] (.inr #[hm,r3.trans EC]))
  .have Gq:t1.tooFull=false:=by exists hf
   rw[Gq];simp![CD,B2,Bi,if_false];have FE:(xs.length+1)*5<t.mask*3:=by
    have:=Gq;unfold SetTable.tooFull at this;rw[FQ,BX] at this;exists this
   exact Ac ?_;dsimp only;show Ac (h _ FL true sb #[#[_,ep+1,t1,Hi,Gr,T1,AE,Ce,by rw[F5,BX];show FE],Gy] (.inr #[hm,EC]))
end
def Nums (its:Av) (ns:List Int):Prop:=∀ (i:Nat) v,its[i]?=↑v->∃ n t,v=.int n t/\ns[i]?=↑n
section
variable {prog:Program}{w:World}{A:Around}{E:Af}{s:Shared}{its:Av}{ns:List Int}
def Qh {led:Bool}{Sa:Addr}{wr:List Addr}(Jt:Sa∉wr) (hN:Nums its ns):Kd prog w A Value.int its ns Sa wr (λ h xs=>rN prog w h Sa xs led) (λ _=>True) where
 nd:=λ S=>S.nd
 keep:=λ k _ S=>let #[#[es,ep,t,ho,r],nd]:=S;#[#[es,ep,t,k _ _ Jt ho,r],nd]
 mi:=λ _ T=>T
 add:=λ{s xs i v Q E} _ S hl hv hQ=>by
  let#[m,t,rfl,hr]:=hN i v hv;unfold setAdd;exact JO (IC ((intKind prog w).pyHash (A:=A) (k:=m) (pS.mpr rfl) ?_));show add_int (s:={ s with toks:=s.toks+1 }) (A:=A) S hl λ h' EI rr sb S' hx=>hQ h' _ EI rr m t rfl hr sb (Co _ _) S' hx
def Xa {h:Heap}{a:Addr}(ho:h.get? a=↑(xV w)):rN prog w h a [] (tG w):=
 #[#[[].toArray,0,_,ho,rfl,#[.inl rfl,rfl,rfl,.nil,λ j hj=>(by cases hj),λ i g j hg=>(by cases hg)],rfl,rfl,by change 0*5<7*3;lia],.nil]
def Oi {l:Addr}{Q:Af}(hh:A.handled=none) (hl:s.heap.IsList l its) (hT:Nums its ns) (hn:its.size<70)
  (h:∀ (h':Heap) (tk:Nat) xs,rN prog w h' s.heap.objs.size xs (tG w)->Up Value.int its ns its.size xs->(∀ b o,b<s.heap.objs.size->s.heap.get? b=↑o->h'.get? b=↑o)->Q (.ref s.heap.objs.size) { s with heap:=h',toks:=tk }):
  wpAny (model prog w) A (call (.type "set") [.ref l]) Q E s:=
 bG hh (.inl hl) hn (Qh #[] hT) (λ h e=>Xa e) (λ _ _=>trivial) h
end
end ST
namespace L4
open PySem PyProof.Rows
def PU {prog:Program}{w:World}{A:Around}{E:Af}{s:Shared}{vs:Ad}{ns:List Int}(hI:IntsAre vs ns) (h2:2<=vs.length) (F6:vs.length<64):
  Core prog w A E vs (λ out=>∃ FN,IntsAre out.toList FN/\FN.Perm ns/\FN.Pairwise (·<=·)) s:=by
 obtain⟨v1,v2,En,rfl⟩:∃ v1 v2 En,vs=v1::v2::En:=by
  match vs,h2 with
  | v1::v2::En,_=>show#[v1,v2,En,rfl]
 unfold Core;rw[keyKind_ints hI];exact Ac #[rfl,?_];exact JK (wpS_sortRuns (a₀:=pairsOf (v1::v2::En)) (st:=SortSt.mk' oneType' ((v1::v2::En).toArray.zip (v1::v2::En).toArray) [].toArray 7 none)
   (Q:=λ _ FV=>(arrOf FV).Perm (pairsOf (v1::v2::En))/\failedOf FV=none/\SortedTo (arrOf FV) (pairsOf (v1::v2::En)).size)
   hI.intKeys #[Array.Perm.refl _,rfl,rfl,rfl] (by rw[pairsOf_size];simp) (by rw[pairsOf_size];show F6) λ FV a1 a2 a3=>#[a1,a2,a3]) ?_ λ _ _ e=>e
 rintro⟨⟨⟩,FV⟩ s' ⟨rfl,hp,hf,hs⟩;show#[rfl,hf,sorted_out hI hp hs,by rw[hp.size_eq,pairsOf_size]]
end L4
namespace L5
open PySem PySem.Spec L2 L3
open PyProof.Rows hiding St
structure Bq (mg:Au):Prop where
 set:mg "set"=none
 zip:mg "zip"=none
 enumerate:mg "enumerate"=none
section
variable {X:Cx}{K:Ab}{a b c e:Expr}{ta tb tc:zj}{pos:Pos}{fa fb fc:Ae}
def tL (f g:yz) (ta tb tc:zj):zj:=fun Y S Q=>ta Y S λ x S1=>tb Y S1 λ y S2=>f x y S2 λ z S3=>match z with
 | .bl k=>if k=true then tc Y S3 λ w S4=>g y w S4 Q else Q (.bl false) S3
 | _=>False
def tL.mo {f g:yz}(hf:yU f) (hg:yU g) (ha:zL ta) (hb:zL tb) (hc:zL tc):zL (tL f g ta tb tc):=fun Y S Q Q' hq h=>
 ha Y S _ _ (λ x S1 h=>hb Y S1 _ _ (λ y S2 h=>hf x y S2 _ _ (λ z S3 h=>by
  cases z <;> first
   | show wy (hc Y S3 _ _ λ w S4 h=>hg y w S4 _ _ hq h) (hq _ _) h
   | show h) h) h) h
theorem gq {f g:yz}{r r':R2}(hr:yZ K f r) (G_:yZ K g r') (hf:yU f) (hg:yU g) (ha:zL ta) (hb:zL tb) (hc:zL tc) {O:St}{H:Hp}{Q:VK}(h:zw K (tL f g ta tb tc) O H Q):lQ r r' (zw K ta) (zw K tb) (zw K tc) O H Q:=by
 let#[Y,S,r1,r2,h]:=h;exact zw.go ha r1 r2 h λ x S1 v H1 h1 q1 e1 p1=>?_;exact zw.go hb (r1.ext e1) p1 h1 λ y S2 w H2 h2 q2 e2 p2=>?_;exact hr v w x y H2 S2 _ (zf.ext e2 x q1) q2 p2 (hf x y S2 _ _ (λ d S3 z v3 H3 q3 e3 p3=>?_) h2);cases d with
 | bl k=>
  simp![zf] at q3;exact#[k,q3,wy (λ z=>?_) (λ z=>?_) z]
  .exact zw.go hc (r1.ext ((e1.trans e2).trans e3)) p3 z λ w4 S4 v4 H4 h4 q4 e4 p4=>?_;show G_ w v4 y w4 H4 S4 Q (zf.ext (e3.trans e4) y q2) q4 p4 (hg y w4 S4 _ _ (λ d S' z=>z.ext (((e1.trans e2).trans e3).trans e4)) h4)
  .show z _ H3 (by simp![zf]) ((e1.trans e2).trans e3) p3
 | _=>show z.elim
@[simp] def j8 (f g:T->T->Option T) (fa fb fc:Ae):Ae:=fun J=>(fa J).bind λ x=>(fb J).bind λ y=>(f x y).bind λ b=>match b with
 | .bl k=>if k=true then (fc J).bind λ z=>g y z else ↑(.bl false)
 | _=>none
def Rc {f g:T->T->Option T}{F G:yz}(hf:Good2 zx f F) (hg:Good2 zx g G) (ha:ya fa ta) (hb:ya fb tb) (hc:ya fc tc):yI (j8 f g fa fb fc) (tL F G ta tb tc):=λ S Z Y J y Q hE e hq=>by
 let#[x1,e1,e]:=Am.mp e;let#[x2,e2,e]:=Am.mp e;let#[b,e3,e]:=Am.mp e;exact ha S Z Y J x1 _ hE e1 λ d1 S1 s1 r1=>?_;exact hb S1 Z Y J x2 _ (hE.grow s1) e2 λ d2 S2 s2 r2=>?_;exact hf S2 Z x1 x2 b d1 d2 _ (hE.grow (s1.trans s2)).zd (Vw.grow r1 s2) r2 e3 λ c S3 s3 r3=>?_;split at e
 .have:=r3.1;simp![Sn] at this;subst this;split at e
  .rename_i hk;let#[x4,e4,e5]:=Am.mp e;dsimp only;rw[if_pos hk];exact hc S3 Z Y J x4 _ (hE.grow ((s1.trans s2).trans s3)) e4 λ d4 S4 s4 r4=>?_;show hg S4 Z x2 x4 y d2 d4 Q (hE.grow (((s1.trans s2).trans s3).trans s4)).zd (Vw.grow r2 (s3.trans s4)) r4 e5 λ c' S5 s5 r5=>hq c' S5 ((((s1.trans s2).trans s3).trans s4).trans s5) (Cl.cl (((s1.trans s2).trans s3).trans s4) r5)
  .rename_i hk;dsimp only;rw[if_neg hk];cases e;show hq _ S3 ((s1.trans s2).trans s3) (Cl.of (λ _=>nofun) wo)
 .cases e
def Uz {op F_:CmpOp}{f g:yz}{r r':R2}(ho:zR X (compareOp op) r) (E9:zR X (compareOp F_) r') (hr:yZ X.K f r) (G_:yZ X.K g r') (hf:yU f) (hg:yU g) (ha:PD X a ta) (hb:PD X b tb) (hc:PD X c tc)
  (hm:lastMarks [op,F_] [b,c]=false:=by with_unfolding_all rfl):PD X (.Compare a [op,F_] [b,c] pos) (tL f g ta tb tc):=
 #[tL.mo hf hg ha.mo hb.mo hc.mo,PE.imp (WA ho E9 ha.pe hb.pe hc.pe hm) λ _ _ _ h=>gq hr G_ hf hg ha.mo hb.mo hc.mo h]
def W_ {op F_:CmpOp}{f g:yz}{r r':R2}(ho:zR X (compareOp op) r) (E9:zR X (compareOp F_) r') (hr:yZ X.K f r) (G_:yZ X.K g r') (hf:yU f) (hg:yU g) (ha:PD X a ta) (hb:PD X b tb) (hc:PD X c tc)
  (hm:lastMarks [op,F_] [b,c]=false:=by with_unfolding_all rfl):xx X (.Compare a [op,F_] [b,c] pos) (ug (tL f g ta tb tc)):=by
 exact#[ug.mo (tL.mo hf hg ha.mo hb.mo hc.mo),PT.imp (XG ho E9 ha.pe hb.pe hc.pe hm) fun O H Q h=>?_];let#[Y,S,r1,r2,h]:=h;exact gq hr G_ hf hg ha.mo hb.mo hc.mo #[Y,S,r1,r2,tL.mo hf hg ha.mo hb.mo hc.mo Y S _ _ (λ d S' z v H' a b c=>?_) h];cases d with
 | bl k=>simp![zf] at a;show#[k,a,z H' b c]
 | _=>show z.elim
end
end L5
namespace L2
open PySem PySem.Spec PyProof.Rows
section
variable {X:Cx}
def eQ:zR X (compareOp .Is) (λ x y H Q=>∃ c d,x=.bl c/\y=.bl d/\Q (.bl (c == d)) H):=by
 intro Ek s O H x y v u Q I rx ry h;let#[c,d,rfl,rfl,q]:=h;cases rx;cases ry;show is_bool #[.bl _,H,I,rfl,q]
end
end L2
namespace L5
open PySem PySem.Spec L2 L3
open PyProof.Rows hiding St
section
variable {X:Cx}{K:Ab}{a b c e o i v:Expr}{es:List Expr}{ta tb td ty tv:zj}{pos p pos':Pos}
def vx:yz:=λ x y S Q=>match x,y with
 | .int i,.int j=>Q (.bl (decide (i<j))) S
 | .tup ds,.tup es=>∃ ns ms:List Int,ds=ns.map D.int/\es=ms.map D.int/\Q (.bl (HT.lexLt ns ms)) S
 | _,_=>False
def xr:T->T->Option T
 | .int i,.int j=>↑(.bl (decide (i<j)))
 | .tup ts,.tup us=>(vU ts).bind λ ns=>(vU us).map λ ms=>.bl (HT.lexLt ns ms)
 | _,_=>none
def vx.mo:yU vx:=λ x y S Q Q' hq h=>by
 unfold vx at h ⊢;split at h
 .show hq _ _ h
 .let#[ns,ms,h1,h2,h3]:=h;show#[ns,ms,h1,h2,hq _ _ h3]
 .show h.elim
def vx.fits:yZ K vx (λ x y H Q=>vO (λ i j=>.bl (decide (i<j))) x y H Q\/km K x y H Q):=λ x y d e H S Q h1 h2 h3 h=>by
 unfold vx at h;split at h
 .simp![zf] at h1 h2;show .inl #[_,_,h1,h2,h _ H (by simp![zf]) (.refl H) h3]
 .let#[ns,ms,rfl,rfl,h]:=h;simp![zf] at h1 h2;let#[a,xs,rfl,g1,g2]:=h1;let#[b,ys,rfl,g3,g4]:=h2;rw[g2.ints] at g1;rw[g4.ints] at g3;show .inr #[a,b,ns,ms,rfl,rfl,g1,g3,h _ H (by simp![zf]) (.refl H) h3]
 .show h.elim
def jf:Good2 zx xr vx:=λ S Z x y z d e Q hz hx hy ef hq=>by
 unfold xr at ef;split at ef
 .cases ef;cases hx.int;cases hy.int;show hq _ S (.refl S) (Cl.of (λ _=>nofun) wo)
 .let#[ns,e1,e2]:=Am.mp ef;let#[ms,e3,rfl]:=AO.mp e2;cases pU e1;cases pU e3;let#[ds,rfl,h2]:=hx.tup;let#[es,rfl,h4]:=hy.tup;show#[ns,ms,t4.mp h2,t4.mp h4,hq _ S (.refl S) (Cl.of (λ _=>nofun) wo)]
 .cases ef
def eO {k:Nat}(hr:zQ k X.A):zR X (compareOp .Lt) (λ x y H Q=>vO (λ i j=>.bl (decide (i<j))) x y H Q\/km X.K x y H Q):=UQ.or (UP (by have:=hr.units;lia))
def VZ {k:Nat}(hr:zQ k X.A) (ha:PD X a ta) (hb:PD X b tb):PD X (.Compare a [.Lt] [b] pos) (z_ vx ta tb):=pB (eO hr) vx.fits vx.mo ha hb (se _)
def WW {k:Nat}(hr:zQ k X.A) (ha:PD X a ta) (hb:PD X b tb):xx X (.Compare a [.Lt] [b] pos) (ug (z_ vx ta tb)):=p7 (eO hr) vx.fits vx.mo ha hb (se _)
def wR (neg:Bool):yz:=λ x y S Q=>match x,y with
 | .bl c,.bl d=>Q (.bl (cond neg (c != d) (c == d))) S
 | x,.zk=>Q (.bl (cond neg (!qp x) (qp x))) S
 | _,_=>False
def pT (neg:Bool):T->T->Option T
 | .bl c,.bl d=>↑(.bl (cond neg (c != d) (c == d)))
 | x,.zk=>↑(.bl (cond neg (!isNone x) (isNone x)))
 | _,_=>none
def wR.mo {neg:Bool}:yU (wR neg):=λ x y S Q Q' hq h=>by
 unfold wR at h ⊢;split at h
 .show hq _ _ h
 .show hq _ _ h
 .show h.elim
def wR.fits:yZ K (wR false) (λ x y H Q=>(∃ c d,x=.bl c/\y=.bl d/\Q (.bl (c == d)) H)\/(y=.zk/\Q (.bl (decide (x=.zk))) H)):=λ x y d e H S Q h1 h2 h3 h=>by
 unfold wR at h;split at h
 .simp![zf] at h1 h2;show .inl #[_,_,h1,h2,h _ H (by simp![zf,cond]) (.refl H) h3]
 .simp![zf] at h2;exact .inr #[h2,?_];rw[Qp h1];show h _ H (by simp![zf,cond]) (.refl H) h3
 .show h.elim
def Qq {S:SS}{Z:Addr->Prop}{x:T}{d:D}(hx:Vw S Z x d):qp d=isNone x:=by
 cases x with
 | zk=>cases hx.zk;rfl
 | bl _=>cases hx.bl;rfl
 | int _=>cases hx.int;rfl
 | str _=>cases hx.str;rfl
 | tup _=>let#[ds,rfl,_]:=hx.tup;rfl
 | lst _=>obtain⟨ds,rfl | ⟨a,rfl,h1⟩,h2⟩:=hx.lst <;> rfl
 | yD=>let#[a,Al,#[rfl,_],h1]:=hx.yD;rfl
 | err _ _ _=>let#[x,rfl,_]:=hx.err;rfl
def QL {neg:Bool}:Good2 zx (pT neg) (wR neg):=λ S Z x y z d e Q hz hx hy ef hq=>by
 unfold pT at ef;split at ef
 .cases ef;cases hx.bl;cases hy.bl;show hq _ S (.refl S) (Cl.of (λ _=>nofun) wo)
 .cases ef;cases hy.zk;have key:Q (.bl (cond neg (!qp d) (qp d))) S:=by
   rw[Qq hx];show hq _ S (.refl S) (Cl.of (λ _=>nofun) wo)
  unfold wR;cases d <;> show key
 .cases ef
def kA (ha:PD X a ta) (hb:PD X b tb):PD X (.Compare a [.Is] [b] pos) (z_ (wR false) ta tb):=pB (eQ.or eP) wR.fits wR.mo ha hb (se _)
def WX (ha:PD X a ta) (hb:PD X b tb):xx X (.Compare a [.Is] [b] pos) (ug (z_ (wR false) ta tb)):=p7 (eQ.or eP) wR.fits wR.mo ha hb (se _)
def bz (td ty tv:zj):zW:=λ E Y S=>tv Y S λ v S1=>td Y S1 λ x S2=>ty Y S2 λ y S3=>∃ p ds k j,x=.ref p/\y=.int k/\S3 p=↑(.lst ds)/\wx ds.length k=↑j/\E.nx Y (ups S3 p (.lst (ds.set j v)))
theorem zh.set {H:Hp}{d:D}{x:V}(h:zf K H d x):∀ {ds:List D}{xs:List V}(j:Nat),zh K H ds xs->zh K H (ds.set j d) (xs.set j x)
 | [],xs,j,r=>by simp![zh] at r;subst r;show .nil
 | c::ds,xs,0,r=>by
  simp![zh] at r;let#[y,ys,rfl,_,r2]:=r;show .cons h r2
 | c::ds,xs,j+1,r=>by
  simp![zh] at r;let#[y,ys,rfl,r1,r2]:=r;show .cons r1 (zh.set h j r2)
def Vj (ho:PD X o td) (hi:PD X i ty) (hv:PD X v tv) (hs:swapsWithSole [.Subscript o i pos'] v pos.line X.env=pure false) (hw:swappedStores [.Subscript o i pos'] v X.env=pure none)
  (h1:(assignEach [.Subscript o i pos'] X.env).map (·.2)=[assign (.Subscript o i pos') X.env])
  (ha:∀ v,assign (.Subscript o i pos') X.env v=(do
   let ov <- holding [v] (eval o X.env)
   let iv <- holding [v,ov] (eval i X.env)
   standAt pos'
   holding [v,ov,iv] (setItem ov iv v)
   release [v,ov,iv] [])):wG X (.Assign [.Subscript o i pos'] v pos) (bz td ty tv):=by
 exact#[λ E E' Y S hE z=>hv.mo Y S _ _ (λ w S1 z=>ho.mo Y S1 _ _ (λ x S2 z=>hi.mo Y S2 _ _ (λ y S3 #[p,ds,k,j,a,b,c,d,h]=>#[p,ds,k,j,a,b,c,d,hE.nx _ _ h]) z) z) z,PS.imp (XS hv.pe (Wj ho.pe hi.pe set_list ha) hs hw h1) λ D O H hu=>?_];let#[Y,S,r1,r2,z]:=hu;exact zw.go hv.mo r1 r2 z λ w S1 w1 H1 h1 q1 e1 p1=>?_;exact zw.go ho.mo (r1.ext e1) p1 h1 λ x S2 w2 H2 h2 q2 e2 p2=>?_;exact zw.go hi.mo ((r1.ext e1).ext e2) p2 h2 λ y S3 w3 H3 h3 q3 e3 p3=>?_;let#[p,ds,k,j,rfl,rfl,c1,c2,h]:=h3;simp![zf] at q2 q3;subst q2 q3;let#[xs,g1,g2]:=p3 _ _ c1;have e4:Ext H3 (upd H3 p (.lst (xs.set j w1))):=.lst g1 _;exact#[p,xs,k,j,rfl,rfl,g1,by rw[<- g2.length];show c2,?_];show h O _ ((((r1.ext e1).ext e2).ext e3).ext e4) (((e1.trans e2).trans e3).trans e4) (p3.ups e4 #[_,yf,zh.ext e4 _ (zh.set (zf.ext (e2.trans e3) w q1) j g2)])
@[simp] def dr (n:Nat) (f v:Ae):Sm:=fun J=>(v J).bind λ z=>(f J).bind λ y=>match J[n]?,y with
 | some ↑(.own (.lst ts)),.int k=>(wx ts.length k).map λ j=>.nx (J.set n ↑(.own (.lst (ts.set j z))))
 | _,_=>none
def Tf {R:Rk}(n:Nat) {f v:Ae}(hf:ya f ty) (hv:uY v tv):zX R (dr n f v) (bz (yp n) ty tv):=λ S0 Z0 S Z Y J o E F e P=>by
 let#[z,e1,e]:=Am.mp e;let#[x,e2,e3]:=Am.mp e;split at e3
 .rename_i ts k h;let#[j,hj,rfl]:=AO.mp e3;exact hv S Z Y J z _ F.er e1 λ dz S1 s1 r1=>?_;have F1:=F.grow s1;let#[p,ob,h1,h2,h3,h4]:=F1.er.ow n _ h;cases ob with
  | lst ds=>
   change yp n Y S1 _;unfold yp;rw[h1];exact hf S1 Z Y J _ _ F1.er e2 λ d S2 s2 r2=>?_;cases Vw.int r2;have h5:zg (zF S2 Z) ts ds:=zg.sx (vq s2) ts h3;show#[p,ds,k,j,rfl,rfl,s2 _ _ h2,by rw[h5.len];show hj,P _ Z Y ((F1.grow s2).mut (us:=.lst (ts.set j z)) (es:=.lst (ds.set j dz)) n h h1 (h5.gS j (Sn.sx (vq s2) z r1)))]
  | _=>show h3.elim
 .cases e3
def Us {x y:Str}{u:Value}(hm:X.mg x=↑u) (r:RelV (.str y) u) (hg:Gl X x) (hd:(x == ("__debug__":Str))=false):PD X (.Name x pos) (dC (.str y)):=rl (nV hg hm r hd) λ _=>by simp![zf]
def Uu {x:Str}{n:Int}{u:Value}(hm:X.mg x=↑u) (r:RelV (.int n) u) (hg:Gl X x) (hd:(x == ("__debug__":Str))=false):PD X (.Name x pos) (dC (.int n)):=rl (nV hg hm r hd) λ _=>by simp![zf]
end
end L5
namespace ZP
open PySem PyProof.Rows
def jb (k:Bool):String:=cond k "tuple_iterator" "list_iterator"
def SI (h:Heap) (k:Bool) (it l:Addr) (i:Nat):Prop:=∃ o,h.get? it=↑o/\o.cls=.type (jb k)/\o.data=.fields [.ref l,.int i 0].toArray
def SQ (h:Heap) (k:Bool) (l:Addr) (xs:Av):Prop:=match k with
 | true=>h.IsTuple l xs
 | false=>h.IsList l xs
def SI.on {h h':Heap}{k:Bool}{it l:Addr}{i:Nat}(x:SI h k it l i) (f:∀ o,h.get? it=↑o->h'.get? it=↑o):SI h' k it l i:=
 let #[o,ho,r]:=x;#[o,f o ho,r]
def SQ.on {h h':Heap}{k:Bool}{l:Addr}{xs:Av}(x:SQ h k l xs) (f:∀ o,h.get? l=↑o->h'.get? l=↑o):SQ h' k l xs:=by
 cases k with
 | true=>let#[o,ho,r]:=(show h.IsTuple l xs from x);show#[o,f o ho,r]
 | false=>let#[o,ho,r]:=(show h.IsList l xs from x);show#[o,f o ho,r]
def SQ.lt {h:Heap}{k:Bool}{l:Addr}{xs:Av}(x:SQ h k l xs):l<h.objs.size:=by
 cases k with
 | true=>let#[o,ho,_]:=(show h.IsTuple l xs from x);show Ar ho
 | false=>let#[o,ho,_]:=(show h.IsList l xs from x);show Ar ho
section
variable {prog:Program}{w:World}{A:Around}{E:Af}{s:Shared}
def made {k:Bool}{l:Addr}{xs:Av}{Q:Af}(hl:SQ s.heap k l xs)
  (hQ:Q (.ref s.heap.objs.size) { s with heap:=s.heap.push { cls:=.type (jb k),data:=.fields [.ref l,.int 0 0].toArray } }):wpAny (model prog w) A (pyIter (.ref l)) Q E s:=by
 cases k with
 | true=>show wpAny_pyIter_tuple hl hQ
 | false=>show wpAny_pyIter_list hl hQ
def P0 {it l:Addr}{i:Nat}{xs:Av}{x:Value}{Q:Af}(hit:s.heap.IsTupleIter it l i) (hl:s.heap.IsTuple l xs) (hx:xs[i]?=↑x)
  (hQ:∀ h',h'.IsTupleIter it l (i+1)->Heap.SameBut it s.heap h'->Q x { s with heap:=h' }):wpAny (model prog w) A (Builtin.SmallTypes.nextOf (.ref it)) Q E s:=by
 have ht:=hit.typeIs;let#[oi,e1,e2,e3]:=id hit;let#[ol,g1,_,n,g2]:=hl;exact IC (JW (name:=Str.ofString "__next__") ht F.slot_tuple_iterator_next (JQ F.slot_tuple_iterator_next ht F.entry_tuple_iterator_next ?_ (F.args_tuple_iterator_next_1 _)));exact IC (m:=field (.ref it) 0) (JJ e1 e3 (x:=.ref l) rfl ?_);dsimp only;rw[if_neg (show ¬ ((Value.ref l == Value.none)=true) from Bd)];exact IC (m:=field (.ref it) 1) (JJ e1 e3 (x:=.int i 0) rfl ?_);dsimp only;exact IC (m:=seqItems? (.ref l)) (JU g1 g2 ?_);simp![DJ,hx];have there:=JN (Obj.mapFields λ y=>y.setIfInBounds 1 (rawInt ((i:Int)+1))) e1 (Obj.isFreed_of_fields (Obj.data_mapFields e3 _));exact IC (JS e1 e3 #[] (Ac #[x,rfl,Ac (hQ _ #[_,there,(Obj.cls_mapFields ..).trans e2,?_] (Heap.SameBut.update ..))]));rw[Obj.data_mapFields e3];simp[rawInt]
def Pw {it l:Addr}{i:Nat}{xs:Av}{Q:Af}(hh:A.handled=none) (hit:s.heap.IsTupleIter it l i) (hl:s.heap.IsTuple l xs) (hx:xs[i]?=none)
  (hE:∀ h' e,Heap.ExtBut it s.heap h'->(∃ o,h'.get? e=↑o/\o.cls=.type "StopIteration")->E (.ref e) { s with heap:=h' }):wpAny (model prog w) A (Builtin.SmallTypes.nextOf (.ref it)) Q E s:=by
 have ht:=hit.typeIs;let#[oi,e1,e2,e3]:=id hit;let#[ol,g1,_,n,g2]:=hl;exact IC (JW (name:=Str.ofString "__next__") ht F.slot_tuple_iterator_next (JQ F.slot_tuple_iterator_next ht F.entry_tuple_iterator_next ?_ (F.args_tuple_iterator_next_1 _)));exact IC (m:=field (.ref it) 0) (JJ e1 e3 (x:=.ref l) rfl ?_);dsimp only;rw[if_neg (show ¬ ((Value.ref l == Value.none)=true) from Bd)];exact IC (m:=field (.ref it) 1) (JJ e1 e3 (x:=.int i 0) rfl ?_);dsimp only;exact IC (m:=seqItems? (.ref l)) (JU g1 g2 ?_);simp![DJ,hx];exact IC (wpAny_rule (IC (JS e1 e3 #[] ?_)));exact IC (m:=newExc (.type "StopIteration") []) ?_;simp![newExc,newTuple];exact IC (JP (IC (m:=firstArgMember _ _) (wpAny_of_eq (a:=Value.none) (by first | rfl | (simp![firstArgMember];rfl)) (JP ?_ (by size_fits)))) (by size_fits));simp![raiseNew];exact IC (wpAny_handled ?_);rw[show A.in1.handled=none from hh];show IC (Ac (wpAny_throw (hE _ _ (((Heap.SameBut.update ..).extBut.push _).push _) #[_,AQ _ rfl,rfl])))
def draw {k:Bool}{it l:Addr}{i:Nat}{xs:Av}{x:Value}{Q:Af}(hit:SI s.heap k it l i) (hl:SQ s.heap k l xs) (hx:xs[i]?=↑x)
  (hQ:∀ h',SI h' k it l (i+1)->Heap.SameBut it s.heap h'->Q x { s with heap:=h' }):wpAny (model prog w) A (Builtin.SmallTypes.nextOf (.ref it)) Q E s:=by
 cases k with
 | true=>show P0 hit hl hx hQ
 | false=>show wpAny_nextOf_list_item hit hl hx hQ
def bc {k:Bool}{it l:Addr}{i:Nat}{xs:Av}{Q:Af}(hh:A.handled=none) (hit:SI s.heap k it l i) (hl:SQ s.heap k l xs) (hx:xs[i]?=none)
  (hE:∀ h' e,Heap.ExtBut it s.heap h'->(∃ o,h'.get? e=↑o/\o.cls=.type "StopIteration")->E (.ref e) { s with heap:=h' }):wpAny (model prog w) A (Builtin.SmallTypes.nextOf (.ref it)) Q E s:=by
 cases k with
 | true=>show Pw hh hit hl hx hE
 | false=>show wpAny_nextOf_list_end hh hit hl hx hE
structure lh (z TI TO i1 i2 l1 l2:Addr):Prop where
 nd:[z,TI,TO,i1,i2].Nodup
 f1:l1∉[z,TI,TO,i1,i2]
 f2:l2∉[z,TI,TO,i1,i2]
structure At (h:Heap) (k1 k2:Bool) (z TI TO i1 i2 l1 l2:Addr) (f0:Value) (n:Nat):Prop where
 z:IsZip h z TI TO f0
 ti:IsPair h TI (.ref i1) (.ref i2)
 to:∃ a b,IsPair h TO a b
 s1:SI h k1 i1 l1 n
 s2:SI h k2 i2 l2 n
def At.keep {h h':Heap}{k1 k2:Bool}{z TI TO i1 i2 l1 l2:Addr}{f0:Value}{n:Nat}(S:At h k1 k2 z TI TO i1 i2 l1 l2 f0 n) (f:∀ b∈[z,TI,TO,i1,i2],∀ o,h.get? b=↑o->h'.get? b=↑o):At h' k1 k2 z TI TO i1 i2 l1 l2 f0 n:=
 #[f z #[] _ S.z,f TI #[] _ S.ti,let #[a,b,e]:=S.to;#[a,b,f TO #[] _ e],S.s1.on (f i1 #[]),S.s2.on (f i2 #[])]
def item {k1 k2:Bool}{z TI TO i1 i2 l1 l2:Addr}{n:Nat}{xs ys:Av}{x y:Value}{Q:Option Value->Shared->Prop}(D:lh z TI TO i1 i2 l1 l2) (S:At s.heap k1 k2 z TI TO i1 i2 l1 l2 .none n)
  (h1:SQ s.heap k1 l1 xs) (h2:SQ s.heap k2 l2 ys) (hx:xs[n]?=↑x) (hy:ys[n]?=↑y)
  (hQ:∀ h',At h' k1 k2 z TI TO i1 i2 l1 l2 (rawInt s.heap.objs.size) (n+1)->IsPair h' s.heap.objs.size x y->(∀ c o,c∉[z,TI,TO,i1,i2]->s.heap.get? c=↑o->h'.get? c=↑o)->Q ↑(.ref s.heap.objs.size) { s with heap:=h' }):
  wpAny (model prog w) A (pyNext (.ref z)) Q E s:=by
 let#[nd,f1,f2]:=D;simp![Bj,Ao,A5,or_false,not_or,List.nodup_nil,and_true,not_false_eq_true] at nd f1 f2;let#[#[n1,n2,n3,n4],#[n5,n6,n7],#[n8,n9],Ir]:=nd;let#[a1,a2,a3,a4,a5]:=f1;let#[b1,b2,b3,b4,b5]:=f2;let#[hz,Dx,#[a,b,D2],s1,s2]:=S;have hT:s.TypeIs (.ref z) "zip":=#[_,hz,rfl];unfold pyNext;exact IC (wpAny_attempt (JW (name:=Str.ofString "__next__") hT F.slot_zip_next (JQ F.slot_zip_next hT F.entry_zip_next ?_ (F.args_zip_next_1 _))));exact IC (m:=field (.ref z) 2) (JJ hz rfl (x:=.bool false) rfl ?_);exact IC (m:=field (.ref z) 3) (JJ hz rfl (x:=.ref TI) rfl ?_);exact IC (m:=seqItems? (.ref TI)) (JU Dx rfl ?_);exact IC (m:=Builtin.SmallTypes.ownedTupleIsFree (.ref z)) (IC (m:=field (.ref z) 0) (JJ hz rfl (x:=.none) rfl (Ac ?_)));simp![if_true];exact IC (wpAny_rule (IC (JJ hz rfl (x:=.ref TO) rfl (IC (J4 hz #[] λ g1 GW e1=>?_)))));replace GW:IsZip g1 z TI TO .ellipsis:=GW;exact IC ?_;simp![List.zipIdx_cons,List.zipIdx_nil,CU,List.forIn_nil];exact IC (IC (wpAny_onRaise (IC (m:=Builtin.SmallTypes.nextOf (.ref i1)) (draw (s1.on λ o q=>e1.extBut _ _ (Ne.symm n3) q) (h1.on λ o q=>e1.extBut _ _ a1 q) hx λ g2 s12 e2=>Ac ?_))));have to2:IsPair g2 TO a b:=e2.extBut _ _ n8 (e1.extBut _ _ (Ne.symm n2) D2);exact IC (JU to2 rfl (IC (wpAny_updateSeq_pair to2 λ g3 to3 e3=>IC (wpAny_letGo (Ac ?_)))));replace to3:IsPair g3 TO x b:=to3;have up:∀ c o,c≠z->c≠i1->c≠TO->s.heap.get? c=↑o->g3.get? c=↑o:=λ c o c1 c2 c3 q=>e3.extBut _ _ c3 (e2.extBut _ _ c2 (e1.extBut _ _ c1 q));exact IC (IC (wpAny_onRaise (IC (m:=Builtin.SmallTypes.nextOf (.ref i2)) (draw (s2.on λ o q=>up _ o (Ne.symm n4) (Ne.symm Ir) (Ne.symm n9) q) (h2.on λ o q=>up _ o b1 b4 b3 q) hy λ g4 s24 e4=>Ac ?_))));have to4:IsPair g4 TO x b:=e4.extBut _ _ n9 to3;exact IC (JU to4 rfl (IC (wpAny_updateSeq_pair to4 λ g5 Im e5=>IC (wpAny_letGo (Ac (Ac ?_))))));replace Im:IsPair g5 TO x y:=Im;exact IC (JU Im rfl (IC (wpAny_newTuple ?_)));have sz:g5.objs.size=s.heap.objs.size:=by rw[e5.1,e4.1,e3.1,e2.1,e1.1]
 have hz5:IsZip g5 z TI TO .ellipsis:=e5.extBut _ _ n2 (e4.extBut _ _ n4 (e3.extBut _ _ n2 (e2.extBut _ _ n3 GW)));have up5:∀ c o,c∉[z,TI,TO,i1,i2]->s.heap.get? c=↑o->g5.get? c=↑o:=λ c o hc q=>by
  simp![Ao,A5,or_false,not_or] at hc;show e5.extBut _ _ hc.2.2.1 (e4.extBut _ _ hc.2.2.2.2 (up c o hc.1 hc.2.2.2.1 hc.2.2.1 q))
 have ti5:IsPair g5 TI (.ref i1) (.ref i2):=e5.extBut _ _ n5 (e4.extBut _ _ n7 (up _ _ (Ne.symm n1) n6 n5 Dx));have s15:SI g5 k1 i1 l1 (n+1):=s12.on λ o q=>e5.extBut _ _ (Ne.symm n8) (e4.extBut _ _ Ir (e3.extBut _ _ (Ne.symm n8) q));have s25:SI g5 k2 i2 l2 (n+1):=s24.on λ o q=>e5.extBut _ _ (Ne.symm n9) q;have lz:z<g5.objs.size:=Ar hz5;exact IC (m:=Builtin.SmallTypes.ownedTupleHandOut (.ref z) (.ref g5.objs.size)) ?_;have hz6:IsZip (g5.push { cls:=.type "tuple",data:=.seq [x,y].toArray }) z TI TO .ellipsis:=JH _ hz5;exact IC (J4 hz6 #[] λ g7 I_ e7=>?_);replace I_:IsZip g7 z TI TO (rawInt g5.objs.size):=I_;exact J4 I_ #[] λ g8 Iu e8=>?_;replace Iu:IsZip g8 z TI TO (rawInt g5.objs.size):=Iu;have up8:∀ c o,c≠z->(g5.push { cls:=.type "tuple",data:=.seq [x,y].toArray }).get? c=↑o->g8.get? c=↑o:=λ c o c1 q=>e8.extBut _ _ c1 (e7.extBut _ _ c1 q);have T8:IsPair g8 g5.objs.size x y:=up8 _ _ (Bk lz) (AQ _ rfl);have Hv:∀ c o,c≠z->g5.get? c=↑o->g8.get? c=↑o:=λ c o c1 q=>up8 c o c1 (JH _ q);rw[sz] at Iu T8;exact Ac #[.ref g5.objs.size,rfl,Ac ?_];change Q ↑(.ref g5.objs.size) _;rw[sz];exact hQ g8 #[Iu,Hv _ _ (Ne.symm n1) ti5,#[x,y,Hv _ _ (Ne.symm n2) Im],s15.on λ o q=>Hv _ o (Ne.symm n3) q,s25.on λ o q=>Hv _ o (Ne.symm n4) q] T8 λ c o hc q=>Hv c o (λ e=>hc (by simp[e])) (up5 c o hc q)
def stop {k1 k2:Bool}{z TI TO i1 i2 l1 l2:Addr}{n:Nat}{xs ys:Av}{Q:Option Value->Shared->Prop}(hh:A.handled=none) (D:lh z TI TO i1 i2 l1 l2) (S:At s.heap k1 k2 z TI TO i1 i2 l1 l2 .none n)
  (h1:SQ s.heap k1 l1 xs) (h2:SQ s.heap k2 l2 ys) (Eh:xs[n]?=none\/ys[n]?=none)
  (hQ:∀ h',(∀ c o,c∉[z,TI,TO,i1,i2]->s.heap.get? c=↑o->h'.get? c=↑o)->Q none { s with heap:=h' }):
  wpAny (model prog w) A (pyNext (.ref z)) Q E s:=by
 let#[nd,f1,f2]:=D;simp![Bj,Ao,A5,or_false,not_or,List.nodup_nil,and_true,not_false_eq_true] at nd f1 f2;let#[#[n1,n2,n3,n4],#[n5,n6,n7],#[n8,n9],Ir]:=nd;let#[a1,a2,a3,a4,a5]:=f1;let#[b1,b2,b3,b4,b5]:=f2;let#[hz,Dx,#[a,b,D2],s1,s2]:=S;have hT:s.TypeIs (.ref z) "zip":=#[_,hz,rfl];have fin:∀ (h':Heap) (e:Addr),(∀ c o,c∉[z,TI,TO,i1,i2]->s.heap.get? c=↑o->h'.get? c=↑o)->(∃ o,h'.get? e=↑o/\o.cls=.type "StopIteration")->
   wpAny (model prog w) A (do if <- isInstance (.ref e) (.type "StopIteration") then pure none else throw (.ref e)) Q E { s with heap:=h' }:=λ h' e k1 k2=>by
  let#[o,ho,hc]:=k2;show IC (wpAny_isInstance (T:="StopIteration") (b:=true) #[o,ho,hc] isSubtype_stop (Ac (hQ _ k1)))
 unfold pyNext;exact IC (wpAny_attempt (JW (name:=Str.ofString "__next__") hT F.slot_zip_next (JQ F.slot_zip_next hT F.entry_zip_next ?_ (F.args_zip_next_1 _))));exact IC (m:=field (.ref z) 2) (JJ hz rfl (x:=.bool false) rfl ?_);exact IC (m:=field (.ref z) 3) (JJ hz rfl (x:=.ref TI) rfl ?_);exact IC (m:=seqItems? (.ref TI)) (JU Dx rfl ?_);exact IC (m:=Builtin.SmallTypes.ownedTupleIsFree (.ref z)) (IC (m:=field (.ref z) 0) (JJ hz rfl (x:=.none) rfl (Ac ?_)));simp![if_true];exact IC (wpAny_rule (IC (JJ hz rfl (x:=.ref TO) rfl (IC (J4 hz #[] λ g1 GW e1=>?_)))));replace GW:IsZip g1 z TI TO .ellipsis:=GW;exact IC ?_;simp![List.zipIdx_cons,List.zipIdx_nil,CU,List.forIn_nil];cases hx:xs[n]? with
 | none=>
  exact IC (IC (wpAny_onRaise (IC (m:=Builtin.SmallTypes.nextOf (.ref i1)) (bc hh (s1.on λ o q=>e1.extBut _ _ (Ne.symm n3) q) (h1.on λ o q=>e1.extBut _ _ a1 q) hx λ g2 ex e2 he=>?_))));have Ja:IsZip g2 z TI TO .ellipsis:=e2 _ _ n3 GW;let#[oe,q1,q2]:=he;have ne:ex≠z:=λ q=>by subst q;rw[Ja] at q1;cases q1;simp at q2
  exact J4 Ja #[] λ g3 _ e3=>fin g3 ex (λ c o hc q=>?_) #[oe,e3.extBut _ _ ne q1,q2];simp![Ao,A5,or_false,not_or] at hc;show e3.extBut _ _ hc.1 (e2 _ _ hc.2.2.2.1 (e1.extBut _ _ hc.1 q))
 | some x=>
  have hy:ys[n]?=none:=Eh.resolve_left (by rw[hx];simp);exact IC (IC (wpAny_onRaise (IC (m:=Builtin.SmallTypes.nextOf (.ref i1)) (draw (s1.on λ o q=>e1.extBut _ _ (Ne.symm n3) q) (h1.on λ o q=>e1.extBut _ _ a1 q) hx λ g2 s12 e2=>Ac ?_))));have to2:IsPair g2 TO a b:=e2.extBut _ _ n8 (e1.extBut _ _ (Ne.symm n2) D2);exact IC (JU to2 rfl (IC (wpAny_updateSeq_pair to2 λ g3 to3 e3=>IC (wpAny_letGo (Ac ?_)))));have up:∀ c o,c≠z->c≠i1->c≠TO->s.heap.get? c=↑o->g3.get? c=↑o:=λ c o c1 c2 c3 q=>e3.extBut _ _ c3 (e2.extBut _ _ c2 (e1.extBut _ _ c1 q));exact IC (IC (wpAny_onRaise (IC (m:=Builtin.SmallTypes.nextOf (.ref i2)) (bc hh (s2.on λ o q=>up _ o (Ne.symm n4) (Ne.symm Ir) (Ne.symm n9) q) (h2.on λ o q=>up _ o b1 b4 b3 q) hy λ g4 ex e4 he=>?_))));have hz4:IsZip g4 z TI TO .ellipsis:=e4 _ _ n4 (e3.extBut _ _ n2 (e2.extBut _ _ n3 GW));let#[oe,q1,q2]:=he;have ne:ex≠z:=λ q=>by subst q;rw[hz4] at q1;cases q1;simp at q2
  exact J4 hz4 #[] λ g5 _ e5=>fin g5 ex (λ c o hc q=>?_) #[oe,e5.extBut _ _ ne q1,q2];simp![Ao,A5,or_false,not_or] at hc;show e5.extBut _ _ hc.1 (e4 _ _ hc.2.2.2.2 (up c o hc.1 hc.2.2.2.1 hc.2.2.1 q))
end
abbrev sg (k:Bool) (l:Addr):Obj:={ cls:=.type (jb k),data:=.fields [.ref l,.int 0 0].toArray }
abbrev mv (k1 k2:Bool) (h:Heap) (l1 l2:Addr):Heap:=(h.push (sg k1 l1)).push (sg k2 l2)
abbrev mr (k1 k2:Bool) (h:Heap) (l1 l2:Addr):Heap:=(mv k1 k2 h l1 l2).push { cls:=.type "tuple",data:=.seq [.ref h.objs.size,.ref (h.push (sg k1 l1)).objs.size].toArray }
abbrev mq (k1 k2:Bool) (h:Heap) (l1 l2:Addr):Heap:=(mr k1 k2 h l1 l2).push { cls:=.type "tuple",data:=.seq [.none,.none].toArray }
abbrev qr (k1 k2:Bool) (h:Heap) (l1 l2:Addr):Heap:=(mq k1 k2 h l1 l2).push { cls:=.type "zip",data:=.fields [.none,.bool false,.bool false,.ref (mv k1 k2 h l1 l2).objs.size,.ref (mr k1 k2 h l1 l2).objs.size].toArray }
def RD (k1 k2:Bool) (l1 l2:Addr) (xs ys:Av):Meets (Builtin.«zip.__new__» #[[.type "zip",.ref l1,.ref l2],[]]) (λ _ R s=>SQ s.heap k1 l1 xs/\SQ s.heap k2 l2 ys/\
   R (.ok (.ret (.ref (mq k1 k2 s.heap l1 l2).objs.size))) { s with heap:=qr k1 k2 s.heap l1 l2 }):=
 .of_wp λ prog w A R s h=>by
  let#[hp,g,d,tk,os]:=s;let#[q1,q2,h]:=h;have hsub:=sub_zip;have m1:SQ (Shared.heap #[hp,g,d,tk,os]) k1 l1 xs:=q1;have m2:SQ (Shared.heap #[hp.push (sg k1 l1),g,d,tk,os]) k2 l2 ys:=q2.on λ o e=>JH _ e
  wp_walk using made m1,made m2
  show#[_,rfl,h]
section
variable {prog:Program}{w:World}{A:Around}{E:Af}{s:Shared}
def new {k1 k2:Bool}{l1 l2:Addr}{xs ys:Av}{Q:Af}(h1:SQ s.heap k1 l1 xs) (h2:SQ s.heap k2 l2 ys)
  (h:∀ h' z TI TO i1 i2,(∀ b∈[z,TI,TO,i1,i2],s.heap.objs.size<=b)->lh z TI TO i1 i2 l1 l2->At h' k1 k2 z TI TO i1 i2 l1 l2 .none 0->(∀ c o,s.heap.get? c=↑o->h'.get? c=↑o)->Q (.ref z) { s with heap:=h' }):
  wpAny (model prog w) A (call (.type "zip") [.ref l1,.ref l2]) Q E s:=by
 exact callType_new F.called_zip () (F.typeCall_zip_2 _ _) (F.newCall_zip_2 _ _) (λ obj=>F.args_object_init_3 obj _ _) F.entry_zip_new (RD k1 k2 l1 l2 xs ys) #[h1,h2,?_];have z1:(s.heap.push (sg k1 l1)).objs.size=s.heap.objs.size+1:=Heap.size_push ..;have z2:(mv k1 k2 s.heap l1 l2).objs.size=s.heap.objs.size+2:=by rw[Heap.size_push,z1]
 have z3:(mr k1 k2 s.heap l1 l2).objs.size=s.heap.objs.size+3:=by rw[Heap.size_push,z2]
 have z4:(mq k1 k2 s.heap l1 l2).objs.size=s.heap.objs.size+4:=by rw[Heap.size_push,z3]
 have p1:∀ (h:Heap) (o:Obj),o.isFreed=false->(h.push o).get? h.objs.size=↑o:=λ h o e=>AQ _ e;have u:∀ {h:Heap}{b:Addr}{o:Obj}(o':Obj),h.get? b=↑o->(h.push o').get? b=↑o:=λ o' e=>JH _ e;have g5:(qr k1 k2 s.heap l1 l2).get? (mq k1 k2 s.heap l1 l2).objs.size=↑_:=p1 _ _ rfl;have g4:(qr k1 k2 s.heap l1 l2).get? (mr k1 k2 s.heap l1 l2).objs.size=↑_:=u _ (p1 _ _ rfl);have g3:(qr k1 k2 s.heap l1 l2).get? (mv k1 k2 s.heap l1 l2).objs.size=↑_:=u _ (u _ (p1 _ _ rfl));have g2:(qr k1 k2 s.heap l1 l2).get? (s.heap.push (sg k1 l1)).objs.size=↑(sg k2 l2):=u _ (u _ (u _ (p1 _ _ rfl)));have g1:(qr k1 k2 s.heap l1 l2).get? s.heap.objs.size=↑(sg k1 l1):=u _ (u _ (u _ (u _ (p1 _ _ rfl))));have a1:=h1.lt;have a2:=h2.lt;rw[z2,z3,z4] at g5;rw[z1,z2] at g3;rw[z3] at g4;rw[z1] at g2;generalize hN:s.heap.objs.size=N at *;have lt:∀ {m:Nat},m<N->∀ j:Nat,¬ m=N+j:=λ hm j=>⋯;have ne:∀ {i j:Nat},i≠j->¬ (N+i=N+j):=λ A2 e=>A2 ⋯;change _/\_;rw[z4];exact#[#[_,g5,rfl],h _ (N+4) (N+2) (N+3) N (N+1) (λ b hb=>?_) #[?_,?_,?_] #[g5,g3,#[_,_,g4],#[_,g1,rfl,rfl],#[_,g2,rfl,rfl]] λ c o e=>u _ (u _ (u _ (u _ (u _ e))))]
 .simp![Ao,A5,or_false] at hb;have h0:N<=N:=Aj N;rcases hb with e | e | e | e | e <;> subst e
  .show Co N 4
  .show Co N 2
  .show Co N 3
  .show h0
  .show Co N 1
 .have e0:∀ {i:Nat},i≠0->¬ (N+i=N):=λ hi e=>hi ⋯;have e0':∀ {i:Nat},i≠0->¬ (N=N+i):=λ hi e=>hi ⋯;simp![Bj,Ao,A5,or_false,not_or,List.nodup_nil,and_true,not_false_eq_true];show#[#[ne (),ne (),e0 (),ne ()],#[ne (),e0 (),ne ()],#[e0 (),ne ()],e0' ()]
 .simp![Ao,A5,or_false,not_or];show#[lt a1 4,lt a1 2,lt a1 3,AI a1,lt a1 1]
 .simp![Ao,A5,or_false,not_or];show#[lt a2 4,lt a2 2,lt a2 3,AI a2,lt a2 1]
end
end ZP
namespace L2
open PySem PySem.Spec PyProof.Rows ZP
section
variable {X:Cx}{Ek:Ah}{O:St}{H:Hp}{s:Shared}
def Inv.gs {h':Heap}{t':Nat}{fp:List Addr}(I:Inv X Ek O H s) (k:∀ b o,b∉fp->s.heap.get? b=↑o->h'.get? b=↑o) (hf:∀ b∈fp,vD X Ek H b):Inv X Ek O H { s with heap:=h',toks:=t' }:=by
 have HE:∀ b u,H b=↑u->b∉fp:=λ b u e z=>by rw[(hf b z).1] at e;cases e
 exact I.step (g':=s.gens) (d':=s.drawn) (ch:=fp) (λ b hb=>?_) (λ b o _ _ hc e _=>k b o hc e) (λ b o _ _ hc e _=>#[o.slots,k b o hc e]) (λ _ _ _ _ n=>n)
  (λ b o hc e=>#[o,k b o hc e]) (λ _ _ e=>e) (λ _ _ _ e=>e) (λ b ps e=>#[[].toArray,by rw[e];simp]) (λ m hm=>?_) (λ b u e=>?_) I.bare
 .let#[_,q1,_,q2,q3,q4]:=hf b hb;show#[q2,q1,q3,q4]
 .let#[o,es,ep,ho,r]:=hm;show#[o,es,ep,k _ o (λ z=>(hf _ z).2.1 rfl) ho,r]
 .exact (I.zl b u e).vk (λ c v hc q=>k c v ?_ q) (λ _ q=>q) λ _ _ q=>q;rcases hc with z | z
  .rw[z];show HE b u e
  .show HE c _ z
def vc (K:Ab) (H:Hp) (k:Bool) (a:Addr) (xs:List V):Prop:=match k with
 | true=>zE K H a xs
 | false=>zA K H a xs
def vc.of (I:Inv X Ek O H s) {k:Bool}{a:Addr}{xs:List V}(h:vc X.K H k a xs):∃ its:List Value,Vals xs its/\SQ s.heap k a its.toArray:=by
 cases k with
 | true=>let#[its,rv,p,_]:=I.tuple h;show#[its,rv,p]
 | false=>let#[its,rv,p,_]:=I.list h;show#[its,rv,p.isList]
def vc.inj (I:Inv X Ek O H s) {k:Bool}{a:Addr}{xs ys:List V}(h:vc X.K H k a xs) (h':vc X.K H k a ys):xs=ys:=by
 cases k with
 | true=>show I.lO h h'
 | false=>show I.kS h h'
def aE (K:Ab) (k1 k2:Bool) (a1 a2:Addr):It:=
 #[λ i H=>∃ xs ys x y,vc K H k1 a1 xs/\vc K H k2 a2 ys/\xs[i]?=↑x/\ys[i]?=↑y,
   λ i H v H'=>∃ p x y,v=.ref p/\H p=none/\H'=upd H p (.tup [x,y])/\(∀ xs,vc K H k1 a1 xs->xs[i]?=↑x)/\∀ ys,vc K H k2 a2 ys->ys[i]?=↑y,
   λ i H=>∃ xs ys,vc K H k1 a1 xs/\vc K H k2 a2 ys/\(xs.length<=i\/ys.length<=i)]
def Yi {P:Program}{w:World}{K:Ab}{es:List Expr}{kk} {pos:Pos}{k1 k2:Bool}{z TI TO i1 i2 a1 a2:Addr}(D:lh z TI TO i1 i2 a1 a2):
  Turn P w K (.Tuple es kk pos) (aE K k1 k2 a1 a2) [z,TI,TO,i1,i2] z (λ i h=>At h k1 k2 z TI TO i1 i2 a1 a2 .none i) where
 mem:=#[]
 obj:=λ i h st b hb=>by
  let#[q1,q2,#[_,_,q3],#[o1,q4,_,d1],#[o2,q5,_,d2]]:=st;simp![Ao,A5,or_false] at hb;rcases hb with e | e | e | e | e <;> subst e
  .show#[_,q1,λ v z=>by cases z]
  .show#[_,q2,λ v z=>by cases z]
  .show#[_,q3,λ v z=>by cases z]
  .show#[_,q4,λ v z=>by rw[d1] at z;cases z]
  .show#[_,q5,λ v z=>by rw[d2] at z;cases z]
 keep:=λ i h h' st k=>st.keep k
 item:=by
  intro X hP hw hK hc i Ek s O H E I hf st hg;subst hP hw hK;let#[xs,ys,x,y,g1,g2,hx,hy]:=hg;let#[it1,IL,q1]:=g1.of I;let#[it2,G5,q2]:=g2.of I;let#[u1,e1,r1]:=IL.get hx;let#[u2,e2,r2]:=G5.get hy;exact ZP.item D st q1 q2 (x:=u1) (y:=u2) (by exists e1) (by exists e2) λ h' S' T' up=>#[_,rfl,?_];exact wpAny_letOwnedTupleGo_zip S'.z λ h2 z2 sb=>?_;have nT:s.heap.objs.size∉[z,TI,TO,i1,i2]:=λ hb=>by
   let#[o,ho,_]:=(show ∃ o,s.heap.get? s.heap.objs.size=↑o/\True from by
    let#[w1,w2,#[_,_,w3],#[o1,w4,_],#[o2,w5,_]]:=st;simp![Ao,A5,or_false] at hb;rcases hb with e | e | e | e | e <;> rw[e]
    .show#[_,w1,trivial]
    .show#[_,w2,trivial]
    .show#[_,w3,trivial]
    .show#[_,w4,trivial]
    .show#[_,w5,trivial])
   show absurd (Ar ho) (Cb _)
  have nz:s.heap.objs.size≠z:=λ e=>nT (by simp[e]);have fr:H s.heap.objs.size=none:=I.zl.fresh (Aj _);have I1:Inv X Ek O (upd H s.heap.objs.size (.tup [x,y])) { s with heap:=s.heap.push { cls:=.type "tuple",data:=.seq [u1,u2].toArray },toks:=s.toks }:=
   I.laid (o:=.tup [x,y]) (λ b u q=>JH _ q) (Aj _) #[#[by change 2<=sizeLine;decide,.new _],[u1,u2],.cons r1 (.cons r2 .nil),IsTup.new _ _]
  have Gq:∀ b∈[z,TI,TO,i1,i2],upd H s.heap.objs.size (.tup [x,y]) b=none:=λ b hb=>by
   rw[zM (λ e=>nT (by rw[<- e];show hb))];show (hf b hb).1
  have kk:∀ b o,b∉[z,TI,TO,i1,i2]->(s.heap.push { cls:=.type "tuple",data:=.seq [u1,u2].toArray }).get? b=↑o->h2.get? b=↑o:=λ b o hb q=>by
   have hbz:b≠z:=λ e=>hb (by simp[e]);by_cases hbs:b=s.heap.objs.size
   .subst hbs;rw[AQ _ rfl] at q;cases q;show sb.extBut _ _ nz T'
   .have q':s.heap.get? b=↑o:=by rw[Heap.get?_push_ne _ _ _ hbs] at q;show q
    show sb.extBut _ _ hbz (up b o hb q')
  have I2:=Inv.gs (h':=h2) (t':=s.toks) (fp:=[z,TI,TO,i1,i2]) I1 kk λ b hb=>#[Gq b hb,(hf b hb).2];exact#[.ref s.heap.objs.size,_,I2,rfl,#[_,x,y,rfl,fr,rfl,λ zs hz=>by rw[hz.inj I g1];show hx,λ zs hz=>by rw[hz.inj I g2];show hy],#[z2,?_,?_,?_,?_],Gq]
  .have nd:=D.nd;simp![Bj,Ao,A5,or_false,not_or] at nd;show sb.extBut _ _ (Ne.symm nd.1.1) S'.ti
  .let#[a,b,e]:=S'.to;have nd:=D.nd;simp![Bj,Ao,A5,or_false,not_or] at nd;show#[a,b,sb.extBut _ _ (Ne.symm nd.1.2.1) e]
  .have nd:=D.nd;simp![Bj,Ao,A5,or_false,not_or] at nd;show S'.s1.on λ o q=>sb.extBut _ _ (Ne.symm nd.1.2.2.1) q
  .have nd:=D.nd;simp![Bj,Ao,A5,or_false,not_or] at nd;show S'.s2.on λ o q=>sb.extBut _ _ (Ne.symm nd.1.2.2.2) q
 done:=by
  intro X hP hw hK hc i Ek s O H E I hf st hg;subst hP hw hK;let#[xs,ys,g1,g2,hx]:=hg;let#[it1,IL,q1]:=g1.of I;let#[it2,G5,q2]:=g2.of I;have l1:=IL.length;have l2:=G5.length;exact ZP.stop (I.ok.hd hc) D st q1 q2 ?_ λ h' up=>#[rfl,I.gs (t':=s.toks) up hf];rcases hx with hx | hx
  .show .inl (by simp;lia)
  .show .inr (by simp;lia)
 self:=λ _ _ _ _ _ st h=>wpAny_pyIter_zip st.z h
def Q6 (K:Ab) (ta:TA):TI:=fun O H R=>ta O H λ vs H1=>∃ a1 a2 k1 k2,vs=[.ref a1,.ref a2]/\(∃ xs,vc K H1 k1 a1 xs)/\(∃ ys,vc K H1 k2 a2 ys)/\R (aE K k1 k2 a1 a2) H1
theorem Wc {a b:Expr}{ta:TA}{p pos pos':Pos}{es:List Expr}{kk} (hg:Gl X "zip") (hm:X.mg "zip"=none) (ha:PA X [a,b] ta) (hs:starEach [a,b] X.env=[(false,eval a X.env),(false,eval b X.env)]:=by rfl) (Gg:starEach [b] X.env=[(false,eval b X.env)]:=by rfl):
  PI X (.Tuple es kk pos') (.Call (.Name "zip" p) [a,b] [] pos) (Q6 X.K ta):=by
 intro Ek s O H R I h;exact Call_ (qm I hg hm boot_zip (PyProof.Rows.callWith_type1 (zt (ha pos Ek s O H _ I h) λ us s1 #[vs,H1,I1,r1,q1]=>?_) (by rw[hs,Gg]) (by rw[Gg];rfl)));let#[a1,a2,k1,k2,rfl,#[xs,g1],#[ys,g2],q]:=q1;cases r1 with
 | cons r rr=>
  cases rr with
  | cons r' rr=>
   cases rr;cases r;cases r';let#[it1,_,q1]:=g1.of I1;let#[it2,_,q2]:=g2.of I1;exact ZP.new q1 q2 λ h' z TI TO i1 i2 nw D S up=>wpAny_pyIter_zip S.z ?_;show#[z,[z,TI,TO,i1,i2],_,_,H1,rfl,I1.kept (t':=s1.toks) up,Yi D,S,λ b hb=>I1.jo (nw b hb) (I1.zl.fresh (nw b hb)),q]
end
end L2
namespace L5
open PySem PySem.Spec L2 L3
open PyProof.Rows hiding St
section
variable {K:Ab}{a:Expr}{p:Pos}
def dM (t:zI):xQ:=fun Y S R=>t Y S λ ds S1=>∃ d e xs ys,ds=[d,e]/\zN d S1=↑xs/\zN e S1=↑ys/\R #[List.zipWith (λ x y=>D.tup [x,y]) xs ys,λ S=>zN d S=↑xs/\zN e S=↑ys] S1
def mj:D->Bool
 | .tup _=>true
 | _=>false
def zN.k {H:Hp}{S:SS}{d:D}{v:V}{ds:List D}(r:zf K H d v) (p:zv K H S) (e:zN d S=↑ds):∃ a xs,v=.ref a/\vc K H (mj d) a xs/\zh K H ds xs:=by
 by_cases q:∃ ts,d=.tup ts
 .let#[ts,rfl]:=q;cases e;simp![zf] at r;let#[a,xs,h1,h2,h3]:=r;show#[a,xs,h1,h2,h3]
 .let#[a,xs,h1,h2,h3]:=t_ r p e λ ts z=>q #[ts,z];exact#[a,xs,h1,?_,h3];have:mj d=false:=by cases d <;> first | rfl | show absurd #[_,rfl] q
  rw[this];show h2
end
section
variable {X:Cx}{a b:Expr}{tA:zI}{pos p pos':Pos}{es:List Expr}{kk:Nat}
def Vu (hm:X.mg "zip"=none) (ha:yK X [a,b] tA) (hg:Gl X "zip") (hs:starEach [a,b] X.env=[(false,eval a X.env),(false,eval b X.env)]) (Gg:starEach [b] X.env=[(false,eval b X.env)]):
  uX X (.Tuple es kk pos') (.Call (.Name "zip" p) [a,b] [] pos) (dM tA):=by
 exact#[fun Y S Q Q' hq z=>ha.mo Y S _ _ (λ ds S1 #[d,e,xs,ys,h1,h2,h3,h4]=>#[d,e,xs,ys,h1,h2,h3,hq _ _ h4]) z,PI.imp (Wc hg hm ha.pa hs Gg) fun O H R hu=>?_];let#[Y,S,r1,r2,z]:=hu;exact yV.go ha.mo r1 r2 z λ ds S1 vs H1 h1 q1 e1 p1=>?_;let#[d,e,xs,ys,rfl,s1,s2,h]:=h1;let#[v,u,rfl,d1,d2]:=q1.two;let#[a1,us,rfl,g1,g2]:=zN.k d1 p1 s1;let#[a2,ws,rfl,g3,g4]:=zN.k d2 p1 s2;exact#[a1,a2,mj d,mj e,rfl,#[us,g1],#[ws,g3],h _ H1 e1 p1 λ i H2 S2 x1 x2 hk=>?_];let#[b1,us2,q1,m1,m2]:=zN.k (zf.ext x1 d d1) x2 hk.1;cases q1;let#[b2,ws2,q2,m3,m4]:=zN.k (zf.ext x1 e d2) x2 hk.2;cases q2;have l1:=m2.length;have l2:=m4.length;exact#[λ dd hd=>?_,λ hl=>#[us2,ws2,m1,m3,?_]]
 .rw[List.getElem?_zipWith] at hd;split at hd
  .rename_i dx dy hx hy;cases hd;let#[x,hx',rx]:=m2.get hx;let#[y,hy',ry]:=m4.get hy;exact#[#[us2,ws2,x,y,m1,m3,hx',hy'],λ v H' q=>?_];let#[pp,x',y',rfl,hp,rfl,f1,f2]:=q;have ex:x'=x:=by have:=f1 _ m1;rw[hx'] at this;show (Bh this).symm
   have ey:y'=y:=by have:=f2 _ m3;rw[hy'] at this;show (Bh this).symm
   subst ex ey;exact#[.new hp _,x2.new hp,?_];simp![zf];show#[pp,_,rfl,zE.of yf,zh.ext (.new hp _) _ (.cons rx (.cons ry .nil))]
  .cases hd
 .have FP:(List.zipWith (λ x y=>D.tup [x,y]) xs ys).length<=i:=hl;rw[List.length_zipWith] at FP;lia
@[simp] def rY:List T->Option (List T)
 | [x,y]=>(wq x).bind λ xs=>(wq y).map λ ys=>List.zipWith (λ a b=>T.tup [a,b]) xs ys
 | _=>none
theorem gJ {S:SS}:∀ {ts us:List T}{ds es:List D},zg S ts ds->zg S us es->zg S (List.zipWith (λ a b=>T.tup [a,b]) ts us) (List.zipWith (λ x y=>D.tup [x,y]) ds es)
 | [],us,ds,es,h,h'=>by simp![zg] at h;subst h;exists zg.nil
 | t::ts,[],ds,es,h,h'=>by simp![zg] at h';subst h';exists zg.nil
 | t::ts,u::us,ds,es,h,h'=>by
  simp![zg] at h h';let#[c,cs,rfl,h1,h2]:=h;let#[c',cs',rfl,h3,h4]:=h';show zg.cons (sY (zg.cons h1 (zg.cons h3 zg.nil))) (gJ h2 h4)
def zN.sx {S S':SS}{d:D}{ds:List D}(h:zN d S=↑ds) (s:Sx S S'):zN d S'=↑ds:=by
 unfold zN at h ⊢;split at h
 .show h
 .show h
 .split at h
  .rename_i q;cases h;rw[s _ _ q]
  .cases h
 .cases h
def Tt {g:Ev->Option (List T)}(h:sG g tA):rQ false (xf rY g) (dM tA):=λ S Z Y J ts Q hE e hq=>by
 let#[ys,e1,e2]:=Am.mp e;exact h S Z Y J ys _ hE e1 λ ds S1 s1 r1=>?_;unfold rY at e2;split at e2
 .let#[xs,e3,e4]:=Am.mp e2;let#[zs,e5,rfl]:=AO.mp e4;let#[d,d',rfl,h1,h2]:=qP r1;let#[es,g1,g2]:=h1.seq e3;let#[Fs,g3,g4]:=h2.seq e5;show#[d,d',es,Fs,rfl,g1,g3,hq _ S1 s1 (gJ g2 g4) λ Ho s=>#[zN.sx g1 s,zN.sx g3 s]]
 .cases e2
end
end L5
namespace L2
open PySem PySem.Spec PyProof.Rows Builtin Builtin.Str
section
variable {X:Cx}
def fH:V->Option Int->Option Int->Hp->VK->Prop:=λ x lo hi H Q=>∃ z,x=.str z/\z.length<=sizeLine/\Q (.str (Txt.slice z lo hi)) H
def YT:tR X fH:=by
 intro Ek s O H x v vl vu lo hi sl Q I rx hs pl pu h;let#[z,rfl,hz,q]:=h;let#[t,rfl]:=rx;exact#["str",_,F.slot_str_getitem.lookup,typeIs_str _ _ _,?_];let#[o,h1,h2,h3]:=hs;cases pl with
 | none=>
  cases pu with
  | none=>show Ka (l:=none) (u:=none) (st:=none) #[o,h1,h2,h3] rfl (post_val_or_str #[AF (Txt.slice_le z _ _) hz,λ t' k=>#[.str _,H,I.tok k,#[t',rfl],q]])
  | int j uj=>show Ka (l:=none) (u:=↑(j,uj)) (st:=none) #[o,h1,h2,h3] rfl (post_val_or_str #[AF (Txt.slice_le z _ _) hz,λ t' k=>#[.str _,H,I.tok k,#[t',rfl],q]])
 | int i ui=>
  cases pu with
  | none=>show Ka (l:=↑(i,ui)) (u:=none) (st:=none) #[o,h1,h2,h3] rfl (post_val_or_str #[AF (Txt.slice_le z _ _) hz,λ t' k=>#[.str _,H,I.tok k,#[t',rfl],q]])
  | int j uj=>show Ka (l:=↑(i,ui)) (u:=↑(j,uj)) (st:=none) #[o,h1,h2,h3] rfl (post_val_or_str #[AF (Txt.slice_le z _ _) hz,λ t' k=>#[.str _,H,I.tok k,#[t',rfl],q]])
end
end L2
namespace HT
open PySem PyProof.Rows
section
variable {prog:Program}{w:World}{A:Around}{E:Af}{s:Shared}
def PJ {t sl:Addr}{items:Av}{vl vu:Value}{lo hi:Option Int}{Q:Af}(ht:IsTup s.heap t items) (hs:s.heap.IsSliceOf sl vl vu .none) (pl:IsPart vl lo) (pu:IsPart vu hi)
  (hw:zu items.size 0 lo=0/\zu items.size items.size hi=items.size) (h:Q (.ref t) s):wpAny (model prog w) A (getItem (.ref t) (.ref sl)) Q E s:=by
 have hT:=ht.typeIs;let#[os,e1,e2,e3]:=id hs;have hS:s.TypeIs (.ref sl) "slice":=#[os,e1,e2];unfold getItem
 try with_reducible exact JO ?_
 first | exact IC (Ac ?_) | skip
 exact IC (wpAny_sequenceKey hT () (IC (JW (name:=Str.ofString "__getitem__") hT PyProof.Rows.slot_tuple_getitem (JQ PyProof.Rows.slot_tuple_getitem hT entry_tuple_getitem ?_ (args_tuple_getitem _ _)))));exact IC (m:=Builtin.Tuple.tupleItemsOf (.ref t)) (tupleItemsOf_ ht (IC (JX hS ?_)));rw[if_pos ()];exact IC (gO hs pl pu ?_);have yes:(((zu items.size 0 lo:Nat):Int) == 0&&(1:Int) == 1&&(zu items.size items.size hi-zu items.size 0 lo) == items.size)=true:=by rw[hw.1,hw.2];simp
 change wpAny _ _ (if (((zu items.size 0 lo:Nat):Int) == 0&&(1:Int) == 1&&(zu items.size items.size hi-zu items.size 0 lo) == items.size)=true then _ else _) _ _ s;rw[if_pos yes];exact IC (m:=Builtin.Tuple.tupleIsExact (.ref t)) (IC (JX hT (Ac ?_)));rw[if_pos ()]
 first
  | show IC (wpAny_rule (Ac #[_,rfl,Ac h]))
  | show IC (wpAny_rule (IC (Ac (Ac #[_,rfl,Ac h]))))
end
end HT
namespace L2
open PySem PySem.Spec PyProof.Rows
section
variable {X:Cx}
def fF (K:Ab):V->Option Int->Option Int->Hp->VK->Prop:=λ x lo hi H Q=>∃ a xs,x=.ref a/\zE K H a xs/\(HT.zu xs.length 0 lo=0/\HT.zu xs.length xs.length hi=xs.length)/\Q (.ref a) H
theorem YR:tR X (fF X.K):=by
 intro Ek s O H x v vl vu lo hi sl Q I rx hs pl pu h;let#[a,xs,rfl,hx,hw,q]:=h;cases rx;let#[its,r,ht,hz]:=I.tuple hx;have hlen:its.toArray.size=xs.length:=by rw[Ax];show r.length.symm
 show#["tuple",_,PyProof.Rows.slot_tuple_getitem.lookup,ht.typeIs,HT.PJ ht hs pl pu (by rw[hlen];show hw) #[.ref a,H,I,rfl,q]]
end
end L2
namespace L5
open PySem PySem.Spec L2 L3
open PyProof.Rows hiding St
def yQ {α:Type}(xs:List α) (lo hi:Option Int):List α:=(xs.drop (HT.zu xs.length 0 lo)).take (HT.zu xs.length xs.length hi-HT.zu xs.length 0 lo)
section
variable {X:Cx}{K:Ab}{e:Expr}{lo hi:Option Expr}{te:zj}{tl th:Option zj}{pos p2:Pos}
def u9 (t:Option zj):zS->SS->(Option Int->SS->Prop)->Prop:=fun Y S Q=>match t with
 | none=>Q none S
 | some t=>t Y S λ d S1=>match d with
  | .int i=>Q ↑i S1
  | _=>False
def aC (t:Option zj):Prop:=∀ u,t=↑u->zL u
def u9.mo (h:aC tl):∀ Y S (Q Q':Option Int->SS->Prop),(∀ d S',Q d S'->Q' d S')->u9 tl Y S Q->u9 tl Y S Q':=fun Y S Q Q' hq z=>by
 cases tl with
 | none=>show hq _ _ z
 | some t=>show h t rfl Y S _ _ (λ d S1 z=>by cases d <;> first | show hq _ _ z | show z) z
def ZY (K:Ab) (t:Option zj):TO:=fun O H Q=>∃ Y S,yj K H Y O/\zv K H S/\u9 t Y S λ o S1=>∀ H1,Ext H H1->zv K H1 S1->Q o H1
structure mO (X:Cx) (e:Option Expr) (t:Option zj):Prop where
 mo:aC t
 po:PO X e (ZY X.K t)
def Vt:mO X none none:=#[nofun,λ Ek s O H Q I h=>by
 let#[Y,S,r1,r2,z]:=h;show XX Ek s O H Q I (z H (.refl H) r2)]
def Vs (h:PD X e te):mO X ↑e ↑te:=#[λ u q=>by cases q;show h.mo,λ Ek s O H Q I hu=>by
 exact XW h.pe Ek s O H Q I ?_;let#[Y,S,r1,r2,z]:=hu;exact zw.go h.mo r1 r2 z λ d S1 v H1 h1 q1 e1 p1=>?_;cases d with
 | int i=>simp![zf] at q1;show#[i,q1,h1 H1 e1 p1]
 | zk=>show h1.elim
 | bl _=>show h1.elim
 | str _=>show h1.elim
 | err _ _ _=>show h1.elim
 | tup _=>show h1.elim
 | y_ _=>show h1.elim
 | ref _=>show h1.elim]
def u5 (d:D) (lo hi:Option Int) (S:SS) (Q:DK):Prop:=match d with
 | .tup ds=>Q (.tup (yQ ds lo hi)) S
 | .str z=>z.length<=sizeLine/\Q (.str (Txt.slice z lo hi)) S
 | d=>∃ ds,zN d S=↑ds/\∀ p,S p=none->Q (.ref p) (ups S p (.lst (yQ ds lo hi)))
def u5.mo {d:D}{lo hi:Option Int}{S:SS}{Q Q':DK}(hq:∀ d S',Q d S'->Q' d S') (h:u5 d lo hi S Q):u5 d lo hi S Q':=by
 unfold u5 at h ⊢;split at h
 .show hq _ _ h
 .show#[h.1,hq _ _ h.2]
 .let#[ds,h1,h2]:=h;show#[ds,h1,λ p hp=>hq _ _ (h2 p hp)]
def zh.cut {H:Hp}{ds:List D}{xs:List V}(h:zh K H ds xs) (lo hi:Option Int):zh K H (yQ ds lo hi) (uR xs lo hi):=by
 have hd:∀ {ds:List D}{xs:List V}(n:Nat),zh K H ds xs->zh K H (ds.drop n) (xs.drop n):=by
  intro ds
  induction ds with
  | nil=>intro xs n h;simp![zh] at h;subst h;exists zh.nil
  | cons d ds ih=>
   intro xs n h;simp![zh] at h;let#[y,ys,rfl,h1,h2]:=h;cases n with
   | zero=>show .cons h1 h2
   | succ n=>show ih n h2
 have ht:∀ {ds:List D}{xs:List V}(n:Nat),zh K H ds xs->zh K H (ds.take n) (xs.take n):=by
  intro ds
  induction ds with
  | nil=>intro xs n h;simp![zh] at h;subst h;exists zh.nil
  | cons d ds ih=>
   intro xs n h;simp![zh] at h;let#[y,ys,rfl,h1,h2]:=h;cases n with
   | zero=>show .nil
   | succ n=>show .cons h1 (ih n h2)
 unfold yQ uR;rw[h.length];show ht _ (hd _ h)
def PM {xs:List V}{lo hi:Option Int}(h:HT.zu xs.length 0 lo=0/\HT.zu xs.length xs.length hi=xs.length):uR xs lo hi=xs:=by
 unfold uR;rw[h.1,h.2];simp
abbrev X0 (K:Ab):V->Option Int->Option Int->Hp->VK->Prop:=λ x lo hi H Q=>fJ K x lo hi H Q\/(fG K x lo hi H Q\/fF K x lo hi H Q)\/fH x lo hi H Q
theorem u5.fits {d:D}{v:V}{lo hi:Option Int}{H:Hp}{S:SS}{Q:VK}(h1:zf K H d v) (h2:zv K H S) (h:u5 d lo hi S (xJ K H Q)):X0 K v lo hi H Q:=by
 unfold u5 at h;split at h
 .simp![zf] at h1;let#[a,xs,rfl,g1,g2]:=h1;by_cases hw:HT.zu xs.length 0 lo=0/\HT.zu xs.length xs.length hi=xs.length
  .exact .inr (.inl (.inr #[a,xs,rfl,g1,hw,h _ H ?_ (.refl H) h2]));simp![zf];exact#[a,xs,rfl,g1,?_];have:=zh.cut g2 lo hi;rw[PM hw] at this;show this
  .exact .inr (.inl (.inl #[a,xs,rfl,g1,hw,λ p hp=>h _ _ ?_ (.new hp _) (h2.new hp)]));simp![zf];show#[p,_,rfl,zE.of yf,zh.ext (.new hp _) _ (zh.cut g2 lo hi)]
 .simp![zf] at h1;show .inr (.inr #[_,h1,h.1,h.2 _ H (by simp![zf]) (.refl H) h2])
 .rename_i hn _;let#[ds,e,h]:=h;let#[a,xs,rfl,g1,g2]:=t_ h1 h2 e (λ ts z=>hn ts z);show .inl #[a,xs,rfl,g1,λ p hp=>h p (h2.none hp) _ _ (by simp![zf]) (.new hp _) (h2.ups (.new hp _) #[_,yf,zh.ext (.new hp _) _ (zh.cut g2 lo hi)])]
def bq (te:zj) (tl th:Option zj):zj:=fun Y S Q=>te Y S λ x S1=>u9 tl Y S1 λ l S2=>u9 th Y S2 λ u S3=>u5 x l u S3 Q
def VL (he:PD X e te) (hl:mO X lo tl) (hh:mO X hi th):PD X (.Subscript e (.Slice lo hi none p2) pos) (bq te tl th):=by
 exact#[fun Y S Q Q' hq z=>he.mo Y S _ _ (λ x S1 z=>u9.mo hl.mo Y S1 _ _ (λ l S2 z=>u9.mo hh.mo Y S2 _ _ (λ u S3 z=>u5.mo hq z) z) z) z,
  PE.imp (Wy (YU.or ((YS.or YR).or YT)) he.pe hl.po hh.po) fun O H Q hu=>?_]
 let#[Y,S,r1,r2,z]:=hu;exact zw.go he.mo r1 r2 z λ x S1 v H1 h1 q1 e1 p1=>?_;exact#[Y,S1,r1.ext e1,p1,u9.mo hl.mo Y S1 _ _ (λ l S2 h2 H2 e2 p2=>?_) h1];exact#[Y,S2,(r1.ext e1).ext e2,p2,u9.mo hh.mo Y S2 _ _ (λ u S3 h3 H3 e3 p3=>?_) h2];show u5.fits (zf.ext (e2.trans e3) x q1) p3 (u5.mo (λ d S' z=>z.ext ((e1.trans e2).trans e3)) h3)
@[simp] def xk:Option (Ev->Option T)->Ev->Option (Option Int)
 | none,_=>↑none
 | some f,J=>(f J).bind λ x=>match x with
  | .int i=>↑↑i
  | _=>none
def mW (f:Option (Ev->Option T)) (t:Option zj):Prop:=∀ S Z Y J y Q,ER S Z Y J->xk f J=↑y->(∀ S',Sx S S'->Q y S')->u9 t Y S Q
def T7:mW none none:=λ S Z Y J y Q hE e hq=>by cases e;show hq S (.refl S)
def T6 {f:Ae}(h:ya f te):mW ↑f ↑te:=λ S Z Y J y Q hE e hq=>by
 let#[x,e1,e2]:=Am.mp e;exact h S Z Y J x _ hE e1 λ d S1 s1 r1=>?_;split at e2
 .cases e2;cases Vw.int r1;show hq S1 s1
 .cases e2
@[simp] def rG (lo hi:Option Int):T->Option T
 | .tup ts=>↑(.tup (yQ ts lo hi))
 | .lst ts=>↑(.lst (yQ ts lo hi))
 | .str z=>if z.length<=sizeLine then ↑(.str (Txt.slice z lo hi)) else none
 | _=>none
@[simp] def yB (f:Ae) (lo hi:Option (Ev->Option T)):Ae:=fun J=>(f J).bind λ x=>(xk lo J).bind λ l=>(xk hi J).bind λ u=>rG l u x
def zg.cut {S:SS}{ts:List T}{ds:List D}(h:zg S ts ds) (lo hi:Option Int):zg S (yQ ts lo hi) (yQ ds lo hi):=by
 unfold yQ;rw[h.len];show zg.take' _ (zg.drop' _ h)
def TV {f:Ae}{l u:Option (Ev->Option T)}(h:ya f te) (hl:mW l tl) (hu:mW u th):yI (yB f l u) (bq te tl th):=λ S Z Y J y Q hE e hq=>by
 let#[x,e1,e]:=Am.mp e;let#[l',e2,e]:=Am.mp e;let#[u',e3,e]:=Am.mp e;exact h S Z Y J x _ hE e1 λ d S1 s1 r1=>?_;exact hl S1 Z Y J l' _ (hE.grow s1) e2 λ S2 s2=>?_;exact hu S2 Z Y J u' _ (hE.grow (s1.trans s2)) e3 λ S3 s3=>?_;have r3:Vw S3 Z x d:=Vw.grow r1 (s2.trans s3);have hz:=(hE.grow ((s1.trans s2).trans s3)).zd;unfold rG at e;split at e
 .cases e;let#[ds,rfl,h2]:=r3.tup;show hq _ S3 ((s1.trans s2).trans s3) (Cl.of (λ _=>nofun) (sY (zg.cut h2 _ _)))
 .cases e;let#[ds,h1,h2]:=r3.seq rfl;have key:∃ ds,zN d S3=↑ds/\∀ p,S3 p=none->Q (.ref p) (ups S3 p (.lst (yQ ds l' u'))):=#[ds,h1,λ p hp=>hq _ _ (((s1.trans s2).trans s3).trans (.new hp _)) (Cl.cl ((s1.trans s2).trans s3) (sa hz hp (zg.cut h2 _ _)))];obtain⟨_,q | ⟨a,q,_⟩,_⟩:=r3.lst
  .subst q;show key
  .subst q;show key
 .split at e
  .rename_i h0;cases e;cases r3.str;show#[h0,hq _ S3 ((s1.trans s2).trans s3) (Cl.of (λ _=>nofun) tZ)]
  .cases e
 .cases e
end
end L5
namespace TM
open PySem PyProof.Rows
def noFill:fillsNumberSlot (.type "tuple") "mul"=pure false:=
 PySem.fillsNumberSlot_seq (id:="tuple.__mul__") (r:=↑(.builtin "tuple.__rmul__")) F.slot_tuple_mul.lookup (AM) F.slot_tuple_rmul.lookup (AM)
def rep:seqRepeat? (.type "tuple")=pure ↑(.builtin "tuple.__mul__"):=by
 have a:=PySem.seqSlot_of (T:="tuple") (name:="__mul__") (id:="tuple.__mul__") F.slot_tuple_mul.lookup (AM);have b:=PySem.seqSlot_of (T:="tuple") (name:="__rmul__") (id:="tuple.__rmul__") F.slot_tuple_rmul.lookup (AM);unfold seqRepeat?;rw[a,b];rfl
def declines (i:Int) (t:Tok) (l:Addr) (items:Av) (n:Nat) (dd:Option Addr) (sl:Array (Option Value)):
  Meets (Builtin.«int.__rmul__» #[[.int i t,.ref l],[]]) (λ _ R s=>s.heap.get? l=↑{ cls:=.type "tuple",dict:=dd,data:=.seq items n,slots:=sl }/\R (.ok (.ret Value.notImplemented)) s):=
 .of_wp λ prog w A R s h=>by
  let#[hp,g,d,tk,os]:=s;let#[hl,h]:=h
  wp_walk
  show#[_,rfl,h]
theorem jq {α:Type}(xs:List α):∀ (m:Nat) (acc:Array α),(List.replicate m xs.toArray).foldl (·++·) acc=acc++(List.replicate m xs).flatten.toArray
 | 0,acc=>#[]
 | m+1,acc=>by
  rw[BP,Cr,jq xs m,BP,B3,Array.append_assoc];simp
def R6 (k:Int) (t:Tok) (l:Addr) (items:Av) (n:Nat) (dd:Option Addr) (sl:Array (Option Value)) (h1:¬ (decide (k < -(2 ^ 63))||decide (k≥2 ^ 63))=true) (h2:¬ (items.isEmpty||k == 1)=true) (h3:¬ (decide (k<=0)||items.isEmpty)=true)
  (h4:¬ (items.size*k>(2 ^ 63-1)/8)) (h5:¬ Builtin.Tuple.tupleTooMany (items.size*k)=true) (h6:((List.replicate k.toNat items).foldl (·++·) [].toArray).size<=sizeLine):
  Meets (Builtin.«tuple.__mul__» #[[.ref l,.int k t],[]]) (λ _ R s=>s.heap.get? l=↑{ cls:=.type "tuple",dict:=dd,data:=.seq items n,slots:=sl }/\
   R (.ok (.ret (.ref s.heap.objs.size))) { s with heap:=s.heap.push { cls:=.type "tuple",data:=.seq ((List.replicate k.toNat items).foldl (·++·) [].toArray) } }):=
 .of_wp λ prog w A R s h=>by
  let#[hp,g,d,tk,os]:=s;let#[hl,h]:=h;have e0:IsTup (Shared.heap #[hp,g,d,tk,os]) l items:=#[_,hl,rfl,n,rfl]
  wp_walk
  rw[if_neg h1];exact IC (m:=Builtin.Tuple.tupleItemsOf (.ref l)) (tupleItemsOf_ e0 ?_);dsimp only;rw[if_neg h2,if_neg h3,if_neg h4,if_neg h5];show IC (m:=Builtin.Tuple.tupleExact _) (JP (Ac #[_,rfl,h]) h6)
def R7 (t:Tok) (l:Addr) (items:Av) (n:Nat) (dd:Option Addr) (sl:Array (Option Value)):
  Meets (Builtin.«tuple.__mul__» #[[.ref l,.int 1 t],[]]) (λ _ R s=>s.heap.get? l=↑{ cls:=.type "tuple",dict:=dd,data:=.seq items n,slots:=sl }/\R (.ok (.ret (.ref l))) s):=
 .of_wp λ prog w A R s h=>by
  let#[hp,g,d,tk,os]:=s;let#[hl,h]:=h;have c:(items.isEmpty||(1:Int) == 1)=true:=#[]
  wp_walk
  show#[_,rfl,h]
section
variable {prog:Program}{w:World}{A:Around}{E:Af}{s:Shared}
def times {l:Addr}{its:Ad}{k:Int}{t:Tok}{Q:Af}(ht:IsTup s.heap l its.toArray) (Aw:its≠[]) (h0:1<=k) (hz:its.length*k.toNat<=sizeLine)
  (one:k=1->Q (.ref l) s) (more:k≠1->Q (.ref s.heap.objs.size) { s with heap:=s.heap.push { cls:=.type "tuple",data:=.seq (List.replicate k.toNat its).flatten.toArray } }):
  wpAny (model prog w) A (binaryOp .Mult (.ref l) (.int k t)) Q E s:=by
 have hT:=ht.typeIs;let#[#[cls,dd,data,sl],ho,hc,n,hd]:=id ht;simp only at hc hd;subst hc hd;exact wpAny_binaryOp_repeat_ref (T:="tuple") (U:="int") () hT (λ s'=>typeIs_int s' k t) noFill F.fills_int_mul F.slot_int_rmul rep F.slot_int_index.lookup
  (call_meets F.slot_int_rmul (typeIs_int s k t) F.entry_int_rmul (F.args_int_rmul_2 _ _) (declines k t l its.toArray n dd sl) #[ho,rfl,hT,?_])
 have hlen:0<its.length:=List.length_pos_iff.mpr Aw;have DB:its.toArray.isEmpty=false:=by cases its with
  | nil=>show absurd rfl Aw
  | cons a r=>rfl
 by_cases h1:k=1
 .subst h1;show call_meets F.slot_tuple_mul hT F.entry_tuple_mul (F.args_tuple_mul_2 _ _) (R7 t l its.toArray n dd sl) #[ho,one rfl]
 .have hks:k.toNat<=sizeLine:=AF (Nat.le_mul_of_pos_left _ hlen) hz;have hl:sizeLine=16777216:=rfl;have hk2:k<=16777216:=⋯;have G2:((its.toArray.size:Nat):Int)*k=((its.length*k.toNat:Nat):Int):=by
   rw[Ax,Int.natCast_mul,DI ⋯]
  have hf:(List.replicate k.toNat its.toArray).foldl (·++·) [].toArray=(List.replicate k.toNat its).flatten.toArray:=by rw[jq];simp
  have Ef:(List.replicate k.toNat its).flatten.length=k.toNat*its.length:=#[];exact call_meets F.slot_tuple_mul hT F.entry_tuple_mul (F.args_tuple_mul_2 _ _) (R6 k t l its.toArray n dd sl ?_ ?_ ?_ ?_ ?_ ?_) #[ho,?_]
  .simp![Di,decide_eq_true_eq,not_or];show#[⋯,⋯]
  .rw[DB];exists h1
  .rw[DB];simp;lia
  .rw[G2];lia
  .rw[G2];intro q;unfold Builtin.Tuple.tupleTooMany at q;have:=of_decide_eq_true q;lia
  .rw[hf,Ax,Ef,Dk];show hz
  .rw[hf];show more h1
end
end TM
namespace L2
open PySem PySem.Spec PyProof.Rows
def kj (K:Ab):R2:=λ x y H Q=>∃ a k xs,x=.ref a/\y=.int k/\zE K H a xs/\xs≠[]/\1<=k/\xs.length*k.toNat<=sizeLine/\(k=1->Q (.ref a) H)/\(k≠1->∀ p,H p=none->Q (.ref p) (upd H p (.tup (List.replicate k.toNat xs).flatten)))
theorem UL {X:Cx}:zR X (binaryOp .Mult) (kj X.K):=by
 intro Ek s O H x y v u Q I rx ry h;let#[a,k,xs,rfl,rfl,hx,Aw,h1,hz,q1,q2]:=h;cases rx;let#[t,rfl]:=ry;let#[its,r,ht,_]:=I.tuple hx;have hl:=r.length;exact TM.times ht (λ z=>Aw (r.pK.mp z)) h1 (by rw[<- hl];show hz) (λ e=>#[.ref a,H,I,rfl,q1 e]) λ e=>?_;have hlen:(List.replicate k.toNat xs).flatten.length<=sizeLine:=by
  have:(List.replicate k.toNat xs).flatten.length=k.toNat*xs.length:=#[];rw[this,Dk];show hz
 show#[.ref _,_,I.laid (t':=s.toks) (o:=.tup (List.replicate k.toNat xs).flatten) (λ b ob q=>JH _ q) (Aj _) #[#[hlen,.new _],_,r.rep k.toNat,IsTup.new _ _],rfl,q2 e _ (I.zl.fresh (Aj _))]
end L2
namespace L5
open PySem PySem.Spec L2 L3
open PyProof.Rows hiding St
section
variable {K:Ab}{a:Expr}
def uN:yz:=λ x y S Q=>match x,y with
 | .int i,.int j=>wg i j/\Q (.int (i*j)) S
 | .tup ds,.int k=>(ds≠[]/\1<=k/\ds.length*k.toNat<=sizeLine)/\Q (.tup (List.replicate k.toNat ds).flatten) S
 | _,_=>False
def wu:T->T->Option T
 | .int i,.int j=>if wg i j then ↑(.int (i*j)) else none
 | .tup ts,.int k=>if ts≠[]/\1<=k/\ts.length*k.toNat<=sizeLine then ↑(.tup (List.replicate k.toNat ts).flatten) else none
 | _,_=>none
def uN.mo:yU uN:=λ x y S Q Q' hq h=>by
 unfold uN at h ⊢;split at h
 .show#[h.1,hq _ _ h.2]
 .show#[h.1,hq _ _ h.2]
 .show h.elim
theorem zh.rep {H:Hp}{ds:List D}{xs:List V}(h:zh K H ds xs):∀ n:Nat,zh K H (List.replicate n ds).flatten (List.replicate n xs).flatten
 | 0=>.nil
 | n+1=>by
  rw[BP,BP,B3,B3];show h.append (zh.rep h n)
def uN.fits:yZ K uN (λ x y H Q=>rI wg (λ i j=>.int (i*j)) x y H Q\/kj K x y H Q):=λ x y d e H S Q h1 h2 h3 h=>by
 unfold uN at h;split at h
 .simp![zf] at h1 h2;show .inl #[_,_,h1,h2,h.1,h.2 _ H (by simp![zf]) (.refl H) h3]
 .rename_i ds k;let#[#[c1,c2,c3],h]:=h;have HX:=h1;simp![zf] at h1 h2;let#[a,xs,rfl,g1,g2]:=h1;have hl:=g2.length;exact .inr #[a,k,xs,rfl,h2,g1,λ z=>c1 (by subst z;cases ds with | nil=>rfl | cons _ _=>simp at hl),c2,by rw[<- hl];show c3,λ e=>?_,λ e p hp=>?_]
  .subst e;exact h _ H ?_ (.refl H) h3;have:(List.replicate (1:Int).toNat ds).flatten=ds:=#[];rw[this];show HX
  .exact h _ _ ?_ (.new hp _) (h3.new hp);simp![zf];show#[p,_,rfl,zE.of yf,zh.ext (.new hp _) _ (zh.rep g2 _)]
 .show h.elim
theorem zg.rep {S:SS}{ts:List T}{ds:List D}(h:zg S ts ds):∀ n:Nat,zg S (List.replicate n ts).flatten (List.replicate n ds).flatten
 | 0=>.nil
 | n+1=>by
  rw[BP,BP,B3,B3];show h.append (zg.rep h n)
def c6:Good2 zx wu uN:=λ S Z x y z d e Q hz hx hy ef hq=>by
 unfold wu at ef;split at ef
 .split at ef
  .rename_i hc;cases ef;cases hx.int;cases hy.int;show#[hc,hq _ S (.refl S) (Cl.of (λ _=>nofun) wM)]
  .cases ef
 .split at ef
  .rename_i hc;cases ef;let#[ds,rfl,h2]:=hx.tup;cases hy.int;have hl:=h2.len;show#[#[λ q=>hc.1 (by subst q;exists hl.symm),hc.2.1,by rw[hl];show hc.2.2],hq _ S (.refl S) (Cl.of (λ _=>nofun) (sY (zg.rep h2 _)))]
  .cases ef
 .cases ef
end
end L5
namespace L5
open PySem PySem.Spec L2 L3
open PyProof.Rows hiding St
section
variable {X:Cx}
def yM.or {f:Value}{r r':List V->Hp->VK->Prop}(h:yM X f r) (h':yM X f r'):yM X f (λ xs H Q=>r xs H Q\/r' xs H Q):=λ Ek s O H xs us Q I rv q=>
 q.elim (λ q=>h Ek s O H xs us Q I rv q) λ q=>h' Ek s O H xs us Q I rv q
end
end L5
namespace ST
open PySem PySem.SetTable PySem.Spec PyProof.Rows L2
def Q4 {us GR:Ad}(p:GR.Perm us):∀ {ms:List Int},IntsAre us ms->∃ FO,IntsAre GR FO/\FO.Perm ms:=by
 induction p with
 | nil=>intro ms h;show#[ms,h,.refl _]
 | cons x _ ih=>
  intro ms h;cases h with
  | cons n t h=>
   let#[FO,h1,h2]:=ih h;show#[n::FO,.cons n t h1,h2.cons n]
 | swap x y l=>
  intro ms h;cases h with
  | cons n t h=>
   cases h with
   | cons m u h=>show#[m::n::_,.cons m u (.cons n t h),.swap _ _ _]
 | trans _ _ IZ IY=>
  intro ms h;let#[m1,h1,h2]:=IY h;let#[m2,h3,h4]:=IZ h1;show#[m2,h3,h4.trans h2]
theorem rN.at {prog:Program}{w:World}{h:Heap}{a:Addr}{xs:List (Int×Tok)}(S:rN prog w h a xs (tG w)):yy w a (xs.map λ e=>Value.int e.1 e.2) h:=by
 let#[#[es,ep,t,ho,he,T,h1,h2,h3],_]:=S;have hm:7<=t.mask/\t.mask<=127:=by rcases T.mask with e | e | e <;> lia
 have hlen:es.size=xs.length:=by have:=congrArg List.length he;exists this
 show#[es,ep,t,#[ho,fits_of (n:=xs.length) hlen T #[] ⋯,T.xW,h1,h2],by rw[he,AY];rfl]
theorem ck:∀ xs:List (Int×Tok),IntsAre (xs.map λ e=>Value.int e.1 e.2) (xs.map (·.1))
 | []=>.nil
 | e::xs=>.cons e.1 e.2 (ck xs)
theorem gf:∀ {us:Ad}{ns:List Int},IntsAre us ns->Vals (ns.map V.int) us
 | _,_,.nil=>.nil
 | _,_,.cons n t h=>.cons #[t,rfl] (gf h)
section
variable {X:Cx}
def Oh (hc:X.calm=true):yM X (.type "set") (λ xs H Q=>∃ p,∃ ns:List Int,xs=[.ref p]/\zA X.K H p (ns.map V.int)/\ns.length<64/\
  ∀ (l:Addr) (us:Ad) (ms:List Int),H l=none->IntsAre us ms->ms.Nodup->(∀ n,n∈ms↔n∈ns)->Q (.ref l) (upd H l (.ext (yy X.w l us)))):=by
 intro Ek s O H xs us Q I r h;let#[p,ns,rfl,hq,F6,q]:=h;let#[u,rfl,ru]:=vals1 r;cases ru;let#[its,rv,pl,hz]:=I.list hq;have hl:=rv.length;rw[An] at hl;have iA:IntsAre its ns:=intsAre_of rv;have nums:Nums its.toArray ns:=λ i v hv=>by
  have HH:its[i]?=↑v:=by exists hv
  have hi:i<ns.length:=by rw[hl];show (A1.mp HH).1
  let#[u,e1,t,e2]:=rv.get (i:=i) (x:=V.int ns[i]) (by simp[hi]);rw[HH] at e1;cases e1;show#[ns[i],t,e2,by simp[hi]]
 have hh:X.A.handled=none:=I.ok.hd hc;exact Oi (A:=X.A) hh pl.isList nums (by rw[Ax];lia) λ h' tk xs S U k=>?_;have kk:∀ b o,s.heap.get? b=↑o->h'.get? b=↑o:=λ b o e=>k b o (Ar e) e;have Hl:=S.at;exact#[.ref s.heap.objs.size,_,I.laid (t':=tk) (o:=.ext (yy X.w s.heap.objs.size (xs.map λ e=>Value.int e.1 e.2))) kk (Aj _) ?_,rfl,q _ _ (xs.map (·.1)) (I.zl.fresh (Aj _)) (ck xs) S.nd λ n=>#[λ hn=>?_,λ hn=>?_]]
 .let#[es,ep,t,St,e]:=id Hl;show#[Hl,#[_,St.get],λ h1 h2 S1 k=>S1.vk k]
 .let#[e,he,rfl]:=AA.mp hn;let#[j,_,_,hj]:=U.own e he;show BH hj
 .let#[j,hj]:=DL.mp hn;show U.all j n (by have:=(A1.mp hj).1;rw[Ax];lia) hj
def Oc (hc:X.calm=true):yM X (.builtin "sorted") (λ xs H Q=>∃ l us,∃ ms:List Int,xs=[.ref l]/\H l=↑(.ext (yy X.w l us))/\IntsAre us ms/\ms.length<64/\
  ∀ (p:Addr) (ns:List Int),H p=none->ns.Perm ms->ns.Pairwise (·<=·)->Q (.ref p) (upd H p (.lst (ns.map V.int)))):=by
 intro Ek s O H xs us0 Q I r h;let#[l,us,ms,rfl,hl,hm,F6,q]:=h;let#[u,rfl,ru]:=vals1 r;cases ru;obtain⟨⟨es,ep,t,S,eu⟩,-,-⟩:=(show xD X.prog X.w H s.heap l (.ext (yy X.w l us)) from I.zl l _ hl)
 have hlen:es.size=us.length:=by rw[<- eu];simp
 have D9:=hm.length;have hh:X.A.handled=none:=I.ok.hd hc;have hp:((comes X.w l es ep).toList.map (·.2)).Perm us:=by rw[<- eu];show (oy X.w l es ep).map _
 let#[FO,i1,i2]:=Q4 hp hm;have Ck:=hp.length_eq;have Ha:sizeLine=16777216:=rfl;exact L4.gH (N:=λ _=>False) (Out:=λ out=>∃ FN,IntsAre out.toList FN/\FN.Perm FO/\FN.Pairwise (·<=·)) (λ Q' h=>bA (by show hh) S (by rw[hlen,D9];lia) Q' h) (by rw[Ck,D9];lia) (λ h2 s6 k=>L4.PU i1 h2 (by rw[Ck,D9];show F6)) (λ h1=>#[FO,by simpa using i1,.refl _,?_]) λ out h' tk p ho hs Hh k Ej=>?_
 .have:FO.length<2:=by rw[<- i1.length];show h1
  match FO,this with
  | [],_=>show .nil
  | [_],_=>show DR _ _
 .let#[ns,g1,g2,g3]:=ho;let#[e,he]:=Ej;exact#[.ref p,_,I.laid (t':=tk) (o:=.lst (ns.map V.int)) (λ b o e=>k b o id e) Hh ?_,rfl,q p ns (I.zl.fresh Hh) (g2.trans i2) g3];show#[by rw[An,g2.length_eq,i2.length_eq];lia,out.toList,e,gf g1,by exists he]
end
end ST
namespace L5
open PySem PySem.Spec L2 L3
open PyProof.Rows hiding St
def insI (n:Int):List Int->List Int
 | []=>[n]
 | m::l=>if n<m then n::m::l else if n=m then m::l else m::insI n l
def vI:List Int->List Int
 | []=>[]
 | n::ns=>insI n (vI ns)
theorem kP {n k:Int}:∀ {l:List Int},k∈insI n l↔k=n\/k∈l
 | []=>by simp[insI]
 | m::l=>by
  unfold insI;split
  .simp
  .split
   .rename_i h;subst h;simp
   .rw[Ao,kP,Ao];constructor
    .rintro (h | h | h)
     .show .inr (.inl h)
     .show .inl h
     .show .inr (.inr h)
    .rintro (h | h | h)
     .show .inr (.inl h)
     .show .inl h
     .show .inr (.inr h)
theorem dn {k:Int}:∀ {l:List Int},k∈vI l↔k∈l
 | []=>.rfl
 | n::l=>by unfold vI;rw[kP,dn,Ao]
theorem cq {n:Int}:∀ {l:List Int},l.Pairwise (· < ·)->(insI n l).Pairwise (· < ·)
 | [],_=>DR _ _
 | m::l,h=>by
  have h':=B_.mp h;unfold insI;split
  .rename_i c;exact B_.mpr #[λ x hx=>?_,h];rcases Ao.mp hx with e | e
   .rw[e];show c
   .show Int.lt_trans c (h'.1 x e)
  .split
   .show h
   .rename_i c1 c2;exact B_.mpr #[λ x hx=>?_,cq h'.2];rcases kP.mp hx with e | e
    .rw[e];lia
    .show h'.1 x e
theorem gn:∀ l:List Int,(vI l).Pairwise (· < ·)
 | []=>.nil
 | n::l=>cq (gn l)
theorem ZX {l m:List Int}(h1:l.Nodup) (h2:l.Pairwise (·<=·)) (h3:m.Pairwise (· < ·)) (h:∀ k,k∈l↔k∈m):l=m:=by
 have nm:m.Nodup:=h3.imp λ h e=>⋯;exact L4.kz (r:=λ a b:Int=>a<=b) (λ a b p q=>⋯) ((DM h1 nm).mpr h) h2 (h3.imp λ h=>⋯)
section
variable {X:Cx}{K:Ab}{e:Expr}{tA:zI}{pos F9 p p2:Pos}
def pY:yS:=λ ds S Q=>v_ ds S Q\/∃ d,∃ ns:List Int,ds=[d]/\(∀ ts,d≠.tup ts)/\zN d S=↑(ns.map D.int)/\ns.length<64/\∀ l,S l=none->Q (.ref l) (ups S l (.lst ((vI ns).map D.int)))
def nE:Ak
 | [.lst ts]=>match vU ts with
  | some ns=>if ns.length<64 then ↑(.lst ((vI ns).map T.int)) else none
  | none=>qX [.lst ts]
 | [.tup ts]=>qX [.tup ts]
 | _=>none
def QG:uq zx nE pY:=λ S Z ys z ds Q hz hv e hq=>by
 unfold nE at e;split at e
 .split at e
  .rename_i ns B6;split at e
   .rename_i hc;cases e;cases pU B6;let#[d,rfl,h1]:=tj hv;let#[es,h2,h3]:=h1.seq rfl;cases t4.mp h3;exact .inr #[d,ns,rfl,?_,h2,hc,λ l hl=>hq _ _ (.new hl _) (sa hz hl (t4.mpr rfl))];obtain⟨_,q | ⟨a,q,_⟩,_⟩:=h1.lst <;> subst q <;> show λ _=>nofun
   .cases e
  .show .inl (c5 S Z _ z ds Q hz hv e hq)
 .show .inl (c5 S Z _ z ds Q hz hv e hq)
 .cases e
theorem pY.mo:we pY:=λ ds S Q Q' hq h=>by
 rcases h with h | ⟨d,ns,h1,h2,h3,h4,h5⟩
 .show .inl (v_.mo ds S Q Q' hq h)
 .show .inr #[d,ns,h1,h2,h3,h4,λ l hl=>hq _ _ (h5 l hl)]
def Q_ {w:World}{xs:List V}{H:Hp}{S:SS}{Q:VK}{d:D}{ns:List Int}(h0:zh K H [d] xs) (h2:zv K H S) (hn:∀ ts,d≠.tup ts) (e:zN d S=↑(ns.map D.int)) (F6:ns.length<64) (h:∀ l,S l=none->xJ K H Q (.ref l) (ups S l (.lst ((vI ns).map D.int)))):
  ∃ p,∃ FN:List Int,xs=[.ref p]/\zA K H p (FN.map V.int)/\FN.length<64/\
   ∀ (l:Addr) (us:Ad) (ms:List Int),H l=none->IntsAre us ms->ms.Nodup->(∀ n,n∈ms↔n∈FN)->
    ∃ l' GR,∃ FO:List Int,[V.ref l]=[.ref l']/\(upd H l (.ext (ST.yy w l us))) l'=↑(.ext (ST.yy w l' GR))/\IntsAre GR FO/\FO.length<64/\
     ∀ (p:Addr) (ns:List Int),(upd H l (.ext (ST.yy w l us))) p=none->ns.Perm FO->ns.Pairwise (·<=·)->Q (.ref p) (upd (upd H l (.ext (ST.yy w l us))) p (.lst (ns.map V.int))):=by
 let#[x,hx,h1]:=h0.one;subst hx;let#[a,ys,rfl,g1,g2]:=t_ h1 h2 e hn;rw[g2.ints] at g1;exact#[a,ns,rfl,g1,F6,λ l us ms hf hi nd Bn=>#[l,us,ms,rfl,yf,hi,?_,λ p IV hp pm srt=>?_]]
 .have:=ST.kK ms ns nd λ x hx=>(Bn x).mp hx;lia
 .have x1:Ext H (upd H l (.ext (ST.yy w l us))):=.new hf _;have Ap:p≠l:=λ z=>by subst z;rw[yf] at hp;cases hp
  have Jm:H p=none:=by rw[zM Ap] at hp;show hp
  have x2:Ext (upd H l (.ext (ST.yy w l us))) (upd (upd H l (.ext (ST.yy w l us))) p (.lst (IV.map V.int))):=.new hp _;have heq:IV=vI ns:=ZX (pm.nodup_iff.mpr nd) srt (gn ns) λ k=>by rw[pm.mem_iff,Bn,dn]
  exact h p (h2.none Jm) _ _ (by simp![zf]) (x1.trans x2) ((h2.new hf).ups x2 #[_,yf,?_]);rw[<- heq];show zh.kI IV
def VJ {k:Nat}(hr:zQ k X.A) (hm:X.mg "sorted"=none) (HN:X.mg "set"=none) (ha:yK X [e] tA) (hc:X.calm=true) (hg:Gl X "sorted") (F0:Gl X "set")
  (he2:Aq X e [])
  (he:starEach [.Call (.Name "set" p2) [e] [] F9] X.env=(false,eval (.Call (.Name "set" p2) [e] [] F9) X.env)::starEach [] X.env) (Ap:Ay X pos []) (Jl:Ay X F9 []):
  PD X (.Call (.Name "sorted" p) [.Call (.Name "set" p2) [e] [] F9] [] pos) (vz pY tA):=by
 have h:=pz (p:=p) (yM.or (ST.Od hc) (ST.Oc hc)) hg hm boot_sorted (uI (nW (yM.or (ST.Oe hc hr.units) (ST.Oh hc)) F0 HN PyProof.Rows.boot_set ha.pa () () he2 Jl) t7 he) () () he Ap;exact#[vz.mo pY.mo ha.mo,PE.imp h fun O H Q hu=>?_];let#[Y,S,r1,r2,z]:=hu;exact yV.go ha.mo r1 r2 z λ ds S1 xs H1 h1 q1 e1 p1=>?_;rcases h1 with h1 | ⟨d,ns,rfl,c1,c2,c3,h1⟩
 .let#[p,ys,El,a1,a2,a3,a4,a5]:=v_.fits (w:=X.w) xs ds H1 S1 Q q1 p1 (v_.mo ds S1 _ _ (λ d S' z=>z.ext e1) h1);show .inl #[p,ys,El,a1,a2,a3,a4,λ l us ps b1 b2 b3 b4 b5=>.inl (a5 l us ps b1 b2 b3 b4 b5)]
 .let#[p,FN,a1,a2,a3,a4]:=Q_ (w:=X.w) q1 p1 c1 c2 c3 (λ l hl=>(h1 l hl).ext e1);show .inr #[p,FN,a1,a2,a3,λ l us ms b1 b2 b3 b4=>.inr (a4 l us ms b1 b2 b3 b4)]
end
end L5
namespace L5
open PySem L2 L3
def jg:Good2 zx qk jv:=jh (λ _ _ _=>wo) λ _ _ _=>nofun
end L5
namespace L5
open PySem PySem.Spec L2 L3
open PyProof.Rows hiding St
section
variable {X:Cx}{e:Expr}{te:zj}{pos p q:Pos}
def Uh (T:Bt X.mg) (he:PD X e te) (hg:Gl X "isinstance") (F0:Gl X "str") (h1:Aq X e [.Name "str" q]) (h2:Ay X pos [.Name "str" q]) (h3:Aq X (.Name "str" q) []):
  PD X (.Call (.Name "isinstance" p) [e,.Name "str" q] [] pos) (rC "str" te):=p9 #[] T.isinstance T.str PyProof.Rows.boot_str F0 () () he hg h1 h2 h3
def Ui (T:Bt X.mg) (he:PD X e te) (hg:Gl X "isinstance") (F0:Gl X "list") (h1:Aq X e [.Name "list" q]) (h2:Ay X pos [.Name "list" q]) (h3:Aq X (.Name "list" q) []):
  PD X (.Call (.Name "isinstance" p) [e,.Name "list" q] [] pos) (rC "list" te):=p9 #[] T.isinstance T.list PyProof.Rows.boot_list F0 () () he hg h1 h2 h3
end
end L5
namespace TM
open PySem PyProof.Rows
def PH (i:Int) (t:Tok) (l:Addr) (items:Av) (n:Nat) (dd:Option Addr) (sl:Array (Option Value)):
  Meets (Builtin.«int.__rmul__» #[[.int i t,.ref l],[]]) (λ _ R s=>s.heap.get? l=↑{ cls:=.type "list",dict:=dd,data:=.seq items n,slots:=sl }/\R (.ok (.ret Value.notImplemented)) s):=
 .of_wp λ prog w A R s h=>by
  let#[hp,g,d,tk,os]:=s;let#[hl,h]:=h
  wp_walk
  show#[_,rfl,h]
def mulL (l:Addr) (items:Av) (n:Nat) (x:Int) (u:Tok) (dd:Option Addr) (sl:Array (Option Value)) (hc0:¬(!Builtin.List.listFitsIndex x)=true) (GO:¬items.size*x.toNat>(2 ^ 63-1)/8) (FT:¬Builtin.List.listTooLong (items.size*x.toNat)=true):
  Meets (Builtin.«list.__mul__» #[[.ref l,.int x u],[]]) (λ _ R s=>s.heap.get? l=↑{ cls:=.type "list",dict:=dd,data:=.seq items n,slots:=sl }/\R (.ok (.ret (Value.ref s.heap.objs.size))) { s with heap:=s.heap.push { cls:=.type "list",data:=.seq (List.foldl (λ x1 x2=>x1++x2) [].toArray (List.replicate (if items.isEmpty=true then 0 else x.toNat) items)) } }):=
 .of_wp λ prog w A R s h=>by
  let#[hp,g,d,tk,os]:=s;let#[hl,h]:=h
  have AH:=AutoListH.joined_fits FT
  wp_walk;exact wpAny_ite_false (JM (Nat.not_lt.mpr AH)) ?_;wp_walk;show#[_,rfl,h]
section
variable {prog:Program}{w:World}{A:Around}{E:Af}{s:Shared}
def Yq {l:Addr}{its:Ad}{k:Int}{t:Tok}{Q:Af}(ht:PlainL s.heap l its.toArray) (Aw:its≠[]) (h0:0<=k) (hz:its.length*k.toNat<=sizeLine)  (hk:k<=1000000)
  (more:Q (.ref s.heap.objs.size) { s with heap:=s.heap.push { cls:=.type "list",data:=.seq (List.replicate k.toNat its).flatten.toArray } }):
  wpAny (model prog w) A (binaryOp .Mult (.ref l) (.int k t)) Q E s:=by
 let#[#[cls,dd,data,sl],n,ho,hc,he,hd]:=id ht;simp only at hc hd he;subst hc hd he;have hl:sizeLine=16777216:=rfl;have DB:its.toArray.isEmpty=false:=by cases its with
  | nil=>show absurd rfl Aw
  | cons a r=>rfl
 have hf:List.foldl (λ x1 x2=>x1++x2) [].toArray (List.replicate (if its.toArray.isEmpty=true then 0 else k.toNat) its.toArray)=(List.replicate k.toNat its).flatten.toArray:=by
  rw[DB,if_neg ()];have:=jq its k.toNat [].toArray;exists this
 exact wpAny_binaryOp_repeat_ref (T:="list") (U:="int") () #[_,ho,rfl] (λ s'=>typeIs_int s' k t) noFill_list_mul F.fills_int_mul F.slot_int_rmul repeat_list F.slot_int_index.lookup
  (call_meets F.slot_int_rmul (typeIs_int s k t) F.entry_int_rmul (F.args_int_rmul_2 _ _) (PH k t l its.toArray n none sl)
   #[ho,rfl,#[_,ho,rfl],call_meets F.slot_list_mul #[_,ho,rfl] F.entry_list_mul (F.args_list_mul_2 _ _)
    (mulL l its.toArray n k t none sl (by simp[Builtin.List.listFitsIndex];lia) (by simp;lia) (by simp[Builtin.List.listTooLong];lia)) #[ho,?_]])
 rw[hf];show more
end
end TM
namespace L2
open PySem PySem.Spec PyProof.Rows
def kl (K:Ab):R2:=λ x y H Q=>∃ a k xs,x=.ref a/\y=.int k/\zA K H a xs/\xs≠[]/\0<=k/\k<=1000000/\xs.length*k.toNat<=sizeLine/\∀ p,H p=none->Q (.ref p) (upd H p (.lst (List.replicate k.toNat xs).flatten))
theorem UM {X:Cx}:zR X (binaryOp .Mult) (kl X.K):=by
 intro Ek s O H x y v u Q I rx ry h;let#[a,k,xs,rfl,rfl,hx,Aw,h1,h2,hz,q]:=h;cases rx;let#[t,rfl]:=ry;let#[its,r,ht,_]:=I.list hx;have hl:=r.length;exact TM.Yq ht (λ z=>Aw (r.pK.mp z)) h1 (by rw[<- hl];show hz) h2 ?_;have hlen:(List.replicate k.toNat xs).flatten.length<=sizeLine:=by
  have:(List.replicate k.toNat xs).flatten.length=k.toNat*xs.length:=#[];rw[this,Dk];show hz
 show#[.ref _,_,I.laid (t':=s.toks) (o:=.lst (List.replicate k.toNat xs).flatten) (λ b ob q=>JH _ q) (Aj _) #[hlen,_,0,r.rep k.toNat,AQ _ rfl],rfl,q _ (I.zl.fresh (Aj _))]
end L2
namespace L5
open PySem PySem.Spec L2 L3
open PyProof.Rows hiding St
section
variable {X:Cx}{K:Ab}{a b:Expr}{ta tb:zj}{pos:Pos}
def Qo:D->Bool
 | .tup _=>true
 | _=>false
def m6:yz:=λ x y S Q=>∃ k ds,y=.int k/\Qo x=false/\zN x S=↑ds/\(ds≠[]/\0<=k/\k<=1000000/\ds.length*k.toNat<=sizeLine)/\∀ p,S p=none->Q (.ref p) (ups S p (.lst (List.replicate k.toNat ds).flatten))
def sk:yz:=λ x y S Q=>uN x y S Q\/m6 x y S Q
def yN:T->T->Option T
 | .lst ts,.int k=>if ts≠[]/\0<=k/\k<=1000000/\ts.length*k.toNat<=sizeLine then ↑(.lst (List.replicate k.toNat ts).flatten) else none
 | x,y=>wu x y
theorem sk.mo:yU sk:=λ x y S Q Q' hq h=>by
 rcases h with h | ⟨k,ds,h1,h2,h3,h4,h5⟩
 .show .inl (uN.mo x y S Q Q' hq h)
 .show .inr #[k,ds,h1,h2,h3,h4,λ p hp=>hq _ _ (h5 p hp)]
def m6.fits:yZ K m6 (kl K):=λ x y d e H S Q h1 h2 h3 h=>by
 let#[k,ds,rfl,ht,hs,#[c1,c2,c3,c4],h]:=h;simp![zf] at h2;let#[a,xs,rfl,g1,g2]:=t_ h1 h3 hs λ ts z=>by subst z;cases ht
 have hl:=g2.length;exact#[a,k,xs,rfl,h2,g1,λ z=>c1 (by subst z;cases ds with | nil=>rfl | cons _ _=>simp at hl),c2,c3,by rw[<- hl];show c4,λ p hp=>?_];show h p (h3.none hp) _ _ (by simp![zf]) (.new hp _) (h3.ups (.new hp _) #[_,yf,zh.ext (.new hp _) _ (zh.rep g2 _)])
theorem sk.fits:yZ K sk (λ x y H Q=>(rI wg (λ i j=>.int (i*j)) x y H Q\/kj K x y H Q)\/kl K x y H Q):=λ x y d e H S Q h1 h2 h3 h=>by
 rcases h with h | h
 .show .inl (uN.fits x y d e H S Q h1 h2 h3 h)
 .show .inr (m6.fits x y d e H S Q h1 h2 h3 h)
def QH:Good2 zx yN sk:=λ S Z x y z d e Q hz hx hy ef hq=>by
 unfold yN at ef;split at ef
 .rename_i ts k;split at ef
  .rename_i hc;cases ef;let#[ds,g1,g2]:=hx.seq (ts:=ts) rfl;cases hy.int;have hl:=g2.len;exact .inr #[_,ds,rfl,?_,g1,#[λ q=>hc.1 (by subst q;exists hl.symm),hc.2.1,hc.2.2.1,by rw[hl];show hc.2.2.2],λ p hp=>hq _ _ (.new hp _) (sa hz hp (zg.rep g2 _))];cases d with
   | tup es=>show absurd hx (by
     intro q;rcases q with q | ⟨us,p,Fs,_,q,_⟩
     .simp![Sn] at q;obtain⟨_,⟨q,_⟩ | ⟨_,q,_⟩,_⟩:=q <;> cases q
     .cases q)
   | _=>rfl
  .cases ef
 .show .inl (c6 S Z x y z d e Q hz hx hy ef hq)
def VT (ha:PD X a ta) (hb:PD X b tb):PD X (.BinOp a .Mult b pos) (z_ sk ta tb):=sd ((UN.or UL).or UM) sk.fits sk.mo ha hb
end
end L5
namespace L3
open PySem PySem.Spec PyProof.Rows L2
section
variable {X:Cx}{K:Ab}{e o:Expr}{te to:zj}{apos Aa:Pos}
def sy (to te:zj):zj:=fun Y S Q=>to Y S λ x S1=>match x with
 | .ref p=>(∃ ds,S1 p=↑(.lst ds))/\te Y S1 λ y S2=>∃ q ds es,y=.ref q/\S2 p=↑(.lst ds)/\S2 q=↑(.lst es)/\ds.length+es.length<=sizeLine/\Q .zk (ups S2 p (.lst (ds++es)))
 | _=>False
def sy.mo (h:zL to) (h':zL te):zL (sy to te):=fun Y S Q Q' hq z=>h Y S _ _ (λ x S1 z=>by
 cases x with
 | ref p=>show#[z.1,h' Y S1 _ _ (λ y S2 #[q,ds,es,a,b,c,d,w]=>#[q,ds,es,a,b,c,d,hq _ _ w]) z.2]
 | _=>show z) z
theorem Ux {e0:Expr}(D5:PE X e0 (sW X.K "list" fQ (zw X.K to) (qV (zw X.K te) qU))) (h:zL to) (h':zL te):PD X e0 (sy to te):=by
 exact#[sy.mo h h',PE.imp D5 fun O H Q hu=>?_];let#[Y,S,r1,r2,z]:=hu;exact zw.go h r1 r2 z λ x S1 v H1 h1 q1 e1 p1=>?_;cases x with
 | ref p=>
  let#[#[ds,hd],h1]:=h1;simp![zf] at q1;subst q1;let#[xs,g1,g2]:=p1 _ _ hd;exact#[.inl #[rfl,xs,zA.of g1],?_];exact zw.go h' (r1.ext e1) p1 h1 λ y S2 w H2 h2 q2 e2 p2=>?_;let#[q,GB,es,rfl,b1,b2,b3,b4]:=h2;simp![zf] at q2;subst q2;let#[EI,g3,g4]:=p2 _ _ b1;let#[GQ,g5,g6]:=p2 _ _ b2;exact#[p,q,EI,GQ,rfl,rfl,g3,g5,by rw[<- g4.length,<- g6.length];show b3,?_];have e4:Ext H2 (upd H2 p (.lst (EI++GQ))):=.lst g3 _;show b4 _ _ (by simp![zf]) ((e1.trans e2).trans e4) (p2.ups e4 #[_,yf,zh.ext e4 _ (g4.append g6)])
 | _=>show h1.elim
def VW (ho:PD X o to) (he:PD X e te)
  (Ep:attributeBase o "extend" X.env (eval o X.env)=eval o X.env)
  (Ai:((backTo Aa (starEach [e] X.env)).all (λ x=>!x.1)&&(backToKw Aa (keywordEach [] X.env)).all (λ x=>x.1.isSome)
   && decide ([e].length+([]:List Keyword).length+(if ([]:List Keyword).isEmpty then 0 else 1)<30))=true)
  (Et:(apos.endLine == Aa.line)=true) (hs:Aq X e []) (Es:Ay X Aa []):
  PD X (.Call (.Attribute o "extend" apos) [e] [] Aa) (sy to te):=
 Ux (nX PySem.F.plainAttrs_list PySem.F.slot_list_extend PySem.F.type_list_extend RB ho.pe (uI he.pe t7 hs) Ep Ai Et hs Es) ho.mo he.mo
end
end L3
namespace L5
open PySem L2 L3
@[simp] def qw (i:Nat) (f:Ae):Sm:=fun J=>match J[i]? with
 | some ↑(.own (.lst ts))=>(f J).bind λ y=>match y with
  | .lst us=>if ts.length+us.length<=sizeLine then ↑(.nx (J.set i ↑(.own (.lst (ts++us))))) else none
  | _=>none
 | _=>none
section
variable {R:Rk}{f:Ae}{te:zj}
def Tn (i:Nat) (hf:yI f te):zX R (qw i f) (ot (sy (yp i) te)):=λ S0 Z0 S Z Y J o E F e P=>by
 unfold qw at e;split at e
 .rename_i ts h;let#[y,e1,e2]:=Am.mp e;split at e2
  .rename_i us;split at e2
   .rename_i hl;cases e2;let#[p,ob,h1,h2,h3,h4]:=F.er.ow i _ h;obtain⟨ds,rfl⟩:∃ ds,ob=.lst ds:=by
     cases ob with
     | lst ds=>show#[ds,rfl]
     | _=>show h3.elim
    replace h3:zg (zF S Z) ts ds:=h3;change sy (yp i) te Y S _;unfold sy yp;rw[h1];exact#[#[ds,h2],hf S Z Y J _ _ F.er e1 λ d S1 s1 r1=>?_];let#[q,es,rfl,g1,g2,g3]:=r1.2 us rfl;have F1:=F.grow s1;have g4:zg (zF S1 Z) us es:=zg.sx (vX λ a z=>.inl z) us g3;exact#[q,ds,es,rfl,s1 _ _ h2,g2,by rw[h3.len,g4.len];show hl,P _ Z Y (F1.mut (us:=.lst (ts++us)) (es:=.lst (ds++es)) i h h1 ((zg.sx (vq s1) ts h3).append g4))]
   .cases e2
  .cases e2
 .cases e
end
section
variable {α:Type}{P:List α->Prop}
def af (h:∀ a,P [a]) (us:List α) (hl:us.length=1):P us:=match us,hl with | [a],_=>h a
def jU (h:∀ a b,P [a,b]) (us:List α) (hl:us.length=2):P us:=match us,hl with | [a,b],_=>h a b
def ae (h:∀ a b c,P [a,b,c]) (us:List α) (hl:us.length=3):P us:=match us,hl with | [a,b,c],_=>h a b c
def aa (h:∀ a b c d e,P [a,b,c,d,e]) (us:List α) (hl:us.length=5):P us:=match us,hl with | [a,b,c,d,e],_=>h a b c d e
end
end L5
namespace L5
open PySem PySem.Spec L2 L3
open PyProof.Rows hiding St
section
variable {P:Program}{w:World}{K:Ab}{mg:Au}{base h:Heap}{x:Str}{st:Stmt}
def Fx (K:Ab) (x:Str) (st:Stmt):Prop:=∃ (f:Addr) (oc:Value) (od:Option Addr) (kV dc pm:Value) (an:Option Addr) (cd ct:Value) (sl:Array (Option Value)),
 PySem.W.nsIn K mainGlobals x=↑↑(.ref f)/\K.lookup f=↑#[oc,od,.func (PySem.W.fnOf x x (vy st) (yP st) (zC st) .none kV dc pm an cd ct),sl]/\PySem.W.codeIn K cd x=true/\PySem.W.keepIn K (.ref f)=true
def Fx.i {f:Addr}{oc:Value}{od:Option Addr}{kV dc pm:Value}{an:Option Addr}{cd ct:Value}{sl:Array (Option Value)}(a:PySem.W.nsIn K mainGlobals x=↑↑(.ref f)) (l:K.lookup f=↑#[oc,od,.func (PySem.W.fnOf x x (vy st) (yP st) (zC st) .none kV dc pm an cd ct),sl]) (c:PySem.W.codeIn K cd x=true) (k:PySem.W.keepIn K (.ref f)=true):Fx K x st:=#[f,oc,od,kV,dc,pm,an,cd,ct,sl,a,l,c,k]
def Fy (K:Ab) (mg:Au) (x:Str) (st:Stmt):Prop:=∃ (f:Addr) (fd:FuncData),vC K x x st f fd/\mg x=↑(.ref f)
def Fx.mk (H:Fx K x st) (X:K.In h) (G:h.Ns mainGlobals mg):Fy K mg x st:=by
 let#[f,oc,od,kV,dc,pm,an,cd,ct,sl,a,l,c,k]:=H;show#[f,_,cF l c k,PySem.W.mg_of X G a]
theorem Fx.law {fa:Addr}{p:Str}(H:Fx K "law" st) (X:K.In h) (G:h.Ns mainGlobals mg) (Eg:mg "law"=↑(.ref fa)) (hb:∀ (kV dc pm:Value) (an:Option Addr) (cd ct:Value) (s:Shared) (v:Value),BindsTo s (PySem.W.fnOf "law" "law" (vy st) (yP st) (zC st) .none kV dc pm an cd ct) #[[v],[]] [(p,v)]):∃ fd:FuncData,vC K "law" "law" st fa fd/\∀ (s:Shared) (v:Value),BindsTo s fd #[[v],[]] [(p,v)]:=by
 let#[f,oc,od,kV,dc,pm,an,cd,ct,sl,a,l,c,k]:=H;have e:=Eg.symm.trans (PySem.W.mg_of X G a);cases e;show#[_,cF l c k,hb kV dc pm an cd ct]
def Cn (K:Ab) (x:Str) (t:V):Prop:=∃ u,PySem.W.nsIn K mainGlobals x=↑↑u/\L2.RelV t u
def Cn.i {t:V}{u:Value}(a:PySem.W.nsIn K mainGlobals x=↑↑u) (r:L2.RelV t u):Cn K x t:=#[u,a,r]
def Cn.mk {t:V}(H:Cn K x t) (X:K.In h) (G:h.Ns mainGlobals mg):∃ u,mg x=↑u/\L2.RelV t u:=by
 let#[u,a,r]:=H;show#[u,PySem.W.mg_of X G a,r]
def Pe {R:Rk} [Lo R] {N ps:List Str}{k n:Nat}{g:Sm}(F:Fy K mg x st) (Sc:vE N ps (zC st)) (hn:n=ps.length)
  (hb:∀ (kV doc pm:Value) (an:Option Addr) (Ag ct:Value) (us:Ad),us.length=ps.length->bindArgs (PySem.W.fnOf x x (vy st) (yP st) (zC st) .none kV doc pm an Ag ct) #[us,[]]=pure (ps.zip us))
  (ED:∀ (f:Addr) (Ag:Value) (A:Around) (outer:List Env) (s:Shared) (H:Hp) (E:XK),zQ k (A.deeper (envOfC x (zC st) s.heap.objs.size f Ag))->
   ∃ t,wF (yE yv P w K mg base N x (zC st) f Ag A outer s H E).yW (yP st) t/\zX R g t):FD P w K mg base x (k+1) ps (zB R (zO N n g)):=by
 let#[f,fd,F,hm]:=F;show Pf F hm Sc hn hb (ED f)
end
end L5
namespace PySem
section
variable {A:Around}{E:Af}{g:Array GenState}{d:Drawn}{os:OsState}
variable {nm q:Str}{C N:Addr}{bs bm:Ad}{hdct:Bool}{sn:List Str}{sub:Ad}{ab:Bool}{col:Option Bool}{dd:Option Addr}{k0 k1 k2 k3 k5:Option Value}{newId:String}
def Z6 {M:Model}{env:Env}{s:Shared}{x:Sem Value}{Q:Flow->Shared->Prop}(Ep:bm.contains (.type "BaseException")=true) (hh:A.handled=none)
  (hx:wpAny M A x (λ v s₁=>∃ e yq vs sl,v=.ref e/\s₁.heap.get? C=↑(excClassObj nm q C N bs bm hdct sn sub ab col dd k0 k1 k2 k3 k5 newId)/\
   s₁.heap.get? e=↑{ cls:=.ref C,dict:=yq,data:=.fields [.ref vs,.none,.none,.none,.bool false,.none].toArray,slots:=sl }/\E (.ref e) s₁) E s):
  wpAny M A (raiseStmt env ↑x none) Q E s:=by
 have Hb:(Value.ref C::bm).contains (.type "BaseException")=true:=by rw[Bv,Ep,CT]
 unfold raiseStmt;exact IC (JK hx (λ v s₁ h₁=>?_) λ _ _ x=>x);let#[e,yq,vs,sl,rfl,hC,he,hE]:=h₁;let#[hp,g,d,tk,os]:=s₁
 repeat (first | with_reducible exact JI he ?_ | with_reducible exact JI hC ?_ | (with_reducible exact JT hC ?_;rw[Hb]) | wp_step)
 show wpAny_raiseNew_none hh hE
end
end PySem
namespace PySem
open Builtin Builtin.ObjectAttr
section
variable {M:Model}{A:Around}{E:Af}{h:Heap}{g:Array GenState}{d:Drawn}{t:Nat}{os:OsState}
variable {nm q:Str}{C N P:Addr}{bs ES:Ad}{hdct:Bool}{sn:List Str}{sub:Ad}{ab:Bool}{col:Option Bool}{dd:Option Addr}{k0 k1 k2 k3 k5:Option Value}{B newId:String}
 {mN mP:Au}{name:Str}{v:Value}
structure oG (h:Heap) (P:Addr) (mP:Au):Prop where
 ex:∃ (c0:Value) (dd:Option Addr) (cd:ClassData) (sl:Array (Option Value)),h.get? P=↑{ cls:=c0,dict:=dd,data:=.cls cd,slots:=sl }/\h.Ns cd.ns mP
def lG {n:Str}{y:Option Value}{Q:Option Value->Shared->Prop}
  (hC:h.get? C=↑(excClassObj nm q C N bs (.ref P::ES) hdct sn sub ab col dd k0 k1 k2 k3 k5 newId)) (hn:h.Ns N mN) (hP:oG h P mP) (hbm:mroOf (.type B)=pure ES) (hB:typeLookup (.type B) n=pure y)
  (h1:mN n=none) (h2:mP n=none) (hq:Q y #[h,g,d,t,os]):wpAny M A (typeLookup (.ref C) n) Q E #[h,g,d,t,os]:=by
 let#[c0,pd,cd,sl,hA,hN]:=hP.ex;have Fq:lookupAlong ES n=pure y:=by rw[typeLookup_eq,hbm] at hB;show hB
 rw[typeLookup_eq];exact IC (wpAny_mroOf_exc hC ?_);rw[lookupAlong_cons];exact IC (wpAny_classOwn_exc hC hn ?_);rw[h1];change wpAny M A (lookupAlong (.ref P::ES) n) Q E _;rw[lookupAlong_cons];exact IC (wpAny_classOwn_cls hA hN ?_);rw[h2];change wpAny M A (lookupAlong ES n) Q E _;rw[Fq];show Ac hq
end
section
variable {M:Model}{A:Around}{E:Af}{h:Heap}{g:Array GenState}{d:Drawn}{t:Nat}{os:OsState}
variable {nm q:Str}{C N P x:Addr}{bs ES:Ad}{sn:List Str}{sub:Ad}{ab:Bool}{col:Option Bool}{dd:Option Addr}{k0 k1 k2 k3 k5:Option Value}{newId:String}
 {mN mP mA:Au}{name:Str}{v:Value}{o:Obj}
def ZD {GV:Value}{Q:Unit->Shared->Prop}(hb:ES.contains (.type "BaseException")=true) (hC:h.get? C=↑(excClassObj nm q C N bs (.ref P::ES) true sn sub ab col dd k0 k1 k2 k3 k5 newId))
  (hx:h.get? x=↑o) (hc:o.cls=.ref C) (hq:Q Unit.unit #[h,g,d,t,os]):wpAny M A (checkBuiltinCall "BaseException.__getattribute__" #[[.ref x,GV],[]]) Q E #[h,g,d,t,os]:=by
 have hk:builtinKind "BaseException.__getattribute__"=↑.slot:=by decide +kernel
 have G9:splitId "BaseException.__getattribute__"=↑("BaseException","__getattribute__"):=by decide +kernel
 have Hb:(Value.ref C::.ref P::ES).contains (.type "BaseException")=true:=by rw[Bv,Bv,hb];rfl
 have ha:=F.args_bexc_ga (.ref x) GV;simp![checkBuiltinCall,hk,G9];exact IC ?_;unfold isInstance
 repeat (first | (with_reducible exact JI hx ?_;rw[hc]) | (with_reducible exact JT hC ?_;rw[Hb]) | wp_step)
 show hq
end
section
variable {prog:Program}{w:World}{A:Around}{E:Af}{h:Heap}{g:Array GenState}{d:Drawn}{t:Nat}{os:OsState}
variable {nm q:Str}{C N P x:Addr}{bs ES:Ad}{sn:List Str}{sub:Ad}{ab:Bool}{col:Option Bool}{dd:Option Addr}{k0 k1 k2 k3 k5:Option Value}{B newId:String}
 {mN mP:Au}{o:Obj}
def Z9 {R:Result->Shared->Prop}(hb:ES.contains (.type "object")=true) (hC:h.get? C=↑(excClassObj nm q C N bs (.ref P::ES) true sn sub ab col dd k0 k1 k2 k3 k5 newId))
  (hx:h.get? x=↑o) (hc:o.cls=.ref C) (hq:R (.ok (.ret (.ref C))) #[h,g,d,t,os]):
  codeAny (model prog w) A (.call (.builtin "getset_descriptor.__get__") #[[.builtin "object.__class__",.ref x,.ref C],[]]) R #[h,g,d,t,os]:=by
 have hT5:(#[h,g,d,t,os]:Shared).TypeIs (.builtin "object.__class__") "getset_descriptor":=F.typeOf_object_class;have Hb:(Value.ref C::.ref P::ES).contains (.type (".".intercalate ("object.__class__".cutAt '.').dropLast))=true:=by rw[F.owner_object_class,Bv,Bv,hb];rfl
 exact codeAny_call_builtin F.slot_gs_get.plain F.entry_gs_get (F.slot_gs_get.check _ _ _ _ _ _ _ _ hT5 (F.args_gs_get _ _ _) ?_)
 repeat (any_goals (first | assumption | (with_reducible exact JI hx ?_;rw[hc]) | (with_reducible exact JT hC ?_;rw[Hb]) | wp_step))
 exact#[Code.quiet_builtin _ (AM),codeAny_builtin F.entry_object_class ?_]
 repeat (any_goals (first | assumption | (with_reducible exact JI hx ?_;rw[hc]) | wp_step))
def ZA {tk:Tok}{Q:Fin->Shared->Prop}(hb:ES.contains (.type "object")=true) (hC:h.get? C=↑(excClassObj nm q C N bs (.ref P::ES) true sn sub ab col dd k0 k1 k2 k3 k5 newId)) (hn:h.Ns N mN) (hP:oG h P mP) (hm:mroOf (.type B)=pure ES)
  (hB:typeLookup (.type B) "__class__"=pure ↑(.builtin "object.__class__")) (C6:mN "__class__"=none) (Cf:mP "__class__"=none)
  (hx:h.get? x=↑o) (hc:o.cls=.ref C) (hq:Q (.done (.ret (.ref C))) #[h,g,d,t,os]):
  wpAny (model prog w) A (Builtin.«object.__getattribute__» #[[.ref x,.str "__class__" tk],[]]) Q E #[h,g,d,t,os]:=by
 have hT5:(#[h,g,d,t,os]:Shared).TypeIs (.builtin "object.__class__") "getset_descriptor":=F.typeOf_object_class;have f5:=F.typeOf_object_class;have f6:=F.slot_gs_get.lookup;have f7:=F.slot_gs_set.lookup
 repeat (any_goals (first | assumption | (with_reducible exact JI hx ?_;rw[hc]) | (with_reducible exact lG hC hn hP hm hB C6 Cf ?_) | wp_step))
 exact Z9 hb hC hx hc ?_
 repeat (any_goals (first | assumption | wp_step))
def ZC {tk:Tok}{Q:Af}(FB:ExcAttrBase B ES) (hb:ES.contains (.type "object")=true) (hC:h.get? C=↑(excClassObj nm q C N bs (.ref P::ES) true sn sub ab col dd k0 k1 k2 k3 k5 newId)) (hn:h.Ns N mN) (hP:oG h P mP)
  (hB:typeLookup (.type B) "__class__"=pure ↑(.builtin "object.__class__")) (Jk:mN "__getattribute__"=none) (Jj:mP "__getattribute__"=none) (Ji:mN "__getattr__"=none) (Jh:mP "__getattr__"=none) (C6:mN "__class__"=none) (Cf:mP "__class__"=none)
  (hx:h.get? x=↑o) (hc:o.cls=.ref C) (hq:Q (.ref C) #[h,g,d,t,os]):wpAny (model prog w) A (getAttrBy (.ref x) (.str "__class__" tk) false) Q E #[h,g,d,t,os]:=by
 have f3:=FB.ga.bind (.ref x);have hx2:(Value.builtin "BaseException.__getattribute__" == Value.builtin "object.__getattribute__")=false:=by decide +kernel
 have hx1:(onTheHeap (Value.ref C)&&Value.builtin "BaseException.__getattribute__" == Value.builtin "object.__getattribute__")=false:=by rw[hx2];rfl
 repeat (any_goals (first | assumption | (with_reducible exact JI hx ?_;rw[hc]) | with_reducible exact lG hC hn hP FB.mro FB.ga.lookup Jk Jj ?_ | with_reducible exact lG hC hn hP FB.mro FB.noGetattr Ji Jh ?_ | wp_step))
 exact codeAny_call_builtin FB.ga.plain F.entry_bexc_ga (ZD FB.hasBase hC hx hc (ZA hb hC hn hP FB.mro hB C6 Cf hx hc ?_))
 repeat (any_goals (first | assumption | wp_step))
def iY {Q:Option Value->Shared->Prop}(FB:ExcAttrBase B ES) (hb:ES.contains (.type "object")=true) (hC:h.get? C=↑(excClassObj nm q C N bs (.ref P::ES) true sn sub ab col dd k0 k1 k2 k3 k5 newId)) (hn:h.Ns N mN) (hP:oG h P mP)
  (hB:typeLookup (.type B) "__class__"=pure ↑(.builtin "object.__class__")) (Jk:mN "__getattribute__"=none) (Jj:mP "__getattribute__"=none) (Ji:mN "__getattr__"=none) (Jh:mP "__getattr__"=none) (C6:mN "__class__"=none) (Cf:mP "__class__"=none)
  (hx:h.get? x=↑o) (hc:o.cls=.ref C) (hq:Q ↑(.ref C) #[h,g,d,t+1,os]):wpAny (model prog w) A (getAttr? (.ref x) "__class__") Q E #[h,g,d,t,os]:=by
 unfold getAttr? getAttrBy?
 repeat (any_goals (first | assumption | with_reducible apply ZC FB hb hC hn hP hB Jk Jj Ji Jh C6 Cf hx hc | wp_step))
end
section
variable {prog:Program}{w:World}{A:Around}{E:Af}{h:Heap}{g:Array GenState}{d:Drawn}{t:Nat}{os:OsState}
variable {nm q:Str}{C N P x D:Addr}{bs ES:Ad}{sn:List Str}{sub:Ad}{ab:Bool}{col:Option Bool}{dd:Option Addr}{k0 k1 k2 k3 k5:Option Value}{B newId:String}
 {mN mP:Au}{o:Obj}
structure jY (h:Heap) (C P:Addr) (B:String) (ES:Ad):Prop where
 FB:ExcAttrBase B ES
 hb:ES.contains (.type "object")=true
 hB:typeLookup (.type B) "__class__"=pure ↑(.builtin "object.__class__")
 ex:∃ (nm q:Str) (N:Addr) (bs:Ad) (sn:List Str) (sub:Ad) (ab:Bool) (col:Option Bool) (dd:Option Addr) (k0 k1 k2 k3 k5:Option Value) (newId:String) (mN mP:Au),
  h.get? C=↑(excClassObj nm q C N bs (.ref P::ES) true sn sub ab col dd k0 k1 k2 k3 k5 newId)/\h.Ns N mN/\oG h P mP/\
  ∀ n∈(["__getattribute__","__getattr__","__class__"]:List Str),mN n=none/\mP n=none
def Z8 {tk:Tok}{dep:Int}{Q:Fin->Shared->Prop}{oD:Obj}{cD:ClassData}(X:jY h C P B ES) (hx:h.get? x=↑o) (hc:o.cls=.ref C) (hD:h.get? D=↑oD) (hDc:oD.cls=.type "type") (hDd:oD.data=.cls cD)
  (hq:∀ t',Q (.done (.ret (.bool ((Value.ref C::.ref P::ES).contains (.ref D))))) #[h,g,d,t',os]):
  wpAny (model prog w) A (Builtin.«isinstance.nested» #[[.ref x,.ref D,.int dep tk],[]]) Q E #[h,g,d,t,os]:=by
 let#[FB,hb,hB,nm,q,N,bs,sn,sub,ab,col,dd,k0,k1,k2,k3,k5,newId,mN,mP,hC,hn,hP,hm]:=X;have m1:=hm "__getattribute__" (.head _);have m2:=hm "__getattr__" (.tail _ (.head _));have m3:=hm "__class__" (.tail _ (.tail _ (.head _)));by_cases he:C=D
 .subst he;have Bs:(Value.ref C::.ref P::ES).contains (.ref C)=true:=#[];rw[Bs] at hq;have hee:(Value.ref C == Value.ref C)=true:=#[]
  repeat (any_goals (first | assumption | (with_reducible exact JI hx ?_;rw[hc]) | wp_step))
  show hq _
 .have hee:(Value.ref C == Value.ref D)=false:=by exists he
  cases Bs:(Value.ref C::.ref P::ES).contains (.ref D) with
  | true=>
   rw[Bs] at hq
   repeat (any_goals (first | assumption | (with_reducible exact JI hx ?_;rw[hc]) | (with_reducible exact JI hD ?_;rw[hDc]) | (with_reducible exact JI hD ?_;rw[hDd]) | (with_reducible exact JT hC ?_;rw[Bs]) | wp_step))
   show hq _
  | false=>
   rw[Bs] at hq
   repeat (any_goals (first | assumption | (with_reducible exact JI hx ?_;rw[hc]) | (with_reducible exact JI hD ?_;rw[hDc]) | (with_reducible exact JI hD ?_;rw[hDd]) | (with_reducible exact JT hC ?_;rw[Bs]) | with_reducible apply iY FB hb hC hn hP hB m1.1 m1.2 m2.1 m2.2 m3.1 m3.2 hx hc | with_reducible exact JI hC ?_ | wp_step))
   show hq _
def Z7 {tk:Tok}{dep:Int}{Q:Fin->Shared->Prop}{T:String}(X:jY h C P B ES) (hx:h.get? x=↑o) (hc:o.cls=.ref C) (B4:typeOf (.type T)=pure (.type "type"))
  (hq:∀ t',Q (.done (.ret (.bool (ES.contains (.type T))))) #[h,g,d,t',os]):
  wpAny (model prog w) A (Builtin.«isinstance.nested» #[[.ref x,.type T,.int dep tk],[]]) Q E #[h,g,d,t,os]:=by
 let#[FB,hb,hB,nm,q,N,bs,sn,sub,ab,col,dd,k0,k1,k2,k3,k5,newId,mN,mP,hC,hn,hP,hm]:=X;have m1:=hm "__getattribute__" (.head _);have m2:=hm "__getattr__" (.tail _ (.head _));have m3:=hm "__class__" (.tail _ (.tail _ (.head _)));have hee:(Value.ref C == Value.type T)=false:=rfl;have Bs:(Value.ref C::.ref P::ES).contains (.type T)=ES.contains (.type T):=by rw[Bv,Bv];rfl
 cases hct:ES.contains (.type T) with
 | true=>
  rw[hct] at hq Bs
  repeat (any_goals (first | assumption | (with_reducible exact JI hx ?_;rw[hc]) | (with_reducible exact JT hC ?_;rw[Bs]) | wp_step))
  show hq _
 | false=>
  rw[hct] at hq Bs
  repeat (any_goals (first | assumption | (with_reducible exact JI hx ?_;rw[hc]) | (with_reducible exact JT hC ?_;rw[Bs]) | with_reducible apply iY FB hb hC hn hP hB m1.1 m1.2 m2.1 m2.2 m3.1 m3.2 hx hc | with_reducible exact JI hC ?_ | wp_step))
  show hq _
def iX {c:Value}{b:Bool}{s:Shared}{Q:Af}(hn:∀ (prog:Program) (w:World) (A:Around) (Q:Fin->Shared->Prop) (E:Af),(∀ t',Q (.done (.ret (.bool b))) { s with toks:=t' })->wpAny (model prog w) A (Builtin.«isinstance.nested» #[[.ref x,c,rawInt 0],[]]) Q E s)
  (hq:∀ t',Q (.bool b) { s with toks:=t' }):wpAny (model prog w) A (call (.builtin "isinstance") [.ref x,c]) Q E s:=
 call_isinstance (S:=λ _ R s'=>s'=s/\∀ t',R (.ok (.ret (.bool b))) { s with toks:=t' }) (λ prog w A R s' hs=>by
  let#[rfl,hs]:=hs;exact isinstance_outer (hn prog w _ _ _ λ t'=>?_) (λ e=>by cases e);show hs t') #[rfl,λ t'=>hq t']
end
namespace Heap
def qD (h base:Heap) (e:Addr) (cls a0 fl:Value) (yq:Option Addr) (T:Addr):Prop:=
 ∃ oe vs oT ts,h.get? e=↑oe/\((oe.cls=cls/\oe.dict=yq)/\vs[0]?=↑a0)/\oe.data=.fields vs/\vs[1]?=↑(.ref T)/\base.get? T=none/\T≠e/\h.get? T=↑oT/\oT.data=.fields ts/\ts[3]?=↑fl
structure m_ (base:Heap) (l:List Env) (e:Addr) (cls a0:Value) (yq:Option Addr) (h h':Heap):Prop where
 stays:base.StaysIn h'
 frames:h'.FunFrames base l
 tr:∃ T,h.objs.size<=T/\h'.qD base e cls a0 .none yq T
 slots:h.UpToSlots h'
 rj:∀ b o vs,h.get? b=↑o->o.data=.fields vs->∃ o' F7,h'.get? b=↑o'/\o'.data=.fields F7
end Heap
def Obj.bf (f:Array Value->Array Value) (o:Obj):(Obj.mapFields f o).dict=o.dict:=by
 let#[c,dc,dt,sl]:=o;cases dt <;> rfl
section
variable {M:Model}{A:Around}{E:Af}{s:Shared}
def iV {base:Heap}{env:Env}{outer:List Env}{L e:Addr}{oe:Obj}{vs:Av}{head a0:Value}{FX:Bool}{Q:Unit->Shared->Prop}
  (A3:A.frames=↑(env::outer)) (hl:s.heap.FunFrames base (env::outer)) (hf:env.frame=↑L)
  (he:s.heap.get? e=↑oe) (BL:base.StaysIn s.heap) (BZ:base.get? e=none) (hd:oe.data=.fields vs) (AH:1<vs.size) (h0:vs[0]?=↑a0)
  (h:∀ h',Heap.m_ base (env::outer) e oe.cls a0 oe.dict s.heap h'->Q Unit.unit { s with heap:=h' }):
  wpAny M A (do let a <- frameOf env;let pl <- entryPlaceOf L FX;let b <- EntryCells.newEntry head a .none (rawInt L) .none pl;setField (.ref e) 1 b) (λ _ s'=>wpAny M A (setFlight (.ref e) none) Q E s') E s:=by
 have Cj:e∉(env::outer).filterMap (·.frame):=λ hm=>by
  let#[_,o,ho,AB]:=hl.mem hm;rw[he] at ho;cases ho;show AB vs hd
 exact IC (wpAny_frameOf_fun A3 hl hf λ h₁ Gm=>IC (wpAny_entryPlaceOf λ pl Ap=>?_));unfold EntryCells.newEntry newFields;exact IC (JP ?_ (Ap.sizeOk5 _ _ _ _ _));have HR:h₁.get? e=↑oe:=(Gm.2.1 e Cj).trans he;have HG:base.StaysIn h₁:=λ b o AU=>(Gm.2.1 b λ hm=>by rw[(hl.mem hm).1] at AU;cases AU).trans (BL b o AU);generalize C2:({ cls:=.type "traceback",dict:=none,data:=.fields ([head,.ref L,.none,rawInt L,.none]++(if pl.isEmpty then List.replicate 6 Value.none else pl)).toArray }:Obj)=tb;have Hx:tb.data=.fields ([head,.ref L,.none,rawInt L,.none]++(if pl.isEmpty then List.replicate 6 Value.none else pl)).toArray:=by rw[<- C2]
 have IE:tb.isFreed=false:=by rw[<- C2];rfl
 have HQ:(h₁.push tb).get? e=↑oe:=JH _ HR;exact JS HQ hd AH ?_;have Gj:h₁.objs.size≠e:=Bk (Ar HR);have G0:=Obj.data_mapFields hd (·.setIfInBounds 1 (Value.ref h₁.objs.size));have Hk:=JN (Obj.mapFields (·.setIfInBounds 1 (Value.ref h₁.objs.size))) HQ (Obj.isFreed_of_fields G0);have Iv:=(JL (h₁.push tb) (Obj.mapFields (·.setIfInBounds 1 (Value.ref h₁.objs.size))) (Ne.symm Gj)).trans (AQ h₁ IE);unfold setFlight;exact IC (JJ Hk G0 (x:=.ref h₁.objs.size) (by simp[AH]) ?_);rw[if_pos (show (Value.ref h₁.objs.size != Value.none)=true from by simp)];exact JS Iv Hx (by simp![Ax,Bg,Ba,BV] <;> lia) (h _ ?_);have keep:∀ b o,b≠e->h₁.get? b=↑o->(((h₁.push tb).update e (Obj.mapFields (·.setIfInBounds 1 (Value.ref h₁.objs.size)))).update h₁.objs.size (Obj.mapFields (·.setIfInBounds 3 ((none:Option Addr).elim Value.none λ f=>rawInt f)))).get? b=↑o:=λ b o BN hb=>by
  rw[JL _ _ (Bk (Ar hb)),JL _ _ (Ne.symm BN)];show JH _ hb
 have Eu:∀ b o,s.heap.get? b=↑o->(∀ vs,o.data≠.fields vs)->b≠e:=λ b o hb AB q=>by
  rw[q,he] at hb;cases hb;show AB vs hd
 exact#[λ b o AU=>keep b o (λ q=>by rw[q,BZ] at AU;cases AU) (HG b o AU),hl.of_keeps λ b o hb AB=>?_,?_,λ b o hb AB=>?_,λ b o us hb Bu=>?_]
 .let#[sl,hs]:=Gm.2.2 b o hb;show#[_,keep b _ (Eu b o hb AB) hs,rfl]
 .exact#[h₁.objs.size,by rw[Gm.1];show Aj _,_,_,_,_,?_,#[#[Obj.cls_mapFields _ _,Obj.bf _ _],by rw[zc7 ()];show h0],G0,by simp[AH],HG.fresh,Gj,JN _ Iv (Obj.isFreed_of_fields (Obj.data_mapFields Hx _)),Obj.data_mapFields Hx _,by first | (simp;done) | (rcases Ap with rfl | ⟨_,_,_,_,_,_,_,rfl⟩ <;> simp)];rw[JL _ _ Gj];show Hk
 .let#[sl,hs]:=Gm.2.2 b o hb;show#[sl,keep b _ (Eu b o hb AB) hs]
 .by_cases q:b=e
  .subst q;show#[_,_,(by rw[JL _ _ Gj];show Hk),G0]
  .have Jr:h₁.get? b=↑o:=(Gm.2.1 b λ hm=>by
    let#[_,o',E9,AB]:=hl.mem hm;rw[hb] at E9;cases E9;show AB us Bu).trans hb
   show#[o,us,keep b o q Jr,Bu]
def Z2 {base:Heap}{env:Env}{outer:List Env}{L e:Addr}{oe:Obj}{vs:Av}{a0:Value}{Q:Unit->Shared->Prop}
  (A3:A.frames=↑(env::outer)) (hl:s.heap.FunFrames base (env::outer)) (hf:env.frame=↑L)
  (he:s.heap.get? e=↑oe) (BL:base.StaysIn s.heap) (BZ:base.get? e=none) (hd:oe.data=.fields vs) (h1:vs[1]?=↑.none) (h0:vs[0]?=↑a0)
  (h:∀ h',Heap.m_ base (env::outer) e oe.cls a0 oe.dict s.heap h'->Q Unit.unit { s with heap:=h' }):wpAny M A (leaving env (.ref e)) Q E s:=by
 unfold leaving noteFrame;simp![hf];exact IC (IC (JJ he hd h1 ?_));rw[if_neg ()];show iV A3 hl hf he BL BZ hd (Array.getElem?_eq_some_iff.mp h1).1 h0 h
def Zx {base:Heap}{env:Env}{outer:List Env}{L e:Addr}{cls a0:Value}{yq:Option Addr}{T:Addr}{Q:Unit->Shared->Prop}
  (A3:A.frames=↑(env::outer)) (hl:s.heap.FunFrames base (env::outer)) (hf:env.frame=↑L) (ht:s.heap.qD base e cls a0 .none yq T) (BL:base.StaysIn s.heap) (BZ:base.get? e=none)
  (h:∀ h',Heap.m_ base (env::outer) e cls a0 yq s.heap h'->Q Unit.unit { s with heap:=h' }):wpAny M A (leaving env (.ref e)) Q E s:=by
 let#[oe,vs,oT,ts,he,#[#[rfl,rfl],h0],hd,h1,Hj,Gj,hT,FY,h3]:=ht;unfold leaving noteFrame;simp![hf];exact IC (IC (JJ he hd h1 ?_));rw[if_pos (show (Value.ref T != Value.none)=true from by simp)];exact IC (JJ hT FY h3 ?_);rw[if_neg (show ¬ ((Value.none == rawInt L)=true) from by simp[rawInt])];exact IC (JS hT FY (Array.getElem?_eq_some_iff.mp h3).1 ?_);have other:∀ b,b≠T->(s.heap.update T (Obj.mapFields (·.setIfInBounds 3 Value.none))).get? b=s.heap.get? b:=λ b hb=>JL _ _ (Ne.symm hb);have Eu:∀ b o,s.heap.get? b=↑o->(∀ vs,o.data≠.fields vs)->b≠T:=λ b o hb AB q=>by
  rw[q,hT] at hb;cases hb;show AB ts FY
 exact iV A3 (hl.of_keeps λ b o hb AB=>#[o,(other b (Eu b o hb AB)).trans hb,rfl]) hf ((other e (Ne.symm Gj)).trans he)
  (λ b o AU=>(other b λ q=>by rw[q,Hj] at AU;cases AU).trans (BL b o AU)) BZ hd (Array.getElem?_eq_some_iff.mp h1).1 h0
  λ h' x=>h h' #[x.stays,x.frames,(by
   let#[T',n,r]:=x.tr;show#[T',by rw[Heap.size_after_update] at n;show n,r]),λ b o hb AB=>x.slots b o ((other b (Eu b o hb AB)).trans hb) AB,λ b o us hb Bu=>(by
   by_cases q:b=T
   .subst q;show x.rj _ _ _ (JN _ hT (Obj.isFreed_of_fields (Obj.data_mapFields FY _))) (Obj.data_mapFields FY _)
   .show x.rj b o us ((other b q).trans hb) Bu)]
end
structure Heap.aA (base:Heap) (l:List Env) (e:Addr) (cls a0 fl:Value) (yq:Option Addr) (h h':Heap):Prop where
 stays:base.StaysIn h'
 frames:h'.FunFrames base l
 tr:∃ T,h.objs.size<=T/\h'.qD base e cls a0 fl yq T
 slots:h.UpToSlots h'
 rj:∀ b o vs,h.get? b=↑o->o.data=.fields vs->∃ o' F7,h'.get? b=↑o'/\o'.data=.fields F7
section
variable {M:Model}{A:Around}{E:Af}{s:Shared}
def Z4 {base:Heap}{env:Env}{outer:List Env}{L e:Addr}{oe:Obj}{vs:Av}{head a0:Value}{FX:Bool}{Q:Unit->Shared->Prop}
  (A3:A.frames=↑(env::outer)) (hl:s.heap.FunFrames base (env::outer)) (hf:env.frame=↑L)
  (he:s.heap.get? e=↑oe) (BL:base.StaysIn s.heap) (BZ:base.get? e=none) (hd:oe.data=.fields vs) (AH:1<vs.size) (h0:vs[0]?=↑a0)
  (h:∀ h',Heap.aA base (env::outer) e oe.cls a0 (rawInt L) oe.dict s.heap h'->Q Unit.unit { s with heap:=h' }):
  wpAny M A (do let a <- frameOf env;let pl <- entryPlaceOf L FX;let b <- EntryCells.newEntry head a .none (rawInt L) .none pl;setField (.ref e) 1 b) Q E s:=by
 have Cj:e∉(env::outer).filterMap (·.frame):=λ hm=>by
  let#[_,o,ho,AB]:=hl.mem hm;rw[he] at ho;cases ho;show AB vs hd
 exact IC (wpAny_frameOf_fun A3 hl hf λ h₁ Gm=>IC (wpAny_entryPlaceOf λ pl Ap=>?_));unfold EntryCells.newEntry newFields;exact IC (JP ?_ (Ap.sizeOk5 _ _ _ _ _));have HR:h₁.get? e=↑oe:=(Gm.2.1 e Cj).trans he;have HG:base.StaysIn h₁:=λ b o AU=>(Gm.2.1 b λ hm=>by rw[(hl.mem hm).1] at AU;cases AU).trans (BL b o AU);generalize C2:({ cls:=.type "traceback",dict:=none,data:=.fields ([head,.ref L,.none,rawInt L,.none]++(if pl.isEmpty then List.replicate 6 Value.none else pl)).toArray }:Obj)=tb;have Hx:tb.data=.fields ([head,.ref L,.none,rawInt L,.none]++(if pl.isEmpty then List.replicate 6 Value.none else pl)).toArray:=by rw[<- C2]
 have IE:tb.isFreed=false:=by rw[<- C2];rfl
 have HQ:(h₁.push tb).get? e=↑oe:=JH _ HR;exact JS HQ hd AH (h _ ?_);have Gj:h₁.objs.size≠e:=Bk (Ar HR);have G0:=Obj.data_mapFields hd (·.setIfInBounds 1 (Value.ref h₁.objs.size));have Hk:=JN (Obj.mapFields (·.setIfInBounds 1 (Value.ref h₁.objs.size))) HQ (Obj.isFreed_of_fields G0);have Iv:=(JL (h₁.push tb) (Obj.mapFields (·.setIfInBounds 1 (Value.ref h₁.objs.size))) (Ne.symm Gj)).trans (AQ h₁ IE);have keep:∀ b o,b≠e->h₁.get? b=↑o->((h₁.push tb).update e (Obj.mapFields (·.setIfInBounds 1 (Value.ref h₁.objs.size)))).get? b=↑o:=λ b o BN hb=>by
  rw[JL _ _ (Ne.symm BN)];show JH _ hb
 have Eu:∀ b o,s.heap.get? b=↑o->(∀ vs,o.data≠.fields vs)->b≠e:=λ b o hb AB q=>by
  rw[q,he] at hb;cases hb;show AB vs hd
 exact#[λ b o AU=>keep b o (λ q=>by rw[q,BZ] at AU;cases AU) (HG b o AU),hl.of_keeps λ b o hb AB=>?_,?_,λ b o hb AB=>?_,λ b o us hb Bu=>?_]
 .let#[sl,hs]:=Gm.2.2 b o hb;show#[_,keep b _ (Eu b o hb AB) hs,rfl]
 .show#[h₁.objs.size,by rw[Gm.1];show Aj _,_,_,_,_,Hk,#[#[Obj.cls_mapFields _ _,Obj.bf _ _],by rw[zc7 ()];show h0],G0,by simp[AH],HG.fresh,Gj,Iv,Hx,#[]]
 .let#[sl,hs]:=Gm.2.2 b o hb;show#[sl,keep b _ (Eu b o hb AB) hs]
 .by_cases q:b=e
  .subst q;show#[_,_,Hk,G0]
  .have Jr:h₁.get? b=↑o:=(Gm.2.1 b λ hm=>by
    let#[_,o',E9,AB]:=hl.mem hm;rw[hb] at E9;cases E9;show AB us Bu).trans hb
   show#[o,us,keep b o q Jr,Bu]
def Zw {base:Heap}{env:Env}{outer:List Env}{L e:Addr}{cls a0:Value}{yq:Option Addr}{T:Addr}{Q:Unit->Shared->Prop}
  (A3:A.frames=↑(env::outer)) (hl:s.heap.FunFrames base (env::outer)) (hf:env.frame=↑L) (ht:s.heap.qD base e cls a0 .none yq T) (BL:base.StaysIn s.heap) (BZ:base.get? e=none)
  (h:∀ h',Heap.aA base (env::outer) e cls a0 (rawInt L) yq s.heap h'->Q Unit.unit { s with heap:=h' }):wpAny M A (noteFrame (.ref e) env) Q E s:=by
 let#[oe,vs,oT,ts,he,#[#[rfl,rfl],h0],hd,h1,Hj,Gj,hT,FY,h3]:=ht;unfold noteFrame;simp![hf];exact IC (JJ he hd h1 ?_);rw[if_pos (show (Value.ref T != Value.none)=true from by simp)];exact IC (JJ hT FY h3 ?_);rw[if_neg (show ¬ ((Value.none == rawInt L)=true) from by simp[rawInt])];exact IC (JS hT FY (Array.getElem?_eq_some_iff.mp h3).1 ?_);have other:∀ b,b≠T->(s.heap.update T (Obj.mapFields (·.setIfInBounds 3 Value.none))).get? b=s.heap.get? b:=λ b hb=>JL _ _ (Ne.symm hb);have Eu:∀ b o,s.heap.get? b=↑o->(∀ vs,o.data≠.fields vs)->b≠T:=λ b o hb AB q=>by
  rw[q,hT] at hb;cases hb;show AB ts FY
 exact Z4 A3 (hl.of_keeps λ b o hb AB=>#[o,(other b (Eu b o hb AB)).trans hb,rfl]) hf ((other e (Ne.symm Gj)).trans he)
  (λ b o AU=>(other b λ q=>by rw[q,Hj] at AU;cases AU).trans (BL b o AU)) BZ hd (Array.getElem?_eq_some_iff.mp h1).1 h0
  λ h' x=>h h' #[x.stays,x.frames,(by
   let#[T',n,r]:=x.tr;show#[T',by rw[Heap.size_after_update] at n;show n,r]),λ b o hb AB=>x.slots b o ((other b (Eu b o hb AB)).trans hb) AB,λ b o us hb Bu=>(by
   by_cases q:b=T
   .subst q;show x.rj _ _ _ (JN _ hT (Obj.isFreed_of_fields (Obj.data_mapFields FY _))) (Obj.data_mapFields FY _)
   .show x.rj b o us ((other b q).trans hb) Bu)]
def iU {base:Heap}{l:List Env}{e:Addr}{cls a0 fl:Value}{yq:Option Addr}{T:Addr}{Q:Unit->Shared->Prop}
  (BL:base.StaysIn s.heap) (hl:s.heap.FunFrames base l) (ht:s.heap.qD base e cls a0 fl yq T)
  (h:∀ h',base.StaysIn h'->h'.FunFrames base l->h'.qD base e cls a0 .none yq T->s.heap.UpToSlots h'->(∀ b o vs,s.heap.get? b=↑o->o.data=.fields vs->∃ o' F7,h'.get? b=↑o'/\o'.data=.fields F7)->Q Unit.unit { s with heap:=h' }):wpAny M A (setFlight (.ref e) none) Q E s:=by
 let#[oe,vs,oT,ts,he,Bc,hd,h1,Hj,Gj,hT,FY,h3]:=ht;have HI:3<ts.size:=(Array.getElem?_eq_some_iff.mp h3).1;have other:∀ b,b≠T->(s.heap.update T (Obj.mapFields (·.setIfInBounds 3 ((none:Option Addr).elim Value.none λ f=>rawInt f)))).get? b=s.heap.get? b:=
  λ b hb=>JL _ _ (Ne.symm hb)
 have Eu:∀ b o,s.heap.get? b=↑o->(∀ vs,o.data≠.fields vs)->b≠T:=λ b o hb AB q=>by
  rw[q,hT] at hb;cases hb;show AB ts FY
 unfold setFlight;exact IC (JJ he hd h1 ?_);rw[if_pos (show (Value.ref T != Value.none)=true from by simp)];exact JS hT FY HI (h _ (λ b o AU=>(other b λ q=>by rw[q,Hj] at AU;cases AU).trans (BL b o AU))
  (hl.of_keeps λ b o hb AB=>#[o,(other b (Eu b o hb AB)).trans hb,rfl]) ?_ (λ b o hb AB=>#[o.slots,(other b (Eu b o hb AB)).trans hb]) λ b o us hb Bu=>?_)
 .show#[oe,vs,_,_,(other e (Ne.symm Gj)).trans he,Bc,hd,h1,Hj,Gj,JN _ hT (Obj.isFreed_of_fields (Obj.data_mapFields FY _)),Obj.data_mapFields FY _,by simp[HI]]
 .by_cases q:b=T
  .subst q;show#[_,_,JN _ hT (Obj.isFreed_of_fields (Obj.data_mapFields FY _)),Obj.data_mapFields FY _]
  .show#[o,us,(other b q).trans hb,Bu]
end
end PySem
namespace PySem
open Calls Spec
section
variable {prog:Program}{w:World}{M:Model}{A:Around}{E:Af}{env:Env}
variable {nm q:Str}{C N:Addr}{bs bm:Ad}{hdct:Bool}{sn:List Str}{sub:Ad}{ab:Bool}{col:Option Bool}{dd:Option Addr}{k0 k1 k2 k3 k5:Option Value}{newId:String}
variable {nm' q':Str}{P N':Addr}{Ii GP:Ad}{G1:Bool}{Hz:List Str}{Gs:Ad}{Ij:Bool}{GC:Option Bool}{Ia:Option Addr}{l0 l1 l2 l3 l5:Option Value}{Gv:String}
def Zy {h:Heap}{g:Array GenState}{d:Drawn}{t:Nat}{os:OsState}{e:Addr}{oe:Obj}{Q:Bool->Shared->Prop}
  (hC:h.get? C=↑(excClassObj nm q C N bs bm hdct sn sub ab col dd k0 k1 k2 k3 k5 newId)) (hP:h.get? P=↑(excClassObj nm' q' P N' Ii GP G1 Hz Gs Ij GC Ia l0 l1 l2 l3 l5 Gv))
  (he:h.get? e=↑oe) (Bc:oe.cls=.ref C) (Ep:GP.contains (.type "BaseException")=true) (hm:bm.contains (.ref P)=true)
  (hq:Q true #[h,g,d,t,os]):wpAny M A (excMatches (.ref e) (.ref P)) Q E #[h,g,d,t,os]:=by
 have Hb:(Value.ref P::GP).contains (.type "BaseException")=true:=by rw[Bv,Ep,CT]
 have hcP:(Value.ref C::bm).contains (.ref P)=true:=by rw[Bv,hm,CT]
 have f:=tc_notTuple;unfold excMatches
 repeat (first | (with_reducible exact JI he ?_;rw[Bc]) | with_reducible exact JI hP ?_ | (with_reducible exact JT hP ?_;rw[Hb]) | (with_reducible exact JT hC ?_;rw[hcP]) | wp_step)
 show hq
def Zz {s:Shared}{e:Addr}{t:Expr}{n:Str}{b₀:Stmt}{GS:List Stmt}{pos:Pos}{En:List ExceptHandler}{Q:Flow->Shared->Prop}
  (Ep:GP.contains (.type "BaseException")=true) (hm:bm.contains (.ref P)=true)
  (h:wpAny (model prog w) (A.mark ↑(.ref e)) (eval t env) (λ c s₁=>c=.ref P/\s₁.heap.get? C=↑(excClassObj nm q C N bs bm hdct sn sub ab col dd k0 k1 k2 k3 k5 newId)/\s₁.heap.get? P=↑(excClassObj nm' q' P N' Ii GP G1 Hz Gs Ij GC Ia l0 l1 l2 l3 l5 Gv)/\(∃ oe,s₁.heap.get? e=↑oe/\oe.cls=.ref C)/\
   wpAny (model prog w) (A.mark ↑(.ref e)) (setFlight (.ref e) none) (λ _ s₂=>
     wpAny (model prog w) (A.mark ↑(.ref e)) (storeName env n (.ref e)) (λ _ s₃=>
      wpAny (model prog w) (A.mark ↑(.ref e)) (execs (b₀::GS) env)
       (λ f s₄=>wpAny (model prog w) A (do bindName env n .none;unbindBehindTheSuite env n pos) (λ _ s₅=>Q f s₅) E s₄)
       (AsSuiteRaised (model prog w) (A.mark ↑(.ref e)) env n pos (notedBy (model prog w) (A.mark ↑(.ref e)) env (cameBackBy (model prog w) A env E))) s₃) (notedBy (model prog w) (A.mark ↑(.ref e)) env (cameBackBy (model prog w) A env E)) s₂) (notedBy (model prog w) (A.mark ↑(.ref e)) env (cameBackBy (model prog w) A env E)) s₁) (notedBy (model prog w) (A.mark ↑(.ref e)) env (cameBackBy (model prog w) A env E)) s):
  wpAny (model prog w) A (handleBy (.ref e) env (.ExceptHandler ↑t ↑n (b₀::GS) pos::En)) Q E s:=by
 exact wpAny_handleBy_cons (codeAny_handlers_test (JK h (λ c s₁ h₁=>?_) λ _ _ y=>y)) (by intro q;cases q);let#[rfl,hC,hP,#[oe,he,Bc],hk]:=h₁;let#[hh,g,d,tk,os]:=s₁;show Zy hC hP he Bc Ep hm (codeAny_handlers_suite_as hk)
end
end PySem
namespace L3
open PySem PySem.Spec L2
open PyProof.Rows hiding St
def xK (T:Addr):HO:=.ext λ h=>∃ oT ts,h.get? T=↑oT/\oT.data=.fields ts
def aH (h:Heap) (e:Addr):Prop:=∃ oe vs a0,h.get? e=↑oe/\oe.data=.fields vs/\vs[1]?=↑.none/\vs[0]?=↑a0
def rS (h:Heap) (H:Hp) (e:Addr):Prop:=∃ oe vs a0 T oT ts,h.get? e=↑oe/\oe.data=.fields vs/\vs[0]?=↑a0/\vs[1]?=↑(.ref T)/\T≠e/\H T=↑(xK T)/\h.get? T=↑oT/\oT.data=.fields ts/\ts[3]?=↑.none
def oO (H:Hp) (e:Addr):Prop:=∃ C dx,H e=↑(wI e C dx)
section
variable {P:Program}{w:World}{H:Hp}{h h':Heap}
def js {fs as:List Addr}(zl:ye P w H h) (hf:∀ b∈fs,H b=none/\∀ o,h.get? b=↑o->∀ vs,o.data≠.fields vs) (st:(PySem.W.hideAll h as).StaysIn h') (us:h.UpToSlots h')
  (has:∀ a∈as,a∈fs\/∃ φ:Heap->Prop,H a=↑(.ext φ)/\φ h'/\∃ o,h'.get? a=↑o):Un fs [] H H h h'/\ye P w H h':=by
 have FV:∀ b o,b∉as->h.get? b=↑o->h'.get? b=↑o:=λ b o hb e=>st b o (PySem.W.hideAll_get _ e hb);exact#[#[λ b o e n hb _=>FV b o (λ hm=>?_) e,λ b o e n hb _=>us b o e ((hf b hb).2 o e),λ _ _ _ n _=>n,λ b o e _=>?_,λ _ _ q=>q,λ _ _ _ q=>q,λ _ ps q=>#[[].toArray,by rw[q];simp]],λ a o e=>?_]
 .rcases has b hm with z | ⟨φ,z,_⟩
  .show hb z
  .rw[n] at z;cases z
 .by_cases hm:b∈as
  .rcases has b hm with z | ⟨φ,_,_,z⟩
   .let#[sl,q]:=us b o e ((hf b z).2 o e);show#[_,q]
   .show z
  .show#[o,FV b o hm e]
 .by_cases hm:a∈as
  .rcases has a hm with z | ⟨φ,z,z1,z2⟩
   .rw[(hf a z).1] at e;cases e
   .rw[e] at z;cases z;show#[z1,z2,(zl a _ e).2.2]
  .exact (zl a o e).vk (λ b u hb q=>?_) (λ _ q=>q) λ _ _ q=>q;rcases hb with rfl | hb
   .show FV _ u hm q
   .exact FV _ u (λ hm'=>?_) q;rcases has b hm' with z | ⟨φ,z,_⟩
    .rw[(hf b z).1] at hb;cases hb
    .rw[hb] at z;cases z
def cP {fs:List Addr}{T:Addr}{oT:Obj}{ts:Av}(u:Un fs [] H H h h') (zl:ye P w H h') (hk:ye P w H h) (hp:h.objs.size<=T) (e:h'.get? T=↑oT) (hd:oT.data=.fields ts):
  H T=none/\Un fs [] H (upd H T (xK T)) h h'/\ye P w (upd H T (xK T)) h':=by
 have hn:=hk.fresh hp;exact#[hn,#[u.keep,u.slot,λ b o q n x=>by rw[zM (AI (A_ (Ar q) hp))];show n,u.there,λ b xs q=>by rw[zM (x9 q hn)];show q,λ b o xs q=>by rw[zM (x9 q hn)];show q,λ b ps q=>#[[].toArray,by rw[zM (x9 q hn),q];simp]],λ b o q=>?_];by_cases hb:b=T
 .subst hb;rw[yf] at q;cases q;show#[#[oT,ts,e,hd],#[oT,e],λ h1 h2 #[o,ts,a,b] k=>#[o,ts,k _ a,b]]
 .rw[zM hb] at q;show (zl b o q).vk (λ _ _ _ z=>z) (λ c z=>by rw[zM (x9 z hn)];show z) λ c xs z=>by rw[zM (x9 z hn)];show z
end
section
variable {X:Cx}{Ek:Ah}{O:St}{H:Hp}{s:Shared}{e:Addr}
def jn (I:Inv X Ek O H s):∀ b∈y6 X.stack,H b=none/\∀ o,s.heap.get? b=↑o->∀ vs,o.data≠.fields vs:=λ b hb=>
 #[I.lV b hb,λ o ho=>by
  let#[_,o',E9,hd]:=I.stack.mem hb;rw[ho] at E9;cases E9;show hd]
def cW {H:Hp}{h:Heap}{P:Program}{w:World}{C:Addr}{dx:Option Addr}{oe:Obj}(zl:ye P w H h) (he:H e=↑(wI e C dx)) (q:h.get? e=↑oe):oe.cls=.ref C/\oe.dict=dx:=by
 let#[#[o',_,a,b,c,_],_]:=zl e _ he;rw[q] at a;cases a;show#[b,c]
def RO {M:Model}{E:Af}(I:Inv X Ek O H s) (AJ:X.stack=X.env::X.outer) (A3:X.env.frame=↑X.env.locals) (he:oO H e) (hf:aH s.heap e\/rS s.heap H e) {Q:Unit->Shared->Prop}
  (hq:∀ h' T,H T=none->Un (y6 X.stack) [] H (upd H T (xK T)) s.heap h'->ye X.prog X.w (upd H T (xK T)) h'->rS h' (upd H T (xK T)) e->Q Unit.unit { s with heap:=h' }):wpAny M X.A (leaving X.env (.ref e)) Q E s:=by
 let#[C,dx,hE]:=he;have hF:=I.ok.frames;rw[AJ] at hF;have hS:=I.stack;rw[AJ] at hS;have fin:∀ (as:List Addr) (oe:Obj) (a0:Value),s.heap.get? e=↑oe->(∀ a∈as,a=e\/a∈y6 X.stack\/H a=↑(xK a))->
   ∀ h':Heap,Heap.m_ (PySem.W.hideAll s.heap as) (X.env::X.outer) e oe.cls a0 oe.dict s.heap h'->Q Unit.unit { s with heap:=h' }:=λ as oe a0 g0 has h' x=>by
  let#[T,hp,G7,F7,oT,ts,a1,#[#[a2,a3],a4],a5,a6,a7,a8,a9,Ik,JF]:=x.tr;let#[z1,z2]:=cW I.zl hE g0;let#[u,zl]:=js (as:=as) I.zl (jn I) x.stays x.slots λ a ha=>by
   rcases has a ha with z | z | z
   .rw[z];show .inr #[_,hE,#[G7,F7,a1,a2.trans z1,a3.trans z2,a5],G7,a1]
   .show .inl z
   .let#[#[oT,ts,q1,q2],_]:=I.zl a _ z;let#[o',IB,q3,q4]:=x.rj _ _ _ q1 q2;show .inr #[_,z,#[o',IB,q3,q4],o',q3]
  let#[n,u',BK]:=cP u zl I.zl hp a9 Ik;show hq h' T n u' BK #[G7,F7,a0,T,oT,ts,a1,a5,a4,a6,a8,yf,a9,Ik,JF]
 have A4:∀ (r:List Addr),∀ env∈X.env::X.outer,∀ a,env.frame=↑a->a∈r++y6 X.stack:=λ r env hm a ha=>Bb _ (Cw.mpr #[env,by rw[AJ];show hm,ha]);rcases hf with ⟨oe,vs,a0,g0,g1,g2,g3⟩ | ⟨oe,vs,a0,T,oT,ts,g0,g1,g3,g2,g4,g5,g6,g7,g8⟩
 .exact Z2 (base:=PySem.W.hideAll s.heap ([e]++y6 X.stack)) hF (PySem.W.funFrames_hide hS (A4 _)) A3 g0 (λ b o q=>PySem.W.of_hideAll _ q) (PySem.W.hideAll_none _ #[]) g1 g2 g3 (fin _ oe a0 g0 λ a ha=>?_);rcases AV.mp ha with q | q
  .show .inl (AK.mp q)
  .show .inr (.inl q)
 .exact Zx (base:=PySem.W.hideAll s.heap ([e,T]++y6 X.stack)) hF (PySem.W.funFrames_hide hS (A4 _)) A3 #[oe,vs,oT,ts,g0,#[#[rfl,rfl],g3],g1,g2,PySem.W.hideAll_none _ #[],g4,g6,g7,g8] (λ b o q=>PySem.W.of_hideAll _ q) (PySem.W.hideAll_none _ #[]) (fin _ oe a0 g0 λ a ha=>?_);rcases AV.mp ha with q | q
  .rcases Ao.mp q with q | q
   .show .inl q
   .show .inr (.inr (by rw[AK.mp q];show g5))
  .show .inr (.inl q)
end
section
variable {X:Cx}{Ek:Ah}{O:St}{H:Hp}{s:Shared}{e:Addr}{M:Model}{A:Around}{E:Af}
def Rw (I:Inv X Ek O H s) (AJ:X.stack=X.env::X.outer) (A3:X.env.frame=↑X.env.locals) (he:oO H e) (hf:rS s.heap H e) {Q:Unit->Shared->Prop}
  (hq:∀ h' T,H T=none->Un (y6 X.stack) [] H (upd H T (xK T)) s.heap h'->ye X.prog X.w (upd H T (xK T)) h'->rS h' (upd H T (xK T)) e->Q Unit.unit { s with heap:=h' }):
  wpAny M X.A (noteFrame (.ref e) X.env) (λ _ s₂=>wpAny M X.A (setFlight (.ref e) none) Q E s₂) E s:=by
 let#[C,dx,hE]:=he;have hF:=I.ok.frames;rw[AJ] at hF;have hS:=I.stack;rw[AJ] at hS;let#[oe,vs,a0,T,oT,ts,g0,g1,g3,g2,g4,g5,g6,g7,g8]:=hf;have A4:∀ env∈X.env::X.outer,∀ a,env.frame=↑a->a∈[e,T]++y6 X.stack:=λ env hm a ha=>Bb _ (Cw.mpr #[env,by rw[AJ];show hm,ha]);exact Zw (base:=PySem.W.hideAll s.heap ([e,T]++y6 X.stack)) hF (PySem.W.funFrames_hide hS A4) A3 #[oe,vs,oT,ts,g0,#[#[rfl,rfl],g3],g1,g2,PySem.W.hideAll_none _ #[],g4,g6,g7,g8] (λ b o q=>PySem.W.of_hideAll _ q) (PySem.W.hideAll_none _ #[]) λ h1 x=>?_;let#[T',hp,tr]:=x.tr;exact iU (s:={ s with heap:=h1 }) x.stays x.frames tr λ h2 y1 y2 y3 y4 y5=>?_;let#[G7,F7,oT',IB,a1,#[#[a2,a3],a4],a5,a6,a7,a8,a9,Ik,JF]:=y3;let#[z1,z2]:=cW I.zl hE g0;let#[u,zl]:=js (as:=[e,T]++y6 X.stack) I.zl (jn I) y1 (x.slots.trans y4) λ a ha=>by
  rcases AV.mp ha with q | q
  .rcases Ao.mp q with q | q
   .rw[q];show .inr #[_,hE,#[G7,F7,a1,a2.trans z1,a3.trans z2,a5],G7,a1]
   .rw[AK.mp q];let#[o1,t1,b1,b2]:=x.rj _ _ _ g6 g7;let#[o2,t2,b3,b4]:=y5 _ _ _ b1 b2;show .inr #[_,g5,#[o2,t2,b3,b4],o2,b3]
  .show .inl q
 let#[n,u',BK]:=cP u zl I.zl hp a9 Ik;show hq h2 T' n u' BK #[G7,F7,a0,T',oT',IB,a1,a5,a4,a6,a8,yf,a9,Ik,JF]
def RZ (I:Inv X Ek O H s) (he:oO H e) (hf:rS s.heap H e) {Q:Unit->Shared->Prop}
  (hq:∀ h',Un (y6 X.stack) [] H H s.heap h'->ye X.prog X.w H h'->Q Unit.unit { s with heap:=h' }):wpAny M A (setFlight (.ref e) none) Q E s:=by
 let#[C,dx,hE]:=he;let#[oe,vs,a0,T,oT,ts,g0,g1,g3,g2,g4,g5,g6,g7,g8]:=hf;have A4:∀ env∈X.stack,∀ a,env.frame=↑a->a∈[T]++y6 X.stack:=λ env hm a ha=>Bb _ (Cw.mpr #[env,hm,ha]);exact iU (base:=PySem.W.hideAll s.heap ([T]++y6 X.stack)) (λ b o q=>PySem.W.of_hideAll _ q) (PySem.W.funFrames_hide I.stack A4) #[oe,vs,oT,ts,g0,#[#[rfl,rfl],g3],g1,g2,PySem.W.hideAll_none _ #[],g4,g6,g7,g8] λ h2 y1 y2 y3 y4 y5=>?_;let#[u,zl]:=js (as:=[T]++y6 X.stack) I.zl (jn I) y1 y4 λ a ha=>by
  rcases AV.mp ha with q | q
  .rw[AK.mp q];let#[o2,t2,b3,b4]:=y5 _ _ _ g6 g7;show .inr #[_,g5,#[o2,t2,b3,b4],o2,b3]
  .show .inl q
 show hq h2 u zl
def QP {i:Nat}{x:Str}{pos:Pos}{Q:Unit->Shared->Prop}(I:Inv X Ek O H s) (hN:X.N.Nodup) (hi:X.N[i]?=↑x) (hk:X.env.kindOf x=↑.local)
  (h:∀ s',Inv X Ek (O.set i none) H s'->Q Unit.unit s'):wpAny M A (do bindName X.env x .none;unbindBehindTheSuite X.env x pos) Q E s:=by
 let#[m,hn,hl]:=id I.loc;have Bc:(X.env.scope.kind == .class||(X.env.scope.kind == .module&&X.env.locals != X.env.globals))=false:=by rw[I.ok.kind];rfl
 have uA:=I.uA;let#[oL,_,_,HL,_]:=id hn;exact wpAny_nameGoes_keeps hk hn Bc λ h' v GL hs=>?_;exact h _ #[I.ok,I.os,I.bare,#[λ b o e n hb hx=>?_,λ b o e n hb hx=>?_,I.base.free,λ b o e hx=>?_,I.base.wJ,I.base.vv,I.base.vJ],#[_,GL,λ j y v' e1 e2 e3=>?_],λ y c e=>?_,I.free,I.wA,λ p hp=>?_,λ b ob e=>?_,by exists I.len]
 .show (hs.2 b (AI (A_ (Ar e) I.ok.above))).trans (I.base.keep b o e n hb hx)
 .let#[sl,e1]:=I.base.slot b o e n hb hx;show#[sl,(hs.2 b (AI (A_ (Ar e) I.ok.above))).trans e1]
 .let#[o',e1]:=I.base.there b o e hx;show#[o',(hs.2 b (AI (A_ (Ar e) I.ok.above))).trans e1]
 .by_cases hj:j=i
  .subst hj;rw[Cs] at e2;simp at e2
  .rw[DU (Ne.symm hj)] at e2;let#[u',r',q]:=hl j y v' e1 e2 e3;exact#[u',r',?_];rcases q with ⟨k,e⟩ | ⟨k,c,e,z⟩
   .exact .inl #[k,?_];have:y≠x:=λ e=>hj (kL hN e1 (e▸hi));simp[this,e]
   .show .inr #[k,c,e,z.sameBut hs (uA y c e)]
 .let#[w',z]:=I.cell y c e;show#[w',z.sameBut hs (uA y c e)]
 .let#[e,n,ne,nf,d]:=I.pin p hp;show#[(hs.2 p.1 ne).trans e,n,ne,nf,d]
 .exact (I.zl b ob e).vk (λ c w' hc q=>(hs.2 c ?_).trans q) (λ _ q=>q) λ _ _ q=>q;rintro rfl;rcases hc with rfl | hc
  .rw[I.free] at e;cases e
  .rw[I.free] at hc;cases hc
end
abbrev QZ:List Str:=["place","pair","way","times","told","name","row"]
def zak {f:Str}(h:f∈QZ):f∈pH:=by
 simp![Ao,A5,or_false] at h ⊢;rcases h with h | h | h | h | h | h | h <;> simp[h]
def ZV:typeLookup (.type "ValueError") "__class__"=pure ↑(.builtin "object.__class__"):=by rw[typeLookup_type,builtinLookup_eq_fast];kernel_rfl
section
variable {K:Ab}{h:Heap}{c:Str}{C P N NP:Addr}{bm:Ad}
def sE.at (o:sE K c C bm N) (X:K.In h):(∃ (q:Str) (bs:Ad) (sn:List Str) (sub:Ad) (ab:Bool) (col:Option Bool) (dd:Option Addr) (k0 k1 k2 k3 k5:Option Value),h.get? C=↑(excClassObj c q C N bs bm true sn sub ab col dd k0 k1 k2 k3 k5 "ValueError.__new__"))/\h.Ns N (h.nsMap N)/\∀ n∈pH,h.nsMap N n=none:=by
 let#[#[q,bs,sn,sub,ab,col,dd,k0,k1,k2,k3,k5,e],ok,hn]:=o;show#[#[q,bs,sn,sub,ab,col,dd,k0,k1,k2,k3,k5,X _ _ e],.of_isNs (PySem.W.isNs_of_in X ok),λ n m=>PySem.W.nsMap_none_of_in X ok (hn n m)]
theorem sN.iW (e:sN K c C P N NP) (X:K.In h):jY h C P "ValueError" v9:=by
 let#[#[q,bs,sn,sub,ab,col,dd,k0,k1,k2,k3,k5,hC],hN,hn]:=e.own.at X;let#[#[q',Ii,Hz,Gs,Ij,GC,Ia,l0,l1,l2,l3,l5,hP],Iy,GL]:=e.par.at X;exact#[PySem.F.attrBase_ValueError,(),ZV,c,q,N,bs,sn,sub,ab,col,dd,k0,k1,k2,k3,k5,_,_,_,hC,hN,#[#[_,_,_,_,hP,Iy]],λ n m=>?_];have m':n∈pH:=by
  simp![Ao,A5,or_false] at m ⊢;rcases m with m | m | m <;> simp[m]
 show#[hn n m',GL n m']
end
def Nk (e C vs:Addr):HO:=.ext λ h=>h.get? e=↑{ cls:=.ref C,data:=.fields [.ref vs,.none,.none,.none,.bool false,.none].toArray }
section
variable {P:Program}{w:World}{fs:List Addr}{H:Hp}{h:Heap}{e:Addr}{φ ψ:Heap->Prop}
def Yb (zl:ye P w H h) (he:H e=↑(.ext φ)) (hψ:ψ h) (st:∀ h1 h2:Heap,ψ h1->(∀ o,h1.get? e=↑o->h2.get? e=↑o)->ψ h2):
  Un fs [] H (upd H e (.ext ψ)) h h/\ye P w (upd H e (.ext ψ)) h:=by
 have ue:∀ b,H b=none->b≠e:=λ b a z=>by rw[z,he] at a;cases a
 have us:∀ b u,H b=↑u->(∀ φ,u≠.ext φ)->upd H e (.ext ψ) b=↑u:=λ b u q n=>by
  rw[zM (pM q he (n _))];show q
 exact#[#[λ b o q n _ _=>q,λ b o q n _ _=>#[o.slots,q],λ b o q n _=>by rw[zM (ue b n)];show n,λ b o q _=>#[o,q],λ b xs q=>us b _ q (λ _ z=>by cases z),λ b o u q=>us b _ q (λ _ z=>by cases z),λ b ps q=>#[[].toArray,by rw[us b _ q (λ _ z=>by cases z)];simp]],λ a o q=>?_];by_cases z:a=e
 .subst z;rw[yf] at q;cases q;show#[hψ,(zl a _ he).2.1,st]
 .rw[zM z] at q;show (zl a o q).vk (λ b u hb c=>c) (λ b c=>us b _ c (λ _ z=>by cases z)) λ b xs c=>us b _ c (λ _ z=>by cases z)
end
def XP (X:Cx) (Ek:Ah) (fl:Bool) (O:St) (Q:Addr->Hp->Prop) (v:Value) (s':Shared):Prop:=
 ∃ e EX O' H',v=.ref e/\(fl=true->EX=Ek/\O'=O)/\Inv X EX O' H' s'/\oO H' e/\((fl=false/\aH s'.heap e)\/rS s'.heap H' e)/\Q e H'
def OK (K:Ab) (c f:Str) (x:V) (e:Addr) (H':Hp):Prop:=∃ C dx,sO K c C/\H' e=↑(wI e C dx)/\Xd H' f x dx
def Un.out {fs:List Addr}{L:Addr}{H H1 H2:Hp}{h h1 h2:Heap}(a:Un fs [] H H1 h h1) (b:Un (L::fs) [] H1 H2 h1 h2) (hL:h.get? L=none):Un fs [] H H2 h h2 where
 keep:=λ c o q n hc hx=>b.keep c o (a.keep c o q n hc hx) (a.free c o q n hx) (λ z=>(Ao.mp z).elim (λ y=>by rw[y,hL] at q;cases q) hc) hx
 slot:=λ c o q n hc hx=>by
  let#[sl,e]:=a.slot c o q n hc hx;let#[II,e']:=b.slot c _ e (a.free c o q n hx) (AG _ hc) hx;show#[II,e']
 free:=λ c o q n hx=>by
  let#[o',e]:=a.there c o q hx;show b.free c o' e (a.free c o q n hx) hx
 there:=λ c o q hx=>by
  let#[o',e]:=a.there c o q hx;show b.there c o' e hx
 wJ:=λ c xs q=>b.wJ c xs (a.wJ c xs q)
 vv:=λ c o xs q=>b.vv c o xs (a.vv c o xs q)
 vJ:=λ c ps q=>by
  let#[m1,e1]:=a.vJ c ps q;let#[m2,e2]:=b.vJ c _ e1;show#[m1++m2,by rw[e2,Array.append_assoc]]
def qM (P:Program) (w:World):vh:=λ outer H s E v s'=>∃ e H',v=.ref e/\s'.os=s.os/\AllBare s'.gens/\Un (y6 outer) [] H H' s.heap s'.heap/\ye P w H' s'.heap/\oO H' e/\rS s'.heap H' e/\E v none H'
def yL.never {P:Program}{w:World}{K:Ab}{mg:Au}{base:Heap}{k:Nat}{f:Addr}{fd:FuncData}{ps:List Str}{sp:Sp}(F:yL P w K mg base (qM P w) k f fd ps sp):
  yL P w K mg base yv k f fd ps (λ vs H Q _=>sp vs H Q λ _ _ _=>False):=
 #[λ vs H Q E h=>F.len _ _ _ _ h,λ A outer s H args us vs Q E hr he hb hv hs=>codeAny_mono (F.run A outer s H args us vs Q _ hr he hb hv hs) λ r s' hq=>by
  cases r with
  | error e=>
   let#[_,_,_,_,_,_,_,_,_,z]:=hq;show z.elim
  | ok fl=>cases fl <;> show hq]
section
variable {X:Cx}{k:Nat}{f:Addr}{fd:FuncData}{ps:List Str}{sp:Sp}{x:Str}{p pos:Pos}{e:Expr}{es:List Expr}{t:TA}{Ek:Ah}{O:St}{H:Hp}{s:Shared}{Q:VK}{Qx:Addr->Hp->Prop}{fl:Bool}
def ZK (F:yL X.prog X.w X.K X.mg X.base (qM X.prog X.w) k f fd ps sp) (hr:zQ k X.A) (hg:Gl X x) (hm:X.mg x=↑(.ref f)) (hk:PySem.W.keepIn X.K (.ref f)=true) (hb:Binds X.K fd ps []) (hn:∀ v s,¬ X.xe v s)
  (ha:PA X (e::es) t) (AR:(x == ("__debug__":Str))=false) (he:Aq X e es) (Ap:Ay X pos es)
  {W:Af}(hW:∀ v s',XP X Ek fl O Qx v s'->W v s') (I:Inv X Ek O H s) (h:t O H λ vs H1=>sp vs H1 Q λ v _ H'=>∃ a,v=.ref a/\Qx a H'):
  wpAny (model X.prog X.w) X.A (eval (.Call (.Name x p) (e::es) [] pos) X.env) (EP X Ek O Q) W s:=by
 exact J7 (ql I hg hm ?_ AR);exact PySem.W.callWith_K (h₀:=X.base) I.ok.mod.qo hk (JK (ha pos Ek s O H _ I h) (λ us s1 #[vs,H1,I1,r,q]=>#[I1.yx,?_]) λ _ _ z=>(hn _ _ z).elim) he Ap;have hl:us.length=ps.length:=by rw[<- r.length];show F.len _ _ _ _ q
 have Bu:=hb s1 us I1.yx (by rw[Bx];show hl);rw[Bx] at Bu;exact wpAny_call (codeAny_mono (F.run X.A X.stack s1 H1 #[us,[]] us vs Q _ hr I1.cZ Bu r q) λ r s' hq=>?_);cases r with
 | error v=>
  let#[a,H',rfl,os,bare,un,zl,ie,f1,a',ea,z]:=hq;cases ea;show hW _ _ #[a,Ek,O,H',rfl,λ _=>#[rfl,rfl],I1.bH (ch:=[]) os un zl bare (λ b z=>absurd z #[]),ie,.inr f1,z]
 | ok fl=>
  cases fl with
  | ret u=>show I1.after hq
  | _=>show False.elim hq
end
abbrev pO (X:Cx) (e:Addr):Cx:={ X with A:=X.A.mark ↑(.ref e),calm:=false }
section
variable {X:Cx}{Ek:Ah}{O O':St}{H H':Hp}{s s':Shared}{e:Addr}
def dZ (I:Inv X Ek O H s) (e:Addr):Inv (pO X e) Ek O H s:=
 #[#[I.ok.mod,I.ok.kind,I.ok.glob,I.ok.blt,I.ok.above,I.ok.inj,I.ok.has,I.ok.rH,nofun,I.ok.frames,I.ok.qb,I.ok.p_,I.ok.bs,I.ok.tM,I.ok.rm,I.ok.r0,I.ok.vt,I.ok.sh],I.os,I.bare,I.base,I.loc,I.cell,I.free,I.wA,I.pin,I.zl,I.len]
def Qv (I:Inv X Ek O H s) (J:Inv (pO X e) Ek O' H' s'):Inv X Ek O' H' s':=#[I.ok,J.os,J.bare,J.base,J.loc,J.cell,J.free,J.wA,J.pin,J.zl,J.len]
def ZI {i j:Nat}{n c:Str}{body:List Stmt}{p1 p2 p3 p4 BJ pos:Pos}{D:Ends}{Qx:Addr->Hp->Prop}(hn:∀ v s,¬ X.xe v s) (AJ:X.stack=X.env::X.outer) (A3:X.env.frame=↑X.env.locals)
  (hg:Gl X "PurseError") (hN:X.N.Nodup) (hi:X.N[i]?=↑n) (A4:X.env.kindOf n=↑.local) (hj:X.N[j]?=↑c) (C1:Loc X.env.scope c) (De:X.fn c=true\/X.env.scope.names.lookup c=↑.local) (A2:i≠j)
  (BG:(n == ("__debug__":Str))=false) (C5:(n == ("__classdict__":Str))=false) (Cc:swapsWith (.Name n p3) ↑(.Name c p2) p4.line X.env=pure false)
  (I:Inv X Ek O H s) (hb:wpAny (model X.prog X.w) X.A (execs body X.env) (SP X Ek D) (XP X Ek true O Qx) s)
  (hx:∀ a H',Qx a H'->(∃ cn C dx,sO X.K cn C/\H' a=↑(wI a C dx))/\∀ T,H' T=none->D.nx (((O.set i ↑(.ref a)).set j ↑(.ref a)).set i none) (upd H' T (xK T))):
  wpAny (model X.prog X.w) X.A (exec (.Try body [.ExceptHandler ↑(.Name "PurseError" p1) ↑n [.Assign [.Name c p2] (.Name n p3) p4] BJ] [] [] pos) X.env) (SP X Ek D) X.xe s:=by
 exact wpAny_Try_except (JK hb (λ f s₁ q=>?_) λ v s₁ #[a,EX,O',H1,ev,es,I1,ie,fly,q]=>?_)
 .cases f with
  | next=>show JZ q
  | _=>show q
 subst ev;let#[rfl,rfl]:=es rfl;let#[#[cn,C,dx,#[P,N,NP,hE],hEo],q]:=hx a H1 q;have f1:=fly.resolve_left (λ z=>by cases z.1);exact Rw I1 AJ A3 ie f1 λ h' T hT un zl f2=>?_;have I2:Inv X EX O' (upd H1 T (xK T)) { s₁ with heap:=h' }:=I1.call (g':=s₁.gens) (d':=s₁.drawn) (t':=s₁.toks) (ch:=[]) un zl I1.bare (λ b z=>absurd z #[]);have HW:upd H1 T (xK T) a=↑(wI a C dx):=by rw[zM (x9 hEo hT)];show hEo
 let#[#[qn,bs,sn,sub,ab,col,dd,k0,k1,k2,k3,k5,lk],_,_]:=id hE.own;let#[#[q',Ii,Hz,Gs,Ij,GC,Ia,l0,l1,l2,l3,l5,lp],_,_]:=id hE.par;have mP:X.mg "PurseError"=↑(.ref P):=PySem.W.mg_of I.ok.mod.qo I.ok.mod.glob hE.nU;have aoe:∃ oe,h'.get? a=↑oe/\oe.cls=.ref C:=by
  let#[#[oe,vs,z1,z2,_],_]:=I2.zl a _ HW;show#[oe,z1,z2]
 exact Zz (bm:=.ref P::v9) (GP:=v9) () (by rw[Bv];simp) (ql (X:=pO X a) (dZ I2 a) hg mP #[rfl,I2.yx _ _ lk,I2.yx _ _ lp,aoe,?_]);exact RZ I2 #[C,dx,HW] f2 λ h2 un2 Jn=>?_;have I3:Inv X EX O' (upd H1 T (xK T)) { s₁ with heap:=h2 }:=Inv.call (s:={ s₁ with heap:=h' }) (g':=s₁.gens) (d':=s₁.drawn) (t':=s₁.toks) (ch:=[]) I2 un2 Jn I1.bare (λ b z=>absurd z #[]);exact nu I3 hN hi (.inl A4) (v:=.ref a) rfl (λ s4 I4=>?_) (.inr A4);have st:=fV (fW (X:=pO X a) (i:=j) (pos:=p4) (pos':=p2) hN hj C1 (pv (X:=pO X a) i (pos:=p3) hi (.inl A4) BG C5) Cc De);have hl:i < O'.length:=by rw[I1.len];show (A1.mp hi).1
 exact JK (st EX s4 _ _ { nx:=fun O2 H2=>O2=(O'.set i ↑(.ref a)).set j ↑(.ref a)/\H2=upd H1 T (xK T),rt:=λ _ _=>False } (dZ I4 a) #[.ref a,by rw[DV hl],rfl,rfl]) (λ fl s5 q5=>?_) λ _ _ z=>(hn _ _ z).elim;cases fl with
 | next=>
  let#[O5,H5,I5,rfl,rfl]:=q5;show QP (Qv I I5) hN hi A4 λ s6 I6=>#[_,_,I6,q T hT]
 | ret _=>let#[_,_,_,_,_,z]:=q5;show z.elim
 | _=>let#[_,_,_,z]:=q5;show z.elim
end
def wz:D->Bool
 | .err _ _ _=>true
 | _=>false
def uQ (K:Ab) (H:Hp) (R:VK) (Q:Addr->Hp->Prop):DK:=λ d S'=>(wz d=false->xJ K H R d S')/\(wz d=true->∀ a H',zf K H' d (.ref a)->Ext H H'->zv K H' S'->Q a H')
theorem uQ.ext {K:Ab}{H H':Hp}{R:VK}{Q:Addr->Hp->Prop}(e:Ext H H') {d:D}{S:SS}(h:uQ K H R Q d S):uQ K H' R Q d S:=#[λ z=>xJ.ext e (h.1 z),λ z a H2 r x q=>h.2 z a H2 r (e.trans x) q]
def uP (K:Ab) (H:Hp) (D:Ends) (Q:Addr->Hp->Prop):sP:=#[xA K H D.nx,uQ K H D.rt Q,xA K H D.bk,xA K H D.ct]
theorem uP.ext {K:Ab}{H H':Hp}{D:Ends}{Q:Addr->Hp->Prop}(e:Ext H H'):(uP K H D Q).Le (uP K H' D Q):=#[λ _ _ h=>xA.ext e h,λ _ _ h=>uQ.ext e h,λ _ _ h=>xA.ext e h,λ _ _ h=>xA.ext e h]
def qQ (K:Ab) (t:zW) (Q:Addr->Hp->Prop):TS:=λ D O H=>∃ Y S,yj K H Y O/\zv K H S/\t (uP K H D Q) Y S
structure qA (X:Cx) (Ek:Ah) (O:St) (fl:Bool) (Q:Addr->Hp->Prop) (W:Af):Prop where
 xp:∀ v s',XP X Ek fl O Q v s'->W v s'
 own:fl=false->PassesOwn (model X.prog X.w) X.A X.env W
def qA.any {X:Cx}{Ek EX:Ah}{O O':St}{Q:Addr->Hp->Prop}{W:Af}(h:qA X Ek O false Q W):qA X EX O' false Q W:=
 #[λ v s' #[e,p,q,H',h1,_,h3]=>h.xp v s' #[e,p,q,H',h1,nofun,h3],h.own]
structure tS (X:Cx) (fl:Bool) (st:Stmt) (t:zW):Prop where
 mo:uD t
 px:∀ Ek s O H D Q W,qA X Ek O fl Q W->Inv X Ek O H s->qQ X.K t Q D O H->wpAny (model X.prog X.w) X.A (exec st X.env) (SP X Ek D) W s
structure uo (X:Cx) (fl:Bool) (sts:List Stmt) (t:zW):Prop where
 mo:uD t
 px:∀ Ek s O H D Q W,qA X Ek O fl Q W->Inv X Ek O H s->qQ X.K t Q D O H->wpAny (model X.prog X.w) X.A (execs sts X.env) (SP X Ek D) W s
section
variable {X:Cx}{fl:Bool}{st:Stmt}{En:List Stmt}{t u:zW}{pos:Pos}{e:Expr}{te:zj}
def WJ (h:wG X st t) (ht:∀ E Y S,t E Y S->t { E with rt:=λ _ _=>False } Y S) (hn:∀ v s,¬ X.xe v s):tS X fl st t:=by
 exact#[h.mo,λ Ek s O H D Q W hW I #[Y,S,r1,r2,z]=>JK (h.ps Ek s O H D I #[Y,S,r1,r2,h.mo { uP X.K H D Q with rt:=λ _ _=>False } _ Y S #[λ _ _ q=>q,λ _ _ q=>q.elim,λ _ _ q=>q,λ _ _ q=>q] (ht _ Y S z)]) (λ _ _ q=>q) λ _ _ z=>(hn _ _ z).elim]
def WK:uo X fl [] j4:=#[λ _ _ _ _ hE h=>hE.nx _ _ h,λ Ek s O H D Q W hW I #[Y,S,r1,r2,z]=>JZ #[O,H,I,z O H r1 (.refl H) r2]]
def WI (h:tS X fl st t):uo X fl [st] t:=#[h.mo,λ Ek s O H D Q W hW I hu=>by
 exact J_ (zt (h.px Ek s O H D Q W hW I hu) λ f s1 q=>?_);cases f with
 | next=>show JZ q
 | ret v=>show q
 | brk=>show q
 | cont=>show q]
def WN (h:tS X false st t) (h':uo X false En u):uo X false (st::En) (rA t u):=#[rA.mo h.mo h'.mo,λ Ek s O H D Q W hW I #[Y,S,r1,r2,z]=>by
 exact J_ (zt (h.px Ek s O H { D with nx:=qQ X.K u Q D } Q W hW I #[Y,S,r1,r2,h.mo { uP X.K H D Q with nx:=u (uP X.K H D Q) } _ Y S #[fun Y' S' q O' H' q1 q2 q3=>#[Y',S',q1,q3,h'.mo _ _ Y' S' (uP.ext q2) q],λ _ _ q=>q,λ _ _ q=>q,λ _ _ q=>q] z]) λ f s1 q=>?_);cases f with
 | next=>
  let#[O',H',I',q]:=q;show h'.px Ek s1 O' H' D Q W hW.any I' q
 | ret v=>show q
 | brk=>show q
 | cont=>show q]
def WL {c:Expr}{p q:List Stmt}{tc:yt}(hc:xx X c tc) (h:uo X fl p t) (h':uo X fl q u) (hn:∀ v s,¬ X.xe v s):tS X fl (.If c p q pos) (mE tc t u):=by
 exact#[λ E E' Y S hE z=>hc.mo Y S _ _ (λ k S1 z=>wy (h.mo _ _ Y S1 hE) (h'.mo _ _ Y S1 hE) z) z,λ Ek s O H D Q W hW I #[Y,S,r1,r2,z]=>?_];exact wpAny_If (JK (hc.pt Ek s O H (λ k H1=>if k=true then qQ X.K t Q D O H1 else qQ X.K u Q D O H1) I (xM.go hc.mo r1 r2 z λ k S1 H1 h1 e1 p1=>wy (λ z=>?_) (λ z=>?_) h1)) (λ k s1 #[H1,I1,q1]=>?_) λ _ _ z=>(hn _ _ z).elim)
 .show#[Y,S1,r1.ext e1,p1,h.mo _ _ Y S1 (uP.ext e1) z]
 .show#[Y,S1,r1.ext e1,p1,h'.mo _ _ Y S1 (uP.ext e1) z]
 .cases k with
  | true=>show h.px Ek s1 O H1 D Q W hW I1 q1
  | false=>show h'.px Ek s1 O H1 D Q W hW I1 q1
def jz (te:zj):zW:=λ E Y S=>te Y S λ d S1=>wz d=false/\E.rt d S1
def WG (he:PD X e te) (hn:∀ v s,¬ X.xe v s):tS X fl (.Return ↑e pos) (jz te):=by
 exact#[λ E E' Y S hE z=>he.mo Y S _ _ (λ _ _ q=>#[q.1,hE.rt _ _ q.2]) z,λ Ek s O H D Q W hW I #[Y,S,r1,r2,z]=>?_];show wpAny_Return_some (JK (he.pe Ek s O H D.rt I (zw.go he.mo r1 r2 z λ x S1 v H1 h1 q1 e1 p1=>h1.2.1 h1.1 v H1 q1 e1 p1)) (λ v s1 #[x,H1,I1,r1,q1]=>#[x,O,H1,I1,r1,q1]) λ _ _ z=>(hn _ _ z).elim)
def Ext.same {H H':Hp}(e:ic H H'):Ext H H':=#[λ b xs q=>e _ _ q,λ b o u q=>e _ _ q,λ b u q=>e _ _ q,λ b u q=>e _ _ q]
def bu (c f:Str) (te:zj):zW:=λ E Y S=>te Y S λ d S1=>E.rt (.err c f d) S1
end
def gj (K:Ab) (sp:yY):Sp:=λ vs H Q E=>∃ ds S,zh K H ds vs/\zv K H S/\sp ds S (uQ K H Q λ a H'=>E (.ref a) none H')
structure uZ (P:Program) (w:World) (K:Ab) (mg:Au) (base:Heap) (x:Str) (k:Nat) (ps:List Str) (sp:yY):Prop where
 ex:∃ (f:Addr) (fd:FuncData),yL P w K mg base (qM P w) k f fd ps (gj K sp)/\mg x=↑(.ref f)/\PySem.W.keepIn K (.ref f)=true/\Binds K fd ps []
 mo:rR sp
def n_ (sp:yY):yY:=λ ds S Q=>sp ds S λ d S'=>wz d=false/\Q d S'
def n_.mo {sp:yY}(h:rR sp):rR (n_ sp):=λ ds S Q Q' hq z=>h ds S _ _ (λ d S' q=>#[q.1,hq _ _ q.2]) z
theorem uZ.fd {P:Program}{w:World}{K:Ab}{mg:Au}{base:Heap}{x:Str}{k:Nat}{ps:List Str}{sp:yY}(F:uZ P w K mg base x k ps sp):FD P w K mg base x k ps (n_ sp):=by
 let#[#[f,fd,h1,h2],hm]:=F;exact#[#[f,fd,(yL.never h1).imp λ vs H Q E #[ds,S,r1,r2,z]=>#[ds,S,r1,r2,hm ds S _ _ (λ d S' q=>#[λ _=>q.2,λ z=>?_]) z],h2],n_.mo hm];rw[q.1] at z;cases z
section
variable {X:Cx}{fl:Bool}{pos Aa p:Pos}{e:Expr}{es:List Expr}{tA:zI}{x:Str}{k:Nat}{ps:List Str}{sp:yY}
def hJ {Ek:Ah}{s:Shared}{O:St}{H:Hp}{Q:Addr->Hp->Prop}{W:Af}{R:DK}{RV:VK}{Y:zS}{S:SS}(F:uZ X.prog X.w X.K X.mg X.base x k ps sp) (hr:zQ k X.A) (ha:yK X (e::es) tA) (hg:Gl X x) (AR:(x == ("__debug__":Str))=false)
  (he:Aq X e es) (Ap:Ay X Aa es) (hn:∀ v s,¬ X.xe v s) (hW:qA X Ek O fl Q W) (I:Inv X Ek O H s) (r1:yj X.K H Y O) (r2:zv X.K H S)
  (z:tA Y S λ ds S1=>sp ds S1 R) (hR:∀ d S',R d S'->uQ X.K H RV Q d S'):
  wpAny (model X.prog X.w) X.A (eval (.Call (.Name x p) (e::es) [] Aa) X.env) (EP X Ek O RV) W s:=by
 let#[#[f,fd,h1,h2,h3,h4],hm]:=F;exact ZK (Qx:=Q) h1 hr hg h2 h3 h4 hn ha.pa AR he Ap hW.xp I (yV.go ha.mo r1 r2 z λ ds S1 xs H1 z1 q1 e1 p1=>#[ds,S1,q1,p1,hm ds S1 _ _ (λ d S' q=>?_) z1]);have q':=uQ.ext e1 (hR d S' q);show#[q'.1,λ y a H' c1 c2 c3=>#[a,rfl,q'.2 y a H' c1 c2 c3]]
def bj (sp:yY) (tA:zI):zW:=λ E Y S=>tA Y S λ ds S1=>sp ds S1 λ d S2=>(wz d=true->E.rt d S2)/\(wz d=false->E.nx Y S2)
def bo (i:Nat) (sp:yY) (tA:zI):zW:=λ E Y S=>tA Y S λ ds S1=>sp ds S1 λ d S2=>(wz d=true->E.rt d S2)/\(wz d=false->E.nx (Y.set i ↑d) S2)
variable (F:uZ X.prog X.w X.K X.mg X.base x k ps sp)
include F
theorem WM {k':Nat}(hr:zQ k' X.A) (ha:yK X (e::es) tA) (hk:k<=k') (hg:Gl X x) (AR:(x == ("__debug__":Str))=false)
  (he:Aq X e es) (Ap:Ay X Aa es) (hn:∀ v s,¬ X.xe v s) (hs:swapsWith (.Call (.Name x p) (e::es) [] Aa) none pos.line X.env=pure false):
  tS X fl (.Expr (.Call (.Name x p) (e::es) [] Aa) pos) (bj sp tA):=by
 exact#[λ E E' Y S hE z=>ha.mo Y S _ _ (λ ds S1 z=>F.mo ds S1 _ _ (λ d S2 q=>#[λ y=>hE.rt _ _ (q.1 y),λ y=>hE.nx _ _ (q.2 y)]) z) z,λ Ek s O H D Q W hW I #[Y,S,r1,r2,z]=>?_];exact wpAny_Expr_any (zt (hJ (RV:=λ _ H'=>D.nx O H') F (hr.mono hk) ha hg AR he Ap hn hW I r1 r2 z λ d S' q=>#[λ y v H' a1 a2 a3=>q.2 y O H' (r1.ext a2) a2 a3,λ y=>(q.1 y).2 y]) λ v s1 #[x,H1,I1,_,q1]=>#[O,H1,I1,q1]) I.quiet hs
theorem WO {k' i:Nat}{y:Str}{py:Pos}(hN:X.N.Nodup) (hr:zQ k' X.A) (ha:yK X (e::es) tA) (hi:X.N[i]?=↑y) (hx:Loc X.env.scope y) (hf:X.fn y=true\/X.env.scope.names.lookup y=↑.local) (hk:k<=k') (hg:Gl X x) (AR:(x == ("__debug__":Str))=false)
  (he:Aq X e es) (Ap:Ay X Aa es) (hn:∀ v s,¬ X.xe v s) (hs:swapsWith (.Call (.Name x p) (e::es) [] Aa) ↑(.Name y py) pos.line X.env=pure false):
  tS X fl (.Assign [.Name y py] (.Call (.Name x p) (e::es) [] Aa) pos) (bo i sp tA):=by
 exact#[λ E E' Y S hE z=>ha.mo Y S _ _ (λ ds S1 z=>F.mo ds S1 _ _ (λ d S2 q=>#[λ y=>hE.rt _ _ (q.1 y),λ y=>hE.nx _ _ (q.2 y)]) z) z,λ Ek s O H D Q W hW I #[Y,S,r1,r2,z]=>?_];exact wpAny_Assign_Name (zt (hJ (RV:=λ v H'=>D.nx (O.set i ↑v) H') F (hr.mono hk) ha hg AR he Ap hn hW I r1 r2 z λ d S' q=>#[λ y v H' a1 a2 a3=>q.2 y _ H' ((r1.ext a2).set i a1) a2 a3,λ y=>(q.1 y).2 y]) λ v s1 #[x,H1,I1,r,q1]=>?_) hs;show nu I1 hN hi hx r (λ s2 I2=>#[_,H1,I2,q1]) hf
end
section
variable {P:Program}{w:World}{K:Ab}{mg:Au}{base:Heap}
def fnX {x qual:Str}{st:Stmt}{f:Addr}{fd:FuncData}{N ps:List Str}{k:Nat}{sp:yY}(F:vC K x qual st f fd) (Sc:vE N ps (zC st)) (len:∀ ds S Q,sp ds S Q->ds.length=ps.length)
  (ED:∀ (Ag:Value) (A:Around) (outer:List Env) (s:Shared) (H:Hp) (E:XK),zQ k (A.deeper (envOfC qual (zC st) s.heap.objs.size f Ag))->
   ∃ t,uo (yE yv P w K mg base N qual (zC st) f Ag A outer s H E).yW false (yP st) t/\∀ ds S Q,sp ds S Q->t { nx:=λ _ S'=>Q .zk S',rt:=Q } (uw N ds) S):
  yL P w K mg base (qM P w) (k+1) f fd ps (gj K sp):=by
 let#[oc,od,kV,doc,pm,an,Ag,ct,GK,rfl,lk,A7]:=F.ex;exact cN lk A7 Sc (λ vs H Q E #[ds,S,r1,_,z]=>by rw[<- r1.length];show len _ _ _ z) λ A outer s H vs Q E hr BD=>#[λ D O H'=>D={ nx:=λ _ H'=>Q .zk H',rt:=Q }/\O=start N vs/\H'=H,λ Ek s1 O H' D I #[e1,e2,e3]=>?_,rfl,rfl,rfl];subst e1 e2 e3;let#[t,hp,ht]:=ED Ag A outer s H' E hr;let#[ds,S,r1,r2,z]:=BD;have cv:∀ {Ek:Ah}{O':St}{H'':Hp}{s':Shared},Inv (yE yv P w K mg base N qual (zC st) f Ag A outer s H' E).yW Ek O' H'' s'->Inv (yE (qM P w) P w K mg base N qual (zC st) f Ag A outer s H' E) Ek O' H'' s':=λ J=>
  #[I.ok,J.os,J.bare,J.base,J.loc,J.cell,J.free,J.wA,J.pin,J.zl,J.len]
 have ok0:(yE yv P w K mg base N qual (zC st) f Ag A outer s H' E).yW.Ok:=#[I.ok.mod,I.ok.kind,I.ok.glob,I.ok.blt,I.ok.above,I.ok.inj,I.ok.has,I.ok.rH,I.ok.hd,I.ok.frames,I.ok.qb,I.ok.p_,I.ok.bs,I.ok.tM,I.ok.rm,I.ok.r0,I.ok.vt,I.ok.sh];have I0:Inv (yE yv P w K mg base N qual (zC st) f Ag A outer s H' E).yW Ek (start N vs) H' s1:=#[ok0,I.os,I.bare,I.base,I.loc,I.cell,I.free,I.wA,I.pin,I.zl,I.len];exact JK (hp.px Ek s1 (start N vs) H' { nx:=λ _ H'=>Q .zk H',rt:=Q } (λ e H2=>∀ T,H2 T=none->E (.ref e) none (upd H2 T (xK T))) (yE (qM P w) P w K mg base N qual (zC st) f Ag A outer s H' E).xe #[λ v s' #[e,EX,O',H2,ev,_,J,ie,hf,q]=>?_,λ _=>PassesOwn.leaving] I0
  #[uw N ds,S,yj.init r1,r2,hp.mo { nx:=λ _ S'=>uQ K H' Q (λ a H2=>E (.ref a) none H2) .zk S',rt:=uQ K H' Q λ a H2=>E (.ref a) none H2 } _ _ S #[fun Y S' q O2 H2 a1 a2 a3=>q.1 rfl .zk H2 (by simp![zf]) a2 a3,λ d S' q=>#[q.1,λ y a H2 a1 a2 a3 T hT=>?_],λ _ _ q=>q.elim,λ _ _ q=>q.elim] (ht ds S _ z)]) (λ fl s' q=>?_) λ _ _ z=>z
 .subst ev;have J':=cv J;exact RO J' rfl rfl ie (hf.imp And.right id) λ h' T hT un zl f1=>?_;let#[C,dx,hE]:=ie;show#[e,_,rfl,J'.os,J'.bare,Un.out J'.base un (Kb (Aj _)),zl,#[C,dx,by rw[zM (x9 hE hT)];show hE],f1,q T hT]
 .have xT:Ext H2 (upd H2 T (xK T)):=.new hT _;show q.2 y a _ (zf.ext xT d a1) (a2.trans xT) (a3.keep xT λ b u o _ c=>by rw[zM (x9 c hT)];show c)
 .cases fl with
  | ret u=>let#[v,O',H',J,r,q]:=q;show#[v,O',H',cv J,r,q]
  | _=>let#[O',H',J,q]:=q;show#[O',H',cv J,q]
end
def yj.hole {K:Ab}{H:Hp}{Y:zS}{O:St}(i:Nat) (r:yj K H Y O):yj K H (Y.set i none) (O.set i none):=by
 exact#[by rw[Cu,Cu];show r.1,λ j c hc=>?_];rw[Cs] at hc ⊢;by_cases hj:i=j
 .subst hj;rw[if_pos rfl] at hc;split at hc <;> cases hc
 .rw[if_neg hj] at hc ⊢;show r.2 j c hc
def jy (i j:Nat) (t:zW):zW:=λ E Y S=>t #[E.nx,λ d S'=>wz d=true/\E.nx (((Y.set i ↑d).set j ↑d).set i none) S',λ _ _=>False,λ _ _=>False] Y S
def Vf {X:Cx}{t:zW}(i j:Nat) {n c:Str}{body:List Stmt}{p1 p2 p3 p4 BJ pos:Pos}(hN:X.N.Nodup) (hb:uo X true body t) (A2:i≠j) (hi:X.N[i]?=↑n) (hj:X.N[j]?=↑c)
  (hg:Gl X "PurseError") (A4:X.env.kindOf n=↑.local) (C1:Loc X.env.scope c) (De:X.fn c=true\/X.env.scope.names.lookup c=↑.local)
  (BG:(n == ("__debug__":Str))=false) (C5:(n == ("__classdict__":Str))=false) (Cc:swapsWith (.Name n p3) ↑(.Name c p2) p4.line X.env=pure false)
  (AJ:X.stack=X.env::X.outer) (A3:X.env.frame=↑X.env.locals) (hn:∀ v s,¬ X.xe v s):
  wG X (.Try body [.ExceptHandler ↑(.Name "PurseError" p1) ↑n [.Assign [.Name c p2] (.Name n p3) p4] BJ] [] [] pos) (jy i j t):=by
 exact#[λ E E' Y S hE z=>hb.mo #[E.nx,λ d S'=>wz d=true/\E.nx (((Y.set i ↑d).set j ↑d).set i none) S',λ _ _=>False,λ _ _=>False] #[E'.nx,λ d S'=>wz d=true/\E'.nx (((Y.set i ↑d).set j ↑d).set i none) S',λ _ _=>False,λ _ _=>False] Y S #[hE.nx,λ d S' q=>#[q.1,hE.nx _ _ q.2],λ _ _ q=>q,λ _ _ q=>q] z,λ Ek s O H D I #[Y,S,r1,r2,z]=>?_];exact ZI (Qx:=λ a H'=>∃ d S',wz d=true/\zf X.K H' d (.ref a)/\Ext H H'/\zv X.K H' S'/\(wX X.K H D).nx (((Y.set i ↑d).set j ↑d).set i none) S') hn AJ A3 hg hN hi A4 hj C1 De A2 BG C5 Cc I
  (hb.px Ek s O H D _ _ #[λ _ _ q=>q,nofun] I #[Y,S,r1,r2,hb.mo #[(wX X.K H D).nx,λ d S'=>wz d=true/\(wX X.K H D).nx (((Y.set i ↑d).set j ↑d).set i none) S',λ _ _=>False,λ _ _=>False] _ Y S #[λ _ _ q=>q,λ d S' q=>#[λ y=>?_,λ y a H' a1 a2 a3=>#[d,S',y,a1,a2,a3,q.2]],λ _ _ q=>q.elim,λ _ _ q=>q.elim] z]) λ a H' #[d,S',hd,a1,a2,a3,q]=>#[?_,λ T hT=>?_]
 .rw[q.1] at y;cases y
 .cases d with
  | err cn f x=>
   simp![zf] at a1;let#[e,C,dx,w,e1,#[h1,h2,h3],_]:=a1;cases e1;show#[cn,C,dx,h1,h2]
  | _=>cases hd
 .have xT:Ext H' (upd H' T (xK T)):=.new hT _;have rd:=zf.ext xT d a1;show q _ _ ((((r1.ext (a2.trans xT)).set i rd).set j rd).hole i) (a2.trans xT) (a3.keep xT λ b u o _ c=>by rw[zM (x9 c hT)];show c)
end L3
namespace L5
open PySem PySem.Spec L2 L3
open PyProof.Rows hiding St
def yh:T->Bool
 | .err _ _ _=>true
 | _=>false
@[simp] theorem zah (c f:Str) (t:T):yh (.err c f t)=true:=rfl
@[simp] theorem zae:yh .zk=false:=rfl
@[simp] theorem zaj (b:Bool):yh (.bl b)=false:=rfl
@[simp] theorem zag (b:Int):yh (.int b)=false:=rfl
@[simp] theorem zad (b:Str):yh (.str b)=false:=rfl
@[simp] theorem zac (b:List T):yh (.tup b)=false:=rfl
@[simp] theorem zaf (b:List T):yh (.lst b)=false:=rfl
@[simp] theorem zai:yh .yD=false:=rfl
def sZ {S:SS}{y:T}{d:D}(h:Sn S y d):wz d=yh y:=by
 cases y with
 | tup _=>simp![Sn] at h;let#[_,h,_]:=h;subst h;rfl
 | lst _=>
  simp![Sn] at h;obtain⟨_,h | ⟨_,h,_⟩,_⟩:=h
  .rw[h.1];rfl
  .subst h;rfl
 | yD=>simp![Sn] at h;let#[_,_,#[h,_],_]:=h;subst h;rfl
 | err _ _ _=>simp![Sn] at h;let#[_,h,_]:=h;subst h;rfl
 | _=>simp![Sn] at h;subst h;rfl
def Pq {y:T}(h:yh y=true):∀ ts,y≠.lst ts:=λ ts e=>by subst e;cases h
@[simp] def ka (c f:Str) (g:Ae):Sm:=fun J=>(g J).map λ y=>.rt (.err c f y)
@[simp] def fo (g:Ae):Sm:=fun J=>(g J).bind λ y=>if yh y=true then none else ↑(.rt y)
@[simp] def lF (F:Ak) (g:Ev->Option (List T)):Sm:=fun J=>(g J).bind λ ys=>(F ys).map λ y=>if yh y=true then .rt y else .nx J
@[simp] def o_ (i:Nat) (F:Ak) (g:Ev->Option (List T)):Sm:=fun J=>(g J).bind λ ys=>(F ys).map λ y=>if yh y=true then .rt y else .nx (J.set i ↑(.im y))
@[simp] def qa (i j:Nat) (g:Sm):Sm:=fun J=>(g J).bind λ o=>match o with
 | .nx J'=>↑(.nx J')
 | .rt y=>if yh y=true then ↑(.nx (((J.set i none).set j ↑(.im y)).set i none)) else none
 | _=>none
@[simp] def pJ (F:Ak):Ak:=λ ys=>(F ys).bind λ y=>if yh y=true then none else ↑y
section
variable {R:Rk}{g h:Sm}{t:zW}{f:Ae}{te:zj}{S0 S:SS}{Z0 Z:Addr->Prop}{Y:zS}{J:Ev}
def Tc [Cl R] {c x:Str}(hf:uY f te):zX R (ka c x f) (bu c x te):=λ S0 Z0 S Z Y J o E F e P=>by
 let#[y,e1,rfl]:=AO.mp e;exact hf S Z Y J y _ F.er e1 λ d S1 s1 r1=>P _ S1 (F.sx.trans s1) (Cl.of (λ _=>nofun) ?_);simp![Sn];show#[d,rfl,Sn.sx (vX F.zz) y r1]
def Td [Sr R] (hf:xm R f te):zX R (fo f) (jz te):=λ S0 Z0 S Z Y J o E F e P=>by
 let#[y,e1,e2]:=Am.mp e;split at e2
 .cases e2
 .rename_i hy;cases e2;show hf S Z Y J y _ F.er e1 λ d S1 s1 r1=>#[by rw[sZ (Sr.sn r1)];simpa using hy,P d S1 (F.sx.trans s1) (Lo.lo F.sx F.zz r1)]
def eU (i:Nat):zX zx (nM i) (jz (yp i)):=λ S0 Z0 S Z Y J o E F e P=>by
 have q:=eV i S0 Z0 S Z Y J o E F e P;unfold nM at e;split at e
 .rename_i ts h;let#[p,ob,h1,_]:=F.er.ow i _ h;have q':yp i Y S E.rt:=q;change yp i Y S λ d S1=>wz d=false/\E.rt d S1;unfold yp at q' ⊢;rw[h1] at q' ⊢;show#[rfl,q']
 .cases e
def OH (S0:SS) (Z0:Addr->Prop) (S:SS) (Z:Addr->Prop) (o:Out) (E:sP):Prop:=match o with
 | .nx J'=>∀ S' Z' Y',FR S0 Z0 S' Z' Y' J'->E.nx Y' S'
 | .rt y=>yh y=true->∀ d S',Sx S S'->Sn (zF S' Z) y d->E.rt d S'
 | _=>True
def qG (g:Sm) (t:zW):Prop:=∀ S0 Z0 S Z Y J o E,FR S0 Z0 S Z Y J->g J=↑o->OH S0 Z0 S Z o E->t E Y S
theorem qG.s [Cl R] (h:qG g t):zX R g t:=λ S0 Z0 S Z Y J o E F e P=>by
 exact h S0 Z0 S Z Y J o E F e ?_;cases o with
 | nx J'=>show P
 | rt y=>show λ hy d S' s r=>P d S' (F.sx.trans s) (Cl.of (Pq hy) (Sn.sx (vX F.zz) y r))
 | _=>trivial
def eW [Sr R] {F:Ak}{ga:Ev->Option (List T)}{ua:zI}(h:sF ga ua):qG (lF F ga) (bj (zB R F) ua):=λ S0 Z0 S Z Y J o E Fr e P=>by
 let#[ys,e1,e2]:=Am.mp e;let#[y,e3,rfl]:=AO.mp e2;exact h S Z Y J ys _ Fr.er e1 λ ds S1 s1 r1=>#[Z,ys,y,(Fr.er.grow s1).zd,r1,e3,λ d S2 s2 r2=>#[λ he=>?_,λ he=>?_]]
 .rw[sZ (Sr.sn r2)] at he;rw[if_pos he] at P;show P he d S2 (s1.trans s2) (Sr.sn r2)
 .rw[sZ (Sr.sn r2)] at he;rw[if_neg (by rw[he];decide)] at P;show P S2 Z Y (Fr.grow (s1.trans s2))
def eX [Sr R] (i:Nat) {F:Ak}{ga:Ev->Option (List T)}{ua:zI}(h:sF ga ua):qG (o_ i F ga) (bo i (zB R F) ua):=λ S0 Z0 S Z Y J o E Fr e P=>by
 let#[ys,e1,e2]:=Am.mp e;let#[y,e3,rfl]:=AO.mp e2;exact h S Z Y J ys _ Fr.er e1 λ ds S1 s1 r1=>#[Z,ys,y,(Fr.er.grow s1).zd,r1,e3,λ d S2 s2 r2=>#[λ he=>?_,λ he=>?_]]
 .rw[sZ (Sr.sn r2)] at he;rw[if_pos he] at P;show P he d S2 (s1.trans s2) (Sr.sn r2)
 .rw[sZ (Sr.sn r2)] at he;rw[if_neg (by rw[he];decide)] at P;show P S2 Z _ ((Fr.grow (s1.trans s2)).s_ i (Sr.sn r2))
def FR.hole (h:FR S0 Z0 S Z Y J) (i:Nat) (v:Option D):FR S0 Z0 S Z (Y.set i v) (J.set i none):=by
 exact#[#[h.er.zd,λ j t e=>?_,λ j ts e=>?_],by simp[h.len],h.sx,h.z0,h.zz,h.zn,λ j ts p e e'=>?_,λ j k ts us p n e1 e2 e3 e4=>?_]
 .rcases yg e with ⟨rfl,hl,e⟩ | ⟨n,e⟩
  .cases e
  .rw[xu n];show h.er.im j t e
 .rcases yg e with ⟨rfl,hl,e⟩ | ⟨n,e⟩
  .cases e
  .rw[xu n];show h.er.ow j ts e
 .rcases yg e with ⟨rfl,hl,e⟩ | ⟨n,e⟩
  .cases e
  .rw[xu n] at e';show h.fr j ts p e e'
 .rcases yg e1 with ⟨rfl,hl,e⟩ | ⟨n1,e1⟩
  .cases e
  rcases yg e2 with ⟨rfl,hl,e⟩ | ⟨n2,e2⟩
  .cases e
  rw[xu n1] at e3;rw[xu n2] at e4;show h.dj j k ts us p n e1 e2 e3 e4
def U_ (i j:Nat) (hg:qG g t):zX R (qa i j g) (jy i j t):=λ S0 Z0 S Z Y J o E F e P=>by
 let#[o1,e1,e2]:=Am.mp e;exact hg S0 Z0 S Z Y J o1 _ F e1 ?_;cases o1 with
 | nx J'=>cases e2;show P
 | rt y=>
  dsimp only at e2 ⊢;split at e2
  .rename_i hy;cases e2;show λ _ d S' s r=>#[by rw[sZ r];show hy,P S' Z _ ((((F.grow s).hole i ↑d).s_ j r).hole i none)]
  .cases e2
 | _=>trivial
end
section
variable {P:Program}{w:World}{K:Ab}{mg:Au}{base:Heap}{x:Str}{st:Stmt}
def Pd {R:Rk} [Lo R] {N ps:List Str}{k n:Nat}{g:Sm}(F:Fy K mg x st) (Sc:vE N ps (zC st)) (hn:n=ps.length)
  (hb:∀ (kV doc pm:Value) (an:Option Addr) (Ag ct:Value) (us:Ad),us.length=ps.length->bindArgs (PySem.W.fnOf x x (vy st) (yP st) (zC st) .none kV doc pm an Ag ct) #[us,[]]=pure (ps.zip us))
  (ED:∀ (f:Addr) (Ag:Value) (A:Around) (outer:List Env) (s:Shared) (H:Hp) (E:XK),zQ k (A.deeper (envOfC x (zC st) s.heap.objs.size f Ag))->
   ∃ t,uo (yE yv P w K mg base N x (zC st) f Ag A outer s H E).yW false (yP st) t/\zX R g t):uZ P w K mg base x (k+1) ps (zB R (zO N n g)):=by
 let#[f,fd,F,hm]:=F;exact#[#[f,fd,fnX F Sc (λ ds S Q h=>by rw[h.len,hn]) λ Ag A outer s H E hr=>?_,hm,F.kp,F.binds hb],zB.mo];let#[t,h1,h2]:=ED f Ag A outer s H E hr;show#[t,h1,λ ds S Q h=>bP h2 h]
def uZ.no {R:Rk} [Sr R] {k:Nat}{ps:List Str}{F:Ak}(G:uZ P w K mg base x k ps (zB R F)):FD P w K mg base x k ps (zB R (pJ F)):=by
 let#[#[f,fd,h1,h2],hm]:=G.fd;exact#[#[f,fd,h1.imp λ vs H Q E #[ds,S,r1,r2,Z,ys,y,a1,a2,a3,a4]=>#[ds,S,r1,r2,?_],h2],zB.mo];let#[z,b1,b2]:=Am.mp a3;split at b2
 .cases b2
 .rename_i hy;cases b2;show#[Z,ys,y,a1,a2,b1,λ d S' s r=>#[by rw[sZ (Sr.sn r)];simpa using hy,a4 d S' s r]]
end
end L5
namespace L3
open PySem PySem.Spec L2
open PyProof.Rows hiding St
structure ip (K:Ab) (cn:Str) (D:Addr):Prop where
 top:PySem.W.nsIn K mainGlobals cn=↑↑(.ref D)
 own:∃ bm N,sE K cn D bm N
def R5 (o:Obj):Option Str:=match o.data with
 | .cls cd=>↑cd.name
 | _=>none
def sE.nm {K:Ab}{c:Str}{C N:Addr}{bm:Ad}(h:sE K c C bm N):(K.lookup C).bind R5=↑c:=by
 let#[#[q,bs,sn,sub,ab,col,dd,k0,k1,k2,k3,k5,e],_]:=h;rw[e];rfl
def Qu {K:Ab}{c cn:Str}{C P N NP D:Addr}(E:sN K c C P N NP) (G:ip K cn D):(Value.ref C::.ref P::v9).contains (.ref D)=(decide (cn=c)||decide (cn="PurseError")):=by
 let#[bm,N',g]:=G.own;by_cases h1:cn=c
 .subst h1;have:=G.top.symm.trans E.top;cases this;simp
 .by_cases h2:cn="PurseError"
  .subst h2;have:=G.top.symm.trans E.nU;cases this;simp
  .have d1:D≠C:=λ z=>by
    subst z;have:=g.nm.symm.trans E.own.nm;cases this;show h1 rfl
   have d2:D≠P:=λ z=>by
    subst z;have:=g.nm.symm.trans E.par.nm;cases this;show h2 rfl
   have b1:(Value.ref D == Value.ref C)=false:=by exists d1
   have b2:(Value.ref D == Value.ref P)=false:=by exists d2
   rw[Bv,Bv,b1,b2,JM h1,JM h2];rfl
inductive lg (K:Ab) (c:Str):V->Bool->Prop where
 | own {cn:Str}{D:Addr}(g:ip K cn D):lg K c (.ref D) (decide (cn=c)||decide (cn="PurseError"))
 | val:lg K c (.ty "ValueError") true
theorem Oq {X:Cx}:yM X (.builtin "isinstance") (λ xs H Q=>∃ e C dx c k b,xs=[.ref e,k]/\H e=↑(wI e C dx)/\sO X.K c C/\lg X.K c k b/\Q (.bl b) H):=by
 intro Ek s O H xs us Q I r h;let#[e,C,dx,c,k,b,rfl,h1,#[P,N,NP,h2],h3,q]:=h;cases r with
 | cons ra rb=>
 cases rb with
 | cons rb rc=>
 cases rc;rename_i u1 u2;obtain rfl:u1=Value.ref e:=ra;let#[hh,g,d,t,os]:=s;let#[#[oe,vs,he,hc,hdx,DC],_]:=I.zl e _ h1;cases h3 with
 | @own cn D G=>
  obtain rfl:u2=Value.ref D:=rb;let#[bm,N',o]:=id G.own;let#[#[q1,bs,sn,sub,ab,col,dd,k0,k1,k2,k3,k5,hD],_]:=o.at I.yx;exact iX (b:=(Value.ref C::.ref P::v9).contains (.ref D)) (λ prog w A Q' E hq=>Z8 (h2.iW I.yx) he hc hD rfl rfl hq) λ t'=>#[.bl _,H,I.tok t',rfl,?_];rw[Qu h2 G];show q
 | val=>
  obtain rfl:u2=Value.type "ValueError":=rb;show iX (b:=true) (λ prog w A Q' E hq=>Z7 (T:="ValueError") (h2.iW I.yx) he hc (by kernel_rfl) hq) λ t'=>#[.bl _,H,I.tok t',rfl,q]
def mD (k:Str->Bool) (te:zj):zj:=fun Y S Q=>te Y S λ x S1=>match x with
 | .err c _ _=>Q (.bl (k c)) S1
 | _=>False
section
variable {X:Cx}{e:Expr}{te:zj}{p q pos:Pos}
def eD {cn:Str}{V0:V}{k:Str->Bool}(hk:∀ c,lg X.K c V0 (k c)) (hp:PE X (.Name cn q) (tC V0)) (T:Bt X.mg) (he:PD X e te) (hg:Gl X "isinstance") (h1:Aq X e [.Name cn q]) (h2:Ay X pos [.Name cn q]) (h3:Aq X (.Name cn q) []):
  PD X (.Call (.Name "isinstance" p) [e,.Name cn q] [] pos) (mD k te):=by
 exact#[fun Y S Q Q' hq z=>he.mo Y S _ _ (λ y S1 z=>?_) z,PE.imp (pz Oq hg T.isinstance boot_isinstance (uI he.pe (uI hp t7 h3) h1) () () h1 h2) fun O H Q hu=>?_]
 .split at z
  .show hq _ _ z
  .show z.elim
 .let#[Y,S,r1,r2,z]:=hu;exact zw.go he.mo r1 r2 z λ x S1 v H1 h1 q1 e1 p1=>?_;cases x with
  | err c f d=>
   simp![zf] at q1;let#[a,C,dx,w,rfl,#[hE,h2,h3],_]:=q1;show#[a,C,dx,c,V0,k c,rfl,h2,hE,hk c,h1 _ H1 (by simp![zf]) e1 p1]
  | _=>show h1.elim
end
end L3
namespace L5
open PySem PySem.Spec L2 L3
open PyProof.Rows hiding St
@[simp] def vT (k:Str->Bool) (g:Ae):Ae:=fun J=>(g J).bind λ x=>match x with
 | .err c _ _=>↑(.bl (k c))
 | _=>none
def SR {k:Str->Bool}{g:Ae}{te:zj}(hf:ya g te):yI (vT k g) (mD k te):=λ S Z Y J y Q hE e hq=>by
 let#[x,e1,e2]:=Am.mp e;exact hf S Z Y J x _ hE e1 λ d S1 s1 r1=>?_;split at e2
 .cases e2;let#[d',rfl,_]:=Vw.err r1;show hq _ S1 s1 (Cl.of (λ _=>nofun) wo)
 .cases e2
end L5
namespace L3
open PySem PySem.Spec L2
open PyProof.Rows hiding St
def Ec (K:Ab) (c:Str):Prop:=∃ C P N NP,sN K c C P N NP
def Ec.i {K:Ab}{c:Str}{C P:Addr}{o1 o2:Value}{d1 d2:Option Addr}{c1 c2:ClassData}{s1 s2:Array (Option Value)}(_:PySem.W.nsIn K mainGlobals c=↑↑(.ref C)) (_:PySem.W.nsIn K mainGlobals "PurseError"=↑↑(.ref P)) (_:K.lookup C=↑#[o1,d1,.cls c1,s1]) (_:K.lookup P=↑#[o2,d2,.cls c2,s2])
  (h:m7 K c=↑(C,P,c1.ns,c2.ns)):Ec K c:=#[C,P,_,_,cV h]
def Og (K:Ab) (mg:Au) (cn:Str):Prop:=∃ D,ip K cn D/\mg cn=↑(.ref D)
section
variable {K:Ab}{mg:Au}{h:Heap}{c:Str}
def Ec.mk (H:Ec K c) (X:K.In h) (G:h.Ns mainGlobals mg):Og K mg c:=by
 let#[C,P,N,NP,e]:=H;show#[C,#[e.top,_,_,e.own],PySem.W.mg_of X G e.top]
theorem Ec.par (H:Ec K c) (X:K.In h) (G:h.Ns mainGlobals mg):Og K mg "PurseError":=by
 let#[C,P,N,NP,e]:=H;show#[P,#[e.nU,_,_,e.par],PySem.W.mg_of X G e.nU]
end
def xg (cn:Str) (c:Str):Bool:=decide (cn=c)||decide (cn="PurseError")
section
variable {X:Cx}{e:Expr}{te:zj}{p q pos:Pos}
def Ul {cn:Str}(O:Og X.K X.mg cn) (T:Bt X.mg) (he:PD X e te) (hd:(cn == ("__debug__":Str))=false) (F0:Gl X cn) (hg:Gl X "isinstance") (h1:Aq X e [.Name cn q]) (h2:Ay X pos [.Name cn q]) (h3:Aq X (.Name cn q) []):
  PD X (.Call (.Name "isinstance" p) [e,.Name cn q] [] pos) (mD (xg cn) te):=by
 let#[D,o,hm]:=O;show eD (V0:=.ref D) (λ c=>.own o) (nV F0 hm rfl hd) T he hg h1 h2 h3
def Ow:bootBuiltins "ValueError"=↑(.type "ValueError"):=by decide +kernel
def kA (hm:X.mg "ValueError"=none) (T:Bt X.mg) (he:PD X e te) (F0:Gl X "ValueError") (hg:Gl X "isinstance") (h1:Aq X e [.Name "ValueError" q]) (h2:Ay X pos [.Name "ValueError" q]) (h3:Aq X (.Name "ValueError" q) []):
  PD X (.Call (.Name "isinstance" p) [e,.Name "ValueError" q] [] pos) (mD (λ _=>true) te):=
 eD (V0:=.ty "ValueError") (λ c=>.val) (ez F0 hm Ow rfl () ()) T he hg h1 h2 h3
end
end L3
namespace L5
open PySem PySem.Spec L2 L3
open PyProof.Rows hiding St
def Pg {P:Program}{w:World}{K:Ab}{mg:Au}{base:Heap}{x:Str}{st:Stmt}{R:Rk}{ps:List Str}{k:Nat}(F:Fy K mg x st)
  (hb:∀ (kV doc pm:Value) (an:Option Addr) (Ag ct:Value) (us:Ad),us.length=ps.length->bindArgs (PySem.W.fnOf x x (vy st) (yP st) (zC st) .none kV doc pm an Ag ct) #[us,[]]=pure (ps.zip us)):FD P w K mg base x k ps (zB R λ _=>none):=by
 let#[f,fd,F,hm]:=F;show#[#[f,fd,#[λ vs H Q E #[ds,S,r1,r2,Z,ys,y,_,_,e,_]=>(nomatch e),λ A outer s H args us vs Q E _ _ _ _ #[ds,S,_,_,Z,ys,y,_,_,e,_]=>(nomatch e)],hm,F.kp,F.binds hb],zB.mo]
end L5
namespace L3
open PySem PySem.Spec L2
open PyProof.Rows hiding St
section
def Zj (_ j:Int):Prop:=0<j/\j<2 ^ 200
def Zi (i j:Int):Prop:=i.natAbs<2 ^ 200/\j.natAbs<2 ^ 200
instance (i j:Int):Decidable (Zj i j):=by unfold Zj;infer_instance
instance (i j:Int):Decidable (Zi i j):=by unfold Zi;infer_instance
end
end L3
namespace PySem
section
variable {prog:Program}{w:World}{A:Around}{E:Af}{h:Heap}{g:Array GenState}{d:Drawn}{t:Nat}{os:OsState}
variable {nm q:Str}{C N:Addr}{bs bm ES:Ad}{hdct:Bool}{sn:List Str}{sub:Ad}{ab:Bool}{col:Option Bool}{dd:Option Addr}{k0 k1 k2 k3 k5:Option Value}{B newId Ga:String}
def Z5 (F:ExcBaseFacts B newId Ga ES) (T:OwnTail h ES bm) {mN:Au}{En:Ad}{Q:Fin->Shared->Prop}
  (hC:h.get? C=↑(excClassObj nm q C N bs bm hdct sn sub ab col dd k0 k1 k2 k3 k5 newId)) (hn:h.Ns N mN) (hi:mN "__init__"=none)
  (hq:∀ h' e,h.objs.size<=e->Heap.MadeExcOf h h' e (.ref C) En->Q (.done (.ret (.ref e))) #[h',g,d,t,os]) (Fq:En.length<=sizeLine):
  wpAny (model prog w) A (Builtin.«type.__call__» #[.ref C::En,[]]) Q E #[h,g,d,t,os]:=by
 repeat (first | with_reducible exact JI hC ?_ | with_reducible exact wpAny_madeBy_exc hC ?_ | wp_step)
 exact codeAny_call_builtin_code (Code.quiet_builtin _ F.quiet) (wpAny_check_new_subT F T hC ?_);exact codeAny_exc_new_subT F T hC ?_ Fq;change wpAny _ _ _ _ _ _;have up:∀ b o,h.get? b=↑o->((h.push { cls:=.type "tuple",data:=.seq En.toArray }).push { cls:=.ref C,data:=.fields [.ref h.objs.size,.none,.none,.none,.bool false,.none].toArray }).get? b=↑o:=λ b o e=>JH _ (JH _ e);have Jx:=up _ _ hC;have Ci:((h.push { cls:=.type "tuple",data:=.seq En.toArray }).push
   { cls:=.ref C,data:=.fields [.ref h.objs.size,.none,.none,.none,.bool false,.none].toArray }).get? (h.objs.size+1)=some
   { cls:=.ref C,data:=.fields [.ref h.objs.size,.none,.none,.none,.bool false,.none].toArray }:=by heap_get
 have hcC:(Value.ref C::bm).contains (.ref C)=true:=#[];unfold isInstance
 repeat (first | with_reducible exact JI Ci ?_ | (with_reducible exact JT Jx ?_;rw[hcC]) | wp_step)
 change wpAny _ _ (typeLookup (.ref C) _) _ _ _;exact wpAny_typeLookup_tail Jx (hn.keeps up) (T.keeps up) F.mroIs F.init.lookup ?_;rw[hi];exact JO (IC (wpAny_of_eq (F.init.bind _) ?_));exact IC (wpAny_call (codeAny_call_builtin F.init.plain F.initEntry (wpAny_check_init_subT F (T.keeps up) Jx Ci rfl ?_)))
 wp_walk
 rw[if_neg (show ¬ ([].append En).toArray.size>sizeLine from Nat.not_lt_of_le Fq)]
 wp_walk
 exact hq _ _ (Nat.le_succ _) #[λ b o hb=>?_,Kb (Nat.le_succ _),h.objs.size+2,?_,Kb ⋯,?_]
 .rw[JL _ _ (Bk (B7 (Ar hb)))];show JH _ (up _ _ hb)
 .rw[JN _ (JH _ Ci) rfl];simp![Heap.size_push];rfl
 .rw[JL _ _ (show h.objs.size+1≠h.objs.size+2 by lia)];show Heap.get?_push_at (by simp![Heap.size_push]) rfl
def ZE (F:ExcBaseFacts B newId Ga ES) (T:OwnTail h ES bm) {mN:Au}{En:Ad}{Q:Af}
  (hC:h.get? C=↑(excClassObj nm q C N bs bm hdct sn sub ab col dd k0 k1 k2 k3 k5 newId)) (hn:h.Ns N mN) (hi:mN "__init__"=none)
  (hq:∀ h' e,h.objs.size<=e->Heap.MadeExcOf h h' e (.ref C) En->Q (.ref e) #[h',g,d,t,os]) (Fq:En.length<=sizeLine):
  wpAny (model prog w) A (call (.ref C) En) Q E #[h,g,d,t,os]:=by
 have f1:=tc_lookup;have f2:=tc_bind (.ref C);have hT:(#[h,g,d,t,os]:Shared).TypeIs (.ref C) "type":=#[_,hC,rfl];exact wpAny_call (codeAny_of_tree ?_);change wpAny _ _ (callAny (.ref C) _) _ _ _
 repeat (any_goals (first | assumption | with_reducible exact JI hC ?_ | wp_step))
 exact#[rfl,?_];show codeAny_call_builtin_at (Code.quiet_builtin _ (AM)) entry_typeCall (wpAny_check_type_call_sub hC (Z5 F T hC hn hi hq Fq))
end
end PySem
namespace L3
open PySem PySem.Spec L2
open PyProof.Rows hiding St
def lb (K:Ab) (mg:Au) (c:Str):Prop:=∃ C P N NP,sN K c C P N NP/\mg c=↑(.ref C)/\PySem.W.keepIn K (.ref C)=true/\PySem.W.nsIn K N "__init__"=↑none
def Ez (K:Ab) (c:Str):Prop:=∃ C P N NP,sN K c C P N NP/\PySem.W.keepIn K (.ref C)=true/\PySem.W.nsIn K N "__init__"=↑none
def Ez.i {K:Ab}{c:Str}{C P:Addr}{o1 o2:Value}{d1 d2:Option Addr}{c1 c2:ClassData}{s1 s2:Array (Option Value)}(_:PySem.W.nsIn K mainGlobals c=↑↑(.ref C)) (_:PySem.W.nsIn K mainGlobals "PurseError"=↑↑(.ref P)) (_:K.lookup C=↑#[o1,d1,.cls c1,s1]) (_:K.lookup P=↑#[o2,d2,.cls c2,s2])
  (h:m7 K c=↑(C,P,c1.ns,c2.ns)) (k:PySem.W.keepIn K (.ref C)=true) (n:PySem.W.nsIn K c1.ns "__init__"=↑none):Ez K c:=#[C,P,_,_,cV h,k,n]
def Ez.mk {K:Ab}{mg:Au}{h:Heap}{c:Str}(H:Ez K c) (X:K.In h) (G:h.Ns mainGlobals mg):lb K mg c:=by
 let#[C,P,N,NP,e,k,n]:=H;show#[C,P,N,NP,e,PySem.W.mg_of X G e.top,k,n]
def ZJ {X:Cx}{c:Str}{p pos IP:Pos}{Ek:Ah}{O:St}{H:Hp}{s:Shared}{Q:Addr->Hp->Prop}{R:Flow->Shared->Prop}
  (G:lb X.K X.mg c) (hc:X.calm=true) (hg:Gl X c) (AR:(c == ("__debug__":Str))=false)
  {W:Af}(hW:∀ v s',XP X Ek false O Q v s'->W v s') (I:Inv X Ek O H s) (h:∀ a H',ic H H'->OK X.K c "" .zk a H'->Q a H'):
  wpAny (model X.prog X.w) X.A (exec (.Raise ↑(.Call (.Name c p) [] [] pos) none IP) X.env) R W s:=by
 let#[C,P,N,NP,hE,hm,hk,hi]:=G;let#[#[q,bs,sn,sub,ab,col,dd,k0,k1,k2,k3,k5,lk],_,_]:=id hE.own;rw[arm_exec_Raise];exact IC (wpAny_standAt (Z6 (C:=C) (nm:=c) (q:=q) (N:=N) (bs:=bs) (bm:=.ref P::v9) (hdct:=true) (sn:=sn) (sub:=sub) (ab:=ab) (col:=col) (dd:=dd) (k0:=k0) (k1:=k1) (k2:=k2) (k3:=k3) (k5:=k5) (newId:="ValueError.__new__")
  (by rw[Bv,show v9.contains (.type "BaseException")=true from by decide,CT]) (I.ok.hd hc) (IC (JK ?_ (λ v s₃ h₃=>IC (wpAny_standAt (Ac h₃))) λ _ _ x=>x))))
 exact J7 (ql I hg hm ?_ AR);exact PySem.W.callWith_K0 I.yx hk ?_;let#[hh,g,d,t,os]:=s;have hC:=I.yx _ _ lk;let#[_,hN,hnn]:=hE.own.at I.yx;let#[#[q',Ii,Hz,Gs,Ij,GC,Ia,l0,l1,l2,l3,l5,hP],Iy,GL]:=hE.par.at I.yx;have T:OwnTail hh v9 (.ref P::v9):=.own hP Iy (PySem.W.ns_none_of I.yx Iy hE.XZ) .base;exact ZE PySem.F.excBase_ValueError T hC hN (PySem.W.ns_none_of I.yx hN hi) (λ h' e hle M=>?_) ();let#[va,m1,m2,m3]:=M.there;have I2:Inv X Ek O (upd H e (Nk e C va)) #[h',g,d,t,os]:=I.laid (t':=t) M.keeps hle #[m1,#[_,m1],λ h1 h2 a b=>b _ a];have en:H e=none:=I.zl.fresh hle;let#[u3,ok3]:=Yb (fs:=X.fs) (ψ:=λ h=>∃ oe vs,h.get? e=↑oe/\oe.cls=.ref C/\oe.dict=none/\oe.data=.fields vs) I2.zl yf #[_,_,m1,rfl,rfl,rfl] (λ h1 h2 #[oe,vs,a,b] k=>#[oe,vs,k _ a,b]);have I4:=I2.un (t':=t) u3 ok3;exact#[e,none,va,_,rfl,I2.yx _ _ lk,m1,hW _ _ #[e,Ek,O,_,rfl,nofun,I4,#[C,none,yf],.inl #[rfl,_,_,_,m1,rfl,rfl,rfl],h e _ (λ b o z=>?_) #[C,none,#[P,N,NP,hE],yf,rfl,rfl]]];have b1:b≠e:=λ y=>by rw[y,en] at z;cases z
 rw[zM b1,zM b1];show z
def WH {X:Cx}{c:Str}{p Aa pos:Pos}(G:lb X.K X.mg c) (hg:Gl X c) (hc:X.calm=true) (AR:(c == ("__debug__":Str))=false):
  tS X false (.Raise ↑(.Call (.Name c p) [] [] Aa) none pos) (bu c "" (dC .zk)):=by
 exact#[λ E E' Y S hE z=>hE.rt _ _ z,λ Ek s O H D Q W hW I #[Y,S,r1,r2,z]=>?_];exact ZJ G hc hg AR hW.xp I λ a H' sm #[C,dx,hE,h2,h3]=>?_;exact z.2 rfl a H' ?_ (.same sm) (r2.same sm);simp![zf];show#[a,C,dx,.zk,rfl,#[hE,h2,h3],rfl]
end L3
namespace L2
open PySem PySem.Spec PyProof.Rows
section
theorem gd:∀ {ss:List Str}{us:Ad},Vals (ss.map V.str) us->∀ (i:Nat) y,us[i]?=↑y->∃ s t,ss[i]?=↑s/\y=.str s t
 | [],us,h,i,y,e=>by cases h;simp at e
 | s::ss,us,h,i,y,e=>by
  cases h with
  | cons r rr=>
   cases i with
   | zero=>
    let#[t,rfl]:=r;simp at e;show#[s,t,rfl,e.symm]
   | succ i=>show gd rr i y (by exists e)
end
end L2
namespace L3
open PySem PySem.Spec L2
open PyProof.Rows hiding St
section
variable {K:Ab}{H:Hp}
def qj (d:D) (S:SS) (ss:List Str):Prop:=match d with
 | .y_ es=>es=ss.map D.str
 | .ref a=>S a=↑(.lst (ss.map D.str))
 | _=>False
theorem zh.strs:∀ {ss:List Str}{xs:List V},zh K H (ss.map D.str) xs->xs=ss.map V.str
 | [],xs,h=>by simpa only [A8,zh] using h
 | n::ns,xs,h=>by
  rw[AD] at h;simp![zh,zf] at h;let#[x,r,h1,h2,h3]:=h;subst h1 h2;rw[AD,zh.strs h3]
theorem qj.sq {S:SS}{d:D}{v:V}{ss:List Str}(r:zf K H d v) (p:zv K H S) (h:qj d S ss):∃ a,v=.ref a/\zA K H a (ss.map V.str):=by
 unfold qj at h;split at h
 .subst h;simp![zf] at r;let#[a,xs,r1,r2,r3]:=r;rw[r3.strs] at r2;show#[a,r1,r2.sq]
 .rename_i a;simp![zf] at r;let#[xs,x1,x2]:=p a _ h;rw[x2.strs] at x1;show#[a,r,.inl (.inl x1)]
 .show h.elim
end
end L3
namespace L5
open PySem PySem.Spec L2 L3
open PyProof.Rows hiding St
def tw:List T->Option (List Str)
 | []=>↑[]
 | .str s::ts=>(tw ts).map (s::·)
 | _::_=>none
theorem lT:∀ {ts:List T}{ss:List Str},tw ts=↑ss->ts=ss.map T.str
 | [],ss,h=>by cases h;rfl
 | t::ts,ss,h=>by
  cases t with
  | str s=>
   let#[r,h1,rfl]:=AO.mp h;rw[lT h1];rfl
  | _=>cases h
theorem nG {S:SS}:∀ {ss:List Str}{ds:List D},zg S (ss.map T.str) ds->ds=ss.map D.str
 | [],ds,h=>by simpa only [A8,zg] using h
 | s::ss,ds,h=>by
  rw[AD] at h;simp![zg,Sn] at h;let#[d,r,rfl,rfl,h3]:=h;rw[AD,nG h3]
def Vw.strs {S:SS}{Z:Addr->Prop}{ss:List Str}{d:D}(h:Vw S Z (.lst (ss.map T.str)) d):qj d S ss:=by
 rcases h with h | ⟨ts,p,ds,e,rfl,h1,h2,_⟩
 .simp![Sn] at h;let#[ds,h1,h2]:=h;have e:=nG h2;subst e;rcases h1 with ⟨rfl,_⟩ | ⟨a,rfl,h3⟩
  .rfl
  .show (u4 h3).2
 .cases e;rw[nG h2] at h1;show h1
end L5
namespace L2
open PySem PySem.Spec PyProof.Rows
section
variable {s:Shared}
variable {X:Cx}
def Inv.R3 {Ek:Ah}{O:St}{H:Hp}{a:Addr}{xs:List V}(I:Inv X Ek O H s) (h:zE X.K H a xs):s.TypeIs (.ref a) "tuple"/\∃ o,s.heap.get? a=↑o/\o.dict=none:=by
 let#[_,_,#[o,ho,hc,_],_]:=I.tuple h;exact#[#[o,ho,hc],?_];rcases h with h | ⟨o,its,n,hk,hc,hs,hz,r⟩
 .show (h.ok I.zl).1.2
 .show#[o,I.yx a o hk,hc.2]
end
end L2
namespace L2
open PySem PySem.Spec PyProof.Rows
section
variable {prog:Program}{w:World}{A:Around}{s:Shared}
theorem cu {its:Av}{ss:List Str}{k:Str}{t:Tok}{E:Af}{Q:Option PySem.Fin×Unit->Shared->Prop}{body:Nat->Option PySem.Fin×Unit->Sem (ForInStep (Option PySem.Fin×Unit))}
  (hb:∀ (i:Nat) y,its[i]?=↑y->body i (none,Unit.unit)=eqBool y (.str k t) >>= λ e=>if e=true then retInt (i:Int) >>= λ r=>pure (ForInStep.done (↑r,Unit.unit)) else pure (ForInStep.yield (none,Unit.unit)))
  (hi:Vals (ss.map V.str) its.toList) (hk:k∈ss) (h:Q (↑(.done (.ret (.int (ss.idxOf k:Nat) s.toks))),Unit.unit) { s with toks:=s.toks+1 }):
  ∀ (m i:Nat),i+m=ss.length->i<=ss.idxOf k->wpAny (model prog w) A (forIn (List.range' i m 1) ((none,Unit.unit):Option PySem.Fin×Unit) body) Q E s
 | 0,i,h1,h2=>by have:=List.idxOf_lt_length_iff.mpr hk;lia
 | m+1,i,h1,h2=>by
  have hl:=hi.length;rw[An] at hl;have C_:i<its.toList.length:=⋯;let#[s',u,e0,hu]:=gd hi i _ (BC C_);have hy:its[i]?=↑(.str s' u):=by rw[<- BB,BC C_,hu]
  rw[List.range'_succ,CU];exact IC ?_;rw[hb _ _ hy];exact IC (SeqAt.EqAt.str_str s' u k t prog w _ _ ?_);have AE:=List.idxOf_lt_length_iff.mpr hk;have es:ss[i]'⋯=s':=by
   rw[BC ⋯] at e0;cases e0;rfl
  by_cases e:s'=k
  .have ei:ss.idxOf k=i:=by
    rcases Br i (ss.idxOf k) with q | q
    .have:=List.not_of_lt_findIdx (p:=(· == k)) (xs:=ss) (i:=i) q;simp at this;show absurd (es.trans e) this
    .lia
   rw[if_pos (by exists e)];exact IC (IC (wpAny_mkInt (Ac (Ac (Ac ?_)))));rw[ei] at h;show h
  .rw[if_neg (by exists e)];exact Ac (cu hb hi hk h m (i+1) ⋯ ?_);rcases Br i (ss.idxOf k) with q | q
   .lia
   .have ei:i=ss.idxOf k:=⋯;exact absurd ?_ e;rw[<- es];subst ei;show List.getElem_idxOf AE
def Yn {l:Addr}{its:Ad}{o:Obj}{n:Nat}{ss:List Str}{k:Str}{t:Tok}{E:Af}{P:PySem.Fin->Shared->Prop}(ho:s.heap.get? l=↑o) (hd:o.data=.seq its.toArray n) (hi:Vals (ss.map V.str) its) (hk:k∈ss)
  (h:P (.done (.ret (.int (ss.idxOf k:Nat) s.toks))) { s with toks:=s.toks+1 }):wpAny (model prog w) A (Builtin.«tuple.index» #[[.ref l,.str k t],[]]) P E s:=by
 unfold Builtin.«tuple.index»;let#[hp,g,d,tk,os]:=s
 wp_walk using wpAny_loadPart' ho
 rw[hd];exact Ac (Ac ?_);exact IC (m:=pure 0) (Ac ?_);exact IC (m:=pure its.toArray.size) (Ac ?_);exact IC ?_;rw[Nat.min_self,Std.Legacy.Range.forIn_eq_forIn_range'];have hl:=hi.length;rw[An] at hl;exact cu (its:=its.toArray) (t:=t) (λ i y h=>by rw[h]) (by exists hi) hk ?_ _ 0 ?_ (AZ _)
 .show Ac h
 .simp[Std.Legacy.Range.size];lia
variable {X:Cx}
def fO (K:Ab):V->List V->Hp->VK->Prop:=λ x vs H Q=>∃ (l:Addr) (ns:List Str) (k:Str),x=.ref l/\vs=[.str k]/\zE K H l (ns.map V.str)/\k∈ns/\Q (.int (ns.idxOf k:Nat)) H
def R9:sI X "tuple.index" (fO X.K):=by
 intro Ek s O H x vs v us Q I rx rv h;let#[l,ns,k,rfl,rfl,hq,hk,q]:=h;cases rx;let#[u,rfl,ru]:=rv.one;let#[t,rfl]:=ru;let#[its,r,#[o,ho,hc,n,hd],_]:=I.tuple hq;show JQ F.slot_tuple_index #[o,ho,hc] F.entry_tuple_index (Yn ho hd r hk #[_,rfl,#[.int _,H,I.tok _,#[_,rfl],q]]) (F.args_tuple_index_2 _ _)
def Y4 (K:Ab) (to:TE) (t:TA):TE:=fun O H Q=>to O H λ x H1=>(∃ p,x=.ref p/\∃ xs,zE K H1 p xs)/\t O H1 λ xs H2=>fO K x xs H2 Q
variable {o e:Expr}{to:TE}{t:TA}{apos Aa:Pos}
def W8 (ho:PE X o to) (ha:PA X [e] t)
  (Ep:attributeBase o "index" X.env (eval o X.env)=eval o X.env:=by rfl)
  (Ai:((backTo Aa (starEach [e] X.env)).all (λ x=>!x.1)&&(backToKw Aa (keywordEach [] X.env)).all (λ x=>x.1.isSome)
   && decide ([e].length+([]:List Keyword).length+(if ([]:List Keyword).isEmpty then 0 else 1)<30))=true:=by rfl)
  (Et:(apos.endLine == Aa.line)=true:=by rfl) (hs:Aq X e []:=by rfl) (Es:Ay X Aa []:=by rfl):
  PE X (.Call (.Attribute o "index" apos) [e] [] Aa) (Y4 X.K to t):=by
 intro Ek s O H Q I h;exact J6 Ep Ai Et rfl (zt (ho Ek s O H _ I h) λ v s1 #[x,H1,I1,r1,#[p,e1,xs,sq],q1]=>?_);subst e1;cases r1;let#[h1,h2]:=I1.R3 sq;exact#["tuple","tuple.index",PySem.F.plainAttrs_tuple,F.slot_tuple_index,F.type_tuple_index,h1,λ a e=>by cases e;show h2,?_];have hA:=ha Aa Ek s1 O H1 _ I1 q1;rw[hs] at hA ⊢;exact Calls.callWith_builtin (by change (false||(backTo Aa (starEach [] X.env)).any (·.1))=false;rw[Es] <;> rfl) (Calls.evalArgs_plain ?_);show zt hA λ us s2 #[vs,H2,I2,r2,q2]=>R9 Ek s2 O H2 (.ref p) vs (.ref p) us Q I2 rfl r2 q2
end
end L2
namespace L3
open PySem PySem.Spec L2
open PyProof.Rows hiding St
section
variable {X:Cx}{o e:Expr}{to te:zj}{apos Aa:Pos}
def b0 (to te:zj):zj:=fun Y S Q=>to Y S λ x S1=>∃ ns:List Str,x=.tup (ns.map D.str)/\te Y S1 λ y S2=>∃ k,y=.str k/\k∈ns/\Q (.int (ns.idxOf k:Nat)) S2
def Uo (ho:PD X o to) (he:PD X e te)
  (Ep:attributeBase o "index" X.env (eval o X.env)=eval o X.env)
  (Ai:((backTo Aa (starEach [e] X.env)).all (λ x=>!x.1)&&(backToKw Aa (keywordEach [] X.env)).all (λ x=>x.1.isSome)
   && decide ([e].length+([]:List Keyword).length+(if ([]:List Keyword).isEmpty then 0 else 1)<30))=true)
  (Et:(apos.endLine == Aa.line)=true) (hs:Aq X e []) (Es:Ay X Aa []):
  PD X (.Call (.Attribute o "index" apos) [e] [] Aa) (b0 to te):=by
 exact#[fun Y S Q Q' hq z=>ho.mo Y S _ _ (λ x S1 #[ns,h1,h2]=>#[ns,h1,he.mo Y S1 _ _ (λ y S2 #[k,h1,h2,h3]=>#[k,h1,h2,hq _ _ h3]) h2]) z,PE.imp (W8 ho.pe (uI he.pe t7 hs) Ep Ai Et hs Es) fun O H Q hu=>?_];let#[Y,S,r1,r2,z]:=hu;exact zw.go ho.mo r1 r2 z λ x S1 v H1 h1 q1 e1 p1=>?_;let#[ns,rfl,h1]:=h1;have q1':=q1;simp![zf] at q1;let#[a,xs,rfl,sq,rd]:=q1;cases rd.strs;exact#[#[_,rfl,_,sq],?_];exact zw.go he.mo (r1.ext e1) p1 h1 λ y S2 w H2 h2 q2 e2 p2=>?_;let#[k,rfl,g3,g4]:=h2;have q3:=zf.ext e2 _ q1';simp![zf] at q2 q3;subst q2;let#[b,Il,eb,sq2,rd2]:=q3;cases eb;cases rd2.strs;show#[a,ns,k,rfl,rfl,sq2,g3,g4 _ H2 (by simp![zf]) (e1.trans e2) p2]
end
end L3
namespace L5
open PySem PySem.Spec L2 L3
open PyProof.Rows hiding St
def pW:T->T->Option T
 | .tup ts,.str k=>(tw ts).bind λ ns=>if k∈ns then ↑(.int (ns.idxOf k:Nat)) else none
 | _,_=>none
def SW {fa fb:Ae}{ta tb:zj}(ha:ya fa ta) (hb:ya fb tb):yI (zc pW fa fb) (b0 ta tb):=λ S Z Y J y Q hE e hq=>by
 unfold zc at e;let#[x,e1,e]:=Am.mp e;let#[z,e2,e]:=Am.mp e;unfold pW at e;split at e
 .let#[ns,i1,i2]:=Am.mp e;split at i2
  .rename_i hk;cases i2;have ei:=lT i1;subst ei;exact ha S Z Y J _ _ hE e1 λ d S1 s1 r1=>?_;let#[ds,rfl,r3]:=Vw.tup r1;cases nG r3;exact#[ns,rfl,hb S1 Z Y J _ _ (hE.grow s1) e2 λ d2 S2 s2 r2=>?_];cases r2.str;show#[_,rfl,hk,hq _ S2 (s1.trans s2) (Cl.of (λ _=>nofun) wM)]
  .cases i2
 .cases e
end L5
namespace L2
open PySem PySem.Spec PyProof.Rows Builtin Builtin.Str
section
variable {prog:Program}{w:World}{A:Around}{E:Af}{s:Shared}{x y:Str}{t u:Tok}
def YH {Q:Af}(hy:(y.length == 0)=false) (AH:x.length<=sizeLine) (Jd:(partsBetween x (occurrences x y 0 x.length (x.length+1)) y.length).length<=sizeLine)
  (hq:∀ (l:List (Str×Tok)) (k:Nat),l.map (·.1)=Txt.split x y->Q (.ref s.heap.objs.size) { s with heap:=s.heap.push (seqObj "list" (strValues l).toArray 0),toks:=k }):
  wpAny (model prog w) A (call (.builtin "str.split") [.str x t,.str y u]) Q E s:=by
 cases h1:(decide (x.length<y.length)||decide (strKind x<strKind y))
 .cases hf:(occurrences x y 0 x.length (x.length+1)).isEmpty
  .exact call_meets F.slot_str_split (typeIs_str _ _ _) F.entry_str_split (F.args_str_split_2 _ _) (meets_str_split_sep x y t u h1 hy hf AH Jd) ?_;change wants Q E _ { s with toks:=_,heap:=s.heap.push { cls:=.type "list",data:=.seq (strsFrom s.toks (partsBetween x (occurrences x y 0 x.length (x.length+1)) y.length)).toArray } };rw[strsFrom_eq];show hq (numbered s.toks _) _ ((numbered_texts _ _).trans ((if_neg (ne_true_of_eq_false h1)).trans (if_neg (ne_true_of_eq_false hf))).symm)
  .show call_meets F.slot_str_split (typeIs_str _ _ _) F.entry_str_split (F.args_str_split_2 _ _) (meets_str_split_not_found x y t u h1 hy hf)
    (hq [(x,t)] s.toks ((if_neg (ne_true_of_eq_false h1)).trans (if_pos hf)).symm)
 .show call_meets F.slot_str_split (typeIs_str _ _ _) F.entry_str_split (F.args_str_split_2 _ _) (meets_str_split_cannot_occur x y t u h1)
   (hq [(x,t)] s.toks (if_pos h1).symm)
theorem gc:∀ (l:List (Str×Tok)),Vals ((l.map (·.1)).map V.str) (strValues l)
 | []=>.nil
 | (_,t)::l=>.cons #[t,rfl] (gc l)
theorem gB:∀ {xs:List Str}{us:Ad},Vals (xs.map V.str) us->∃ l:List (Str×Tok),us=strValues l/\l.map (·.1)=xs
 | [],_,.nil=>#[[],rfl,rfl]
 | x::xs,_,.cons #[t,e] h=>by
  let#[l,rfl,rfl]:=gB h;show#[(x,t)::l,by rw[e];rfl,rfl]
variable {X:Cx}
def qc (a b:Str):Prop:=b.length≠0/\a.length<=sizeLine/\(partsBetween a (occurrences a b 0 a.length (a.length+1)) b.length).length<=sizeLine/\(Txt.split a b).length<=sizeLine
def fE:V->List V->Hp->VK->Prop:=λ x vs H Q=>∃ a b,x=.str a/\vs=[.str b]/\qc a b/\∀ l,H l=none->Q (.ref l) (upd H l (.lst ((Txt.split a b).map V.str)))
theorem dk:sI X "str.split" fE:=by
 intro Ek s O H x vs v us Q I rx rv h;let#[a,b,rfl,rfl,#[h1,h2,h3,h4],q]:=h;let#[t,rfl]:=rx;let#[_,rfl,u,rfl]:=rv.one;exact YH (by exists h1) h2 h3 λ l k e=>?_;exact#[.ref s.heap.objs.size,_,I.laid (t':=k) (o:=.lst ((Txt.split a b).map V.str)) (λ b o e=>JH _ e) (Aj _) #[by rw[An];show h4,strValues l,0,by rw[<- e];show gc l,AQ _ rfl],rfl,q _ (I.zl.fresh (Aj _))]
def rJoin (K:Ab):V->List V->Hp->VK->Prop:=λ x vs H Q=>∃ a p texts,x=.str a/\vs=[.ref p]/\zA K H p (texts.map V.str)/\JoinOk a texts=true/\Q (.str (Txt.join a texts)) H
def R8:sI X "str.join" (rJoin X.K):=by
 intro Ek s O H x vs v us Q I rx rv h;let#[a,p,texts,rfl,rfl,hq,zl,q]:=h;let#[t,rfl]:=rx;let#[_,rfl,e]:=rv.one;cases e;let#[its,r,pl,_]:=I.list hq;let#[l,rfl,hl]:=gB r;show SC.join pl.isList hl zl λ t' k=>#[.str _,H,I.tok k,#[t',rfl],q]
end
end L2
namespace L3
open PySem PySem.Spec L2
open PyProof.Rows hiding St
section
variable {X:Cx}{K:Ab}{o e:Expr}{es:List Expr}{to:zj}{tA:zI}{apos Aa:Pos}{name:Str}{id:String}
def uh (f:yS) (to:zj) (tA:zI):zj:=fun Y S Q=>to Y S λ x S1=>(∃ y,x=.str y)/\tA Y S1 λ ds S2=>f (x::ds) S2 Q
def uh.mo {f:yS}(hf:we f) (ho:zL to) (ha:ve tA):zL (uh f to tA):=fun Y S Q Q' hq z=>ho Y S _ _ (λ x S1 #[h1,h2]=>#[h1,ha Y S1 _ _ (λ ds S2 h=>hf _ _ _ _ hq h) h2]) z
theorem gM {f:yS}{r:V->List V->Hp->VK->Prop}(hf:we f) (hr:ur K f λ xs H Q=>∃ x En,xs=x::En/\r x En H Q) (ho:zL to) (ha:ve tA) (O:St) (H:Hp) (Q:VK) (hu:zw K (uh f to tA) O H Q):sW K "str" r (zw K to) (yV K tA) O H Q:=by
 let#[Y,S,r1,r2,z]:=hu;exact zw.go ho r1 r2 z λ x S1 v H1 h1 q1 e1 p1=>?_;let#[#[y,rfl],h2]:=h1;simp![zf] at q1;subst q1;exact#[rfl,yV.go ha (r1.ext e1) p1 h2 λ ds S2 xs H2 g q2 e2 p2=>?_];let#[x,En,e,k]:=hr (.str y::xs) (.str y::ds) H2 S2 Q (.cons (by simp![zf]) q2) p2 (hf _ _ _ _ (λ d S h=>h.ext (e1.trans e2)) g);cases e;show k
def eC {f:yS}{r:V->List V->Hp->VK->Prop}(slot:Slot "str" name id) (B4:typeOf (.builtin id)=pure (.type "method_descriptor")) (hm:sI X id r) (hf:we f)
  (hr:ur X.K f λ xs H Q=>∃ x En,xs=x::En/\r x En H Q) (ho:PD X o to) (ha:yK X (e::es) tA)
  (Ep:attributeBase o name X.env (eval o X.env)=eval o X.env)
  (Ai:((backTo Aa (starEach (e::es) X.env)).all (λ x=>!x.1)&&(backToKw Aa (keywordEach [] X.env)).all (λ x=>x.1.isSome)
   && decide ((e::es).length+([]:List Keyword).length+(if ([]:List Keyword).isEmpty then 0 else 1)<30))=true)
  (Et:(apos.endLine == Aa.line)=true) (hs:Aq X e es) (Es:Ay X Aa es):
  PD X (.Call (.Attribute o name apos) (e::es) [] Aa) (uh f to tA):=by
 exact#[fun Y S Q Q' hq z=>ho.mo Y S _ _ (λ x S1 #[h1,h2]=>#[h1,ha.mo Y S1 _ _ (λ ds S2 h=>hf _ _ _ _ hq h) h2]) z,PE.imp (nX PySem.F.plainAttrs_str slot B4 hm ho.pe ha.pa Ep Ai Et hs Es) (gM hf hr ho.mo ha.mo)]
def vZ:yS:=λ ds S Q=>∃ a b,ds=[.str a,.str b]/\qc a b/\∀ l,S l=none->Q (.ref l) (ups S l (.lst ((Txt.split a b).map D.str)))
def vZ.mo:we vZ:=λ ds S Q Q' hq #[a,b,h0,h1,h2]=>#[a,b,h0,h1,λ l hl=>hq _ _ (h2 l hl)]
theorem zh.kH {H:Hp}:∀ (xs:List Str),zh K H (xs.map D.str) (xs.map V.str)
 | []=>by simp[zh]
 | x::xs=>by rw[AD,AD];show .cons (by simp![zf]) (zh.kH xs)
def vZ.fits:ur K vZ λ xs H Q=>∃ x En,xs=x::En/\fE x En H Q:=λ xs ds H S Q h0 h2 h=>by
 let#[a,b,rfl,ok,h]:=h;have h0:zh K H ([a,b].map D.str) xs:=h0;cases h0.strs;exact#[_,_,rfl,a,b,rfl,rfl,ok,λ l hf=>?_];have hx:Ext H (upd H l (.lst ((Txt.split a b).map V.str))):=.new hf _;show h l (h2.none hf) _ _ (by simp![zf]) hx (h2.ups hx #[_,yf,zh.kH _])
def sr:yS:=λ ds S Q=>∃ a d ss,ds=[.str a,d]/\qj d S ss/\JoinOk a ss=true/\Q (.str (Txt.join a ss)) S
def sr.mo:we sr:=λ ds S Q Q' hq #[a,d,t,h0,h1,h2,h3]=>#[a,d,t,h0,h1,h2,hq _ _ h3]
def sr.fits:ur K sr λ xs H Q=>∃ x En,xs=x::En/\rJoin K x En H Q:=λ xs ds H S Q h0 h2 h=>by
 let#[a,d,ss,rfl,h3,ok,h]:=h;let#[x,y,rfl,q1,q2]:=h0.two;simp![zf] at q1;subst q1;let#[p,rfl,sq]:=qj.sq q2 h2 h3;show#[_,_,rfl,a,p,ss,rfl,rfl,sq,ok,h _ H (by simp![zf]) (.refl H) h2]
def qv:yS:=λ ds S Q=>∃ a b,ds=[.str a,.str b]/\Q (.bl (Txt.startswith a b)) S
def qv.mo:we qv:=λ ds S Q Q' hq #[a,b,h0,h1]=>#[a,b,h0,hq _ _ h1]
def VI (ho:PD X o to) (ha:yK X [e] tA)
  (Ep:attributeBase o "split" X.env (eval o X.env)=eval o X.env)
  (Ai:((backTo Aa (starEach [e] X.env)).all (λ x=>!x.1)&&(backToKw Aa (keywordEach [] X.env)).all (λ x=>x.1.isSome)
   && decide ([e].length+([]:List Keyword).length+(if ([]:List Keyword).isEmpty then 0 else 1)<30))=true)
  (Et:(apos.endLine == Aa.line)=true) (hs:Aq X e []) (Es:Ay X Aa []):
  PD X (.Call (.Attribute o "split" apos) [e] [] Aa) (uh vZ to tA):=
 eC PySem.F.slot_str_split PySem.F.type_str_split dk vZ.mo vZ.fits ho ha Ep Ai Et hs Es
def Ud (ho:PD X o to) (ha:yK X [e] tA)
  (Ep:attributeBase o "join" X.env (eval o X.env)=eval o X.env)
  (Ai:((backTo Aa (starEach [e] X.env)).all (λ x=>!x.1)&&(backToKw Aa (keywordEach [] X.env)).all (λ x=>x.1.isSome)
   && decide ([e].length+([]:List Keyword).length+(if ([]:List Keyword).isEmpty then 0 else 1)<30))=true)
  (Et:(apos.endLine == Aa.line)=true) (hs:Aq X e []) (Es:Ay X Aa []):
  PD X (.Call (.Attribute o "join" apos) [e] [] Aa) (uh sr to tA):=
 eC PySem.F.slot_str_join PySem.F.type_str_join R8 sr.mo sr.fits ho ha Ep Ai Et hs Es
end
end L3
namespace L5
open PySem PySem.Spec L2 L3
open PyProof.Rows hiding St
@[simp] def xn (F:Ak) (g:Ae) (u:Ev->Option (List T)):Ae:=fun J=>(g J).bind λ x=>match x with
 | .str y=>(u J).bind λ xs=>F (.str y::xs)
 | _=>none
def TU {R:Rk} [Cl R] {F:Ak}{f:yS}{g:Ae}{u:Ev->Option (List T)}{tg:zj}{tu:zI}(hf:uq R F f) (hg:ya g tg) (hu:sG u tu):xm R (xn F g u) (uh f tg tu):=λ S Z Y J z Q hE e hq=>by
 let#[x,e1,e]:=Am.mp e;cases x with
 | str y=>
  let#[xs,e2,e3]:=Am.mp e;exact hg S Z Y J _ _ hE e1 λ d S1 s1 r1=>?_;cases r1.str;exact#[#[_,rfl],hu S1 Z Y J xs _ (hE.grow s1) e2 λ ds S2 s2 r2=>?_];show hf S2 Z (.str y::xs) z (.str y::ds) Q (hE.grow (s1.trans s2)).zd #[_,ds,rfl,.inl tZ,r2] e3 λ c S' s r=>hq c S' ((s1.trans s2).trans s) (Cl.cl (s1.trans s2) r)
 | _=>cases e
instance (a b:Str):Decidable (qc a b):=by unfold qc;infer_instance
theorem lZ {S:SS}:∀ (ss:List Str),zg S (ss.map T.str) (ss.map D.str)
 | []=>by simp[zg]
 | s::ss=>by
  rw[AD,AD];simp![zg,Sn];show#[_,_,rfl,rfl,lZ ss]
@[simp] def vK:Ak
 | [.str a,.str b]=>if qc a b then ↑(.lst ((Txt.split a b).map T.str)) else none
 | _=>none
def QF:uq zx vK vZ:=λ S Z ys z ds Q hz hv e hq=>by
 unfold vK at e;split at e
 .split at e
  .rename_i ok;cases e;let#[d,d',rfl,h1,h2]:=qP hv;cases h1.str;cases h2.str;show#[_,_,rfl,ok,λ l hl=>hq _ _ (.new hl _) (sa hz hl (lZ _))]
  .cases e
 .cases e
@[simp] def vS:Ak
 | [.str a,.lst ts]=>(tw ts).bind λ ss=>if JoinOk a ss=true then ↑(.str (Txt.join a ss)) else none
 | _=>none
def QK:uq zx vS sr:=λ S Z ys z ds Q hz hv e hq=>by
 unfold vS at e;split at e
 .let#[ss,e1,e2]:=Am.mp e;split at e2
  .rename_i ok;cases e2;cases lT e1;let#[d,d',rfl,h1,h2]:=qP hv;cases h1.str;show#[_,_,ss,rfl,Vw.strs h2,ok,hq _ S (.refl S) (Cl.of (λ _=>nofun) tZ)]
  .cases e2
 .cases e
@[simp] def nv:Ak
 | [.str a,.str b]=>↑(.bl (Txt.startswith a b))
 | _=>none
def QE:uq zx nv qv:=λ S Z ys z ds Q hz hv e hq=>by
 unfold nv at e;split at e
 .cases e;let#[d,d',rfl,h1,h2]:=qP hv;cases h1.str;cases h2.str;show#[_,_,rfl,hq _ S (.refl S) (Cl.of (λ _=>nofun) wo)]
 .cases e
end L5
namespace L2
open PySem PySem.Spec PyProof.Rows Builtin Builtin.Str
section
variable {X:Cx}
theorem Ob:yM X (.type "str") (λ xs H Q=>∃ i:Int,xs=[.int i]/\(-1000000<=i/\i<=1000000)/\Q (.str (toString i)) H):=by
 intro Ek s O H xs us Q I r h;let#[i,rfl,hi,q]:=h;let#[_,rfl,t,rfl]:=r.one;exact P.str_of_int ?_ #[.str _,H,I.tok _,#[_,rfl],q];have h1:i.natAbs<=1000000:=⋯;by_cases h0:i.natAbs=0
 .rw[h0];decide
 .show BO ((Nat.log2_lt h0).mpr (show i.natAbs<2 ^ 20 by lia)) ()
end
end L2
namespace L5
open PySem PySem.Spec L2 L3
open PyProof.Rows hiding St
section
variable {X:Cx}{K:Ab}{e:Expr}{es:List Expr}{tA:zI}{pos p:Pos}
def sj:yS:=λ ds S Q=>∃ i:Int,ds=[.int i]/\(-1000000<=i/\i<=1000000)/\Q (.str (toString i)) S
def sj.mo:we sj:=λ ds S Q Q' hq #[i,h0,h1,h2]=>#[i,h0,h1,hq _ _ h2]
def sj.fits:ur K sj (λ xs H Q=>∃ i:Int,xs=[.int i]/\(-1000000<=i/\i<=1000000)/\Q (.str (toString i)) H):=λ xs ds H S Q h0 h2 h=>by
 let#[i,rfl,h1,h]:=h;let#[x,rfl,r]:=h0.one;simp![zf] at r;subst r;show#[i,rfl,h1,h _ H (by simp![zf]) (.refl H) h2]
def VG (hm:X.mg "str"=none) (ha:yK X (e::es) tA) (hg:Gl X "str") (he:Aq X e es) (Ap:Ay X pos es):PD X (.Call (.Name "str" p) (e::es) [] pos) (vz sj tA):=
 p8 (nW Ob hg hm PyProof.Rows.boot_str ha.pa () () he Ap) sj.mo sj.fits ha.mo
@[simp] def yo:Ak
 | [.int i]=>if -1000000<=i/\i<=1000000 then ↑(.str (toString i)) else none
 | _=>none
def QD:uq zx yo sj:=λ S Z ys z ds Q hz hv e hq=>by
 unfold yo at e;split at e
 .split at e
  .rename_i hi;cases e;let#[d,rfl,h1]:=tj hv;cases h1.int;show#[_,rfl,hi,hq _ S (.refl S) (Cl.of (λ _=>nofun) tZ)]
  .cases e
 .cases e
def Ct (K:Ab) (x:Str) (ss:List Str):Prop:=∃ a,PySem.W.nsIn K mainGlobals x=↑↑(.ref a)/\∀ H,zE K H a (ss.map V.str)
def Cq (K:Ab) (mg:Au) (x:Str) (ss:List Str):Prop:=∃ a,mg x=↑(.ref a)/\∀ H,zE K H a (ss.map V.str)
def Ur {x:Str}{ss:List Str}(h:Cq X.K X.mg x ss) (hg:Gl X x:=by rfl) (hd:(x == ("__debug__":Str))=false:=by decide):PD X (.Name x pos) (dC (.tup (ss.map D.str))):=by
 let#[a,h1,h2]:=h;show rl (v:=.ref a) (nV (v:=.ref a) hg h1 rfl hd) λ H=>by
  simp![zf];show#[a,_,rfl,h2 _,zh.kH _]
end
end L5
namespace L2
open PySem PySem.Spec PyProof.Rows Builtin Builtin.Str
section
variable {X:Cx}
def wc (X:Cx) (e:Expr) (t:TE):Prop:=
 ∀ (Ek:Ah) (s:Shared) (O:St) (H:Hp) (Q:VK),0<s.toks->Inv X Ek O H s->t O H Q->wpAny (model X.prog X.w) X.A (eval e X.env) (EP X Ek O Q) X.xe s
def oI (X:Cx) (e:Expr) (t:TE):Prop:=
 ∀ (Ek:Ah) (s:Shared) (O:St) (H:Hp) (Q:VK),Inv X Ek O H s->t O H Q->wpAny (model X.prog X.w) X.A (eval e X.env) (λ v s'=>s'=s/\∃ x,RelV x v/\Q x H) X.xe s
def mS (X:Cx) (es:List Expr) (t:TA):Prop:=
 ∀ (pos:Pos) (Ek:Ah) (s:Shared) (O:St) (H:Hp) (Q:List V->Hp->Prop),0<s.toks->Inv X Ek O H s->t O H Q->wpAny (model X.prog X.w) X.A (spliced (backTo pos (starEach es X.env))) (AP X Ek O Q) X.xe s
def ij (X:Cx) (st:List Stmt) (t:TS):Prop:=
 ∀ (Ek:Ah) (s:Shared) (O:St) (H:Hp) (D:Ends),0<s.toks->Inv X Ek O H s->t D O H->wpAny (model X.prog X.w) X.A (execs st X.env) (SP X Ek D) X.xe s
def ig (X:Cx) (e:Expr) (t:TT):Prop:=
 ∀ (Ek:Ah) (s:Shared) (O:St) (H:Hp) (Q:Bool->Hp->Prop),Inv X Ek O H s->t O H Q->wpAny (model X.prog X.w) X.A (isTrue e X.env (eval e X.env)) (λ b s'=>0<s'.toks/\TP X Ek O Q b s') X.xe s
def Wo {i:Nat}{x:Str}{pos:Pos}(hN:X.N[i]?=↑x) (hv:qB X.env.scope x) (hd:(x == ("__debug__":Str))=false:=by decide) (A7:(x == ("__classdict__":Str))=false:=by decide):oI X (.Name x pos) (qS i):=by
 intro Ek s O H Q I h;let#[v,e,h]:=h;let#[m,hn,hl]:=I.loc;let#[u,r,l]:=hl i x v hN e hv;have fin:s=s/\∃ x,RelV x u/\Q x H:=#[rfl,v,r,h];rcases l with ⟨hk,hm⟩ | ⟨hk,c,hc,F4⟩
 .show wpAny_Name (wpAny_loadName_local I.ok.kind hk hn hm fin) hd
 .rcases hk with hk | hk
  .show wpAny_Name (wpAny_loadName_cell I.ok.kind hk hc F4 fin) hd
  .show wpAny_Name (wpAny_loadName_free I.ok.kind hk hc F4 fin A7) hd
def eH {e:Expr}{te:TE}(ha:wc X e te) (hs:Aq X e []:=by rfl):mS X [e] (qV te qU):=by
 intro pos Ek s O H Q tk I h;rw[hs];change wpAny _ _ (spliced ((false,eval e X.env)::backTo pos (starEach [] X.env))) _ _ s;exact Calls.spliced_cons (zt (ha Ek s O H _ tk I h) λ u s1 #[x,H1,I1,r1,q1]=>?_);show zt (t7 pos Ek s1 O H1 _ I1 q1) λ us s2 #[xs,H2,I2,r2,q2]=>#[x::xs,H2,I2,.cons r1 r2,q2]
variable {o e:Expr}{es:List Expr}{to:TE}{t:TA}{name:Str}{apos Aa:Pos}{T id:String}{r:V->List V->Hp->VK->Prop}
def Wu (pa:PlainAttrs T) (slot:Slot T name id) (B4:typeOf (.builtin id)=pure (.type "method_descriptor")) (hm:sI X id r) (ho:wc X o to) (ha:PA X (e::es) t)
  (Ep:attributeBase o name X.env (eval o X.env)=eval o X.env)
  (Ai:((backTo Aa (starEach (e::es) X.env)).all (λ x=>!x.1)&&(backToKw Aa (keywordEach [] X.env)).all (λ x=>x.1.isSome)
   && decide ((e::es).length+([]:List Keyword).length+(if ([]:List Keyword).isEmpty then 0 else 1)<30))=true)
  (Et:(apos.endLine == Aa.line)=true) (hs:Aq X e es) (Es:Ay X Aa es):
  wc X (.Call (.Attribute o name apos) (e::es) [] Aa) (sW X.K T r to t):=by
 intro Ek s O H Q tk I h;exact J6 Ep Ai Et rfl (zt (ho Ek s O H _ tk I h) λ v s1 #[x,H1,I1,r1,ty,q1]=>?_);let#[h1,h2]:=lN I1 r1 ty;exact#[T,id,pa,slot,B4,h1,h2,?_];have hA:=ha Aa Ek s1 O H1 _ I1 q1;rw[hs] at hA ⊢;exact Calls.callWith_builtin (by change (false||(backTo Aa (starEach es X.env)).any (·.1))=false;rw[Es] <;> rfl) (Calls.evalArgs_plain ?_);show zt hA λ us s2 #[vs,H2,I2,r2,q2]=>hm Ek s2 O H2 x vs v us Q I2 r1 r2 q2
def Wt (pa:PlainAttrs T) (slot:Slot T name id) (B4:typeOf (.builtin id)=pure (.type "method_descriptor")) (hm:sI X id r) (ho:oI X o to) (ha:mS X (e::es) t)
  (Ep:attributeBase o name X.env (eval o X.env)=eval o X.env)
  (Ai:((backTo Aa (starEach (e::es) X.env)).all (λ x=>!x.1)&&(backToKw Aa (keywordEach [] X.env)).all (λ x=>x.1.isSome)
   && decide ((e::es).length+([]:List Keyword).length+(if ([]:List Keyword).isEmpty then 0 else 1)<30))=true)
  (Et:(apos.endLine == Aa.line)=true) (hs:Aq X e es) (Es:Ay X Aa es):
  wc X (.Call (.Attribute o name apos) (e::es) [] Aa) (sW X.K T r to t):=by
 intro Ek s O H Q tk I h;exact J6 Ep Ai Et rfl (zt (ho Ek s O H _ I h) λ v s1 #[GX,x,r1,ty,q1]=>?_);subst GX;let#[h1,h2]:=lN I r1 ty;exact#[T,id,pa,slot,B4,h1,h2,?_];have hA:=ha Aa Ek s1 O H _ tk I q1;rw[hs] at hA ⊢;exact Calls.callWith_builtin (by change (false||(backTo Aa (starEach es X.env)).any (·.1))=false;rw[Es] <;> rfl) (Calls.evalArgs_plain ?_);show zt hA λ us s2 #[vs,H2,I2,r2,q2]=>hm Ek s2 O H2 x vs v us Q I2 r1 r2 q2
section
variable {CX:vh}{k:Nat}{f:Addr}{fd:FuncData}{ps:List Str}{sp:Sp}{GA:List V}{ds:Ad}{E:XK}{x:Str}{p pos:Pos}
def Ws (F:yL X.prog X.w X.K X.mg X.base CX k f fd ps sp) (hr:zQ k X.A) (hg:Gl X x) (hm:X.mg x=↑(.ref f)) (hk:PySem.W.keepIn X.K (.ref f)=true) (hb:Binds X.K fd ps ds) (hd:Vals GA ds) (hx:Passes CX X E)
  (ha:mS X (e::es) t) (AR:(x == ("__debug__":Str))=false) (he:Aq X e es) (Ap:Ay X pos es):
  wc X (.Call (.Name x p) (e::es) [] pos) (nq sp GA E t):=by
 intro Ek s O H Q tk I h;exact J7 (ql I hg hm ?_ AR);exact PySem.W.callWith_K (h₀:=X.base) I.ok.mod.qo hk (zt (ha pos Ek s O H _ tk I h) λ us s1 #[vs,H1,I1,r,q]=>#[I1.yx,?_]) he Ap;show gZ F hr hb hd hx I1 r q
end
def Yw (to:TE) (y z:Str):TE:=fun O H Q=>to O H λ x H1=>∃ a,x=.str a/\a.length<=1000000/\Q (.str (Txt.replace a y z)) H1
def Wr {y z:Str}{j1 j2:Nat}{p1 p2:Pos}(ho:oI X o to) (DY:(y == z)=false) (hz:z.length<=14)
  (Ep:attributeBase o "replace" X.env (eval o X.env)=eval o X.env)
  (Ai:((backTo Aa (starEach [Expr.Constant (.str y) j1 p1,.Constant (.str z) j2 p2] X.env)).all (λ x=>!x.1)&&(backToKw Aa (keywordEach [] X.env)).all (λ x=>x.1.isSome)
   && decide ([Expr.Constant (.str y) j1 p1,.Constant (.str z) j2 p2].length+([]:List Keyword).length+(if ([]:List Keyword).isEmpty then 0 else 1)<30))=true)
  (Et:(apos.endLine == Aa.line)=true)
  (hs:starEach [Expr.Constant (.str y) j1 p1,.Constant (.str z) j2 p2] X.env=[(false,eval (.Constant (.str y) j1 p1) X.env),(false,eval (.Constant (.str z) j2 p2) X.env)]):
  wc X (.Call (.Attribute o "replace" apos) [.Constant (.str y) j1 p1,.Constant (.str z) j2 p2] [] Aa) (Yw to y z):=by
 intro Ek s O H Q tk I h;exact J6 Ep Ai Et rfl (zt (ho Ek s O H _ I h) λ v s1 #[GX,x,r1,a,ea,la,q1]=>?_);subst GX;subst ea;let#[t,rfl]:=r1;exact#["str","str.replace",PySem.F.plainAttrs_str,PySem.F.slot_str_replace,PySem.F.type_str_replace,typeIs_str _ _ _,(λ _ e=>nomatch e),?_];rw[hs];exact Calls.callWith_builtin rfl (Calls.evalArgs_plain ?_);change wpAny _ _ (spliced ((false,eval (.Constant (.str y) j1 p1) X.env)::(false,eval (.Constant (.str z) j2 p2) X.env)::[])) _ _ _;exact Calls.spliced_cons (Calls.Constant_str (Calls.spliced_cons (Calls.Constant_str (Calls.spliced_nil ?_))));show SC.replaceW (Bk tk) (Nat.succ_ne_zero _) (AI (CA _)) DY (AF la ()) hz λ t' k=>#[.str _,H,(I.tok _).tok k,#[t',rfl],q1]
def XJ {e:Expr}{te:TE}{pos:Pos}(he:wc X e te) (hs:swapsWith e none pos.line X.env=pure false):ij X [.Expr e pos] (g9 te):=by
 intro Ek s O H D tk I h;have h1:wpAny (model X.prog X.w) X.A (exec (.Expr e pos) X.env) (SP X Ek D) X.xe s:=wpAny_Expr_any (zt (he Ek s O H _ tk I h) λ v s1 #[x,H1,I1,r1,q1]=>#[O,H1,I1,q1]) I.quiet hs;exact J_ (zt h1 λ f s1 q=>?_);cases f with
 | next=>show JZ q
 | _=>show q
def XC {y:Str}{j1:Nat}{p1:Pos}(ho:PE X o to)
  (Ep:attributeBase o "startswith" X.env (eval o X.env)=eval o X.env)
  (Ai:((backTo Aa (starEach [Expr.Constant (.str y) j1 p1] X.env)).all (λ x=>!x.1)&&(backToKw Aa (keywordEach [] X.env)).all (λ x=>x.1.isSome)
   && decide ([Expr.Constant (.str y) j1 p1].length+([]:List Keyword).length+(if ([]:List Keyword).isEmpty then 0 else 1)<30))=true)
  (Et:(apos.endLine == Aa.line)=true)
  (hs:starEach [Expr.Constant (.str y) j1 p1] X.env=[(false,eval (.Constant (.str y) j1 p1) X.env)])
  (he:∀ whole,isTrue (.Call (.Attribute o "startswith" apos) [.Constant (.str y) j1 p1] [] Aa) X.env whole=(do let v <- whole;standAt (Expr.Call (.Attribute o "startswith" apos) [.Constant (.str y) j1 p1] [] Aa).pos;holding [v] (truthy v))):
  ig X (.Call (.Attribute o "startswith" apos) [.Constant (.str y) j1 p1] [] Aa) (fun O H Q=>to O H λ x H1=>∃ a,x=.str a/\Q (Txt.startswith a y) H1):=by
 intro Ek s O H Q I h;exact isTrue_plain ?_ (he _);exact J6 Ep Ai Et rfl (zt (ho Ek s O H _ I h) λ v s1 #[x,H1,I1,r1,a,ea,q1]=>?_);subst ea;let#[t,rfl]:=r1;exact#["str","str.startswith",PySem.F.plainAttrs_str,PySem.F.slot_str_startswith,PySem.F.type_str_startswith,typeIs_str _ _ _,(λ _ e=>nomatch e),?_];rw[hs];exact Calls.callWith_builtin rfl (Calls.evalArgs_plain ?_);change wpAny _ _ (spliced ((false,eval (.Constant (.str y) j1 p1) X.env)::[])) _ _ _;exact Calls.spliced_cons (Calls.Constant_str (Calls.spliced_nil ?_));show SC.startswith (JV #[Nat.succ_pos _,H1,I1.tok _,q1])
def XN {c:Expr}{a b:List Stmt}{tc:TT}{t u:TS}{pos:Pos}(hc:ig X c tc) (ha:xC X a t) (hb:ij X b u):PS X (.If c a b pos) (gz tc t u):=by
 intro Ek s O H D I h;exact wpAny_If (zt (hc Ek s O H _ I h) λ d s1 #[tk,H1,I1,q1]=>?_);cases d with
 | true=>show ha Ek s1 O H1 D I1 q1
 | false=>show hb Ek s1 O H1 D tk I1 q1
end
end L2
namespace L3
open PySem PySem.Spec L2
open PyProof.Rows hiding St
section
variable {X:Cx}{K:Ab}{o e:Expr}{es:List Expr}{to te:zj}{tA:zI}{apos Aa pos p:Pos}
structure sD (X:Cx) (e:Expr) (t:zj):Prop where
 mo:zL t
 pe:wc X e (zw X.K t)
structure oJ (X:Cx) (e:Expr) (t:zj):Prop where
 mo:zL t
 pe:oI X e (zw X.K t)
structure mR (X:Cx) (es:List Expr) (t:zI):Prop where
 mo:ve t
 pa:mS X es (yV X.K t)
structure il (X:Cx) (st:List Stmt) (t:zW):Prop where
 mo:uD t
 ps:ij X st (lK X.K t)
structure ik (X:Cx) (e:Expr) (t:yt):Prop where
 mo:wH t
 pt:ig X e (xM X.K t)
def wc.imp {t t':TE}(h:wc X e t) (i:∀ O H Q,t' O H Q->t O H Q):wc X e t':=λ Ek s O H Q tk I hu=>h Ek s O H Q tk I (i O H Q hu)
def WE (i:Nat) {x:Str}(h:oI X (.Name x pos) (qS i)) (m:zL (yp i)):oJ X (.Name x pos) (yp i):=by
 exact#[m,λ Ek s O H Q I hu=>h Ek s O H Q I ?_];let#[Y,S,r1,r2,h]:=hu;unfold yp at h;split at h
 .rename_i d e;let#[v,h1,h2]:=r1.2 i d e;show#[v,h1,h v H h2 (Ext.refl H) r2]
 .show h.elim
def VA (he:sD X e te) (hs:Aq X e []):mR X [e] (tK te qx):=by
 exact#[fun Y S _ _ hq z=>he.mo Y S _ _ (λ x S1 z=>hq _ _ z) z,λ q Ek s O H Q tk I hu=>eH he.pe hs q Ek s O H Q tk I ?_];let#[Y,S,r1,r2,h]:=hu;show zw.go he.mo r1 r2 h λ x S1 v H1 h1 q1 e1 p1=>h1 [v] H1 (.cons q1 .nil) e1 p1
def bt (to:zj) (y z:Str):zj:=fun Y S Q=>to Y S λ x S1=>∃ a,x=.str a/\a.length<=1000000/\Q (.str (Txt.replace a y z)) S1
def Vp {y z:Str}{j1 j2:Nat}{p1 p2:Pos}(ho:oJ X o to) (DY:(y == z)=false) (hz:z.length<=14)
  (Ep:attributeBase o "replace" X.env (eval o X.env)=eval o X.env)
  (Ai:((backTo Aa (starEach [Expr.Constant (.str y) j1 p1,.Constant (.str z) j2 p2] X.env)).all (λ x=>!x.1)&&(backToKw Aa (keywordEach [] X.env)).all (λ x=>x.1.isSome)
   && decide ([Expr.Constant (.str y) j1 p1,.Constant (.str z) j2 p2].length+([]:List Keyword).length+(if ([]:List Keyword).isEmpty then 0 else 1)<30))=true)
  (Et:(apos.endLine == Aa.line)=true)
  (hs:starEach [Expr.Constant (.str y) j1 p1,.Constant (.str z) j2 p2] X.env=[(false,eval (.Constant (.str y) j1 p1) X.env),(false,eval (.Constant (.str z) j2 p2) X.env)]):
  sD X (.Call (.Attribute o "replace" apos) [.Constant (.str y) j1 p1,.Constant (.str z) j2 p2] [] Aa) (bt to y z):=by
 exact#[fun Y S _ _ hq w=>ho.mo Y S _ _ (λ x S1 #[a,h1,h2,h3]=>#[a,h1,h2,hq _ _ h3]) w,wc.imp (Wr ho.pe DY hz Ep Ai Et hs) fun O H Q hu=>?_];let#[Y,S,r1,r2,w]:=hu;exact zw.go ho.mo r1 r2 w λ x S1 v H1 h1 q1 e1 p1=>?_;let#[a,rfl,la,h1]:=h1;simp![zf] at q1;subst q1;show#[a,rfl,la,h1 _ H1 (by simp![zf]) e1 p1]
def Vo (ho:sD X o to) (ha:yK X [e] tA)
  (Ep:attributeBase o "split" X.env (eval o X.env)=eval o X.env)
  (Ai:((backTo Aa (starEach [e] X.env)).all (λ x=>!x.1)&&(backToKw Aa (keywordEach [] X.env)).all (λ x=>x.1.isSome)
   && decide ([e].length+([]:List Keyword).length+(if ([]:List Keyword).isEmpty then 0 else 1)<30))=true)
  (Et:(apos.endLine == Aa.line)=true) (hs:Aq X e []) (Es:Ay X Aa []):
  sD X (.Call (.Attribute o "split" apos) [e] [] Aa) (uh vZ to tA):=
 #[uh.mo vZ.mo ho.mo ha.mo,wc.imp (Wu PySem.F.plainAttrs_str PySem.F.slot_str_split PySem.F.type_str_split dk ho.pe ha.pa Ep Ai Et hs Es) (gM vZ.mo vZ.fits ho.mo ha.mo)]
def Vr {x:Str}{k:Nat}{ps:List Str}{sp:yY}(F:FD X.prog X.w X.K X.mg X.base x k ps sp) (hr:zQ k X.A) (ha:mR X (e::es) tA) (hg:Gl X x) (AR:(x == ("__debug__":Str))=false)
  (he:Aq X e es) (Ap:Ay X pos es):sD X (.Call (.Name x p) (e::es) [] pos) (rE sp tA):=by
 let#[#[f,fd,h1,h2,h3,h4],hm]:=F;show#[fun Y S Q Q' hq z=>ha.mo Y S _ _ (λ ds S1 z=>hm ds S1 _ _ hq z) z,wc.imp (Ws (E:=E0) h1 hr hg h2 h3 h4 .nil eF ha.pa AR he Ap) (bF hm ha.mo)]
def Vd (ho:oJ X o to) (he:sD X e te) (Cc:swapsWith (.Call (.Attribute o "append" apos) [e] [] Aa) none pos.line X.env=pure false)
  (Ep:attributeBase o "append" X.env (eval o X.env)=eval o X.env)
  (Ai:((backTo Aa (starEach [e] X.env)).all (λ x=>!x.1)&&(backToKw Aa (keywordEach [] X.env)).all (λ x=>x.1.isSome)
   && decide ([e].length+([]:List Keyword).length+(if ([]:List Keyword).isEmpty then 0 else 1)<30))=true)
  (Et:(apos.endLine == Aa.line)=true) (hs:Aq X e []) (Es:Ay X Aa []):
  il X [.Expr (.Call (.Attribute o "append" apos) [e] [] Aa) pos] (ot (uk to te)):=by
 have hp:wc X (.Call (.Attribute o "append" apos) [e] [] Aa) (zw X.K (uk to te)):=wc.imp (Wt PySem.F.plainAttrs_list PySem.F.slot_list_append PySem.F.type_list_append kN ho.pe (eH he.pe hs) Ep Ai Et hs Es) (ag ho.mo he.mo);have hm:=uk.mo ho.mo he.mo;exact#[λ E E' Y S hE z=>hm Y S _ _ (λ _ _ q=>hE.nx _ _ q) z,λ Ek s O H D tk I hu=>XJ hp Cc Ek s O H D tk I ?_];let#[Y,S,r1,r2,z]:=hu;show zw.go hm r1 r2 z λ x S1 v H1 h1 q1 e1 p1=>h1 O H1 (r1.ext e1) e1 p1
def WS {y:Str}{j1:Nat}{p1:Pos}(ho:PD X o to)
  (Ep:attributeBase o "startswith" X.env (eval o X.env)=eval o X.env)
  (Ai:((backTo Aa (starEach [Expr.Constant (.str y) j1 p1] X.env)).all (λ x=>!x.1)&&(backToKw Aa (keywordEach [] X.env)).all (λ x=>x.1.isSome)
   && decide ([Expr.Constant (.str y) j1 p1].length+([]:List Keyword).length+(if ([]:List Keyword).isEmpty then 0 else 1)<30))=true)
  (Et:(apos.endLine == Aa.line)=true)
  (hs:starEach [Expr.Constant (.str y) j1 p1] X.env=[(false,eval (.Constant (.str y) j1 p1) X.env)])
  (he:∀ whole,isTrue (.Call (.Attribute o "startswith" apos) [.Constant (.str y) j1 p1] [] Aa) X.env whole=(do let v <- whole;standAt (Expr.Call (.Attribute o "startswith" apos) [.Constant (.str y) j1 p1] [] Aa).pos;holding [v] (truthy v))):
  ik X (.Call (.Attribute o "startswith" apos) [.Constant (.str y) j1 p1] [] Aa) (jx (uh qv to (tK (dC (.str y)) qx))):=by
 have hm:zL (uh qv to (tK (dC (.str y)) qx)):=uh.mo qv.mo ho.mo fun Y S _ _ hq z=>hq _ _ z
 exact#[fun Y S Q Q' hq h=>hm Y S _ _ (λ x S1 z=>wK.mo hq z) h,λ Ek s O H Q I hu=>XC ho.pe Ep Ai Et hs he Ek s O H Q I ?_];let#[Y,S,r1,r2,z]:=hu;exact zw.go ho.mo r1 r2 z λ x S1 v H1 h1 q1 e1 p1=>?_;let#[#[a,rfl],a',b,e2,h2]:=h1;cases e2;simp![zf] at q1;show#[a,q1,h2 H1 e1 p1]
def Vk {c:Expr}{q r:List Stmt}{tc:yt}{t u:zW}(hc:ik X c tc) (h:wF X q t) (h':il X r u):wG X (.If c q r pos) (mE tc t u):=by
 exact#[λ E E' Y S hE z=>hc.mo Y S _ _ (λ k S1 z=>wy (h.mo _ _ Y S1 hE) (h'.mo _ _ Y S1 hE) z) z,PS.imp (XN hc.pt h.ps h'.ps) λ D O H hu=>?_];let#[Y,S,r1,r2,z]:=hu;exact xM.go hc.mo r1 r2 z λ k S1 H1 h1 e1 p1=>wy (λ z=>?_) (λ z=>?_) h1
 .show#[Y,S1,r1.ext e1,p1,h.mo _ _ Y S1 (wX.ext e1) z]
 .show#[Y,S1,r1.ext e1,p1,h'.mo _ _ Y S1 (wX.ext e1) z]
end
end L3
namespace L5
open PySem PySem.Spec L2 L3
open PyProof.Rows hiding St
@[simp] def kf (y z:Str) (g:Ae):Ae:=fun J=>(g J).bind λ x=>match x with
 | .str a=>if a.length<=1000000 then ↑(.str (Txt.replace a y z)) else none
 | _=>none
def Sb {y z:Str}{g:Ae}{tg:zj}(h:ya g tg):yI (kf y z g) (bt tg y z):=λ S Z Y J w Q hE e hq=>by
 let#[x,e1,e]:=Am.mp e;cases x with
 | str a=>
  dsimp only at e;split at e
  .rename_i hl;cases e;exact h S Z Y J _ _ hE e1 λ d S1 s1 r1=>?_;cases r1.str;show#[a,rfl,hl,hq _ S1 s1 (Cl.of (λ _=>nofun) tZ)]
  .cases e
 | _=>cases e
end L5
namespace L2
open PySem PySem.Spec PyProof.Rows
section
variable {prog:Program}{w:World}{A:Around}{E:Af}{s:Shared}
def Po {l b:Addr}{items:Av}{n:Nat}{o:Obj}{EB:Av}{n2:Nat}{P:PySem.Fin->Shared->Prop}(hl:s.heap.get? l=↑{ cls:=.type "list",dict:=none,data:=.seq items n,slots:=[].toArray })
  (hb:s.heap.get? b=↑o) (hc:o.cls=.type "tuple") (hd:o.data=.seq EB n2) (hz:items.size+EB.size<=sizeLine)
  (h:P (.done (.ret .none)) { s with heap:=s.heap.update l (Obj.mapSeq λ x=>x++EB) }):wpAny (model prog w) A (Builtin.«list.extend» #[[.ref l,.ref b],[]]) P E s:=by
 unfold Builtin.«list.extend»;exact IC (m:=pure (Value.ref l,Value.ref b)) (Ac ?_);change wpAny _ _ (Builtin.List.listExtendWith (.ref l) (.ref b) .none) _ _ s;unfold Builtin.List.listExtendWith;exact IC (JX (T:="tuple") #[o,hb,hc] ?_);rw[if_pos (by rw[show (Value.type "tuple" == Value.type "tuple")=true from rfl];simp)];exact IC (listItems_at hb hd (IC (listItems_at (xs:=items) (n:=n) hl rfl ?_)));have Gz:¬ (!items.isEmpty&&Builtin.List.listTooLong (items.size+EB.size))=true:=by
  rw[de hz,B2];show Bd
 rw[if_neg Gz];show IC (listUpdate_at (xs:=items) (n:=n) hl rfl (Ac h) ⋯ (by change (items++EB).size<=sizeLine+1;rw[Array.size_append];lia))
variable {X:Cx}
def X4 (K:Ab):V->List V->Hp->VK->Prop:=λ x vs H Q=>∃ l b xs zs,x=.ref l/\vs=[.ref b]/\H l=↑(.lst xs)/\zE K H b zs/\xs.length+zs.length<=sizeLine/\Q .zk (upd H l (.lst (xs++zs)))
theorem RA:sI X "list.extend" (X4 X.K):=by
 intro Ek s O H x vs v us Q I rx rv h;let#[l,b,xs,zs,rfl,rfl,hH,hB,hz,q]:=h;cases rx;let#[u,rfl,ru]:=rv.one;cases ru;let#[z,its,n,r,hl,e]:=I.mf hH;let#[EV,r2,#[o,e2,hc,n2,hd],Ja]:=I.tuple hB;have l1:=r.length;have l2:=r2.length;exact JQ PySem.F.slot_list_extend #[_,e,rfl] PySem.F.entry_list_extend (Po e e2 hc hd (by rw[Ax,Ax];lia) #[_,rfl,?_]) (PySem.F.args_list_extend_2 _ _);exact#[.zk,_,I.kQ (AL:=its++EV) hH e #[] (r.append r2) ?_,rfl,q];rw[Bg];lia
end
end L2
namespace L3
open PySem PySem.Spec PyProof.Rows L2
section
variable {X:Cx}{e o:Expr}{te to:zj}{apos Aa:Pos}
def rD (to te:zj):zj:=fun Y S Q=>to Y S λ x S1=>match x with
 | .ref p=>(∃ ds,S1 p=↑(.lst ds))/\te Y S1 λ y S2=>∃ ds es,y=.tup es/\S2 p=↑(.lst ds)/\ds.length+es.length<=sizeLine/\Q .zk (ups S2 p (.lst (ds++es)))
 | _=>False
def rD.mo (h:zL to) (h':zL te):zL (rD to te):=fun Y S Q Q' hq z=>h Y S _ _ (λ x S1 z=>by
 cases x with
 | ref p=>show#[z.1,h' Y S1 _ _ (λ y S2 #[ds,es,a,b,c,w]=>#[ds,es,a,b,c,hq _ _ w]) z.2]
 | _=>show z) z
def VV (ho:PD X o to) (he:PD X e te)
  (Ep:attributeBase o "extend" X.env (eval o X.env)=eval o X.env)
  (Ai:((backTo Aa (starEach [e] X.env)).all (λ x=>!x.1)&&(backToKw Aa (keywordEach [] X.env)).all (λ x=>x.1.isSome)
   && decide ([e].length+([]:List Keyword).length+(if ([]:List Keyword).isEmpty then 0 else 1)<30))=true)
  (Et:(apos.endLine == Aa.line)=true) (hs:Aq X e []) (Es:Ay X Aa []):
  PD X (.Call (.Attribute o "extend" apos) [e] [] Aa) (rD to te):=by
 exact#[rD.mo ho.mo he.mo,PE.imp (nX PySem.F.plainAttrs_list PySem.F.slot_list_extend PySem.F.type_list_extend RA ho.pe (uI he.pe t7 hs) Ep Ai Et hs Es) fun O H Q hu=>?_];let#[Y,S,r1,r2,z]:=hu;exact zw.go ho.mo r1 r2 z λ x S1 v H1 h1 q1 e1 p1=>?_;cases x with
 | ref p=>
  let#[#[ds,hd],h1]:=h1;simp![zf] at q1;subst q1;let#[xs,g1,g2]:=p1 _ _ hd;exact#[.inl #[rfl,xs,zA.of g1],?_];exact zw.go he.mo (r1.ext e1) p1 h1 λ y S2 w H2 h2 q2 e2 p2=>?_;let#[GB,es,rfl,b1,b3,b4]:=h2;simp![zf] at q2;let#[q,GQ,rfl,g5,g6]:=q2;let#[EI,g3,g4]:=p2 _ _ b1;exact#[p,q,EI,GQ,rfl,rfl,g3,g5,by rw[<- g4.length,<- g6.length];show b3,?_];have e4:Ext H2 (upd H2 p (.lst (EI++GQ))):=.lst g3 _;show b4 _ _ (by simp![zf]) ((e1.trans e2).trans e4) (p2.ups e4 #[_,yf,zh.ext e4 _ (g4.append g6)])
 | _=>show h1.elim
end
end L3
namespace L5
open PySem L2 L3
@[simp] def pZ (i:Nat) (f:Ae):Sm:=fun J=>match J[i]? with
 | some ↑(.own (.lst ts))=>(f J).bind λ y=>match y with
  | .tup us=>if ts.length+us.length<=sizeLine then ↑(.nx (J.set i ↑(.own (.lst (ts++us))))) else none
  | _=>none
 | _=>none
def Tj {R:Rk}{f:Ae}{te:zj}(i:Nat) (hf:ya f te):zX R (pZ i f) (ot (rD (yp i) te)):=λ S0 Z0 S Z Y J o E F e P=>by
 unfold pZ at e;split at e
 .rename_i ts h;let#[y,e1,e2]:=Am.mp e;split at e2
  .rename_i us;split at e2
   .rename_i hl;cases e2;let#[p,ob,h1,h2,h3,h4]:=F.er.ow i _ h;obtain⟨ds,rfl⟩:∃ ds,ob=.lst ds:=by
     cases ob with
     | lst ds=>show#[ds,rfl]
     | _=>show h3.elim
    replace h3:zg (zF S Z) ts ds:=h3;change rD (yp i) te Y S _;unfold rD yp;rw[h1];exact#[#[ds,h2],hf S Z Y J _ _ F.er e1 λ d S1 s1 r1=>?_];let#[es,rfl,g4]:=r1.tup;have F1:=F.grow s1;exact#[ds,es,rfl,s1 _ _ h2,by rw[h3.len,g4.len];show hl,P _ Z Y (F1.mut (us:=.lst (ts++us)) (es:=.lst (ds++es)) i h h1 ((zg.sx (vq s1) ts h3).append g4))]
   .cases e2
  .cases e2
 .cases e
@[simp] def qy (ss:List Str):Ae:=λ _=>↑(.tup (ss.map T.str))
def Rb (ss:List Str):yI (qy ss) (dC (.tup (ss.map D.str))):=λ S Z Y J y Q hE e hq=>by
 cases e;show hq _ S (.refl S) (Cl.of (λ _=>nofun) (sY (lZ ss)))
end L5
namespace L3
open PySem PySem.Spec L2
open PyProof.Rows hiding St
section
variable {X:Cx}{e:Expr}{es:List Expr}{tA:zI}{pos p:Pos}
def vo (i:Nat) {x:Str}(hN:X.N[i]?=↑x:=by rfl) (hv:qB X.env.scope x:=by first | show Or.inl rfl | show Or.inr (Or.inl rfl) | show Or.inr (Or.inr rfl)) (hd:(x == ("__debug__":Str))=false:=by decide) (A7:(x == ("__classdict__":Str))=false:=by decide):PD X (.Name x pos) (yp i):=eB i (pv i hN hv hd A7)
def eE {x:Str}{k k':Nat}{ps:List Str}{sp:yY}(F:FD X.prog X.w X.K X.mg X.base x k ps sp) (hr:zQ k' X.A) (ha:yK X (e::es) tA) (hk:k<=k') (hg:Gl X x) (AR:(x == ("__debug__":Str))=false)
  (he:Aq X e es) (Ap:Ay X pos es):PD X (.Call (.Name x p) (e::es) [] pos) (rE sp tA):=U0 F (hr.mono hk) ha hg AR he Ap
end
def jr {N P:List Str}{sc:Scope}(h1:sc.kind=.function:=by rfl) (h2:sc.isCoroutine=false:=by rfl) (h3:sc.isGenerator=false:=by rfl) (h4:N.Nodup:=by decide +kernel) (h5:N.take P.length=P:=by rfl) (h6:∀ x∈P,sc.names.lookup x=↑.local\/sc.names.lookup x=↑.cell:=by decide +kernel) (h7:∀ y∈sc.names,y.2≠.free:=by decide +kernel):vE N P sc:=#[h1,h2,h3,h4,h5,h6,h7]
section
variable {X:Cx}{e:Expr}{es:List Expr}{tA:zI}{pos p:Pos}
def vn (i:Nat) {x:Str}(hN:X.N[i]?=↑x:=by rfl) (hv:qB X.env.scope x:=by first | show Or.inl rfl | show Or.inr (Or.inl rfl) | show Or.inr (Or.inr rfl)) (hd:(x == ("__debug__":Str))=false:=by decide) (A7:(x == ("__classdict__":Str))=false:=by decide):oJ X (.Name x pos) (yp i):=
 WE i (Wo hN hv hd A7) (eB i (ej (pos:=pos) hN hv hd A7)).mo
def Vq {x:Str}{k k':Nat}{ps:List Str}{sp:yY}(F:FD X.prog X.w X.K X.mg X.base x k ps sp) (hr:zQ k' X.A) (ha:mR X (e::es) tA) (hk:k<=k') (hg:Gl X x) (AR:(x == ("__debug__":Str))=false)
  (he:Aq X e es) (Ap:Ay X pos es):sD X (.Call (.Name x p) (e::es) [] pos) (rE sp tA):=Vr F (hr.mono hk) ha hg AR he Ap
end
end L3
namespace L5
open PySem PySem.Spec L2 L3
open PyProof.Rows hiding St
theorem Ct.mk {K:Ab}{mg:Au}{h:Heap}{x:Str}{ss:List Str}(H:Ct K x ss) (X:K.In h) (G:h.Ns mainGlobals mg):Cq K mg x ss:=by
 let#[a,h1,h2]:=H;let#[u,e1,e2]:=Cn.mk (t:=.ref a) #[.ref a,h1,rfl] X G;cases e2;show#[a,e1,h2]
def Ct.i {K:Ab}{x:Str}{ss:List Str}{a:Addr}{o:Obj}{its:Av}{n:Nat}(h1:PySem.W.nsIn K mainGlobals x=↑↑(.ref a)) (h2:K.lookup a=↑o) (hc:o.cls=.type "tuple"/\o.dict=none) (hs:o.data=.seq its n) (hz:its.size<=sizeLine) (r:Vals (ss.map V.str) its.toList):Ct K x ss:=#[a,h1,λ _=>.inr #[o,its,n,h2,hc,hs,hz,r]]
end L5
namespace L5
open L2 L3
theorem kG {R:Rk}{g:Sm}{t:zW}(h:zX R g t:=by
 repeat' first
  | (with_reducible first | show TH _ | apply Rp | apply Sj)
  | (with_reducible first | show eY _ | exact tB (R:=wa) c7 ?_ ?_ | exact kF (R:=wa) ?_)
  | ((try first | exact xm.fr ?_ | exact xm.fe ?_);with_reducible first | show SU _ | exact tB (R:=zx) (by with_reducible first | show good_add | show jf | show QN | show QM | show QL | show jg | show QH | show c6) ?_ ?_ | exact kF (R:=zx) ?_ | exact Rf (R:=zx) (by with_reducible first | show QJ | show QC | show QI | show QO | show QG | show QD) ?_ | apply TJ | apply TQ | apply So | apply SX | apply Sq | show Rg _ | show TR _ | show Sk | apply Ss | apply SV | apply Sl | exact Rc (by with_reducible first | show jf | show jg) (by with_reducible first | show jf | show jg) ?_ ?_ ?_ | apply Si | apply TV | apply TX | apply Rh | apply SR | apply SW | show Rb _ | apply Sb | exact TU (R:=zx) (by with_reducible first | show QF | show QK | show QE) ?_ ?_)
  | (exact xm.er ?_;with_reducible first | show eY _ | exact tB (R:=wa) c7 ?_ ?_ | exact kF (R:=wa) ?_)
  | (with_reducible first | apply Tb | apply Tr | apply Tg | show Ta | apply Te | apply Ts | apply Tq | apply Ti | apply Th | apply Tn | apply Tj | apply Tf | apply Tc | apply Td | apply U_ | apply eW | apply eX)
  | (exact qG.s ?_;with_reducible first | apply eW | apply eX)
  | show eU _
  | (with_reducible first | show TC | apply TF | show T9 | apply TB | apply TK | apply TN | apply S_ | apply SY | apply Ra | show TL | show Tz _ | show T2 | apply T3 | apply Tx | apply Tw | apply Tu | apply Tv | apply Tt | show T7 | apply T6)
  | (first | show T5 _ | apply T4)
  | show zX.fv (eV _)
  | show zX.fv (eU _)
  | show Bool.false):zX R g t:=h
end L5
namespace L5
open PySem PySem.Spec L2 L3
open PyProof.Rows hiding St
def Cm (mg:Au) (x:Str) (t:V):Prop:=∃ u,mg x=↑u/\L2.RelV t u
def Hs (_:List (List Str×List (Option Nat))):Prop:=True
def Hq (s:Scope) (n:List Str):Bool:=s.names.all (λ y=>!(decide (y.2=.local)||decide (y.2=.free)||decide (y.2=.cell))||y.1 == ".0"||n.elem y.1)&&(s.names.filter λ y=>decide (y.2=.local)||decide (y.2=.free)||decide (y.2=.cell)).length == n.length+1
def Ht (_:List Str) (_:List (Option Nat)):Prop:=True
section
variable {n:List Str}{p:List (Option Nat)}{x:List Str×List (Option Nat)}{r:List (List Str×List (Option Nat))}
def Hs.a (_:Hs ((n,p)::r)):Ht n p:=trivial
def Hs.b (_:Hs (x::(n,p)::r)):Ht n p:=trivial
end
section
variable {X:Cx}{N' N:List Str}{pick:List (Option Nat)}{scope HZ:Scope}{tg iter elt:Expr}{ifs:List Expr}{ti:xQ}{g:xl}{GF:yt}{te:zj}{pos:Pos}
def pl (_:Ht N' pick) (_:X.env.scope=HZ) (_:X.N=N) (Sc:qN X N' pick scope) (_:Hq scope N'=true) (hi:uX X tg iter ti) (hg:∀ cl C s H fp,N'.Nodup->tU (yF X N' scope cl C s H fp) tg g) (hf:∀ cl C s H fp,N'.Nodup->mQ (yF X N' scope cl C s H fp) ifs GF) (he:∀ cl C s H fp,N'.Nodup->PD (yF X N' scope cl C s H fp) elt te)
  (nd:N'.Nodup) (hc:X.calm=true) (hs:∀ x,foldedSetIterable iter X.env x=pure x):
  PD X (.ListComp elt [#[tg,iter,ifs,0]] scope pos) (rB pick ti g GF te):=VY Sc hc hi (λ cl C s H fp=>hg cl C s H fp nd) (λ cl C s H fp=>hf cl C s H fp nd) (λ cl C s H fp=>he cl C s H fp nd) hs
def Wl {a b:Expr}{k:Nat}{t:w_}(h:oK X [a,b] t) (hc:X.calm=true) (hn:(assignEach [a,b] X.env).length=2) (AJ:(assignEach [a,b] X.env).findIdx? (·.1)=none):tU X (.Tuple [a,b] k pos) (mx 2 t):=V5 h hc hn AJ
def Ut {x y:Str}(h:Cm X.mg x (.str y)) (hg:Gl X x:=by rfl) (hd:(x == ("__debug__":Str))=false:=by decide):PD X (.Name x pos) (dC (.str y)):=let #[_,a,b]:=h;Us a b hg hd
def Uv {x:Str}{n:Int}(h:Cm X.mg x (.int n)) (hg:Gl X x:=by rfl) (hd:(x == ("__debug__":Str))=false:=by decide):PD X (.Name x pos) (dC (.int n)):=let #[_,a,b]:=h;Uu a b hg hd
def Ve {t:zW}{i j:Nat}{n c:Str}{body:List Stmt}{p1 p2 p3 p4 BJ:Pos}(hN:X.N.Nodup) (hb:uo X true body t) (hi:X.N[i]?=↑n) (hj:X.N[j]?=↑c) (A2:i≠j)
  (hg:Gl X "PurseError") (A4:X.env.kindOf n=↑.local) (C1:Loc X.env.scope c) (De:X.fn c=true\/X.env.scope.names.lookup c=↑.local) (BG:(n == ("__debug__":Str))=false) (C5:(n == ("__classdict__":Str))=false) (Cc:swapsWith (.Name n p3) ↑(.Name c p2) p4.line X.env=pure false)
  (AJ:X.stack=X.env::X.outer) (A3:X.env.frame=↑X.env.locals) (hn:∀ v s,¬ X.xe v s):wG X (.Try body [.ExceptHandler ↑(.Name "PurseError" p1) ↑n [.Assign [.Name c p2] (.Name n p3) p4] BJ] [] [] pos) (jy i j t):=Vf i j hN hb A2 hi hj hg A4 C1 De BG C5 Cc AJ A3 hn
end
theorem pA {p:Prop}(h:p:=by
 repeat' first
  | show rfl
  | (change PD _ _ _;first | (change PD _ (.Name _ _) _;first | show vo 0 | show vo 1 | show vo 2 | show vo 3 | show vo 4 | show vo 5 | show vo 6 | show vo 7 | show vo 8 | show vo 9 | show vo 10 | show vo 11 | show vo 12 | show Ur (by assumption) | show Ut (by assumption) | show Uv (by assumption)) | show Um | show U3 | show VH | show VQ | apply VL | apply Ue | apply VE | apply V_ | (change PD _ (.Call (.Attribute _ "extend" _) [.Subscript _ _ _] _ _) _;apply VV) | apply VI | apply Ud | apply Uo | (change PD _ (.Call _ _ _ _) _;first | (apply eE;assumption) | (apply eE;show uZ.no (by assumption)) | apply VG T.str | apply Ub T.len | apply Ua T.list | apply VD T.tuple | apply U7 T.all | apply VJ hr T.sorted U.set | apply Uj T | apply Uk T | apply Uh T | apply Ug T | apply Ui T | apply VX | apply VW | (apply Ul;assumption) | apply L3.kA HV) | (change PD _ (.BinOp _ _ _ _) _;first | apply U8 | apply VF | apply VU | apply Uw | apply VT | apply VN | apply VM | apply U4) | (change PD _ (.Compare _ _ _ _) _;first | apply VZ hr | apply Uy hr | apply Uc | apply Uq hr | apply L5.kA | apply Uz pF pF fit_le fit_le yX.mo yX.mo) | apply U6 | apply VO | apply VP | apply VS | (apply pl (Hs.a hc) hS hN;show b8 hS hN;decide +kernel) | (apply pl (Hs.b hc) hS hN;show b8 hS hN;decide +kernel))
  | (change yK _ _ _;first | show VB | apply VC)
  | (change xx _ _ _;first | (change xx _ (.Compare _ _ _ _) _;first | apply WW hr | apply WZ hr | apply WV hr | apply WY hr | apply WX | apply W_ pF pF fit_le fit_le yX.mo yX.mo) | apply WU | (apply tT.pt;first | apply e9 | apply eA) | apply WT)
  | apply e9 | apply eA | apply WQ | apply WR
  | (change wF _ _ _;first | show Vb | apply Va | apply Vc)
  | (change wG _ (.If (.Call (.Attribute _ "startswith" _) _ _ _) _ _ _) _;apply Vk) | (change ik _ _ _;apply WS) | (change il _ _ _;apply Vd) | (change mR _ _ _;apply VA) | (change sD _ _ _;first | apply Vo | apply Vp | (apply Vq;assumption)) | (change oJ _ _ _;first | show vn 0 | show vn 1 | show vn 2 | show vn 3 | show vn 4 | show vn 5 | show vn 6 | show vn 7 | show vn 8 | show vn 9 | show vn 10 | show vn 11 | show vn 12)
  | (change wG _ _ _;first | apply Vi | apply Vl | apply Vm PassesOwn.never rfl | apply Ve | apply Vg | apply Vj | apply Vn)
  | apply V6 | apply Wl | apply V3 | show V2
  | (change uX _ _ _ _;first | apply Vz T.range | apply Vx T.range | apply Vu U.zip | apply Vv)
  | show V9 | show Vt | apply V8 | apply Vs
  | (change uo _ _ _ _;first | show WK | apply WI | apply WN)
  | (change tS _ _ _ _;first | (apply WM;assumption) | (apply WO;assumption) | (apply WH;assumption) | apply WG | apply WL | apply WJ)
  | show λ _ _ z=>z | show λ _ _ _ h=>h | show T | show Aj _
  | show hr | show nd | intro _ _ _ _ _ nd | show λ _=>rfl | show λ _ _=>rfl | show Or.inl rfl | show Or.inr rfl | show#[rfl,rfl,rfl,rfl] | decide
  | show (rfl:(_:List Str)[0]?=_) | show (rfl:(_:List Str)[1]?=_) | show (rfl:(_:List Str)[2]?=_) | show (rfl:(_:List Str)[3]?=_) | show (rfl:(_:List Str)[4]?=_) | show (rfl:(_:List Str)[5]?=_) | show (rfl:(_:List Str)[6]?=_) | show (rfl:(_:List Str)[7]?=_) | show (rfl:(_:List Str)[8]?=_) | show (rfl:(_:List Str)[9]?=_) | show (rfl:(_:List Str)[10]?=_) | show (rfl:(_:List Str)[11]?=_) | show (rfl:(_:List Str)[12]?=_)):p:=h
section
variable {P:Program}{w:World}{K:Ab}{mg:Au}{base:Heap}{x:Str}{st:Stmt}{N ps:List Str}{k n:Nat}{g:Sm}{R:Rk}[Lo R]
def yu (hs:List (List Str×List (Option Nat))) (F:Fy K mg x st)
  (ED:∀ (f:Addr) (Ag:Value) (A:Around) (outer:List Env) (s:Shared) (H:Hp) (E:XK),Hs hs->N.Nodup->(yE yv P w K mg base N x (zC st) f Ag A outer s H E).yW.N=N->(yE yv P w K mg base N x (zC st) f Ag A outer s H E).yW.env.scope=zC st->zQ k (A.deeper (envOfC x (zC st) s.heap.objs.size f Ag))->
   ∃ t,wF (yE yv P w K mg base N x (zC st) f Ag A outer s H E).yW (yP st) t/\zX R g t:=by intro f Ag A outer s H E hc nd hN hS hr;show#[_,pA,kG])
  (Sc:vE N ps (zC st):=by show jr) (hn:n=ps.length:=by rfl)
  (hb:∀ (kV doc pm:Value) (an:Option Addr) (Ag ct:Value) (us:Ad),us.length=ps.length->bindArgs (PySem.W.fnOf x x (vy st) (yP st) (zC st) .none kV doc pm an Ag ct) #[us,[]]=pure (ps.zip us):=by intro _ _ _ _ _ _;first | show af λ _=>rfl | show jU λ _ _=>rfl | show ae λ _ _ _=>rfl | show aa λ _ _ _ _ _=>rfl):FD P w K mg base x (k+1) ps (zB R (zO N n g)):=
 Pe F Sc hn hb λ f Ag A outer s H E hr=>ED f Ag A outer s H E trivial Sc.nd rfl rfl hr
def Pc (hs:List (List Str×List (Option Nat))) (F:Fy K mg x st)
  (ED:∀ (f:Addr) (Ag:Value) (A:Around) (outer:List Env) (s:Shared) (H:Hp) (E:XK),Hs hs->N.Nodup->(yE yv P w K mg base N x (zC st) f Ag A outer s H E).yW.N=N->(yE yv P w K mg base N x (zC st) f Ag A outer s H E).yW.env.scope=zC st->zQ k (A.deeper (envOfC x (zC st) s.heap.objs.size f Ag))->
   ∃ t,uo (yE yv P w K mg base N x (zC st) f Ag A outer s H E).yW false (yP st) t/\zX R g t:=by intro f Ag A outer s H E hc nd hN hS hr;show#[_,pA,kG])
  (Sc:vE N ps (zC st):=by show jr) (hn:n=ps.length:=by rfl)
  (hb:∀ (kV doc pm:Value) (an:Option Addr) (Ag ct:Value) (us:Ad),us.length=ps.length->bindArgs (PySem.W.fnOf x x (vy st) (yP st) (zC st) .none kV doc pm an Ag ct) #[us,[]]=pure (ps.zip us):=by intro _ _ _ _ _ _;first | show af λ _=>rfl | show jU λ _ _=>rfl | show ae λ _ _ _=>rfl | show aa λ _ _ _ _ _=>rfl):uZ P w K mg base x (k+1) ps (zB R (zO N n g)):=
 Pd F Sc hn hb λ f Ag A outer s H E hr=>ED f Ag A outer s H E trivial Sc.nd rfl rfl hr
def QX {f:Addr}{fd:FuncData}(hs:List (List Str×List (Option Nat))) (F:vC K x x st f fd)
  (ED:∀ (Ag:Value) (A:Around) (outer:List Env) (s:Shared) (H:Hp) (E:XK),Hs hs->N.Nodup->(yE yv P w K mg base N x (zC st) f Ag A outer s H E).yW.N=N->(yE yv P w K mg base N x (zC st) f Ag A outer s H E).yW.env.scope=zC st->zQ k (A.deeper (envOfC x (zC st) s.heap.objs.size f Ag))->
   ∃ t,wF (yE yv P w K mg base N x (zC st) f Ag A outer s H E).yW (yP st) t/\zX R g t:=by intro Ag A outer s H E hc nd hN hS hr;show#[_,pA,kG])
  (Sc:vE N ps (zC st):=by show jr) (hn:n=ps.length:=by rfl):yL P w K mg base yv (k+1) f fd ps (uu K (zB R (zO N n g))):=
 cO F Sc hn λ Ag A outer s H E hr=>ED Ag A outer s H E trivial Sc.nd rfl rfl hr
end
end L5
namespace L5
open PySem L2 L3
section
variable {i:Nat}{f:Str}{g h:Ae}{J:Ev}{a:Option Addr}{c:Str}{x y:T}
def o5 {F:Ak}{u:Ev->Option (List T)}{xs:List T}(h:u J=↑xs) (hF:F xs=↑y):zi F u J=↑y:=by change (u J).bind _=_;rw[h];show hF
def zy {u:Ev->Option (List T)}{xs:List T}(h:g J=↑x) (hu:u J=↑xs):za g u J=↑(x::xs):=by change (g J).bind _=_;rw[h];change (u J).bind _=_;rw[hu];rfl
theorem vj {u:Ev->Option (List T)}{xs:List T}(hu:u J=↑xs) (hl:xs.length<=100):tupS u J=↑(.tup xs):=by change (u J).bind _=_;rw[hu];show if_pos (AF hl ())
def uv {b:Bool}(h:g J=↑(.bl b)):yn g J=↑b:=by change (g J).bind _=_;rw[h];rfl
theorem oE {ts:List T}(h0:J[i]?=↑↑(.own (.lst ts))) (h:g J=↑y) (hl:ts.length<=10000):wZ i g J=↑(.nx (J.set i ↑(.own (.lst (ts++[y]))))):=by
 unfold wZ;rw[h0];dsimp only;rw[h];show if_pos (Nat.lt_of_le_of_lt hl ())
def zD {a b:Sm}{J J':Ev}{o:Option Out}(h:a J=↑(.nx J')) (h':b J'=o):zo a b J=o:=by change (a J).bind _=o;rw[h];show h'
def t6 {a b:Sm}{J:Ev}{y:T}(h:a J=↑(.rt y)):zo a b J=↑(.rt y):=by change (a J).bind _=_;rw[h];rfl
def xh {c:Ev->Option Bool}{g h:Sm}{J:Ev}{o:Option Out}(e:c J=↑false) (e':h J=o):zU c g h J=o:=by change (c J).bind _=o;rw[e];show e'
def u0 {c:Ev->Option Bool}{g h:Sm}{J:Ev}{o:Option Out}(e:c J=↑true) (e':g J=o):zU c g h J=o:=by change (c J).bind _=o;rw[e];show e'
def si {is:List Nat}{f:Ev->Option (List T)}{g:T->Ev->Option Ev}{b:Sm}{J:Ev}{ts:List T}{o:Option Out}(h:f J=↑ts) (h':xF is g b ts J=o):vw is f g b J=o:=by change (f J).bind _=o;rw[h];show h'
def yR {i:Nat}{f:Ae}{J:Ev}{y:T}(h:f J=↑y):zK i f J=↑(.nx (J.set i ↑(.im y))):=by change (f J).map _=_;rw[h];rfl
def xa {N:List Str}{n:Nat}{g:Sm}{ys:List T}{y:T}(h:g (tY N ys)=↑(.rt y)) (hn:ys.length=n):zO N n g ys=↑y:=by unfold zO;rw[if_pos hn,h];rfl
def xN (h:g J=↑y):retS g J=↑(.rt y):=by change (g J).map _=_;rw[h];rfl
def tq {b:Bool}(h:g J=↑(.bl b)):y7 g J=↑b:=by change (g J).bind _=_;rw[h];rfl
def tD {f:Ev->Option Bool}{b:Bool}(h:f J=↑b):xv f J=↑(!b):=by change (f J).map _=_;rw[h];rfl
def uK {f g:Ev->Option Bool}{b:Bool}(h:f J=↑false) (h':g J=↑b):wW f g J=↑b:=by change (f J).bind _=_;rw[h];show h'
end
end L5
namespace SJ
open PySem PySem.Builtin.Str StrLaws
def L (x:Str):List Nat:=x.cps.toList
def ext {x y:Str}(h:L x=L y):x=y:=Str.ext' (Array.toList_inj.mp h)
def vg (x y:Str):L (x++y)=L x++L y:=by unfold L;rw[Str.cps_append,Array.toList_append]
def vf (x:Str):(L x).length=x.length:=Bl
theorem oB {x y:Str}{k:Nat}(hy:1<=y.length):At x y x.length k↔∃ t,(L x).drop k=L y++t:=by
 constructor
 .rintro⟨h1,h2⟩;rw[subAt_eq,beq_iff_eq] at h2;exact#[((L x).drop k).drop y.length,?_];have e:L y=((L x).drop k).take y.length:=h2.symm;rw[e,B8]
 .rintro⟨t,h⟩;have hl:=congrArg List.length h;rw[BU,Bg,vf,vf] at hl;exact#[⋯,?_];rw[subAt_eq,beq_iff_eq];change ((L x).drop k).take y.length=L y;rw[h,List.take_append_of_le_length (by rw[vf];show Aj _),DH (by rw[vf];show Aj _)]
def m9 {α:Type}{l p r:List α}{a:Nat}(h:l.drop a=p++r):l.drop (a+p.length)=r:=by
 rw[<- List.drop_drop,h,List.drop_left]
theorem dq {α:Type}{l p r t:List α}{a c:Nat}{x:α}(h:l.drop a=p++r) (h1:a<=c) (h2:c<a+p.length) (h':l.drop c=x::t):x∈p:=by
 have e:l.drop c=(p++r).drop (c-a):=by rw[<- h,List.drop_drop];congr 1;lia
 rw[List.drop_append_of_le_length ⋯] at e;have Aw:p.drop (c-a)≠[]:=λ z=>by have:=congrArg List.length z;rw[BU] at this;simp![BV] at this;lia
 cases hd:p.drop (c-a) with
 | nil=>show absurd hd Aw
 | cons z zs=>
  rw[hd,h'] at e;cases e;show DN (by rw[hd];show Az)
def kX (y p q:Str) (r:List Str):L (Str.join y (p::q::r))=L p++(L y++L (Str.join y (q::r))):=by
 change L (p++y++Str.join y (q::r))=_;rw[vg,vg,Bz]
def mh {y:Str}{c0:Nat}{yr:List Nat}(hy:L y=c0::yr):1<=y.length:=by rw[<- vf,hy];simp
theorem eG {x y:Str}{c0:Nat}{yr:List Nat}(hy:L y=c0::yr):∀ (Ig:List Nat) (a f:Nat) (ps:List Str),ChainG x y x.length a Ig f->(∀ k,f<=k->¬ At x y x.length k)->ps≠[]->(∀ p∈ps,c0∉L p)->(L x).drop a=L (Str.join y ps)->partsFrom x y.length a Ig=ps
 | [],a,f,[],_,_,h0,_,_=>absurd rfl h0
 | [],a,f,[p],h,hn,h0,hf,e=>by
  change [strSub x a x.length]=[p]
  congr 1;exact ext ?_;change (strSub x a x.length).cps.toList=_;rw[strSub_toList];change ((L x).drop a).take _=_;rw[DH (by rw[BU,vf];show Aj _),e];rfl
 | [],a,f,p::q::r,h,hn,h0,hf,e=>by
  have e1:f=a:=h;subst e1;rw[kX] at e;show absurd ((oB (mh hy)).mpr #[_,m9 e]) (hn _ ⋯)
 | c::cs,a,f,[],_,_,h0,_,_=>absurd rfl h0
 | c::cs,a,f,[p],h,hn,h0,hf,e=>by
  let#[t,ht]:=(oB (mh hy)).mp h.2.1;have h2:=h.2.1.1;rw[hy,DG] at ht;exact absurd (dq (p:=L p) (r:=[]) (by rw[Bx,e];rfl) h.1 ?_ ht) (hf p Az);have hl:=congrArg List.length e;have:(L (Str.join y [p]))=L p:=rfl;rw[this,BU,vf,vf] at hl;have hyl:1<=y.length:=by rw[<- vf,hy];simp
  rw[vf];lia
 | c::cs,a,f,p::q::r,h,hn,h0,hf,e=>by
  rw[kX] at e;let#[t,ht]:=(oB (mh hy)).mp h.2.1;have hA:=(oB (mh hy)).mpr #[_,m9 e];rw[hy,DG] at ht;have hc:c=a+(L p).length:=by
   rcases CK c (a+(L p).length) with z | z | z
   .show absurd (dq e h.1 z ht) (hf p Az)
   .show z
   .show absurd hA (h.2.2.1 _ ⋯ z)
  subst hc;have e2:=m9 (m9 e);rw[vf y] at e2;change strSub x a _::partsFrom x y.length _ cs=_;rw[eG hy cs _ f (q::r) h.2.2.2 hn #[] (λ z hz=>hf z (AG _ hz)) e2];congr 1;exact ext ?_;change (strSub x a _).cps.toList=_;rw[strSub_toList];change ((L x).drop a).take _=_;rw[e,Nat.add_sub_cancel_left,List.take_left]
def Qa (x:Str):1<=Builtin.Str.strKind x:=by
 unfold Builtin.Str.strKind;split
 .show Aj _
 .split <;> decide
theorem lX {y:Str}{c0:Nat}{yr:List Nat}(hy:L y=c0::yr) (hk:Builtin.Str.strKind y=1) {ps:List Str}(h0:ps≠[]) (hf:∀ p∈ps,c0∉L p):Txt.split (Str.join y ps) y=ps:=by
 have hyl:1<=y.length:=by rw[<- vf,hy];simp
 let#[f,hG,hn]:=occ_tight (Str.join y ps) y hyl;have key:=eG hy _ 0 f ps hG hn h0 hf rfl;have k1:=Qa (Str.join y ps);unfold Txt.split;rw[partsBetween_eq,key];split
 .rename_i h;rw[Di,decide_eq_true_eq,decide_eq_true_eq,hk] at h;have hl:(Str.join y ps).length<y.length:=⋯
  match ps,h0 with
  | [p],_=>rfl
  | p::q::r,_=>
   have:=congrArg List.length (kX y p q r);rw[Bg,Bg,vf,vf y] at this;lia
 .split
  .rename_i h;rw[List.isEmpty_iff.mp h] at key;exact Eq.trans ?_ key;change [_]=[strSub _ 0 _]
   rw[sub_whole]
  .rfl
theorem Xq {x y z:Str}{c:Nat}(hc:c<256) (hx:c∉L x) (hy:c∉L y):Txt.replace (x++#[[c].toArray]++y) #[[c].toArray] z=x++z++y:=by
 have h:Txt.split (Str.join #[[c].toArray] [x,y]) #[[c].toArray]=[x,y]:=lX (c0:=c) (yr:=[]) rfl (by unfold Builtin.Str.strKind;rw[if_pos (by exists hc)]) #[] λ p hp=>by
  rcases Ao.mp hp with rfl | hp
  .show hx
  .cases AK.mp hp;show hy
 rw[replace_one];have e:x++#[[c].toArray]++y=Str.join #[[c].toArray] [x,y]:=rfl;rw[e,h];rfl
def gD {x y:Str}(hy:1<=y.length):Txt.startswith x y=true↔∃ t,L x=L y++t:=by
 unfold Txt.startswith;rw[AX,decide_eq_true_eq];show oB (k:=0) hy
def gG (x y:Str):Txt.split x y≠[]:=by
 unfold Txt.split;split
 .simp
 .split
  .simp
  .rw[partsBetween_eq];let#[p,r,h]:=partsFrom_ne x y.length 0 (occurrences x y 0 x.length (x.length+1));rw[h];simp
end SJ
namespace ym
open PySem L2 L3 L5
abbrev Zr:Sm:=
 (retS (xP (Ex "int" (zb 0)) (da (Ex "bool" (zb 0)))))
def l7:Ak:=zO ["thing"] 1 Zr
abbrev o7:Ae:=
 yJ [none,none] (xf rY (za (zb 0) (za (yB (zb 0) ↑(cI 1) none) ze))) (nk 2 (ox (zG 0) (ox (zG 1) kM))) xj (zc xr (zb 0) (zb 1))
abbrev iR:Sm:=
 (retS (zi (uS λ bs=>bs.all id) (za o7 ze)))
def rX:Ak:=zO ["things"] 1 iR
abbrev N2:Sm:=
 (retS (xP (Ex "str" (zb 0)) (zc (vV false) (zb 0) (tupS (za (cS (.str "keeper")) (za (cS (.str "taker")) ze))))))
def i9:Ak:=zO ["thing"] 1 N2
abbrev Np:Sm:=
 (retS (zc zq (zc zq (zc zq (zc zq (zc zq (zc zq (zi yo (za (zc zr (zb 0) (cI 0)) ze)) (cS (.str ">"))) (zi yo (za (zc zr (zb 0) (cI 1)) ze))) (cS (.str " "))) (zi yo (za (zc zr (zb 0) (cI 2)) ze))) (cS (.str " "))) (zi yo (za (zc zr (zb 0) (cI 3)) ze))))
def ix:Ak:=zO ["way"] 1 Np
abbrev Nq:Sm:=
 (retS (zc zq (zc zq (zc zq (zc zq (zc zq (zc zq (zc zq (cS (.str "stall ")) (zi yo (za (zc zr (zb 0) (cI 0)) ze))) (cS (.str " "))) (zc zr (qy ["a","b"]) (zc zr (zb 0) (cI 1)))) (cS (.str " "))) (zi yo (za (zc zr (zb 0) (cI 2)) ze))) (cS (.str " "))) (zi yo (za (zc zr (zb 0) (cI 3)) ze))))
def iy:Ak:=zO ["stall"] 1 Nq
abbrev jR:Sm:=
 (zU (yn (zc (zV false) (zb 0) (zi yo (za (zb 1) ze)))) (retS (zp 1)) yb)
abbrev Zl:Sm:=
 (zo (zU (yn (zc (vV false) (zb 0) (qy ["a","b"]))) (retS (zc pW (qy ["a","b"]) (zb 0))) yb)
 (zo (vw [1] (xf qf (za (pL (cI 12)) (za (zc zq (cI 12) (cI 1)) ze))) (zG 1) jR)
 (retS (cS .zk))))
def ll:Ak:=zO ["word","number"] 1 Zl
abbrev Nz:Sm:=
 (zo (zK 2 (cI 0))
 (zo (zU (yn (zc xr (zb 1) (zi xb (za (zb 0) ze)))) (zK 2 (zc zZ (zc zr (zb 0) (zb 1)) (zc pj (cI 2) (cI 64)))) yb)
 (retS (zc y8 (zc zZ (zc zq (zc zq (zc yN (zb 2) (cI 46337)) (zc yN (zc yN (cI 2741) (zb 1)) (zb 1))) (zc yN (cI 59) (zb 1))) (cI 2147483629)) (cI 2)))))
def sL:Ak:=zO ["_law_script","_law_k","_law_cell"] 2 Nz
abbrev mJ:Sm:=
 (zo (zU (oh (yn (zc (zV false) (zc zr (zb 1) (zb 3)) (cS (.str "keeper")))) (yn (zc (zV false) (zc zZ (zb 0) (cI 2)) (cI 1)))) (wZ 2 (tupS (za (zp 3) (za (zc zZ (zc y8 (zb 0) (cI 2)) (cI 2)) (za (zc zq (cI 1) (zc zZ (zc y8 (zb 0) (cI 4)) (cI 12))) (za (zc zZ (zc y8 (zb 0) (cI 48)) (cI 13)) ze)))))) yb)
 (zK 0 (zc y8 (zb 0) (cI 624))))
abbrev Zp:Sm:=
 (zo (uB 2 (yk ze))
 (zo (vw [3] (xf wN (za (zi xb (za (zb 1) ze)) ze)) (zG 3) mJ)
 (retS (zi vi (za (zb 2) ze)))))
def lx:Ak:=zO ["_law_cell","_law_owners","_law_found","_law_place"] 2 Zp
abbrev o6:Ae:=
 yJ [none,↑1] (xf wN (za (cI 11) ze)) (zG 0) (y7 (zc zr (zb 1) (zb 0))) (zp 0)
abbrev Zq:Sm:=
 (zo (zK 1 (yk (za (vT (xg "NoFloor") (zb 0)) (za (vT (xg "NoMore") (zb 0)) (za (vT (xg "NoPlace") (zb 0)) ze)))))
 (zo (zK 1 (zc zq (zb 1) (yk (za (vT (xg "NoPair") (zb 0)) (za (vT (xg "NoWay") (zb 0)) (za (vT (xg "NoChange") (zb 0)) ze))))))
 (zo (zK 1 (zc zq (zb 1) (yk (za (vT (xg "NoCount") (zb 0)) (za (vT (xg "NoName") (zb 0)) (za (vT (xg "NoRow") (zb 0)) ze))))))
 (zo (zK 1 (zc zq (zb 1) (yk (za (vT (xg "PurseError") (zb 0)) (za (vT (λ _=>true) (zb 0)) ze)))))
 (retS o6)))))
def qI:Ak:=zO ["_law_caught","_law_some"] 1 Zq
abbrev mI:Sm:=
 (wZ 1 (zc zq (zc zq (zc zq (zc zq (zc zq (zc zq (zi yo (za (zc zr (zb 2) (cI 0)) ze)) (cS (.str ">"))) (zi yo (za (zc zr (zb 2) (cI 1)) ze))) (cS (.str " "))) (zi yo (za (zc zr (zb 2) (cI 2)) ze))) (cS (.str " "))) (zi yo (za (zc zr (zb 2) (cI 3)) ze))))
abbrev mH:Sm:=
 (wZ 1 (xn vS (cS (.str " ")) (za (yk (za (cS (.str "stall")) (za (zi yo (za (zc zr (zb 3) (cI 0)) ze)) (za (zc zr (cS (.str "ab")) (zc zr (zb 3) (cI 1))) (za (zi yo (za (zc zr (zb 3) (cI 2)) ze)) (za (zi yo (za (zc zr (zb 3) (cI 3)) ze)) ze)))))) ze)))
abbrev Zo:Sm:=
 (zo (uB 1 (zc zq (yk (za (zc zq (zc zq (zc zq (cS (.str "brims ")) (zi yo (za (zc zr (zc zr (zb 0) (cI 0)) (cI 0)) ze))) (cS (.str " "))) (zi yo (za (zc zr (zc zr (zb 0) (cI 0)) (cI 1)) ze))) ze)) (zi listS (za (zc zr (zb 0) (cI 1)) ze))))
 (zo (vw [2] (xc (zc zr (zb 0) (cI 2))) (zG 2) mI)
 (zo (vw [3] (xc (zc zr (zb 0) (cI 3))) (zG 3) mH)
 (retS (xn vS (cS (.str "; ")) (za (zb 1) ze))))))
def vF:Ak:=zO ["_law_floor_here","_law_parts","_law_way","_law_stall"] 1 Zo
abbrev iJ:Sm:=
 (zo (zK 2 (zc zr (cS (.str "0123456789 -+;>ab\n")) (zc zZ (zb 1) (cI 18))))
 (zo (zK 3 (zc zZ (zc y8 (zb 1) (cI 18)) (zc zq (zi xb (za (zb 0) ze)) (cI 1))))
 (zo (zK 4 (xn vK (zb 0) (za (cS (.str "; ")) ze)))
 (zo (zK 5 (zc zZ (zc y8 (zb 1) (cI 18)) (zi xb (za (zb 4) ze))))
 (zo (zK 6 (zc zq (yB (zb 4) none ↑(zb 5)) (yB (zb 4) ↑(zc zq (zb 5) (cI 1)) none)))
 (zo (zK 7 (zc zZ (zc y8 (zb 1) (cI 9000)) (zc zq (zi xb (za (zb 6) ze)) (cI 1))))
 (zo (zK 8 (zc zZ (zc y8 (zb 1) (cI 360000)) (cI 6)))
 (zo (zU (yn (zc (zV false) (zb 8) (cI 0))) (retS (zc zq (zc zq (yB (zb 0) none ↑(zb 3)) (zb 2)) (yB (zb 0) ↑(zb 3) none))) yb)
 (zo (zU (yn (zc (zV false) (zb 8) (cI 1))) (retS (zc zq (yB (zb 0) none ↑(zb 3)) (yB (zb 0) ↑(zc zq (zb 3) (cI 1)) none))) yb)
 (zo (zU (yn (zc (zV false) (zb 8) (cI 2))) (retS (zc zq (zc zq (yB (zb 0) none ↑(zb 3)) (zb 2)) (yB (zb 0) ↑(zc zq (zb 3) (cI 1)) none))) yb)
 (zo (zU (yn (zc (zV false) (zb 8) (cI 3))) (retS (xn vS (cS (.str "; ")) (za (zb 6) ze))) yb)
 (zo (zU (yn (zc (zV false) (zb 8) (cI 4))) (retS (xn vS (cS (.str "; ")) (za (zc zq (zc zq (yB (zb 4) none ↑(zb 5)) (yB (zb 4) ↑(zb 5) ↑(zc zq (zb 5) (cI 1)))) (yB (zb 4) ↑(zb 5) none)) ze))) yb)
 (retS (xn vS (cS (.str "; ")) (za (zc zq (zc zq (yB (zb 6) none ↑(zb 7)) (yk (za (zc zr (zb 4) (zb 5)) ze))) (yB (zb 6) ↑(zb 7) none)) ze)))))))))))))))
def i4:Ak:=zO ["_law_text_here","_law_number","_law_sign","_law_at","_law_parts","_law_spot","_law_rest","_law_far","_law_way"] 2 iJ
abbrev bN:Ae:=
 yJ [none] (xf wN (za (cI 8) ze)) (zG 0) xj (tupS (za (zp 0) (za (zp 0) (za (cI 12) (za (pL (cI 12)) ze)))))
abbrev bJ:Ae:=
 yJ [none] (xf wN (za (cI 24) ze)) (zG 0) xj (tupS (za (cI 0) (za (cI 0) (za (zc sX (zb 0) (cI 12)) (za (cI 1) ze)))))
abbrev Nu:Sm:=
 (zo (zK 1 (tupS (za (tupS (za (cI 12) (za (zc zZ (zb 0) (cI 13)) ze))) (za (zc yN (tupS (za (cS (.str "keeper")) ze)) (cI 8)) (za (zi vi (za bN ze)) (za (tupS (za (tupS (za (cI 7) (za (cI 1) (za (cI 12) (za (cI 12) ze))))) ze)) ze))))))
 (zo (zK 2 (tupS (za (tupS (za (cI 0) (za (cI 12) ze))) (za (tupS (za (cS (.str "taker")) ze)) (za (zi vi (za bJ ze)) (za (tupS ze) ze))))))
 (retS (yk (za (zp 1) (za (zp 2) ze))))))
def i0:Ak:=zO ["_law_number","_law_places","_law_ways_here"] 1 Nu
abbrev iL:Sm:=
 (retS (xP (zi l7 (za (zp 0) ze)) (j8 qk qk (zb 1) (zb 0) (zb 2))))
def oS:Ak:=zO ["thing","least","most"] 3 iL
abbrev jL:Ae:=
 yJ [none] (xc (zb 0)) (zG 0) xj (zi i9 (za (zp 0) ze))
abbrev iT:Sm:=
 (zo (zU (wW (xv (y7 (Ex "tuple" (zb 0)))) (xv (yn (j8 qk qk (cI 1) (zi xb (za (zb 0) ze)) (cI 8))))) (retS (cS (.bl false))) yb)
 (retS (zi (uS λ bs=>bs.all id) (za jL ze))))
def oW:Ak:=zO ["thing"] 1 iT
abbrev jE:Ae:=
 yJ [none] (xc (zc zr (zb 0) (cI 2))) (zG 0) xj (zi ix (za (zp 0) ze))
abbrev jB:Ae:=
 yJ [none] (xc (zc zr (zb 0) (cI 3))) (zG 0) xj (zi iy (za (zp 0) ze))
abbrev Zk:Sm:=
 (zo (uB 1 (yk (za (zc zq (zc zq (zc zq (cS (.str "brims ")) (zi yo (za (zc zr (zc zr (zb 0) (cI 0)) (cI 0)) ze))) (cS (.str " "))) (zi yo (za (zc zr (zc zr (zb 0) (cI 0)) (cI 1)) ze))) ze)))
 (zo (pZ 1 (zc zr (zb 0) (cI 1)))
 (zo (qw 1 jE)
 (zo (qw 1 jB)
 (retS (xn vS (cS (.str "; ")) (za (zb 1) ze)))))))
def rV:Ak:=zO ["floor","parts"] 1 Zk
abbrev bM:Ae:=
 yJ [none] (xc (zb 0)) (zG 0) xj (zi ll (za (zp 0) ze))
abbrev Nr:Sm:=
 (retS (zi vi (za bM ze)))
def rW:Ak:=zO ["words"] 1 Nr
abbrev o9:Sm:=
 (zo (zK 7 (zi sL (za (zp 0) (za (zc zq (zb 1) (zb 6)) ze))))
 (zo (zK 8 (zc zZ (zb 7) (zb 2)))
 (zo (zU (yn (zc xr (zb 6) (zb 2))) (zK 8 (zp 6)) yb)
 (zo (uB 9 (yk (za (zc sX (zc zZ (zc y8 (zb 7) (cI 64)) (zc zq (zc yN (cI 2) (zb 4)) (cI 1))) (zb 4)) (za (zc sX (zc zZ (zc y8 (zb 7) (cI 2048)) (zc zq (zc yN (cI 2) (zb 4)) (cI 1))) (zb 4)) ze))))
 (zo (zU (yn (zc (zV false) (zc zZ (zc y8 (zb 7) (cI 65536)) (cI 5)) (cI 0))) (dr 9 (zc zZ (zc y8 (zb 7) (cI 327680)) (cI 2)) (cI 0)) yb)
 (wZ 5 (tupS (za (zp 8) (za (zc zZ (zc y8 (zb 7) (cI 8)) (zb 2)) (za (zc zr (zb 9) (cI 0)) (za (zc zr (zb 9) (cI 1)) ze)))))))))))
abbrev Zn:Sm:=
 (zo (uB 5 (yk ze))
 (zo (vw [6,7,8,9] (xf wN (za (zc zq (zb 2) (zb 3)) ze)) (zG 6) o9)
 (retS (zi vi (za (zi nE (za (zb 5) ze)) ze)))))
def lu:Ak:=zO ["_law_script","_law_at","_law_many","_law_more","_law_span","_law_found","_law_k","_law_number","_law_start","_law_coins"] 5 Zn
abbrev Nv:Sm:=
 (zo (zU (oh (y7 (zb 2)) (yn (zc xr (zb 1) (zi xb (za (zb 0) ze))))) (retS (zc zZ (zc zr (zb 0) (zb 1)) (zc pj (cI 10) (cI 64)))) yb)
 (zo (zK 3 (zi sL (za (zp 0) (za (zp 1) ze))))
 (retS (zc zq (zc yN (zc yN (zb 3) (zb 3)) (zb 3)) (zc yN (cI 104729) (zb 3))))))
def i6:Ak:=zO ["_law_script","_law_at","_law_digits","_law_mixed_here"] 3 Nv
abbrev bO:Ae:=
 yJ [none] (xf wN (za (cI 9) ze)) (zG 0) xj (tupS (za (zp 0) (za (zp 0) (za (cI 0) (za (cI 0) ze)))))
abbrev bK:Ae:=
 yJ [none] (xf wN (za (cI 25) ze)) (zG 0) xj (tupS (za (cI 0) (za (cI 0) (za (zc sX (zb 0) (cI 12)) (za (cI 1) ze)))))
abbrev bI:Ae:=
 yJ [none] (xc (yk (za (zp 1) (za (zp 2) (za (zp 3) (za (zp 4) ze)))))) (zG 0) xj (zi vF (za (zp 0) ze))
abbrev N0:Sm:=
 (zo (zK 1 (tupS (za (tupS (za (zc zZ (zb 0) (cI 13)) (za (cI 0) ze))) (za (zc yN (tupS (za (cS (.str "keeper")) ze)) (cI 9)) (za (zi vi (za bO ze)) (za (tupS ze) ze))))))
 (zo (zK 2 (tupS (za (tupS (za (cI 0) (za (zc zZ (zb 0) (cI 13)) ze))) (za (tupS (za (cS (.str "taker")) ze)) (za (zi vi (za bK ze)) (za (tupS ze) ze))))))
 (zo (zK 3 (tupS (za (tupS (za (cI 1) (za (cI 1) ze))) (za (tupS (za (cS (.str "taker")) ze)) (za (tupS (za (tupS (za (cI 0) (za (cI 0) (za (cI 13) (za (cI 0) ze))))) ze)) (za (tupS ze) ze))))))
 (zo (zK 4 (tupS (za (tupS (za (cI 1) (za (cI 1) ze))) (za (tupS (za (cS (.str "keeper")) ze)) (za (tupS (za (tupS (za (cI 0) (za (cI 0) (za (cI 0) (za (cI 0) ze))))) ze)) (za (tupS (za (tupS (za (cI 0) (za (cI 0) (za (zc zr (yk (za (cI 0) (za (cI 13) ze))) (zc zZ (zb 0) (cI 2))) (za (cI 1) ze))))) ze)) ze))))))
 (retS bI)))))
def i8:Ak:=zO ["_law_number","_law_places","_law_ways_here","_law_coins","_law_stall"] 1 N0
abbrev jH:Ae:=
 yJ [none,none] (xf rY (za (zb 0) (za (zb 1) ze))) (nk 2 (ox (zG 0) (ox (zG 1) kM))) xj (zi oS (za (zp 0) (za (zc zr (zb 1) (cI 0)) (za (zc zr (zb 1) (cI 1)) ze))))
abbrev iM:Sm:=
 (zo (zU (wW (xv (y7 (Ex "tuple" (zb 0)))) (yn (zc (zV true) (zi xb (za (zb 0) ze)) (zi xb (za (zb 1) ze))))) (retS (cS (.bl false))) yb)
 (retS (zi (uS λ bs=>bs.all id) (za jH ze))))
def qK:Ak:=zO ["thing","bounds"] 2 iM
abbrev o8:Sm:=
 (zU (yn (zc (vV false) (zb 4) (tupS (za (cS (.str "keeper")) (za (cS (.str "taker")) ze))))) (wZ 1 (zp 4)) (zU (y7 (xn nv (zb 4) (za (cS (.str "stall ")) ze))) (wZ 3 (zi rW (za (yB (xn vK (zb 4) (za (cS (.str " ")) ze)) ↑(cI 1) none) ze))) (wZ 2 (zi rW (za (xn vK (kf ">" " " (zb 4)) (za (cS (.str " ")) ze)) ze)))))
abbrev Zm:Sm:=
 (zo (uB 1 (yk ze))
 (zo (uB 2 (yk ze))
 (zo (uB 3 (yk ze))
 (zo (vw [4] (xc (yB (zb 0) ↑(cI 1) none)) (zG 4) o8)
 (zo (zK 5 (zi rW (za (yB (xn vK (zc zr (zb 0) (cI 0)) (za (cS (.str " ")) ze)) ↑(cI 1) none) ze)))
 (retS (tupS (za (zp 5) (za (zi vi (za (zb 1) ze)) (za (zi vi (za (zb 2) ze)) (za (zi vi (za (zb 3) ze)) ze)))))))))))
def lq:Ak:=zO ["parts","owners","ways","stalls","part","brims"] 1 Zm
abbrev oA:Sm:=
 (wZ 6 (zc zr (yk (za (cS (.str "keeper")) (za (cS (.str "taker")) ze))) (zc jO (zc l_ (zb 5) (zb 7)) (cI 1))))
abbrev iK:Sm:=
 (zo (zK 5 (zi sL (za (zp 0) (za (zp 1) ze))))
 (zo (uB 6 (yk ze))
 (zo (vw [7] (xf wN (za (zb 2) ze)) (zG 7) oA)
 (zo (zK 8 (zc zr (yk (za (cI 1) (za (cI 2) (za (cI 3) (za (cI 12) ze))))) (zc zZ (zc y8 (zb 5) (cI 256)) (cI 4))))
 (zo (zK 9 (tupS ze))
 (zo (zU (yn (zc (zV false) (zc zZ (zc y8 (zb 5) (cI 1024)) (cI 3)) (cI 1))) (cE 6 (zK 9 (zi lx (za (zi i6 (za (zp 0) (za (zc zq (zb 1) (cI 1)) (za (zc (zV false) (zc zZ (zc y8 (zb 5) (cI 3072)) (cI 2)) (cI 1)) ze)))) (za (zp 6) ze))))) yb)
 (retS (tupS (za (zp 3) (za (zi vi (za (zb 6) ze)) (za (zi lu (za (zp 0) (za (zc zq (zb 1) (cI 2)) (za (zp 2) (za (zp 4) (za (zp 8) ze)))))) (za (zp 9) ze))))))))))))
def qJ:Ak:=zO ["_law_script","_law_at","_law_many","_law_brims","_law_more","_law_number","_law_owners","_law_place","_law_span","_law_stalls_here"] 5 iK
abbrev jK:Ae:=
 yJ [none,↑1] (xc (zb 0)) (zG 0) xj (zi qK (za (zp 0) (za (zp 1) ze)))
abbrev iQ:Sm:=
 (retS (xP (Ex "tuple" (zb 0)) (zi (uS λ bs=>bs.all id) (za jK ze))))
def qL:Ak:=zO ["thing","bounds"] 2 iQ
abbrev Zt:Sm:=
 (retS (zi qK (za (zp 0) (za (tupS (za (tupS (za (cI 0) (za (cI 12) ze))) (za (tupS (za (cI 0) (za (cI 12) ze))) ze))) ze))))
def l8:Ak:=zO ["thing"] 1 Zt
abbrev jI:Ae:=
 yJ [none] (xc (zb 0)) (zG 0) xj (zc zr (zb 0) (cI 0))
abbrev jC:Ae:=
 yJ [none,↑4] (xf wN (za (zb 1) ze)) (zG 0) xj (zc (vV false) (zb 0) (zb 1))
abbrev iO:Sm:=
 (zo (zK 2 (tupS (za (cI 0) (za (zc sX (zb 1) (cI 1)) ze))))
 (zo (zK 3 (tupS (za (pL (cI 12)) (za (cI 12) ze))))
 (zo (zU (xv (y7 (zi qL (za (zp 0) (za (tupS (za (zp 2) (za (zp 2) (za (zp 3) (za (zp 3) ze))))) ze))))) (retS (cS (.bl false))) yb)
 (zo (zK 4 jI)
 (retS (xP (zc qk (zi xb (za (zb 0) ze)) (cI 24)) (xP (zi rX (za (zp 0) ze)) (zi (uS λ bs=>bs.all id) (za jC ze)))))))))
def oU:Ak:=zO ["thing","places","place","coins","starts"] 2 iO
abbrev jJ:Ae:=
 yJ [none] (xc (zb 0)) (zG 0) xj (zc zr (zb 0) (cI 0))
abbrev jD:Ae:=
 yJ [none,↑1] (xc (zb 0)) (zG 0) xj (zc (zV false) (zc zr (zb 1) (zc zr (zb 0) (cI 0))) (cS (.str "keeper")))
abbrev iP:Sm:=
 (zo (zK 2 (tupS (za (cI 0) (za (zc sX (zi xb (za (zb 1) ze)) (cI 1)) ze))))
 (zo (zU (xv (y7 (zi qL (za (zp 0) (za (tupS (za (zp 2) (za (tupS (za (cI 0) (za (cI 1) ze))) (za (tupS (za (cI 1) (za (cI 12) ze))) (za (tupS (za (cI 0) (za (cI 12) ze))) ze))))) ze))))) (retS (cS (.bl false))) yb)
 (retS (xP (zi rX (za jJ ze)) (zi (uS λ bs=>bs.all id) (za jD ze))))))
def oV:Ak:=zO ["thing","owners","place"] 2 iP
abbrev Zs:Sm:=
 (zo (zU (wW (xv (y7 (Ex "tuple" (zb 0)))) (yn (zc (zV true) (zi xb (za (zb 0) ze)) (cI 4)))) (retS (cS (.bl false))) yb)
 (zo (zU (wW (xv (y7 (zi l8 (za (zc zr (zb 0) (cI 0)) ze)))) (xv (y7 (zi oW (za (zc zr (zb 0) (cI 1)) ze))))) (retS (cS (.bl false))) yb)
 (retS (xP (zi oU (za (zc zr (zb 0) (cI 2)) (za (zi xb (za (zc zr (zb 0) (cI 1)) ze)) ze))) (zi oV (za (zc zr (zb 0) (cI 3)) (za (zc zr (zb 0) (cI 1)) ze)))))))
def sM:Ak:=zO ["thing"] 1 Zs
abbrev Nt:Sm:=
 (zo (zU (xv (y7 (Ex "str" (zb 0)))) (ka "NoFloor" "" (cS .zk)) yb)
 (zo (zK 1 (zi lq (za (xn vK (zb 0) (za (cS (.str "; ")) ze)) ze)))
 (zo (zU (wW (xv (y7 (zi sM (za (zp 1) ze)))) (yn (zc (zV true) (zi rV (za (zp 1) ze)) (zb 0)))) (ka "NoFloor" "" (cS .zk)) yb)
 (fo (zp 1)))))
def y9:Ak:=zO ["text","floor"] 1 Nt
abbrev jF (xS:Ak):Ae:=
 yJ [none,↑0,↑1] (xf wN (za (zi xb (za (zb 1) ze)) ze)) (zG 0) xj (zi xS (za (zc zr (zb 1) (zb 0)) (za (zc zr (zb 2) (zb 0)) ze)))
abbrev Nw (xS:Ak):Sm:=
 (zo (zU (wW (y7 (Ex "tuple" (zb 1))) (y7 (Ex "list" (zb 1)))) (zo (zU (wW (yn (zc (zV true) (Ex "tuple" (zb 0)) (Ex "tuple" (zb 1)))) (yn (zc (zV true) (Ex "list" (zb 0)) (Ex "list" (zb 1))))) (retS (cS (.bl false))) yb)
 (retS (xP (zc (zV false) (zi xb (za (zb 0) ze)) (zi xb (za (zb 1) ze))) (zi (uS λ bs=>bs.all id) (za (jF xS) ze))))) yb)
 (zo (zU (yn (zc (pT false) (zb 1) (cS .zk))) (retS (zc (pT false) (zb 0) (cS .zk))) yb)
 (zo (zU (wW (y7 (Ex "bool" (zb 1))) (y7 (Ex "int" (zb 1)))) (retS (xP (Ex "int" (zb 0)) (xP (zc (zV false) (Ex "bool" (zb 0)) (Ex "bool" (zb 1))) (zc (zV false) (zb 0) (zb 1))))) yb)
 (retS (xP (Ex "str" (zb 0)) (zc (zV false) (zb 0) (zb 1)))))))
def xS:Nat->List T->Option T
 | 0=>λ _=>none
 | n+1=>zO ["_law_found","_law_due"] 2 (Nw (xS n))
abbrev Nx:Sm:=
 (zo (zK 1 (cS .zk))
 (zo (qa 2 1 (lF y9 (za (zp 0) ze)))
 (retS (zc (zV false) (zi qI (za (zp 1) ze)) (yk (za (cI 0) (za (cI 9) (za (cI 10) ze))))))))
def ly:Ak:=zO ["_law_text_here","_law_caught","e"] 1 Nx
abbrev Ny:Sm:=
 (zo (zK 1 (cS .zk))
 (zo (zK 2 (cS .zk))
 (zo (qa 3 2 (o_ 1 y9 (za (zp 0) ze)))
 (zo (zU (yn (zc (pT false) (zb 2) (cS .zk))) (retS (xP (Ex "str" (zb 0)) (xP (zi sM (za (zp 1) ze)) (zc (zV false) (zi vF (za (zp 1) ze)) (zb 0))))) yb)
 (retS (zc (zV false) (zi qI (za (zp 2) ze)) (yk (za (cI 0) (za (cI 9) (za (cI 10) ze))))))))))
def qH:Ak:=zO ["_law_text_here","_law_found","_law_caught","e"] 1 Ny
abbrev bX:Sm:=
 (zU (xv (y7 (zi qH (za (zi i4 (za (zp 4) (za (zi sL (za (zp 0) (za (zp 6) ze))) ze))) ze)))) (retS (cS (.bl false))) yb)
abbrev jG:Ae:=
 yJ [none] (xc (zi i8 (za (zp 1) ze))) (zG 0) xj (zi ly (za (zp 0) ze))
abbrev jQ:Sm:=
 (zU (wW (xv (y7 (zi (xS 6) (za (zi (pJ y9) (za (zi vF (za (zp 7) ze)) ze)) (za (zp 7) ze))))) (yn (zc (zV true) (zi rV (za (zp 7) ze)) (zi vF (za (zp 7) ze))))) (retS (cS (.bl false))) yb)
abbrev jP:Sm:=
 (zU (xv (y7 (zi qH (za (zp 7) ze)))) (retS (cS (.bl false))) yb)
abbrev N1:Sm:=
 (zo (zK 1 (zi sL (za (zp 0) (za (cI 0) ze))))
 (zo (zK 2 (zc zq (cI 1) (zc zZ (zb 1) (cI 8))))
 (zo (zK 3 (zi qJ (za (zp 0) (za (cI 2) (za (zp 2) (za (tupS (za (zc zZ (zc y8 (zb 1) (cI 8)) (cI 13)) (za (zc zZ (zc y8 (zb 1) (cI 104)) (cI 13)) ze))) (za (zc zZ (zc y8 (zb 1) (cI 1352)) (cI 17)) ze)))))))
 (zo (zK 4 (zi vF (za (zp 3) ze)))
 (zo (zK 5 (zi rV (za (zp 3) ze)))
 (zo (zU (wW (xv (y7 (Ex "str" (zb 5)))) (wW (yn (zc (zV true) (zb 5) (zb 4))) (xv (y7 (zi (xS 6) (za (zi (pJ y9) (za (zp 4) ze)) (za (zp 3) ze))))))) (retS (cS (.bl false))) yb)
 (zo (vw [6] (xf qf (za (cI 30) (za (cI 62) ze))) (zG 6) bX)
 (zo (zU (xv (y7 (zi (uS λ bs=>bs.all id) (za jG ze)))) (retS (cS (.bl false))) yb)
 (zo (vw [7] (xc (zi i0 (za (zp 1) ze))) (zG 7) jQ)
 (zo (zK 8 (yk (za (zc zq (zb 4) (cS (.str "\n"))) (za (zc zq (cS (.str "\n")) (zb 4)) (za (zc zq (zb 4) (cS (.str ";"))) (za (cS (.str "")) (za (cS (.str "brims 1 1")) (za (cS .zk) (za (cI 5) (za (yk (za (zp 4) ze)) ze))))))))))
 (zo (vw [7] (xc (zc zq (zb 8) (yk (za (cS (.str "brims 1 1; keeper; 0>0 0 -0")) (za (cS (.str "brims 01 1; keeper; 0>0 0 0")) ze))))) (zG 7) jP)
 (retS (cS (.bl true))))))))))))))
def oQ:Ak:=zO ["_law_script","_law_number","_law_many","_law_floor_here","_law_text_here","_law_shown","_law_k","_law_thing","_law_some"] 1 N1
def xq (t:T):Bool:=!yh t&&(match t with | .tup ts=>ts.all (λ u=>!yh u) | _=>true)
def xq.top {t:T}(h:xq t=true):yh t=false:=by
 unfold xq at h;simp![AX,Dq] at h;show h.1
def xq.mem {ts:List T}(h:xq (.tup ts)=true) {u:T}(hu:u∈ts):yh u=false:=by
 simp![xq,AX,A9,Dq] at h;show h.2 u hu
def wh (t:T) (a b:Int):Bool:=match t with
 | .int i=>decide (a<=i)&&decide (i<=b)
 | _=>false
def aJ (t:T) (he:yh t=false):l7 [t]=↑(.bl (match t with | .int _=>true | _=>false)):=by
 cases t with
 | err _ _ _=>cases he
 | _=>simp[l7,Zr,yO]
def OM (t:T) (a b:Int) (he:yh t=false):oS [t,.int a,.int b]=↑(.bl (wh t a b)):=by
 cases t with
 | int i=>
  unfold oS iL wh;by_cases h1:a<=i <;> by_cases h2:i<=b <;> simp[aJ _ he,h1,h2]
 | err _ _ _=>cases he
 | _=>simp[oS,iL,wh,aJ _ he]
def eq_int (i j:Int) (neg:Bool):zV neg (.int i) (.int j)=↑(.bl (cond neg (!decide (i=j)) (decide (i=j)))):=by
 have:eqT (.int i) (.int j)=decide (i=j):=by simp[eqT,Bool.beq_eq_decide_eq]
 simp[zV,dep,this]
theorem oZ {α:Type}(enc:α->T):∀ (ts:List T) (bs:List α),List.zipWith (λ a b=>T.tup [a,b]) ts (bs.map enc)=(ts.zip bs).map λ p=>T.tup [p.1,enc p.2]
 | [],bs=>#[]
 | t::ts,[]=>#[]
 | t::ts,b::bs=>by simp[oZ enc ts bs]
def tN {α:Type}(g:α->Bool) (xs:List α):tP (xs.map λ x=>T.bl (g x))=↑(xs.map g):=by
 have:=Oy (xs.map g);rw[AY] at this;show this
def rK {α:Type}(g:α->Bool) (xs:List α):(xs.map g).all id=xs.all g:=by
 rw[CN];rfl
def yc (t:T) (bs:List (Int×Int)):Bool:=match t with
 | .tup ts=>decide (ts.length=bs.length)&&(ts.zip bs).all λ p=>wh p.1 p.2.1 p.2.2
 | _=>false
theorem aL (t:T) (bs:List (Int×Int)) (hl:bs.length<=100) (he:xq t=true):qK [t,.tup (bs.map xy)]=↑(.bl (yc t bs)):=by
 cases t with
 | tup ts=>
  unfold qK iM yc;by_cases h:ts.length=bs.length
  .have hc:jH [↑(.im (.tup ts)),↑(.im (.tup (bs.map xy)))]=↑(.lst ((ts.zip bs).map λ p=>T.bl (wh p.1 p.2.1 p.2.2))):=by
    unfold jH;exact xX (λ p:T×(Int×Int)=>T.tup [p.1,xy p.2]) _ (ts.zip bs) ?_ ?_ λ p hp=>?_
    .simp[oZ]
    .simp;lia
    .simp[xG,xy,OM _ _ _ (xq.mem he (CW hp).1)]
   simp[yO,eq_int,h,hc,tN,rK]
  .have h':¬ (ts.length:Int)=bs.length:=⋯;simp[yO,eq_int,h,h']
 | err _ _ _=>cases xq.top he
 | _=>simp[qK,iM,yc,yO]
def rf (t:T) (bs:List (Int×Int)):Bool:=match t with
 | .tup ts=>ts.all λ r=>yc r bs
 | _=>false
def lS (t:T):Prop:=∀ ts,wq t=↑ts->ts.length<=16777216
def aK (t:T) (bs:List (Int×Int)) (hl:bs.length<=100) (hz:lS t) (hr:∀ ts,t=.tup ts->∀ r∈ts,xq r=true) (he:yh t=false):qL [t,.tup (bs.map xy)]=↑(.bl (rf t bs)):=by
 cases t with
 | tup ts=>
  have G8:=hz ts rfl;have hc:jK [↑(.im (.tup ts)),↑(.im (.tup (bs.map xy)))]=↑(.lst (ts.map λ r=>T.bl (yc r bs))):=by
   unfold jK;exact xX (λ r:T=>r) _ ts ?_ G8 λ p hp=>?_
   .simp
   .simp[xG,aL _ _ hl (hr ts rfl p hp)]
  unfold qL iQ rf;simp[yO,hc,tN,rK]
 | err _ _ _=>cases he
 | _=>simp[qL,iQ,rf,yO]
theorem fh {t:T}{bs:List (Int×Int)}(h:yc t bs=true):∃ r:List Int,t=zm r/\r.length=bs.length/\∀ (i:Nat) x b,r[i]?=↑x->bs[i]?=↑b->b.1<=x/\x<=b.2:=by
 cases t with
 | tup ts=>
  simp![yc,AX,decide_eq_true_eq] at h;let#[hl,ha]:=h;have key:∀ (ts:List T) (bs:List (Int×Int)),ts.length=bs.length->((ts.zip bs).all λ p=>wh p.1 p.2.1 p.2.2)=true->∃ r:List Int,ts=r.map T.int/\r.length=bs.length/\∀ (i:Nat) x b,r[i]?=↑x->bs[i]?=↑b->b.1<=x/\x<=b.2:=by
   intro ts
   induction ts with
   | nil=>intro bs hl _;show#[[],rfl,by simpa using hl,λ i x b hx=>by simp at hx]
   | cons t ts ih=>
    intro bs hl ha;cases bs with
    | nil=>simp at hl
    | cons b bs=>
     simp![Ds,CO,AX] at ha;let#[r,r1,r2,r3]:=ih bs (by exists hl) ha.2;cases t with
     | int i=>
      have h1:=ha.1;simp![wh,AX,decide_eq_true_eq] at h1;exact#[i::r,by rw[r1];rfl,by simp[r2],λ j x c hx hc=>?_];cases j with
      | zero=>simp at hx hc;subst hx hc;show h1
      | succ j=>show r3 j x c (by exists hx) (by exists hc)
     | _=>simp[wh] at ha
  let#[r,r1,r2,r3]:=key ts bs hl ha;show#[r,by rw[r1];rfl,r2,r3]
 | _=>simp[yc] at h
def nL {ts:List T}{bs:List (Int×Int)}(h:(ts.all λ r=>yc r bs)=true):∃ rs:List (List Int),ts=rs.map zm/\∀ r∈rs,yc (zm r) bs=true/\r.length=bs.length/\∀ (i:Nat) x b,r[i]?=↑x->bs[i]?=↑b->b.1<=x/\x<=b.2:=by
 induction ts with
 | nil=>show#[[],rfl,nofun]
 | cons t ts ih=>
  simp![CO,AX] at h;let#[rs,h1,h2]:=ih h.2;let#[r,r1,r2,r3]:=fh h.1;exact#[r::rs,by rw[h1,r1];rfl,λ q hq=>?_];rcases Ao.mp hq with e | e
  .subst e;show#[by rw[<- r1];show h.1,r2,r3]
  .show h2 q e
def sU:List (List Int)->Bool
 | a::b::l=>HT.lexLt a b&&sU (b::l)
 | _=>true
def xU:List Int->Bool
 | a::b::l=>decide (a<b)&&xU (b::l)
 | _=>true
theorem lE {α:Type}(lt:α->α->Bool) (up:List α->Bool) (h0:up []=true) (h1:∀ a,up [a]=true) (h2:∀ a b l,up (a::b::l)=(lt a b&&up (b::l))):∀ l:List α,((l.zip (l.drop 1)).all λ p=>lt p.1 p.2)=up l
 | []=>by simp[h0]
 | [a]=>by simp[h1]
 | a::b::l=>by
  have ih:=lE lt up h0 h1 h2 (b::l);simp![List.drop_succ_cons,List.drop_zero,Ds,CO] at ih ⊢;rw[h2,<- ih]
def j6 {α:Type}(xs:List α):yQ xs ↑1 none=xs.drop 1:=by
 unfold yQ;have e:HT.zu xs.length 0 ↑1=min 1 xs.length:=by simp[HT.zu]
 have e2:HT.zu xs.length xs.length none=xs.length:=rfl;rw[e,e2];cases xs with
 | nil=>rfl
 | cons x xs=>simp
def OV (rs:List (List Int)) (hl:rs.length<=16777216):rX [.tup (rs.map zm)]=↑(.bl (sU rs)):=by
 have hc:o7 [↑(.im (.tup (rs.map zm)))]=↑(.lst ((rs.zip (rs.drop 1)).map λ p=>T.bl (HT.lexLt p.1 p.2))):=by
  unfold o7;exact xX (λ p:List Int×List Int=>T.tup [zm p.1,zm p.2]) _ (rs.zip (rs.drop 1)) ?_ ?_ λ p hp=>?_
  .simp![xf,za,zb,yB,xk,cS,ze,rY,rG,BQ,j6,Xb,Option.map_some,List.getElem?_cons_zero];rw[<- B0,oZ,List.zip_map_left,AY];rfl
  .simp;lia
  .simp[xG,zm,xr,jc]
 unfold rX iR;simp[hc,tN,rK];have:=lE (λ a b=>HT.lexLt a b) sU rfl (λ _=>rfl) (λ _ _ _=>rfl) rs;exists this
def OW (ns:List Int) (hl:ns.length<=16777216):rX [.lst (ns.map T.int)]=↑(.bl (xU ns)):=by
 have hc:o7 [↑(.im (.lst (ns.map T.int)))]=↑(.lst ((ns.zip (ns.drop 1)).map λ p=>T.bl (decide (p.1<p.2)))):=by
  unfold o7;exact xX (λ p:Int×Int=>T.tup [T.int p.1,T.int p.2]) _ (ns.zip (ns.drop 1)) ?_ ?_ λ p hp=>?_
  .simp![xf,za,zb,yB,xk,cS,ze,rY,rG,BQ,j6,Xc,Option.map_some,List.getElem?_cons_zero];rw[<- B0,oZ,List.zip_map_left,AY];rfl
  .simp;lia
  .simp[xG,xr]
 unfold rX iR;simp[hc,tN,rK];have:=lE (λ a b:Int=>decide (a<b)) xU rfl (λ _=>rfl) (λ _ _ _=>rfl) ns;exists this
def pC (k l:Str) (t:T):Bool:=match t with
 | .str x=>k == x||l == x
 | _=>false
def jd (x k l:Str) (y:T) (hy:wq y=↑[.str k,.str l]):vV false (.str x) y=↑(.bl (k == x||l == x)):=by
 unfold vV;rw[hy];simp[dep,xY,eqT]
def UD (k l:Str) (t:T) (he:yh t=false):zO ["thing"] 1 (retS (xP (Ex "str" (zb 0)) (zc (vV false) (zb 0) (tupS (za (cS (.str k)) (za (cS (.str l)) ze)))))) [t]=↑(.bl (pC k l t)):=by
 cases t with
 | str x=>
  have h:=jd x k l (.tup [.str k,.str l]) rfl;simp[yO,h,pC]
 | err _ _ _=>cases he
 | _=>simp[pC,yO]
def vR (t:T):Bool:=pC "keeper" "taker" t
def Na (t:T) (he:yh t=false):i9 [t]=↑(.bl (vR t)):=UD "keeper" "taker" t he
def wO (t:T):Bool:=match t with
 | .tup ts=>(decide (1<=ts.length)&&decide (ts.length<=8))&&ts.all vR
 | _=>false
theorem O_ (t:T) (he:xq t=true):oW [t]=↑(.bl (wO t)):=by
 cases t with
 | tup ts=>
  unfold oW iT wO;by_cases h:1<=ts.length
  .by_cases h':ts.length<=8
   .have hc:jL [↑(.im (.tup ts))]=↑(.lst (ts.map λ r=>T.bl (vR r))):=by
     unfold jL;exact xX (λ r:T=>r) _ ts ?_ ⋯ λ p hp=>?_
     .simp
     .simp[xG,Na _ (xq.mem he hp)]
    have e1:(1:Int)<=(ts.length:Int):=⋯;have e2:(ts.length:Int)<=8:=⋯;simp[yO,e1,e2,h,h',hc,tN,rK]
   .have e1:(1:Int)<=(ts.length:Int):=⋯;have e2:¬ (ts.length:Int)<=8:=⋯;simp[yO,e1,e2,h,h']
  .have e1:¬ (1:Int)<=(ts.length:Int):=⋯;simp[yO,e1,h]
 | err _ _ _=>cases xq.top he
 | _=>simp[oW,iT,wO,yO]
def rowOf (t:T):List Int:=match t with
 | .tup xs=>(vU xs).getD []
 | _=>[]
def Xl (r:List Int):rowOf (zm r)=r:=by simp[rowOf,zm,jc]
def rg (rs:List (List Int)):(rs.map zm).map rowOf=rs:=by
 rw[AY]
 conv=>rhs;rw[<- List.map_id rs]
 show CH λ r _=>Xl r
def wb (n:Int):List (Int×Int):=[(0,n-1),(0,n-1),(-12,12),(-12,12)]
def sb (n:Int):List (Int×Int):=[(0,n-1),(0,1),(1,12),(0,12)]
def fst (r:List Int):Int:=r.getD 0 0
def wj (t:T) (n:Nat):Bool:=match t with
 | .tup ts=>(ts.all λ r=>yc r (wb n))&&(decide (ts.length<=24)&&(sU (ts.map rowOf)&&(List.range n).all λ(k:Nat)=>((ts.map rowOf).map fst).any λ i=>decide (i=(k:Int))))
 | _=>false
def Pt (a k:Int):eqT (.int a) (.int k)=decide (a=k):=by simp![eqT,Bool.beq_eq_decide_eq]
theorem ah (k:Int):∀ ns:List Int,(ns.map T.int).any (λ t=>eqT t (.int k))=ns.any λ i=>decide (i=k)
 | []=>rfl
 | n::ns=>by rw[AD,List.any_cons,List.any_cons,ah k ns,Pt]
def qZ {r:List Int}(h:r.length=4):∃ a b c d,r=[a,b,c,d]:=by
 match r,h with
 | [a,b,c,d],_=>show#[a,b,c,d,rfl]
theorem bh:∀ ns:List Int,xY (ns.map T.int)=0
 | []=>rfl
 | n::ns=>by simp[xY,dep,bh ns]
theorem OO (t:T) (n:Nat) (hn:n<=1000) (hz:lS t) (Jg:∀ ts,t=.tup ts->∀ r∈ts,xq r=true) (he:yh t=false):oU [t,.int n]=↑(.bl (wj t n)):=by
 have hw:=aK t (wb n) (by simp[wb]) hz Jg he;have eb:T.tup ((wb n).map xy)=.tup [.tup [.int 0,.int ((n:Int)-1)],.tup [.int 0,.int ((n:Int)-1)],.tup [.int (-12),.int 12],.tup [.int (-12),.int 12]]:=rfl;rw[eb] at hw;cases t with
 | tup ts=>
  have G8:=hz ts rfl;unfold oU iO wj;simp![rf] at hw;by_cases ha:(ts.all λ r=>yc r (wb n))=true
  .let#[rs,rfl,hr]:=nL ha;have hl:rs.length<=16777216:=by exists G8
   have GO:∀ a b c d,jI [↑(.im (.tup (rs.map zm))),a,b,c,d]=↑(.lst ((rs.map fst).map T.int)):=λ a b c d=>by
    unfold jI;rw[AY];exact xX zm _ rs ?_ hl λ p hp=>?_
    .simp
    .have h4:p.length=4:=(hr p hp).2.1;let#[a,b,c,d,rfl]:=qZ h4;simp[xG,zm,fst]
   have FT:∀ (ns:List Int) a c d,jC [a,↑(.im (.int n)),c,d,↑(.im (.lst (ns.map T.int)))]=↑(.lst ((List.range n).map λ(k:Nat)=>T.bl (ns.any λ i=>decide (i=(k:Int))))):=λ ns a c d=>by
    unfold jC;exact xX (λ k:Nat=>T.int (0+(k:Int))) _ (List.range n) ?_ (by simp;lia) λ k hk=>?_
    .simp[rh n ⋯]
    .have e:=ah (k:Int) ns;simp[xG,vV,dep,bh,e,-List.any_map]
   have Dw:=OV rs hl;dsimp only;rw[rg];generalize B6:rs.map fst=ns at *;simp![ha,Bool.true_and];by_cases GH:rs.length<=24
   .have e:(rs.length:Int)<=24:=⋯;cases hu:sU rs <;> simp[hw,ha,GO,FT,Dw,tN,rK,GH,e,hu]
   .have e:¬ (rs.length:Int)<=24:=⋯;simp[hw,ha,GO,FT,Dw,GH,e]
  .have Js:(ts.all λ r=>yc r (wb n))=false:=by exists ha
   simp[hw,Js]
 | _=>simp[oU,iO,wj,rf] at hw ⊢ <;> simp[hw]
def keeps (os:List T) (p:Int):Bool:=match os[p.toNat]? with
 | some (.str x)=>x == "keeper"
 | _=>false
def wL (t:T) (os:List T):Bool:=match t with
 | .tup ts=>(ts.all λ r=>yc r (sb os.length))&&(xU ((ts.map rowOf).map fst)&&((ts.map rowOf).map fst).all (keeps os))
 | _=>false
def eq_str (x y:Str) (neg:Bool):zV neg (.str x) (.str y)=↑(.bl (cond neg (!(x == y)) (x == y))):=by
 simp[zV,dep,eqT]
theorem dN {os:List T}{p:Int}(h0:0<=p) (h1:p<os.length) (ho:os.all vR=true) (k:Str):∃ x:Str,L2.zP os p=↑(.str x)/\os[p.toNat]?=↑(.str x):=by
 have hl:p.toNat<os.length:=⋯;have e:os[p.toNat]?=↑os[p.toNat]:=BC hl;have ha:L2.zP os p=↑os[p.toNat]:=by
  have:=wD (k:=p.toNat) e;rw[DI h0] at this;show this
 have hw:=A9.mp ho os[p.toNat] (CZ hl);generalize hq:os[p.toNat]=q at *;cases q with
 | str x=>show#[x,ha,e]
 | _=>simp[vR,pC] at hw
theorem OS (t:T) (os:List T) (ho:os.all vR=true) (hl8:os.length<=8) (hz:lS t) (Jg:∀ ts,t=.tup ts->∀ r∈ts,xq r=true) (he:yh t=false):oV [t,.tup os]=↑(.bl (wL t os)):=by
 have hw:=aK t (sb os.length) (by simp[sb]) hz Jg he;have eb:T.tup ((sb os.length).map xy)=.tup [.tup [.int 0,.int ((os.length:Int)-1)],.tup [.int 0,.int 1],.tup [.int 1,.int 12],.tup [.int 0,.int 12]]:=rfl;rw[eb] at hw;cases t with
 | tup ts=>
  have G8:=hz ts rfl;unfold oV iP wL;simp![rf] at hw;by_cases ha:(ts.all λ r=>yc r (sb os.length))=true
  .let#[rs,rfl,hr]:=nL ha;have hl:rs.length<=16777216:=by exists G8
   have GO:∀ a b,jJ [↑(.im (.tup (rs.map zm))),a,b]=↑(.lst ((rs.map fst).map T.int)):=λ a b=>by
    unfold jJ;rw[AY];exact xX zm _ rs ?_ hl λ p hp=>?_
    .simp
    .let#[a,b,c,d,rfl]:=qZ (show p.length=4 from (hr p hp).2.1);simp[xG,zm,fst]
   have FT:∀ b,jD [↑(.im (.tup (rs.map zm))),↑(.im (.tup os)),b]=↑(.lst (rs.map λ r=>T.bl (keeps os (fst r)))):=λ b=>by
    unfold jD;exact xX zm _ rs ?_ hl λ p hp=>?_
    .simp
    .have hb:=(hr p hp).2.2 0;let#[a,b,c,d,rfl]:=qZ (show p.length=4 from (hr p hp).2.1);have Gi:=hb a (0,(os.length:Int)-1) rfl rfl;let#[x,x1,x2]:=dN (os:=os) (p:=a) Gi.1 (by have:=Gi.2;simp at this;lia) ho "keeper";have e1:keeps os a=(x == "keeper"):=by unfold keeps;rw[x2]
     have e2:fst [a,b,c,d]=a:=rfl;rw[e2,e1];generalize ("keeper":Str)=kk;simp[xG,zm,x1,eq_str]
   have Dw:=OW (rs.map fst) (by exists hl);have hk:rs.all (λ r=>keeps os (fst r))=(rs.map fst).all (keeps os):=by rw[CN];rfl
   dsimp only;rw[rg];rw[<- hk];generalize B6:rs.map fst=ns at *;simp![ha,Bool.true_and];cases hu:xU ns <;> simp[hw,ha,GO,FT,Dw,tN,rK,hu]
  .have Js:(ts.all λ r=>yc r (sb os.length))=false:=by exists ha
   simp[hw,Js]
 | _=>simp[oV,iP,wL,rf] at hw ⊢ <;> simp[hw]
def xt (t:T):Bool:=match t with
 | .tup [a,.tup os,c,d]=>(yc a [(0,12),(0,12)]&&wO (.tup os))&&(wj c os.length&&wL d os)
 | _=>false
def Nh (a:T) (os ws ss:List T) (ha:xq a=true) (ho:xq (.tup os)=true) (hw:∀ r∈ws,xq r=true) (hs:∀ r∈ss,xq r=true) (lw:ws.length<=16777216) (ls:ss.length<=16777216):
  sM [.tup [a,.tup os,.tup ws,.tup ss]]=↑(.bl (xt (.tup [a,.tup os,.tup ws,.tup ss]))):=by
 have GD:l8 [a]=↑(.bl (yc a [(0,12),(0,12)])):=by
  have h:=aL a [(0,12),(0,12)] #[] ha;unfold l8 Zt;simp[xy] at h ⊢;simp[h]
 have own:=O_ (.tup os) ho;unfold sM Zs xt;cases hb:yc a [(0,12),(0,12)] with
 | false=>simp[yO,eq_int,GD,hb]
 | true=>
  cases Jc:wO (.tup os) with
  | false=>simp[yO,eq_int,GD,hb,own,Jc]
  | true=>
   have Jb:=Jc;simp![wO,AX,decide_eq_true_eq] at Jb;have e1:=OO (.tup ws) os.length ⋯ (λ ts e=>by cases e;show lw) (λ ts e=>by cases e;show hw) rfl;have e2:=OS (.tup ss) os Jb.2 Jb.1.2 (λ ts e=>by cases e;show ls) (λ ts e=>by cases e;show hs) rfl;cases hv:wj (.tup ws) os.length <;> simp[yO,eq_int,GD,hb,own,Jc,e1,e2,hv]
def fj (x y z v:T) (p q r s:Int×Int):yc (.tup [x,y,z,v]) [p,q,r,s]=(wh x p.1 p.2&&(wh y q.1 q.2&&(wh z r.1 r.2&&wh v s.1 s.2))):=by simp[yc]
def fk (x y:T) (p q:Int×Int):yc (.tup [x,y]) [p,q]=(wh x p.1 p.2&&wh y q.1 q.2):=by simp[yc]
@[simp] theorem zab (i j:Int):yN (.int i) (.int j)=wu (.int i) (.int j):=rfl
def jA (m:Int) (ns:List Int) (k:Nat):Int:=if k<ns.length then ns.getD k 0%m else 0
def dm (m a b c d e:T):Sm:=
 (zo (zK 2 (cI 0))
 (zo (zU (yn (zc xr (zb 1) (zi xb (za (zb 0) ze)))) (zK 2 (zc zZ (zc zr (zb 0) (zb 1)) (zc pj (cI 2) (cS m)))) yb)
 (retS (zc y8 (zc zZ (zc zq (zc zq (zc yN (zb 2) (cS a)) (zc yN (zc yN (cS b) (zb 1)) (zb 1))) (zc yN (cS c) (zb 1))) (cS d)) (cS e)))))
def RC (m a b c d e:Int) (ns:List Int) (k:Nat) (hp:sR 2 m) (hm:0<(2:Int) ^ m.toNat) (h1:∀ i,wg i a) (h2:∀ i,wg b i) (h3:∀ i,wg i (k:Int)) (h4:∀ i,wg c i) (h5:0<d) (h6:yA 0 e):
  t8 (dm (.int m) (.int a) (.int b) (.int c) (.int d) (.int e) [↑(.im (yH ns)),↑(.im (.int k)),none])=↑(.int ((jA (2 ^ m.toNat) ns k*a+b*(k:Int)*(k:Int)+c*(k:Int))%d/e)):=by
 have h6':∀ i,yA i e:=λ i=>h6;unfold dm yH jA;by_cases h:k<ns.length
 .have q:L2.zP (ns.map T.int) (k:Int)=↑(.int (ns.getD k 0)):=wD (by simp[h]);have h':(k:Int)<(ns.length:Int):=⋯;simp[h,h',q,xr,hp,hm,wu,h1,h2,h3,h4,h5,h6',t8]
 .have h':¬ (k:Int)<(ns.length:Int):=⋯;simp[h,h',xr,wu,h1,h2,h3,h4,h5,h6',t8]
def mixed (ns:List Int) (k:Nat):Int:=(jA (2 ^ (64:Int).toNat) ns k*46337+2741*(k:Int)*(k:Int)+59*(k:Int))%2147483629/2
theorem half_lt (x d:Int) (h:0<d):0<=x%d/2/\x%d/2<d:=by
 have h1:=Cz x (b:=d) ⋯;have h2:=Cy x h;lia
def pP (ns:List Int) (k:Nat):0<=mixed ns k/\mixed ns k<2147483629:=half_lt _ _ ()
def oP (ns:List Int) (k:Nat) (hk:k<=1000):sL [yH ns,.int (k:Int)]=↑(.int (mixed ns k)):=
 RC 64 46337 2741 59 2147483629 2 ns k #[(),(),()] () (λ i=>.inr #[(),()]) (λ i=>.inl #[(),()]) (λ i=>.inr #[⋯,⋯]) (λ i=>.inl #[(),()]) () #[(),()]
def sS (n:Nat) (r:List Int):Prop:=∃ a b c d:Int,r=[a,b,c,d]/\(0<=a/\a<n)/\(0<=b/\b<n)/\(-12<=c/\c<=12)/\(-12<=d/\d<=12)
theorem bC (x s:Int) (h1:1<=s) (h2:s<=12):-12<=x%(2*s+1)-s/\x%(2*s+1)-s<=12:=by
 have a:=Cz x (b:=2*s+1) ⋯;have b:=Cy x (b:=2*s+1) ⋯;lia
def two (x:Int):x%2=0\/x%2=1:=⋯
def ZQ (ns:List Int) (at' Em k:Nat) (more span:Int) (El:List T) (ha:at' + k<=1000) (hm:1<=Em) (GX:1<=span) (Gg:span<=12) (hl:El.length<=1000):
  ∃ a b c d m:Int,sS Em [a,b,c,d]/\(k<Em->a=k)/\turn (zG 6) o9 (.int (0+(k:Int))) [↑(.im (yH ns)),↑(.im (.int at')),↑(.im (.int Em)),↑(.im (.int more)),↑(.im (.int span)),↑(.own (.lst El)),none,none,none,none] =
   ↑(.nx [↑(.im (yH ns)),↑(.im (.int at')),↑(.im (.int Em)),↑(.im (.int more)),↑(.im (.int span)),↑(.own (.lst (El++[zm [a,b,c,d]]))),↑(.im (.int (0+(k:Int)))),↑(.im (.int m)),↑(.im (.int a)),↑(.own (.lst [.int c,.int d]))]):=by
 have BE:=oP ns (at' + k) ha;have hca:((at':Int)+(k:Int))=((at' + k:Nat):Int):=⋯;let#[m0,_]:=pP ns (at' + k);generalize mixed ns (at' + k)=m at *;have pm:(0:Int)<Em:=⋯;have pN:0<Em:=hm;have ps:0<2*span+1:=⋯;have cm:wg 2 span:=.inl #[(),()];have e1:=Cz m (b:=(Em:Int)) ⋯;have e2:=Cy m pm;have e3:=Cz (m/8) (b:=(Em:Int)) ⋯;have e4:=Cy (m/8) pm;have c1:=bC (m/64) span GX Gg;have c2:=bC (m/2048) span GX Gg;have FP:El.length<16777216:=⋯;have Hm:yA m 64:=#[(),()];have FU:yA m 2048:=#[(),()];have Fp:yA m 65536:=#[(),()];have FA:yA m 327680:=#[(),()];have d8:yA m 8:=#[(),()];have z2:wx 2 0=↑0:=rfl;have o2:wx 2 1=↑1:=rfl;have cc:(0:Int)+(k:Int)=(k:Int):=⋯;rw[hca.symm] at BE;have st:∃ a:Int,(0<=a/\a<Em)/\(k<Em->a=k)/\(if (k:Int)<(Em:Int) then (k:Int) else m%Em)=a:=by
  by_cases hk:k<Em
  .show#[k,⋯,λ _=>rfl,by rw[if_pos ⋯]]
  .show#[m%Em,#[e1,e2],λ h=>absurd h hk,by rw[if_neg ⋯]]
 let#[a,a1,a2,a3]:=st;have fin:∀ c d:Int,(-12<=c/\c<=12)->(-12<=d/\d<=12)->sS Em [a,m/8%Em,c,d]:=λ c d h1 h2=>#[_,_,_,_,rfl,a1,#[e3,e4],h1,h2];have zz:(-12:Int)<=0/\(0:Int)<=12:=#[(),()];rw[cc];unfold turn o9;by_cases h5:m/65536%5=0
 .rcases two (m/327680) with h2 | h2
  .exact#[a,m/8%Em,0,m/2048%(2*span+1)-span,m,fin _ _ zz c2,a2,?_];by_cases hk:(k:Int)<(Em:Int)
   .rw[if_pos hk] at a3;subst a3;have hN:k<Em:=⋯;simp[BE,xr,hk,hN,pN,wu,cm,pm,ps,Hm,FU,Fp,FA,d8,eq_int,h5,h2,z2,zm,FP]
   .rw[if_neg hk] at a3;subst a3;have hN:¬ k<Em:=⋯;simp[BE,xr,hk,hN,pN,wu,cm,pm,ps,Hm,FU,Fp,FA,d8,eq_int,h5,h2,z2,zm,FP]
  .exact#[a,m/8%Em,m/64%(2*span+1)-span,0,m,fin _ _ c1 zz,a2,?_];by_cases hk:(k:Int)<(Em:Int)
   .rw[if_pos hk] at a3;subst a3;have hN:k<Em:=⋯;simp[BE,xr,hk,hN,pN,wu,cm,pm,ps,Hm,FU,Fp,FA,d8,eq_int,h5,h2,o2,zm,FP]
   .rw[if_neg hk] at a3;subst a3;have hN:¬ k<Em:=⋯;simp[BE,xr,hk,hN,pN,wu,cm,pm,ps,Hm,FU,Fp,FA,d8,eq_int,h5,h2,o2,zm,FP]
 .exact#[a,m/8%Em,m/64%(2*span+1)-span,m/2048%(2*span+1)-span,m,fin _ _ c1 c2,a2,?_];by_cases hk:(k:Int)<(Em:Int)
  .rw[if_pos hk] at a3;subst a3;have hN:k<Em:=⋯;simp[BE,xr,hk,hN,pN,wu,cm,pm,ps,Hm,FU,Fp,d8,eq_int,h5,zm,FP]
  .rw[if_neg hk] at a3;subst a3;have hN:¬ k<Em:=⋯;simp[BE,xr,hk,hN,pN,wu,cm,pm,ps,Hm,FU,Fp,d8,eq_int,h5,zm,FP]
def sS.row {n:Nat}{r:List Int}(h:sS n r):yc (zm r) (wb n)=true:=by
 let#[a,b,c,d,rfl,h1,h2,h3,h4]:=h;have e:zm [a,b,c,d]=.tup [.int a,.int b,.int c,.int d]:=rfl;rw[e];unfold wb;rw[fj];simp![wh,AX,decide_eq_true_eq];lia
theorem gi:∀ {rs:List (List Int)},rs.Pairwise (λ a b=>HT.lexLt b a=false)->rs.Nodup->sU rs=true
 | [],_,_=>rfl
 | [a],_,_=>rfl
 | a::b::l,h,nd=>by
  have h1:=B_.mp h;have n1:=Bj.mp nd;rw[sU,gi h1.2 n1.2,Bool.and_true];cases q:HT.lexLt a b with
  | true=>rfl
  | false=>show absurd (L4.kW a b q (h1.1 b Az)▸Az) n1.1
def Q3 {r:List Int}{rs:List (List Int)}:vU ((r::rs).map zm)=none:=rfl
def YJ (rs:List (List Int)) (h0:rs≠[]) (hl:rs.length<64) (hn:∀ r∈rs,r≠[]):nE [.lst (rs.map zm)]=↑(.lst ((L4.vL (x8 rs)).map zm)):=by
 cases rs with
 | nil=>show absurd rfl h0
 | cons r rs=>
  change (match vU ((r::rs).map zm) with
   | some ns=>if ns.length<64 then ↑(T.lst ((vI ns).map T.int)) else none
   | none=>qX [T.lst ((r::rs).map zm)])=_
  rw[Q3];change (uH ((r::rs).map zm)).bind _=_;rw[Xk,BQ,if_pos #[hl,hn]]
def Nc (ns:List Int) (at' Em more:Nat) (span:Int) (ha:at'<=100) (hm:1<=Em) (Jp:Em<=8) (Dy:more<=16) (GX:1<=span) (Gg:span<=12):
  ∃ rs:List (List Int),lu [yH ns,.int at',.int Em,.int more,.int span]=↑(.tup (rs.map zm))/\wj (.tup (rs.map zm)) Em=true/\rs≠[]/\rs.length<=24/\∀ r∈rs,sS Em r:=by
 let#[J',h1,El,h2,h3,h4,h5]:=rn (is:=[6,7,8,9]) (g:=zG 6) (b:=o9) (λ k:Nat=>T.int (0+(k:Int))) (λ p J=>∃ El:List (List Int),J=[↑(.im (yH ns)),↑(.im (.int at')),↑(.im (.int Em)),↑(.im (.int more)),↑(.im (.int span)),↑(.own (.lst (El.map zm))),none,none,none,none]/\
   El.length=p.length/\(∀ r∈El,sS Em r)/\∀ k∈p,k<Em->(k:Int)∈El.map fst) (List.range (Em+more)) [↑(.im (yH ns)),↑(.im (.int at')),↑(.im (.int Em)),↑(.im (.int more)),↑(.im (.int span)),↑(.own (.lst [])),none,none,none,none]
   #[[],rfl,rfl,nofun,nofun] (by
  rintro p k q e J ⟨El,rfl,r1,r2,r3⟩;have hp:p.length+1<=Em+more:=by
   have:=congrArg List.length e;simp at this;lia
  have hk:k<Em+more:=by
   have:k∈List.range (Em+more):=by rw[e];simp
   exists this
  let#[a,b,c,d,m,w1,w2,w3]:=ZQ ns at' Em k more span (El.map zm) ⋯ hm GX Gg (by simp;lia);exact#[_,w3,El++[[a,b,c,d]],#[],by simp[r1],λ r hr=>?_,λ j hj hjm=>?_]
  .rcases AV.mp hr with z | z
   .show r2 r z
   .cases AK.mp z;show w1
  .rw[Bf];rcases AV.mp hj with z | z
   .show CY _ (r3 j z hjm)
   .cases AK.mp z;show Bb _ (by rw[<- w2 hjm];show Az))
 subst h2;have hlen:El.length=Em+more:=by rw[h3];simp
 have Aw:El≠[]:=λ z=>by rw[z] at hlen;simp at hlen;lia
 have D3:∀ r∈El,r≠[]:=λ r hr=>by let#[a,b,c,d,rfl,_]:=h4 r hr;simp
 have hss:=YJ El Aw ⋯ D3;have Bn:∀ r,r∈L4.vL (x8 El)↔r∈El:=λ r=>by rw[(L4.nF _).mem_iff,pQ]
 have Ha:(L4.vL (x8 El)).length<=24:=by rw[(L4.nF _).length_eq];have:=kJ El;lia
 exact#[L4.vL (x8 El),?_,?_,?_,Ha,λ r hr=>h4 r ((Bn r).mp hr)]
 .obtain⟨N,hN⟩:∃ N,N=Em+more:=#[_,rfl];have hr:=rh N ⋯;have ee:((Em:Int)+(more:Int))=(N:Int):=⋯;rw[<- hN] at h1;simp![Int.zero_add] at h1 hr;unfold lu Zn;generalize o9=bb at h1 ⊢;simp[ee,hr,h1,hss]
 .simp![wj,rg,AX,decide_eq_true_eq,An];exact#[A9.mpr λ t ht=>?_,Ha,gi (L4.gI _) ((L4.nF _).nodup_iff.mpr (nZ El)),A9.mpr λ k hk=>?_]
  .let#[r,hr,rfl]:=AA.mp ht;show (h4 r ((Bn r).mp hr)).row
  .have Gp:k<Em:=by exists hk
   have:=h5 k (by simp;lia) Gp;let#[r,hr,e]:=AA.mp this;show Dm.mpr #[fst r,AA.mpr #[r,(Bn r).mpr hr,rfl],by simp[e]]
 .intro z;cases hr:El with
  | nil=>show Aw hr
  | cons r l=>
   have:r∈L4.vL (x8 El):=(Bn r).mpr (by rw[hr];show Az);rw[z] at this;cases this
def lW (os:List T) (r:List Int):Prop:=∃ a b c d:Int,r=[a,b,c,d]/\(0<=a/\a<os.length)/\(0<=b/\b<=1)/\(1<=c/\c<=12)/\(0<=d/\d<=12)/\keeps os a=true
def lW.row {os:List T}{r:List Int}(h:lW os r):yc (zm r) (sb os.length)=true:=by
 let#[a,b,c,d,rfl,h1,h2,h3,h4,_]:=h;have e:zm [a,b,c,d]=.tup [.int a,.int b,.int c,.int d]:=rfl;rw[e];unfold sb;rw[fj];simp![wh,AX,decide_eq_true_eq];lia
theorem gk:∀ (ns:List Int) (x:Int),xU ns=true->(∀ n∈ns,n<x)->xU (ns++[x])=true
 | [],x,_,_=>rfl
 | [a],x,_,h=>by simp[xU];show h a Az
 | a::b::l,x,h,hx=>by
  have h':decide (a<b)=true/\xU (b::l)=true:=by simpa [xU] using h
  have ih:=gk (b::l) x h'.2 λ n hn=>hx n (AG _ hn);change (decide (a<b)&&xU ((b::l)++[x]))=true;rw[h'.1,ih];rfl
def YF (os:List T) (k:Nat) (hk:k<os.length) (s kk:Str) (hs:L2.zP os (k:Int)=↑(.str s)) (cell:Int) (El:List T) (hl:El.length<=1000) (bb:Sm)
  (hb:bb=(zo (zU (oh (yn (zc (zV false) (zc zr (zb 1) (zb 3)) (cS (.str kk)))) (yn (zc (zV false) (zc zZ (zb 0) (cI 2)) (cI 1)))) (wZ 2 (tupS (za (zp 3) (za (zc zZ (zc y8 (zb 0) (cI 2)) (cI 2)) (za (zc zq (cI 1) (zc zZ (zc y8 (zb 0) (cI 4)) (cI 12))) (za (zc zZ (zc y8 (zb 0) (cI 48)) (cI 13)) ze)))))) yb)
 (zK 0 (zc y8 (zb 0) (cI 624))))):
  turn (zG 3) bb (.int (0+(k:Int))) [↑(.im (.int cell)),↑(.im (.lst os)),↑(.own (.lst El)),none]=↑(.nx [↑(.im (.int (cell/624))),↑(.im (.lst os)),↑(.own (.lst (El++(if (s == kk)=true/\cell%2=1 then [zm [(k:Int),cell/2%2,1+cell/4%12,cell/48%13]] else [])))),↑(.im (.int (k:Int)))]):=by
 have FP:El.length<16777216:=⋯;have Hc:yA cell 624:=#[(),()];have d2:yA cell 2:=#[(),()];have d4:yA cell 4:=#[(),()];have d48:yA cell 48:=#[(),()];have cc:(0:Int)+(k:Int)=(k:Int):=⋯;rw[cc];subst hb;unfold turn;cases hq:(s == kk)
 .simp[hs,eq_str,hq,Hc]
 .by_cases h2:cell%2=1
  .simp[hs,eq_str,hq,eq_int,h2,Hc,d2,d4,d48,FP,zm]
  .simp[hs,eq_str,hq,eq_int,h2,Hc]
theorem Nd (cell:Int) (os:List T) (ho:os.all vR=true) (h8:os.length<=8):∃ qs:List (List Int),lx [.int cell,.lst os]=↑(.tup (qs.map zm))/\wL (.tup (qs.map zm)) os=true/\qs.length<=8:=by
 let#[J',h1,c',qs,h2,h3,h4,h5,h6]:=rn (is:=[3]) (g:=zG 3) (b:=mJ) (λ k:Nat=>T.int (0+(k:Int))) (λ p J=>∃ (c:Int) (qs:List (List Int)),J=[↑(.im (.int c)),↑(.im (.lst os)),↑(.own (.lst (qs.map zm))),none]/\qs.length<=p.length/\(∀ r∈qs,lW os r)/\xU (qs.map fst)=true/\∀ n∈qs.map fst,n<(p.length:Int))
   (List.range os.length) [↑(.im (.int cell)),↑(.im (.lst os)),↑(.own (.lst [])),none] #[cell,[],rfl,Aj _,nofun,rfl,nofun] (by
  rintro p k q e J ⟨c,qs,rfl,r1,r2,r3,r4⟩;have hpk:p.length=k:=by
   have h:=congrArg (λ l=>l[p.length]?) e;have hp:p.length<os.length:=by have:=congrArg List.length e;simp at this;lia
   simp[hp] at h;show h
  have hk:k<os.length:=by
   have:k∈List.range os.length:=by rw[e];simp
   exists this
  let#[s,s1,s2]:=dN (os:=os) (p:=(k:Int)) ⋯ ⋯ ho "keeper";have tn:=YF os k hk s "keeper" s1 c (qs.map zm) (by simp;lia) mJ rfl;have ek:keeps os (k:Int)=(s == "keeper"):=by unfold keeps;rw[s2]
  by_cases hc:(s == "keeper")=true/\c%2=1
  .rw[if_pos hc] at tn;exact#[_,tn,c/624,qs++[[(k:Int),c/2%2,1+c/4%12,c/48%13]],#[],by simp;lia,λ r hr=>?_,?_,λ n hn=>?_]
   .rcases AV.mp hr with z | z
    .show r2 r z
    .cases AK.mp z;show#[_,_,_,_,rfl,⋯,⋯,⋯,⋯,by rw[ek];show hc.1]
   .rw[Bf];exact gk _ _ r3 λ n hn=>?_;have:=r4 n hn;change n<(k:Int);lia
   .rw[Bf] at hn;rcases AV.mp hn with z | z
    .have:=r4 n z;simp;lia
    .have:n=(k:Int):=by simpa [fst] using z
     simp;lia
  .rw[if_neg hc,Bx] at tn;show#[_,tn,c/624,qs,#[],by simp;lia,r2,r3,λ n hn=>by have:=r4 n hn;simp;lia])
 subst h2;exact#[qs,?_,?_,by simp at h3;lia]
 .have hr:=rh os.length ⋯;simp![Int.zero_add] at h1 hr;unfold lx Zp;generalize mJ=bb at h1 ⊢;simp[hr,h1]
 .simp![wL,rg,h5,Bool.true_and,AX];exact#[A9.mpr λ t ht=>?_,A9.mpr λ n hn=>?_]
  .let#[r,hr,rfl]:=AA.mp ht;show (h4 r hr).row
  .let#[r,hr,rfl]:=AA.mp hn;let#[a,b,c,d,rfl,_,_,_,_,h]:=h4 r hr;show h
def gU (b m e:T):Sm:=
 (zo (zU (oh (y7 (zb 2)) (yn (zc xr (zb 1) (zi xb (za (zb 0) ze))))) (retS (zc zZ (zc zr (zb 0) (zb 1)) (zc pj (cS b) (cS m)))) yb)
 (zo (zK 3 (zi sL (za (zp 0) (za (zp 1) ze))))
 (retS (zc zq (zc yN (zc yN (zb 3) (zb 3)) (zb 3)) (zc yN (cS e) (zb 3))))))
def Xg (b m e:Int) (ns:List Int) (k:Nat) (d:Bool) (hk:k<=1000) (hp:sR b m) (hm:0<b ^ m.toNat) (he:∀ i,wg e i) (hx:∀ i j:Int,0<=i->i<2147483629->wg j i):
  ∃ c,t8 (gU (.int b) (.int m) (.int e) [↑(.im (yH ns)),↑(.im (.int k)),↑(.im (.bl d)),none])=↑(.int c):=by
 have BE:=oP ns k hk;let#[m0,m1]:=pP ns k;generalize mixed ns k=q at *;have x1:=hx q q m0 m1;have x2:=hx q (q*q) m0 m1;unfold gU yH at *;cases d
 .show#[_,by simp[BE,wu,x1,x2,he,t8];rfl]
 .by_cases h:k<ns.length
  .have z:L2.zP (ns.map T.int) (k:Int)=↑(.int (ns.getD k 0)):=wD (by simp[h]);have h':(k:Int)<(ns.length:Int):=⋯;show#[_,by simp[h,h',z,xr,hp,hm,t8];rfl]
  .have h':¬ (k:Int)<(ns.length:Int):=⋯;show#[_,by simp[h,h',xr,BE,wu,x1,x2,he,t8];rfl]
def OT (ns:List Int) (k:Nat) (d:Bool) (hk:k<=1000):∃ c,i6 [yH ns,.int (k:Int),.bl d]=↑(.int c):=
 Xg 10 64 104729 ns k d hk #[(),(),()] () (λ i=>.inl #[(),()]) (λ i j h1 h2=>.inr #[⋯,⋯])
def O9 (x:Int) (h:0<=x):Builtin.bitAnd x 1=0\/Builtin.bitAnd x 1=1:=by
 have e:Builtin.bitAnd x 1=((x.toNat &&& 1:Nat):Int):=by
  unfold Builtin.bitAnd;simp[h]
 rw[e,Nat.and_one_is_mod];lia
def kt (b:Bool):T:=cond b (.str "keeper") (.str "taker")
def dF (b:Bool):vR (kt b)=true:=by cases b <;> decide
def UB (k l:Str) (s a m b e x:T) (p:Nat) (num:Int) (h0:0<=num) (El:List T) (hl:El.length<=1000) (u v:Option W) (bb:Sm)
  (hb:bb=(wZ 6 (zc zr (yk (za (cS (.str k)) (za (cS (.str l)) ze))) (zc jO (zc l_ (zb 5) (zb 7)) (cI 1))))):
  ∃ y,(y=.str k\/y=.str l)/\turn (zG 7) bb (.int (0+(p:Int))) [↑(.im s),↑(.im a),↑(.im m),↑(.im b),↑(.im e),↑(.im (.int num)),↑(.own (.lst El)),none,u,v] =
   ↑(.nx [↑(.im s),↑(.im a),↑(.im m),↑(.im b),↑(.im e),↑(.im (.int num)),↑(.own (.lst (El++[y]))),↑(.im (.int (p:Int))),u,v]):=by
 have FP:El.length<16777216:=⋯;have cc:(0:Int)+(p:Int)=(p:Int):=⋯;have hq:0<=num/2 ^ (p:Int).toNat:=Int.ediv_nonneg h0 (Int.pow_nonneg ());rw[cc];subst hb;unfold turn;have tn:(p:Int).toNat=p:=#[];rw[tn] at hq;rcases O9 _ hq with h | h
 .show#[.str k,.inl rfl,by simp[h,FP]]
 .show#[.str l,.inr rfl,by simp[h,FP]]
def four (x:Int):x%4=0\/x%4=1\/x%4=2\/x%4=3:=⋯
def Nf (ns:List Int) (at' Em more:Nat) (br:T) (ha:at'<=50) (hm:1<=Em) (Jp:Em<=8) (Dy:more<=16):
  ∃ (os:List T) (rs qs:List (List Int)),qJ [yH ns,.int at',.int Em,br,.int more]=↑(.tup [br,.tup os,.tup (rs.map zm),.tup (qs.map zm)])/\os.length=Em/\os.all vR=true/\
   wj (.tup (rs.map zm)) Em=true/\wL (.tup (qs.map zm)) os=true/\rs≠[]/\rs.length<=24/\qs.length<=8/\∀ r∈rs,sS Em r:=by
 have BE:=oP ns at' ⋯;let#[m0,m1]:=pP ns at';generalize mixed ns at'=num at *;let#[J',h1,os,h2,h3,h4]:=rn (is:=[7]) (g:=zG 7) (b:=oA) (λ k:Nat=>T.int (0+(k:Int))) (λ p J=>∃ os:List T,J=[↑(.im (yH ns)),↑(.im (.int at')),↑(.im (.int Em)),↑(.im br),↑(.im (.int more)),↑(.im (.int num)),↑(.own (.lst os)),none,none,none]/\os.length=p.length/\os.all vR=true)
   (List.range Em) [↑(.im (yH ns)),↑(.im (.int at')),↑(.im (.int Em)),↑(.im br),↑(.im (.int more)),↑(.im (.int num)),↑(.own (.lst [])),none,none,none] #[[],rfl,rfl,rfl] (by
  rintro p k q e J ⟨os,rfl,r1,r2⟩;have hp:p.length<Em:=by have:=congrArg List.length e;simp at this;lia
  let#[y,y1,y2]:=UB "keeper" "taker" (yH ns) (.int at') (.int Em) br (.int more) (.int 0) k num m0 os ⋯ none none oA rfl;exact#[_,y2,os++[y],rfl,by simp[r1],?_];rw[List.all_append,r2];rcases y1 with z | z
  .subst z;show dF true
  .subst z;show dF false)
 subst h2;have B5:os.length=Em:=by exists h3
 have Ic:yA num 256:=#[(),()];have G3:yA num 1024:=#[(),()];have Ib:yA num 3072:=#[(),()];obtain⟨span,s1,s2,s3⟩:∃ span:Int,1<=span/\span<=12/\L2.zP [T.int 1,.int 2,.int 3,.int 12] (num/256%4)=↑(.int span):=by
  rcases four (num/256) with h | h | h | h <;> rw[h]
  .show#[1,(),(),rfl]
  .show#[2,(),(),rfl]
  .show#[3,(),(),rfl]
  .show#[12,(),(),rfl]
 let#[rs,w1,w2,w3,w4,w5]:=Nc ns (at' + 2) Em more span ⋯ hm Jp Dy s1 s2;let#[cell,c1]:=OT ns (at' + 1) (decide (num/3072%2=1)) ⋯;let#[qs,q1,q2,q3]:=Nd cell os h4 ⋯;have hr:=rh Em ⋯;simp![Int.zero_add] at h1 hr;have e1:((at' + 1:Nat):Int)=(at':Int)+1:=⋯;have e2:((at' + 2:Nat):Int)=(at':Int)+2:=⋯;rw[e1] at c1;rw[e2] at w1;by_cases AJ:num/1024%3=1
 .exact#[os,rs,qs,?_,B5,h4,w2,q2,w3,w4,q3,w5];unfold qJ iK;generalize oA=bb at h1 ⊢;simp[BE,hr,h1,Ic,G3,Ib,s3,eq_int,AJ,c1,q1,w1]
 .exact#[os,rs,[],?_,B5,h4,w2,?_,w3,w4,#[],w5]
  .unfold qJ iK;generalize oA=bb at h1 ⊢;simp[BE,hr,h1,Ic,G3,s3,eq_int,AJ,w1]
  .simp[wL,xU]
def QY {br:T}{os:List T}{rs qs:List (List Int)}{Em:Nat}(hb:yc br [(0,12),(0,12)]=true) (h1:os.length=Em) (hm:1<=Em) (Jp:Em<=8) (h2:os.all vR=true) (h3:wj (.tup (rs.map zm)) Em=true) (h4:wL (.tup (qs.map zm)) os=true):
  xt (.tup [br,.tup os,.tup (rs.map zm),.tup (qs.map zm)])=true:=by
 have eo:wO (.tup os)=true:=by
  have a:1<=os.length:=⋯;have b:os.length<=8:=⋯;simp[wO,a,b,h2]
 unfold xt;simp![hb,eo,h1,h3,h4,CP]
theorem PK {α:Type}(xs:List α) (i:Nat) (h:i<=xs.length):yQ xs none ↑(i:Int)=xs.take i:=by
 unfold yQ;have e:HT.zu xs.length xs.length ↑(i:Int)=i:=by
  change (if (i:Int)<0 then ((i:Int)+(xs.length:Int)).toNat else min (i:Int).toNat xs.length)=i;rw[if_neg ⋯];lia
 have e2:HT.zu xs.length 0 none=0:=rfl;rw[e,e2];simp
theorem PL {α:Type}(xs:List α) (i:Nat) (h:i<=xs.length):yQ xs ↑(i:Int) none=xs.drop i:=by
 unfold yQ;have e:HT.zu xs.length 0 ↑(i:Int)=i:=by
  change (if (i:Int)<0 then ((i:Int)+(xs.length:Int)).toNat else min (i:Int).toNat xs.length)=i;rw[if_neg ⋯];lia
 have e2:HT.zu xs.length xs.length none=xs.length:=rfl;rw[e,e2];rw[DH #[]]
end ym
namespace ym
open PySem L2 L3 L5 SJ
def num (n:Int):Str:=(toString n:String)
def nums:List Int:=(List.range 25).map λ(k:Nat)=>(-12:Int)+(k:Int)
def wd (w:Str):Option Int:=if (("a":Str) == w)=true then ↑0 else if (("b":Str) == w)=true then ↑1 else nums.find? λ n=>w == num n
def oT:Option Int->T
 | none=>.zk
 | some n=>.int n
def yC (r:List (Option Int)):T:=.tup (r.map oT)
def cM {α:Type}(ret:α->T) (J0:Ev):Option α->Out
 | some x=>.rt (ret x)
 | none=>.nx J0
theorem dv {α:Type}{is:List Nat}{g:T->Ev->Option Ev}{b:Sm}(enc ret:α->T) (test:α->Bool) (J0:Ev):∀ (xs:List α) (J:Ev),xi is J=J0->
  (∀ x∈xs,∃ J',xi is J'=J0/\turn g b (enc x) J0=↑(if test x=true then .rt (ret x) else .nx J'))->
  xF is g b (xs.map enc) J=↑(cM ret J0 (xs.find? test))
 | [],J,h,_=>by rw[A8,List.find?_nil,xF,h];rfl
 | x::xs,J,h,ht=>by
  rw[AD,dw,h];let#[J',h1,h2]:=ht x Az;rw[h2,List.find?_cons];by_cases c:test x=true
  .rw[if_pos c,c];rfl
  .rw[if_neg c];rw[Dh] at c;rw[c];show dv enc ret test J0 xs J' h1 λ y hy=>ht y (AG _ hy)
def nY {n:Int}(h:-1000000<=n/\n<=1000000):yo [.int n]=↑(.str (num n)):=if_pos h
def Q5 (w k l:Str) (h:(k == w||l == w)=true):pW (.tup ([k,l].map T.str)) (.str w)=↑(oT (if (k == w)=true then ↑0 else ↑1)):=by
 have e:tw ([k,l].map T.str)=↑[k,l]:=rfl;unfold pW;dsimp only;rw[e,BQ];by_cases hk:k=w
 .subst hk;simp[oT]
 .have hl:l=w:=by
   rw[Di,beq_iff_eq,beq_iff_eq] at h;show h.resolve_left hk
  subst hl;simp[oT,hk,List.idxOf_cons];simp[beq_eq_false_iff_ne.mpr hk]
def zY {f:T->T->Option T}{fa fb:Ae}{J:Ev}{x y:T}{r:Option T}(h1:fa J=↑x) (h2:fb J=↑y) (h:f x y=r):zc f fa fb J=r:=by change (fa J).bind _=_;rw[h1];change (fb J).bind _=_;rw[h2];show h
def t5 {F:Ak}{g:Ae}{u:Ev->Option (List T)}{J:Ev}{y:Str}{xs:List T}{r:Option T}(h1:g J=↑(.str y)) (h2:u J=↑xs) (h:F (.str y::xs)=r):xn F g u J=r:=by change (g J).bind _=_;rw[h1];change (u J).bind _=_;rw[h2];show h
def yd {F:Ak}{g:Ae}{J:Ev}{x:T}{r:Option T}(h:g J=↑x) (hF:F [x]=r):zi F (za g ze) J=r:=by change ((g J).bind _).bind _=_;rw[h];show hF
def ZL (w:Str):xF [1] (zG 1) jR (nums.map T.int) [↑(.im (.str w)),none]=↑(cM T.int [↑(.im (.str w)),none] (nums.find? λ n=>w == num n)):=by
 exact dv (is:=[1]) T.int T.int (λ n=>w == num n) [↑(.im (.str w)),none] nums [↑(.im (.str w)),none] rfl λ n hn=>#[[↑(.im (.str w)),↑(.im (.int n))],rfl,?_];have hb:-1000000<=n/\n<=1000000:=by
  let#[k,hk,rfl]:=AA.mp hn;rw[A6] at hk;lia
 change jR [↑(.im (.str w)),↑(.im (.int n))]=_;have h1:zc (zV false) (zb 0) (zi yo (za (zb 1) ze)) [↑(.im (.str w)),↑(.im (.int n))]=↑(.bl (w == num n)):=zY rfl (yd rfl (nY hb)) (eq_str w (num n) false);cases hc:(w == num n) with
 | true=>show u0 (uv (hc▸h1)) rfl
 | false=>show xh (uv (hc▸h1)) rfl
def OL (w:Str):ll [.str w]=↑(oT (wd w)):=by
 have A4:zc (vV false) (zb 0) (qy ["a","b"]) [↑(.im (.str w)),none]=↑(.bl (("a":Str) == w||("b":Str) == w)):=zY rfl rfl (jd w "a" "b" _ rfl);have hr:xf qf (za (pL (cI 12)) (za (zc zq (cI 12) (cI 1)) ze)) [↑(.im (.str w)),none]=↑(nums.map T.int):=rfl;unfold ll wd;exact xa ?_ rfl;unfold Zl;cases hc:(("a":Str) == w||("b":Str) == w) with
 | true=>
  exact t6 (u0 (uv (hc▸A4)) (xN ((zY rfl rfl (Q5 w "a" "b" hc)).trans ?_)));by_cases ha:(("a":Str) == w)=true
  .rw[if_pos ha,if_pos ha]
  .rw[if_neg ha,if_neg ha,if_pos];rw[Dh] at ha;rw[ha,Bool.false_or] at hc;show hc
 | false=>
  exact zD (xh (uv (hc▸A4)) rfl) ?_;rw[Bool.or_eq_false_iff] at hc;rw[hc.1,hc.2,if_neg Bd,if_neg Bd];have hl:=ZL w;cases hf:nums.find? (λ n=>w == num n) with
  | some n=>rw[hf] at hl;show t6 (si hr hl)
  | none=>rw[hf] at hl;show zD (si hr hl) rfl
def aI (ws:List Str) (h:ws.length<=16777216):rW [.lst (ws.map T.str)]=↑(yC (ws.map wd)):=by
 exact xa (xN (yd (x:=.lst ((ws.map wd).map oT)) ?_ rfl)) rfl;unfold bM;rw[AY];show xX T.str _ ws rfl h λ w hw=>by simp[xG,OL]
theorem YI {x y:Str}(hy:1<=y.length) (hx:x.length<=1000000):qc x y:=by
 have e:sizeLine=16777216:=rfl;have h1:=PyProof.Rows.split_weight x y hy;have h2:=StrLaws.occ_length_le x y 0 x.length (x.length+1);exact#[⋯,⋯,?_,⋯];rw[PyProof.Rows.len_partsBetween];lia
def nD {x y:Str}(hy:1<=y.length) (hx:x.length<=1000000):vK [.str x,.str y]=↑(.lst ((Txt.split x y).map T.str)):=if_pos (YI hy hx)
def nC {x y:Str}(hy:1<=y.length):(Txt.split x y).length<=x.length+1:=by
 have h1:=PyProof.Rows.split_weight x y hy;lia
def b7 (ws:List Str):rG ↑1 none (.lst (ws.map T.str))=↑(.lst ((ws.drop 1).map T.str)):=by
 change ↑(T.lst (yQ _ _ _))=_;rw[j6,B0]
def xO (p:Str):List (Option Int):=((Txt.split p " ").drop 1).map wd
def nQ (p:Str):List (Option Int):=(Txt.split (Txt.replace p ">" " ") " ").map wd
def Xr (p:Str):(Txt.replace p ">" " ").length=p.length:=by
 have h:=congrArg Str.length (StrLaws.join_split p ">");have e:Txt.replace p ">" " "=Str.join " " (Txt.split p ">"):=StrLaws.replace_one p " " 62;rw[e];exact Eq.trans ?_ h;cases hs:Txt.split p ">" with
 | nil=>rfl
 | cons a l=>rw[PyProof.Rows.len_join_cons,PyProof.Rows.len_join_cons];rfl
theorem fy {g:Ae}{J:Ev}{p:Str}(h:g J=↑(.str p)) (hp:p.length<=1000000):zi rW (za (yB (xn vK g (za (cS (.str " ")) ze)) ↑(cI 1) none) ze) J=↑(yC (xO p)):=by
 have hm:=nC (x:=p) (y:=" ") ();exact yd (x:=.lst (((Txt.split p " ").drop 1).map T.str)) ?_ (aI _ (by rw[BU];lia));change (xn vK g _ J).bind _=_;rw[t5 h rfl (nD () hp)];show b7 _
theorem Xw {g:Ae}{J:Ev}{p:Str}(h:g J=↑(.str p)) (hp:p.length<=1000000):zi rW (za (xn vK (kf ">" " " g) (za (cS (.str " ")) ze)) ze) J=↑(yC (nQ p)):=by
 have hl:=Xr p;have hm:=nC (x:=Txt.replace p ">" " ") (y:=" ") ();exact yd (t5 (y:=Txt.replace p ">" " ") ?_ rfl (nD () ⋯)) (aI _ ⋯);change (g J).bind _=_;rw[h];show if_pos hp
abbrev Rd:=List Str×List (List (Option Int))×List (List (Option Int))
def uJ (p:Str):Bool:=("keeper":Str) == p||("taker":Str) == p
def qW (p:Str):Bool:=Txt.startswith p "stall "
def yw (s:Rd) (p:Str):Rd:=if uJ p=true then (s.1++[p],s.2.1,s.2.2) else if qW p=true then (s.1,s.2.1,s.2.2++[xO p]) else (s.1,s.2.1++[nQ p],s.2.2)
def u7 (a:T) (s:Rd) (v:Option L5.W):Ev:=[↑(.im a),↑(.own (.lst (s.1.map T.str))),↑(.own (.lst (s.2.1.map yC))),↑(.own (.lst (s.2.2.map yC))),v,none]
def Y8 (s:Rd) (p:Str):(yw s p).1.length+(yw s p).2.1.length+(yw s p).2.2.length=s.1.length+s.2.1.length+s.2.2.length+1:=by
 unfold yw;split
 .simp;lia
 .split <;> simp <;> lia
theorem m5:∀ (ps:List Str) (s:Rd),(ps.foldl yw s).1.length+(ps.foldl yw s).2.1.length+(ps.foldl yw s).2.2.length=s.1.length+s.2.1.length+s.2.2.length+ps.length
 | [],s=>rfl
 | p::ps,s=>by
  have h:=m5 ps (yw s p);have h':=Y8 s p;rw[Cr,Ba];lia
theorem U9 (a:T) (s:Rd) (p:Str) (hp:p.length<=1000000) (hl:s.1.length+s.2.1.length+s.2.2.length<=10000):turn (zG 4) o8 (.str p) (u7 a s none)=↑(.nx (u7 a (yw s p) ↑(.im (.str p)))):=by
 change o8 (u7 a s ↑(.im (.str p)))=_;have A4:zc (vV false) (zb 4) (tupS (za (cS (.str "keeper")) (za (cS (.str "taker")) ze))) (u7 a s ↑(.im (.str p)))=↑(.bl (uJ p)):=zY rfl (vj rfl ()) (jd p "keeper" "taker" _ rfl);have AJ:xn nv (zb 4) (za (cS (.str "stall ")) ze) (u7 a s ↑(.im (.str p)))=↑(.bl (qW p)):=t5 rfl rfl rfl;unfold yw o8;cases h1:uJ p with
 | true=>
  exact u0 (uv (h1▸A4)) ((oE rfl rfl (by rw[An];lia)).trans ?_);rw[if_pos rfl];change _=↑(Out.nx (u7 a (s.1++[p],s.2.1,s.2.2) _));unfold u7;rw[Bf];rfl
 | false=>
  exact xh (uv (h1▸A4)) ?_;rw[if_neg Bd];cases h2:qW p with
  | true=>
   exact u0 (tq (h2▸AJ)) ((oE rfl (fy rfl hp) (by rw[An];lia)).trans ?_);rw[if_pos rfl];unfold u7;rw[Bf];rfl
  | false=>
   exact xh (tq (h2▸AJ)) ((oE rfl (Xw rfl hp) (by rw[An];lia)).trans ?_);rw[if_neg Bd];unfold u7;rw[Bf];rfl
def xE (b:List (Option Int)) (s:Rd):T:=.tup [yC b,.tup (s.1.map T.str),.tup (s.2.1.map yC),.tup (s.2.2.map yC)]
theorem OZ (p0:Str) (ps:List Str) (hs:∀ p∈p0::ps,p.length<=1000000) (hl:ps.length<=10000):lq [.lst ((p0::ps).map T.str)]=↑(xE (xO p0) (ps.foldl yw ([],[],[]))):=by
 let#[J',h1,h2]:=rn (is:=[4]) (g:=zG 4) (b:=o8) T.str (λ q J=>J=u7 (.lst ((p0::ps).map T.str)) (q.foldl yw ([],[],[])) none) ps (u7 (.lst ((p0::ps).map T.str)) ([],[],[]) none) rfl (by
  rintro q x r e J rfl;have hx:x∈ps:=by rw[e];simp
  have hq:q.length<=10000:=by have:=congrArg List.length e;simp at this;lia
  have hf:=m5 q ([],[],[]);simp![BV,Nat.zero_add] at hf;exact#[_,U9 _ _ x (hs x (AG _ hx)) ⋯,?_];rw[DF];rfl)
 subst h2;exact xa ?_ rfl;unfold Zm;exact zD rfl (zD rfl (zD rfl (zD (si ?_ h1) ?_)))
 .change (rG ↑1 none (.lst ((p0::ps).map T.str))).bind wq=_;rw[b7];rfl
 .exact zD (yR (fy (p:=p0) ?_ (hs p0 Az))) (xN ?_)
  .show zY rfl rfl (wD (k:=0) rfl)
  .show vj (xs:=[yC (xO p0),_,_,_]) rfl (by change 4<=100;decide)
def Nm (n:Int):Prop:=-12<=n/\n<=13
def Rv:((List.range 26).all λ(k:Nat)=>decide ((num ((k:Int)-12)).length<=3)&&(!(L (num ((k:Int)-12))).contains 59&&(!(L (num ((k:Int)-12))).contains 62&&(!(L (num ((k:Int)-12))).contains 32&&(decide ((L (num ((k:Int)-12))).head?≠↑115)&&decide (wd (num ((k:Int)-12))=if (k:Int)-12<=12 then ↑((k:Int)-12) else none))))))=true:=()
theorem wQ {n:Int}(h:Nm n):(num n).length<=3/\59∉L (num n)/\62∉L (num n)/\32∉L (num n)/\(L (num n)).head?≠↑115/\wd (num n)=if n<=12 then ↑n else none:=by
 have hk:=A9.mp Rv (n+12).toNat (by rw[A6];have:=h.1;have:=h.2;lia);have e:(((n+12).toNat:Nat):Int)-12=n:=by have:=h.1;lia
 rw[e] at hk;simp![AX,decide_eq_true_eq,Dq,List.contains_eq_mem,decide_eq_false_iff_not] at hk;show hk
def uU (f:Ae) (J:Ev) (a:Str) (n:Nat):Prop:=f J=↑(.str a)/\a.length<=n
theorem xZ {f g:Ae}{J:Ev}{a b:Str}{n m:Nat}(h:uU f J a n) (h':uU g J b m) (hn:n+m<=1000000:=by decide):uU (zc zq f g) J (a++b) (n+m):=by
 have e:sizeLine=16777216:=rfl;have h1:=h.2;have h2:=h'.2;exact#[zY h.1 h'.1 (if_pos ⋯),?_];rw[Str.length_append];lia
theorem uL {i:Nat}{k:Int}{J:Ev}{ts:List T}{n:Int}(h0:zp i J=↑(.tup ts)) (hk:L2.zP ts k=↑(.int n)) (hn:Nm n):uU (zi yo (za (zc zr (zb i) (cS (.int k))) ze)) J (num n) 3:=by
 have e:zb i J=↑(.tup ts):=by
  unfold zp at h0;unfold zb;split at h0
  .rename_i e;rw[e];show h0
  .cases h0
 show#[yd (zY e rfl hk) (nY (by have:=hn.1;have:=hn.2;lia)),(wQ hn).1]
def cB {J:Ev}(a:Str) (n:Nat) (h:a.length<=n:=by decide):uU (cS (.str a)) J a n:=#[rfl,h]
def vm (b:Int):Str:=if b=0 then "a" else "b"
def yG:List Int->Str
 | [a,b,c,d]=>num a++">"++num b++" "++num c++" "++num d
 | _=>""
def xo:List Int->Str
 | [a,b,c,d]=>"stall "++num a++" "++vm b++" "++num c++" "++num d
 | _=>""
def wY (x y:Int):Str:="brims "++num x++" "++num y
def vH (r:List Int):Prop:=∃ a b c d,r=[a,b,c,d]/\Nm a/\Nm b/\Nm c/\Nm d
def ux (r:List Int):Prop:=∃ a b c d,r=[a,b,c,d]/\Nm a/\(b=0\/b=1)/\Nm c/\Nm d
def wB {f:Nat}{J:Ev}{r:List Int}(h:vH r) (h0:zp f J=↑(zm r)):
  uU (zc zq (zc zq (zc zq (zc zq (zc zq (zc zq (zi yo (za (zc zr (zb f) (cI 0)) ze)) (cS (.str ">"))) (zi yo (za (zc zr (zb f) (cI 1)) ze))) (cS (.str " "))) (zi yo (za (zc zr (zb f) (cI 2)) ze))) (cS (.str " "))) (zi yo (za (zc zr (zb f) (cI 3)) ze))) J (yG r) 20:=by
 let#[a,b,c,d,rfl,ha,hb,hc,hd]:=h;have z:=xZ (xZ (xZ (xZ (xZ (xZ (uL h0 (k:=0) rfl ha) (cB ">" 1)) (uL h0 (k:=1) rfl hb)) (cB " " 1)) (uL h0 (k:=2) rfl hc)) (cB " " 1)) (uL h0 (k:=3) rfl hd);show#[z.1,AF z.2 ()]
def OP {r:List Int}(h:vH r):ix [zm r]=↑(.str (yG r)):=xa (xN (wB (f:=0) h rfl).1) rfl
def X9 {b:Int}(h:b=0\/b=1):zr (.tup ((["a","b"]:List Str).map T.str)) (.int b)=↑(.str (vm b)):=by
 rcases h with rfl | rfl <;> rfl
theorem XA {b:Int}(h:b=0\/b=1):zr (.str "ab") (.int b)=↑(.str (vm b)):=by
 have hl:("ab":Str).length<=sizeLine:=()
 exact (if_pos (e:=none) hl).trans ?_;rcases h with rfl | rfl <;> rfl
def OU {r:List Int}(h:ux r):iy [zm r]=↑(.str (xo r)):=by
 let#[a,b,c,d,rfl,ha,hb,hc,hd]:=h;have h0:zp 0 [↑(.im (zm [a,b,c,d]))]=↑(.tup [.int a,.int b,.int c,.int d]):=rfl;have hp:uU (zc zr (qy ["a","b"]) (zc zr (zb 0) (cI 1))) [↑(.im (zm [a,b,c,d]))] (vm b) 1:=#[zY rfl rfl (X9 hb),by rcases hb with rfl | rfl <;> decide];show xa (xN (xZ (xZ (xZ (xZ (xZ (xZ (xZ (cB "stall " 6) (uL h0 (k:=0) rfl ha)) (cB " " 1)) hp) (cB " " 1)) (uL h0 (k:=2) rfl hc)) (cB " " 1)) (uL h0 (k:=3) rfl hd)).1) rfl
def zT (x y:Int) (os:List Str) (ws qs:List (List Int)):List Str:=wY x y::(os++(ws.map yG++qs.map xo))
def zH (x y:Int) (os:List Str) (ws qs:List (List Int)):T:=.tup [xy (x,y),.tup (os.map T.str),.tup (ws.map zm),.tup (qs.map zm)]
structure xR (x y:Int) (os:List Str) (ws qs:List (List Int)):Prop where
 x:Nm x
 y:Nm y
 o:∀ p∈os,uJ p=true
 w:∀ r∈ws,vH r
 q:∀ r∈qs,ux r
 ln:os.length+ws.length+qs.length<=60
def kB {p:Str}(h:uJ p=true):p="keeper"\/p="taker":=by
 unfold uJ at h;rw[Di,beq_iff_eq,beq_iff_eq] at h;show h.imp Eq.symm Eq.symm
theorem gX {r:List Int}(h:ux r):(xo r).length<=20:=by
 let#[a,b,c,d,rfl,ha,hb,hc,hd]:=h;have hp:(vm b).length<=1:=by rcases hb with rfl | rfl <;> decide
 have e:("stall ":Str).length=6:=()
 have e1:(" ":Str).length=1:=()
 have h1:=(wQ ha).1;have h2:=(wQ hc).1;have h3:=(wQ hd).1;simp![xo,Str.length_append];lia
def ZU {r:List Int}(h:vH r):(yG r).length<=20:=(wB (f:=0) (J:=[↑(.im (zm r))]) h rfl).2
def bB {f:Nat}{J:Ev}{x y:Int}{ts:List T}(hx:Nm x) (hy:Nm y) (h0:zb f J=↑(.tup (xy (x,y)::ts))):
  uU (zc zq (zc zq (zc zq (cS (.str "brims ")) (zi yo (za (zc zr (zc zr (zb f) (cI 0)) (cI 0)) ze))) (cS (.str " "))) (zi yo (za (zc zr (zc zr (zb f) (cI 0)) (cI 1)) ze))) J (wY x y) 20:=by
 have e:zc zr (zb f) (cI 0) J=↑(xy (x,y)):=zY h0 rfl (wD (k:=0) rfl);have hX:uU (zi yo (za (zc zr (zc zr (zb f) (cI 0)) (cI 0)) ze)) J (num x) 3:=#[yd (zY e rfl rfl) (nY (by have:=hx.1;have:=hx.2;lia)),(wQ hx).1];have hY:uU (zi yo (za (zc zr (zc zr (zb f) (cI 0)) (cI 1)) ze)) J (num y) 3:=#[yd (zY e rfl rfl) (nY (by have:=hy.1;have:=hy.2;lia)),(wQ hy).1];have z:=xZ (xZ (xZ (cB "brims " 6) hX) (cB " " 1)) hY;show#[z.1,AF z.2 ()]
def fX {x y:Int}{os:List Str}{ws qs:List (List Int)}(h:xR x y os ws qs):∀ p∈zT x y os ws qs,p.length<=20:=λ p hp=>by
 rcases Ao.mp hp with rfl | hp
 .show (bB (f:=0) (J:=[↑(.im (.tup [xy (x,y)]))]) h.x h.y rfl).2
 .rcases AV.mp hp with hp | hp
  .rcases kB (h.o p hp) with rfl | rfl <;> decide
  .rcases AV.mp hp with hp | hp
   .let#[r,hr,rfl]:=AA.mp hp;show ZU (h.w r hr)
   .let#[r,hr,rfl]:=AA.mp hp;show gX (h.q r hr)
def gA {ps:List Str}{n:Nat}:(∀ p∈ps,p.length<=n)->(ps.map (·.length)).sum<=ps.length*n:=by
 induction ps with
 | nil=>show λ _=>AZ _
 | cons p ps ih=>
  intro h;have h1:=h p Az;have h2:=ih λ q hq=>h q (AG _ hq);rw[AD,List.sum_cons,Ba,Nat.succ_mul];lia
theorem gC:∀ ss:List Str,tw (ss.map T.str)=↑ss
 | []=>rfl
 | s::ss=>by change (tw (ss.map T.str)).map _=_;rw[gC ss];rfl
theorem kY {sep:Str}{ps:List Str}(hs:sep.length<=8) (h:(ps.map (·.length)).sum+ps.length*8<=1000000):vS [.str sep,.lst (ps.map T.str)]=↑(.str (Str.join sep ps)):=by
 have e:tw (ps.map T.str)=↑ps:=gC ps;have h1:ps.length*sep.length<=ps.length*8:=Nat.mul_le_mul_left _ hs;change (tw (ps.map T.str)).bind _=_;rw[e,BQ,if_pos (PyProof.Rows.joinOk_of ⋯)];show congrArg (λ z=>↑(T.str z)) (StrLaws.glued_eq_join sep ps)
theorem fY {x y:Int}{os:List Str}{ws qs:List (List Int)}(h:xR x y os ws qs):vS [.str "; ",.lst ((zT x y os ws qs).map T.str)]=↑(.str (Str.join "; " (zT x y os ws qs))):=by
 exact kY () ?_;have h1:=gA (fX h);have hl:(zT x y os ws qs).length<=101:=by
  have:=h.ln;simp![zT,Ba,Bg,An];lia
 have:(zT x y os ws qs).length*20<=101*20:=CM _ hl;have:(zT x y os ws qs).length*8<=101*8:=CM _ hl;lia
def bZ {i:Nat}{f:Ae}{J:Ev}{ts:List T}(h:f J=↑(.lst ts)):uB i f J=↑(.nx (J.set i ↑(.own (.lst ts)))):=by change (f J).bind _=_;rw[h];rfl
theorem qi {u:Ev->Option (List T)}{J:Ev}{xs:List T}(hu:u J=↑xs) (hl:xs.length<=100):yk u J=↑(.lst xs):=by change (u J).bind _=_;rw[hu];show if_pos (AF hl ())
theorem Pp {i:Nat}{f:Ae}{J:Ev}{ts us:List T}(h0:J[i]?=↑↑(.own (.lst ts))) (h:f J=↑(.tup us)) (hl:ts.length+us.length<=10000):pZ i f J=↑(.nx (J.set i ↑(.own (.lst (ts++us))))):=by
 unfold pZ;rw[h0];dsimp only;rw[h];show if_pos (AF hl ())
theorem cU {i:Nat}{f:Ae}{J:Ev}{ts us:List T}(h0:J[i]?=↑↑(.own (.lst ts))) (h:f J=↑(.lst us)) (hl:ts.length+us.length<=10000):qw i f J=↑(.nx (J.set i ↑(.own (.lst (ts++us))))):=by
 unfold qw;rw[h0];dsimp only;rw[h];show if_pos (AF hl ())
def eN {f:Ae}{J:Ev}{ts:List T}{k:Nat}{zs:List T}(h:f J=↑(.tup ts)) (hk:ts[k]?=↑(.tup zs)):xc (zc zr f (cS (.int k))) J=↑zs:=by
 change (zc zr f (cS (.int k)) J).bind _=_;rw[zY h rfl (wD hk)];rfl
def mK {f g:Ae}{J:Ev}{ts us:List T}(h:f J=↑(.lst ts)) (h':g J=↑(.lst us)) (hl:ts.length+us.length<=10000):zc zq f g J=↑(.lst (ts++us)):=zY h h' (if_pos (AF hl ()))
section
variable {x y:Int}{os:List Str}{ws qs:List (List Int)}
theorem lj (h:xR x y os ws qs):rV [zH x y os ws qs]=↑(.str (Str.join "; " (zT x y os ws qs))):=by
 have hln:=h.ln;have e:sizeLine=16777216:=rfl;have hb:=(bB (f:=0) (J:=[↑(.im (zH x y os ws qs)),none]) (ts:=[.tup (os.map T.str),.tup (ws.map zm),.tup (qs.map zm)]) h.x h.y rfl).1;have GO:∀ a,jE [↑(.im (zH x y os ws qs)),a]=↑(.lst ((ws.map yG).map T.str)):=λ a=>by
  unfold jE;rw[AY];show xX zm _ ws rfl ⋯ λ r hr=>by simp[xG,OP (h.w r hr)]
 have FT:∀ a,jB [↑(.im (zH x y os ws qs)),a]=↑(.lst ((qs.map xo).map T.str)):=λ a=>by
  unfold jB;rw[AY];show xX zm _ qs rfl ⋯ λ r hr=>by simp[xG,OU (h.q r hr)]
 exact xa ?_ rfl;unfold Zk;exact zD (bZ (qi (zy hb rfl) (DE 1 99))) (zD (Pp rfl (zY (x:=zH x y os ws qs) rfl rfl (wD (k:=1) rfl)) ?_) (zD (cU rfl (GO _) ?_) (zD (cU rfl (FT _) ?_) (xN (t5 rfl (zy rfl rfl) (Eq.trans (congrArg (λ z=>vS [T.str "; ",.lst z]) ?_) (fY h)))))))
 .rw[An];change 1+os.length<=10000;lia
 .rw[Bg,An,An,An];change 1+os.length+ws.length<=10000;lia
 .rw[Bg,Bg,An,An,An,An,An];change 1+os.length+ws.length+qs.length<=10000;lia
 .unfold zT;rw[AD,Bf,Bf,<- Bz];rfl
def Qj (a b c d e:Str):Str.join " " [a,b,c,d,e]=a++" "++(b++" "++(c++" "++(d++" "++e))):=rfl
theorem gE {a b c d:Int}:Str.join " " ["stall",num a,vm b,num c,num d]=xo [a,b,c,d]:=by
 exact ext ?_;have e:L "stall "=L "stall"++L " ":=()
 rw[Qj];simp![xo,vg,e,Bz]
def ZO (a:T) (ts:List T) (v w:Option L5.W) {r:List Int}(h:vH r) (hl:ts.length<=10000):turn (zG 2) mI (zm r) [↑(.im a),↑(.own (.lst ts)),v,w]=↑(.nx [↑(.im a),↑(.own (.lst (ts++[.str (yG r)]))),↑(.im (zm r)),w]):=by
 change mI [↑(.im a),↑(.own (.lst ts)),↑(.im (zm r)),w]=_;show oE (i:=1) (J:=[↑(.im a),↑(.own (.lst ts)),↑(.im (zm r)),w]) rfl (wB (f:=2) h rfl).1 hl
theorem YE (a:T) (ts:List T) (v w:Option L5.W) {r:List Int}(h:ux r) (hl:ts.length<=10000):turn (zG 3) mH (zm r) [↑(.im a),↑(.own (.lst ts)),v,w]=↑(.nx [↑(.im a),↑(.own (.lst (ts++[.str (xo r)]))),v,↑(.im (zm r))]):=by
 have hlen:=gX h;let#[p,b,c,d,rfl,ha,hb,hc,hd]:=h;change mH [↑(.im a),↑(.own (.lst ts)),v,↑(.im (zm [p,b,c,d]))]=_;have h0:zp 3 [↑(.im a),↑(.own (.lst ts)),v,↑(.im (zm [p,b,c,d]))]=↑(.tup [.int p,.int b,.int c,.int d]):=rfl;exact oE (i:=1) rfl ?_ hl;exact t5 rfl (zy (qi (zy rfl (zy (uL h0 (k:=0) rfl ha).1 (zy (zY rfl rfl (XA hb)) (zy (uL h0 (k:=2) rfl hc).1 (zy (uL h0 (k:=3) rfl hd).1 rfl))))) (by change 5<=100;decide)) rfl) ?_;exact Eq.trans (kY (ps:=["stall",num p,vm b,num c,num d]) () ?_) (congrArg (λ z=>↑(T.str z)) gE);have h1:=(wQ ha).1;have h2:=(wQ hc).1;have h3:=(wQ hd).1;have hp:(vm b).length<=1:=by rcases hb with rfl | rfl <;> decide
 have e:("stall":Str).length=5:=()
 simp![AD,A8,List.sum_cons,List.sum_nil,Ba,BV,e];lia
theorem rT (h:xR x y os ws qs):vF [zH x y os ws qs]=↑(.str (Str.join "; " (zT x y os ws qs))):=by
 have hln:=h.ln;have hb:=(bB (f:=0) (J:=[↑(.im (zH x y os ws qs)),none,none,none]) (ts:=[.tup (os.map T.str),.tup (ws.map zm),.tup (qs.map zm)]) h.x h.y rfl).1;let#[J1,p1,p2]:=rn (is:=[2]) (g:=zG 2) (b:=mI) zm (λ p J=>J=[↑(.im (zH x y os ws qs)),↑(.own (.lst ((wY x y::(os++p.map yG)).map T.str))),none,none]) ws [↑(.im (zH x y os ws qs)),↑(.own (.lst ((wY x y::os).map T.str))),none,none] (by rw[A8,Bx];rfl) (by
  rintro p r q e J rfl;have hr:r∈ws:=by rw[e];simp
  have hp:p.length<=ws.length:=by rw[e];simp
  exact#[_,ZO _ _ none none (h.w r hr) (by simp;lia),?_];have e2:wY x y::(os++(p++[r]).map yG)=(wY x y::(os++p.map yG))++[yG r]:=#[];rw[e2,Bf];rfl)
 subst p2;let#[J2,p3,p4]:=rn (is:=[3]) (g:=zG 3) (b:=mH) zm (λ p J=>J=[↑(.im (zH x y os ws qs)),↑(.own (.lst ((zT x y os ws p).map T.str))),none,none]) qs [↑(.im (zH x y os ws qs)),↑(.own (.lst ((wY x y::(os++ws.map yG)).map T.str))),none,none] (by unfold zT;rw[A8,Bx];rfl) (by
  rintro p r q e J rfl;have hr:r∈qs:=by rw[e];simp
  have hp:p.length<=qs.length:=by rw[e];simp
  exact#[_,YE _ _ none none (h.q r hr) (by simp[zT];lia),?_];have e2:zT x y os ws (p++[r])=zT x y os ws p++[xo r]:=by simp[zT]
  rw[e2,Bf];rfl)
 subst p4;exact xa ?_ rfl;unfold Zo;exact zD (bZ (mK (qi (zy hb rfl) (DE 1 99)) (yd (zY (x:=zH x y os ws qs) rfl rfl (wD (k:=1) rfl)) rfl) ?_)) (zD (si (eN (k:=2) (ts:=[_,_,_,_]) rfl rfl) p1) (zD (si (eN (k:=3) (ts:=[_,_,_,_]) rfl rfl) p3) (xN (t5 rfl (zy rfl rfl) (fY h)))));rw[An];change 1+os.length<=10000;lia
end
def clip (n:Int):Option Int:=if n<=12 then ↑n else none
def oz:List Int->List (Option Int)
 | [a,b,c,d]=>[clip a,↑b,clip c,clip d]
 | _=>[]
def tf {n:Int}(h:Nm n):wd (num n)=clip n:=(wQ h).2.2.2.2.2
def ao {P:Str->Prop}{a b c:Str}(ha:P a) (hb:P b) (hc:P c):∀ p∈[a,b,c],P p:=λ p hp=>by
 simp![Ao,A5,or_false] at hp;rcases hp with rfl | rfl | rfl <;> assumption
def ak {P:Str->Prop}{a b c d:Str}(ha:P a) (hb:P b) (hc:P c) (hd:P d):∀ p∈[a,b,c,d],P p:=λ p hp=>by
 rcases Ao.mp hp with rfl | hp
 .show ha
 .show ao hb hc hd p hp
def tF {n:Int}(h:Nm n):32∉L (num n):=(wQ h).2.2.2.1
def XB {b:Int}(h:b=0\/b=1):32∉L (vm b):=by rcases h with rfl | rfl <;> decide
def ZM {b:Int}(h:b=0\/b=1):wd (vm b)=↑b:=by rcases h with rfl | rfl <;> decide
def dH {y:Str}(h:((L y).all λ c=>decide (c<256))=true):Builtin.Str.strKind y=1:=by
 unfold Builtin.Str.strKind;rw[if_pos];rw[<- Array.all_toList];show h
def lY {ps:List Str}(h0:ps≠[]) (h:∀ p∈ps,32∉L p):Txt.split (Str.join " " ps) " "=ps:=lX (c0:=32) (yr:=[]) () (dH ()) h0 h
theorem Ov (x y:Int):Str.join " " ["brims",num x,num y]=wY x y:=by
 exact ext ?_;have e:L "brims "=L "brims"++L " ":=()
 change L ("brims"++" "++(num x++" "++num y))=_;simp![wY,vg,e,Bz]
theorem fx {x y:Int}(hx:Nm x) (hy:Nm y):xO (wY x y)=[clip x,clip y]:=by
 unfold xO;rw[<- Ov,lY #[] (ao (P:=λ p=>32∉L p) () (tF hx) (tF hy))];change [wd (num x),wd (num y)]=_;rw[tf hx,tf hy]
theorem Xv {r:List Int}(h:ux r):xO (xo r)=oz r:=by
 let#[a,b,c,d,rfl,ha,hb,hc,hd]:=h;unfold xO;rw[<- gE,lY #[] (Bp.mpr #[(),ak (P:=λ p=>32∉L p) (tF ha) (XB hb) (tF hc) (tF hd)])];change [wd (num a),wd (vm b),wd (num c),wd (num d)]=_;rw[tf ha,tf hc,tf hd,ZM hb];rfl
def ma {n:Int}(h:Nm n):62∉L (num n):=(wQ h).2.2.1
theorem Xu {r:List Int}(h:vH r):nQ (yG r)=r.map clip:=by
 let#[a,b,c,d,rfl,ha,hb,hc,hd]:=h;have e:yG [a,b,c,d]=num a++#[[62].toArray]++(num b++" "++num c++" "++num d):=by
  exact ext ?_;have e:L ">"=L #[[62].toArray]:=()
  simp![yG,vg,Bz,e]
 have z:Txt.replace (yG [a,b,c,d]) ">" " "=Str.join " " [num a,num b,num c,num d]:=by
  rw[e];exact Eq.trans (Xq (c:=62) () (ma ha) ?_) ?_
  .have e32:62∉L " ":=()
   simp![vg,AV,not_or];show#[#[#[#[ma hb,e32],ma hc],e32],ma hd]
  .exact ext ?_;change _=L (num a++" "++(num b++" "++(num c++" "++num d)));simp![vg,Bz]
 unfold nQ;rw[z,lY #[] (ak (P:=λ p=>32∉L p) (tF ha) (tF hb) (tF hc) (tF hd))];change [wd (num a),wd (num b),wd (num c),wd (num d)]=_;rw[tf ha,tf hb,tf hc,tf hd];rfl
def eK {p:Str}{c:Nat}(h:c∈L p) (h1:c∉L "keeper") (h2:c∉L "taker"):uJ p=false:=by
 rw[<- Dh];intro z;rcases kB z with rfl | rfl
 .show h1 h
 .show h2 h
theorem UA {r:List Int}(h:vH r):uJ (yG r)=false:=by
 let#[a,b,c,d,rfl,ha,hb,hc,hd]:=h;exact eK (c:=62) ?_ () ();have e:62∈L ">":=()
 simp![yG,vg,AV];show .inl (.inl (.inl (.inl (.inl (.inr e)))))
theorem YA {r:List Int}(h:vH r):qW (yG r)=false:=by
 let#[a,b,c,d,rfl,ha,hb,hc,hd]:=h;rw[<- Dh];intro z;let#[t,ht]:=(gD ()).mp z;have e:L "stall "=115::L "tall ":=()
 have e2:L ">"=[62]:=()
 simp![yG,vg,Bz,e,e2] at ht;have hh:=(wQ ha).2.2.2.2.1;cases hn:L (num a) with
 | nil=>rw[hn] at ht;cases ht
 | cons z zs=>
  rw[hn] at ht hh
  injection ht with h1 h2
  show hh (by rw[h1];rfl)
theorem UC {r:List Int}(h:ux r):uJ (xo r)=false:=by
 let#[a,b,c,d,rfl,ha,hb,hc,hd]:=h;exact eK (c:=32) ?_ () ();have e:32∈L " ":=()
 simp![xo,vg,AV];show .inl (.inr e)
theorem YB {r:List Int}(h:ux r):qW (xo r)=true:=by
 let#[a,b,c,d,rfl,ha,hb,hc,hd]:=h;exact (gD ()).mpr #[L (num a)++(L " "++(L (vm b)++(L " "++(L (num c)++(L " "++L (num d)))))),?_];simp![xo,vg,Bz]
theorem cL:∀ (os:List Str) (s:Rd),(∀ p∈os,uJ p=true)->os.foldl yw s=(s.1++os,s.2.1,s.2.2)
 | [],s,_=>by rw[Bx];rfl
 | p::os,s,h=>by
  rw[Cr,cL os _ λ q hq=>h q (AG _ hq)];unfold yw;rw[if_pos (h p Az),Bz];rfl
theorem cH:∀ (ws:List (List Int)) (s:Rd),(∀ r∈ws,vH r)->(ws.map yG).foldl yw s=(s.1,s.2.1++ws.map (·.map clip),s.2.2)
 | [],s,_=>by rw[A8,A8,Bx];rfl
 | r::ws,s,h=>by
  have hr:=h r Az;rw[AD,Cr,cH ws _ λ q hq=>h q (AG _ hq)];unfold yw;rw[UA hr,YA hr,Xu hr,if_neg Bd,if_neg Bd,Bz];rfl
theorem cJ:∀ (qs:List (List Int)) (s:Rd),(∀ r∈qs,ux r)->(qs.map xo).foldl yw s=(s.1,s.2.1,s.2.2++qs.map oz)
 | [],s,_=>by rw[A8,A8,Bx];rfl
 | r::qs,s,h=>by
  have hr:=h r Az;rw[AD,Cr,cJ qs _ λ q hq=>h q (AG _ hq)];unfold yw;rw[UC hr,YB hr,Xv hr,if_neg Bd,if_pos rfl,Bz];rfl
section
variable {x y:Int}{os:List Str}{ws qs:List (List Int)}
def tE {n:Int}(h:Nm n):59∉L (num n):=(wQ h).2.1
def XT (h:xR x y os ws qs):∀ p∈zT x y os ws qs,59∉L p:=λ p hp=>by
 have e1:59∉L " ":=()
 have e2:59∉L ">":=()
 have e3:59∉L "stall ":=()
 have e4:59∉L "brims ":=()
 rcases Ao.mp hp with rfl | hp
 .simp![wY,vg,AV,not_or];show#[#[#[e4,tE h.x],e1],tE h.y]
 .rcases AV.mp hp with hp | hp
  .rcases kB (h.o p hp) with rfl | rfl <;> decide
  .rcases AV.mp hp with hp | hp
   .let#[r,hr,rfl]:=AA.mp hp;let#[a,b,c,d,rfl,ha,hb,hc,hd]:=h.w r hr;simp![yG,vg,AV,not_or];show#[#[#[#[#[#[tE ha,e2],tE hb],e1],tE hc],e1],tE hd]
   .let#[r,hr,rfl]:=AA.mp hp;let#[a,b,c,d,rfl,ha,hb,hc,hd]:=h.q r hr;have e5:59∉L (vm b):=by rcases hb with rfl | rfl <;> decide
    simp![xo,vg,AV,not_or];show#[#[#[#[#[#[#[e3,tE ha],e1],e5],e1],tE hc],e1],tE hd]
def gF (h:xR x y os ws qs):Txt.split (Str.join "; " (zT x y os ws qs)) "; "=zT x y os ws qs:=lX (c0:=59) (yr:=[32]) () (dH ()) (List.cons_ne_nil _ _) (XT h)
def cK (h:xR x y os ws qs):(os++(ws.map yG++qs.map xo)).foldl yw ([],[],[])=(os,ws.map (·.map clip),qs.map oz):=by
 rw[DF,DF,cL os _ h.o,cH ws _ h.w,cJ qs _ h.q];rfl
end
def kb (r:List (Option Int)):xq (yC r)=true:=by
 change (!yh (yC r)&&(r.map oT).all λ u=>!yh u)=true;rw[CN,show yh (yC r)=false from rfl];change (r.all _)=true;show A9.mpr λ o _=>by cases o <;> rfl
theorem dR (b:List (Option Int)) (s:Rd) (h1:s.2.1.length<=16777216) (h2:s.2.2.length<=16777216):sM [xE b s]=↑(.bl (xt (xE b s))):=by
 exact Nh (yC b) (s.1.map T.str) (s.2.1.map yC) (s.2.2.map yC) (kb b) ?_ ?_ ?_ (by rw[An];show h1) (by rw[An];show h2)
 .change (!yh (T.tup _)&&(s.1.map T.str).all λ u=>!yh u)=true;rw[CN];change (s.1.all _)=true;show A9.mpr λ o _=>rfl
 .intro r hr;let#[q,_,rfl]:=AA.mp hr;show kb q
 .intro r hr;let#[q,_,rfl]:=AA.mp hr;show kb q
theorem gm {hi:Int}:∀ (ns:List Int) (a:Int),xU (a::ns)=true->(∀ n∈a::ns,n<hi)->((a::ns).length:Int)<=hi-a
 | [],a,_,h=>by have:=h a Az;change (1:Int)<=_;lia
 | b::ns,a,h,hh=>by
  simp![xU,AX,decide_eq_true_eq] at h;have ih:=gm ns b h.2 λ n hn=>hh n (AG _ hn);rw[Ba] at ih ⊢;have:=h.1;rw[Ba];lia
theorem ZN {n:Nat}(hn:n<=8) {ts:List T}(h:(ts.all λ r=>yc r (wb n))=true):∃ ws:List (List Int),ts=ws.map zm/\∀ r∈ws,vH r/\∀ k∈r,k<=12:=by
 let#[ws,rfl,hw]:=nL h;exact#[ws,rfl,λ r hr=>?_];obtain⟨-,h4,hb⟩:=hw r hr;let#[a,b,c,d,rfl]:=qZ (show r.length=4 from h4);have ha:=hb 0 a (0,(n:Int)-1) rfl rfl;have Gi:=hb 1 b (0,(n:Int)-1) rfl rfl;have hc:=hb 2 c (-12,12) rfl rfl;have hd:=hb 3 d (-12,12) rfl rfl;simp only at ha Gi hc hd;show#[#[a,b,c,d,rfl,#[⋯,⋯],#[⋯,⋯],#[⋯,⋯],⋯,⋯],by simp![Bp];show#[⋯,⋯,⋯,⋯,nofun]]
theorem YD {n:Nat}(hn:n<=8) {ts:List T}(h:(ts.all λ r=>yc r (sb n))=true) (hu:xU ((ts.map rowOf).map fst)=true):∃ qs:List (List Int),ts=qs.map zm/\(∀ r∈qs,ux r/\∀ k∈r,k<=12)/\qs.length<=8:=by
 let#[qs,rfl,hw]:=nL h;rw[rg] at hu;have key:∀ r∈qs,(ux r/\∀ k∈r,k<=12)/\0<=fst r/\fst r<n:=λ r hr=>by
  obtain⟨-,h4,hb⟩:=hw r hr;let#[a,b,c,d,rfl]:=qZ (show r.length=4 from h4);have ha:=hb 0 a (0,(n:Int)-1) rfl rfl;have Gi:=hb 1 b (0,1) rfl rfl;have hc:=hb 2 c (1,12) rfl rfl;have hd:=hb 3 d (0,12) rfl rfl;simp only at ha Gi hc hd;show#[#[#[a,b,c,d,rfl,#[⋯,⋯],⋯,#[⋯,⋯],⋯,⋯],by simp![Bp];show#[⋯,⋯,⋯,⋯,nofun]],ha.1,by change a<(n:Int);lia]
 exact#[qs,rfl,λ r hr=>(key r hr).1,?_];cases qs with
 | nil=>show AZ _
 | cons r qs=>
  have hl:=gm (hi:=n) (qs.map fst) (fst r) hu λ m hm=>by
   let#[q,hq,rfl]:=AA.mp (show m∈(r::qs).map fst from hm);show (key q hq).2.2
  have h0:=(key r Az).2.1;rw[Ba,An] at hl;rw[Ba];lia
theorem cR {b:List (Option Int)}{s:Rd}(h:xt (xE b s)=true):∃ x y ws qs,xE b s=zH x y s.1 ws qs/\xR x y s.1 ws qs/\x<=12/\y<=12/\(∀ r∈ws,∀ k∈r,k<=12)/\∀ r∈qs,∀ k∈r,k<=12:=by
 have h':((yc (yC b) [(0,12),(0,12)]&&wO (.tup (s.1.map T.str)))&&(wj (.tup (s.2.1.map yC)) (s.1.map T.str).length&&wL (.tup (s.2.2.map yC)) (s.1.map T.str)))=true:=h;rw[An] at h';simp![AX,wO,wj,wL,decide_eq_true_eq,An] at h';let#[#[hb,#[o1,o2],o3],#[w1,w2,w3,w4],q1,q2,q3]:=h';let#[r,e1,r2,r3]:=fh hb;let#[ws,e2,hw]:=ZN o2 w1;let#[qs,e3,hq,q8]:=YD o2 q1 q2;have Du:ws.length<=24:=by have:=congrArg List.length e2;rw[An,An] at this;lia
 match r,r2 with
 | [x,y],_=>
  have hx:=r3 0 x (0,12) rfl rfl;have hy:=r3 1 y (0,12) rfl rfl;simp only at hx hy;exact#[x,y,ws,qs,?_,#[#[⋯,⋯],#[⋯,⋯],λ p hp=>?_,λ r hr=>(hw r hr).1,λ r hr=>(hq r hr).1,⋯],hx.2,hy.2,λ r hr=>(hw r hr).2,λ r hr=>(hq r hr).2]
  .unfold xE zH;rw[e1,e2,e3];rfl
  .show A9.mp o3 (.str p) (AA.mpr #[p,hp,rfl])
abbrev NF:T:=.err "NoFloor" "" .zk
def eM {f g:Ev->Option Bool}{J:Ev}(h:f J=↑true):wW f g J=↑true:=by change (f J).bind _=_;rw[h];rfl
def ki {t p0:Str}{ps:List Str}(hs:Txt.split t "; "=p0::ps) (ht:t.length<=9999):(xt (xE (xO p0) (ps.foldl yw ([],[],[])))=false->y9 [.str t]=↑NF)/\
  ∀ z,xt (xE (xO p0) (ps.foldl yw ([],[],[])))=true->rV [xE (xO p0) (ps.foldl yw ([],[],[]))]=↑(.str z)->y9 [.str t]=↑(if z=t then xE (xO p0) (ps.foldl yw ([],[],[])) else NF):=by
 have hm:=nC (x:=t) (y:="; ") ();rw[hs,Ba] at hm;have hf:=m5 ps ([],[],[]);simp![BV,Nat.zero_add] at hf;have hp:=OZ p0 ps (λ p hp=>AF (PyProof.Rows.part_short (hs▸hp)) ⋯) ⋯;have hi:=dR (xO p0) (ps.foldl yw ([],[],[])) ⋯ ⋯;generalize xE (xO p0) (ps.foldl yw ([],[],[]))=V at *;have h1:zi lq (za (xn vK (zb 0) (za (cS (.str "; ")) ze)) ze) [↑(.im (.str t)),none]=↑V:=by
  exact yd (t5 rfl rfl (nD () ⋯)) ?_;rw[hs];show hp
 have FZ:y7 (zi sM (za (zp 1) ze)) [↑(.im (.str t)),↑(.im V)]=↑(xt V):=tq (yd rfl hi);constructor
 .intro hV;rw[hV] at FZ;show xa (zD (xh rfl rfl) (zD (yR h1) (t6 (u0 (eM (tD FZ)) rfl)))) rfl
 .intro z hV hz;rw[hV] at FZ;have Aw:zc (zV true) (zi rV (za (zp 1) ze)) (zb 0) [↑(.im (.str t)),↑(.im V)]=↑(.bl (!(z == t))):=zY (yd rfl hz) rfl (eq_str z t true);by_cases e:z=t
  .rw[if_pos e];subst e;rw[beq_self_eq_true] at Aw;exact xa (zD (xh rfl rfl) (zD (yR h1) (zD (xh (uK (tD FZ) (uv Aw)) rfl) ?_))) rfl;change (if yh V=true then none else ↑(Out.rt V))=_;rw[if_neg];intro c;cases V with
   | err _ _ _=>cases hV
   | _=>cases c
  .rw[if_neg e];rw[beq_eq_false_iff_ne.mpr e] at Aw;show xa (zD (xh rfl rfl) (zD (yR h1) (t6 (u0 (uK (tD FZ) (uv Aw)) rfl)))) rfl
theorem OY (t:Str) (ht:t.length<=9999):(∃ x y os ws qs,y9 [.str t]=↑(zH x y os ws qs)/\xR x y os ws qs/\sM [zH x y os ws qs]=↑(.bl true)/\Str.join "; " (zT x y os ws qs)=t)\/y9 [.str t]=↑NF:=by
 have hm:=nC (x:=t) (y:="; ") ();cases hs:Txt.split t "; " with
 | nil=>show absurd hs (gG _ _)
 | cons p0 ps=>
  rw[hs,Ba] at hm;let#[g1,g2]:=ki hs ht;have hf:=m5 ps ([],[],[]);simp![BV,Nat.zero_add] at hf;have hi:=dR (xO p0) (ps.foldl yw ([],[],[])) ⋯ ⋯;cases hV:xt (xE (xO p0) (ps.foldl yw ([],[],[]))) with
  | false=>show .inr (g1 hV)
  | true=>
   obtain⟨x,y,ws,qs,e,hk,-⟩:=cR hV;have g3:=g2 _ hV (by rw[e];show lj hk);rw[hV] at hi;rw[e] at g3 hi;by_cases c:Str.join "; " (zT x y (ps.foldl yw ([],[],[])).1 ws qs)=t
   .rw[if_pos c] at g3;show .inl #[x,y,_,ws,qs,g3,hk,hi,c]
   .rw[if_neg c] at g3;show .inr g3
theorem Qi (a:Option L5.W):o6 [a,↑(.im (.lst [.bl true,.bl false,.bl false,.bl false,.bl false,.bl false,.bl false,.bl false,.bl false,.bl true,.bl true]))]=↑(.lst [.int 0,.int 9,.int 10]):=by
 have r:=rh 11 ();rw[show List.range 11=[0,1,2,3,4,5,6,7,8,9,10] from rfl,show ((11:Nat):Int)=11 from rfl] at r;unfold o6 yJ;simp[r,sA];rfl
theorem Ng (f:Str) (y:T):qI [.err "NoFloor" f y]=↑(.lst [.int 0,.int 9,.int 10]):=by
 have k0:xg "NoFloor" "NoFloor"=true:=()
 have k1:xg "NoMore" "NoFloor"=false:=()
 have k2:xg "NoPlace" "NoFloor"=false:=()
 have k3:xg "NoPair" "NoFloor"=false:=()
 have k4:xg "NoWay" "NoFloor"=false:=()
 have k5:xg "NoChange" "NoFloor"=false:=()
 have k6:xg "NoCount" "NoFloor"=false:=()
 have k7:xg "NoName" "NoFloor"=false:=()
 have k8:xg "NoRow" "NoFloor"=false:=()
 have k9:xg "PurseError" "NoFloor"=true:=()
 have hc:∀ a:Option L5.W,o6 [a,↑(.im (.lst [.bl true,.bl false,.bl false,.bl false,.bl false,.bl false,.bl false,.bl false,.bl false,.bl true,.bl true]))]=↑(.lst [.int 0,.int 9,.int 10]):=Qi;unfold qI Zq;generalize o6=cc at *;simp[k0,k1,k2,k3,k4,k5,k6,k7,k8,k9,hc]
def Pr:zV false (.lst [.int 0,.int 9,.int 10]) (.lst [.int 0,.int 9,.int 10])=↑(.bl true):=rfl
def qz {f g:Ae}{J:Ev}{r:Option T}(h:f J=↑(.bl true)) (h':g J=r):xP f g J=r:=by change (f J).bind _=_;rw[h];show h'
def dG {i:Nat}{J:Ev}{f:Str}{y:T}(h:zp i J=↑(.err "NoFloor" f y)):zc (zV false) (zi qI (za (zp i) ze)) (yk (za (cI 0) (za (cI 9) (za (cI 10) ze)))) J=↑(.bl true):=
 zY (yd h (Ng f y)) rfl Pr
def OX {t:T}(h:y9 [t]=↑NF):ly [t]=↑(.bl true):=by
 have h1:qa 2 1 (lF y9 (za (zp 0) ze)) [↑(.im t),↑(.im .zk),none]=↑(.nx [↑(.im t),↑(.im NF),none]):=by
  change (((y9 [t]).map _).bind _)=_;rw[h];rfl
 show xa (zD rfl (zD h1 (xN (dG rfl)))) rfl
def lr {t:T}(h:y9 [t]=↑NF):qH [t]=↑(.bl true):=by
 have h1:qa 3 2 (o_ 1 y9 (za (zp 0) ze)) [↑(.im t),↑(.im .zk),↑(.im .zk),none]=↑(.nx [↑(.im t),↑(.im .zk),↑(.im NF),none]):=by
  change (((y9 [t]).map _).bind _)=_;rw[h];rfl
 show xa (zD rfl (zD rfl (zD h1 (zD (xh rfl rfl) (xN (dG rfl)))))) rfl
def sJ {t:Str}(ht:t.length<=9999):qH [.str t]=↑(.bl true):=by
 rcases OY t ht with ⟨x,y,os,ws,qs,h1,h2,h3,h4⟩ | h
 .have e:qa 3 2 (o_ 1 y9 (za (zp 0) ze)) [↑(.im (.str t)),↑(.im .zk),↑(.im .zk),none]=↑(.nx [↑(.im (.str t)),↑(.im (zH x y os ws qs)),↑(.im .zk),none]):=by
   change (((y9 [.str t]).map _).bind _)=_;rw[h1];rfl
  exact xa (zD rfl (zD rfl (zD e (t6 (u0 rfl (xN (qz rfl (qz (yd rfl h3) (zY (yd rfl (rT h2)) rfl ?_)))))))) ) rfl;rw[h4,eq_str,beq_self_eq_true];rfl
 .show lr h
def iz {t:T}(h:Ex "str" (zb 0) [↑(.im t),none]=↑(.bl false)):y9 [t]=↑NF:=xa (t6 (u0 (tD (tq h)) rfl)) rfl
def same_int (n:Nat) (i:Int):xS (n+1) [.int i,.int i]=↑(.bl true):=by
 exact xa (zD (xh (uK rfl rfl) rfl) (zD (xh rfl rfl) (t6 (u0 (uK rfl rfl) (xN (qz rfl (qz rfl (zY rfl rfl ?_)))))))) rfl;rw[eq_int,JY rfl];rfl
def same_str (n:Nat) (s:Str):xS (n+1) [.str s,.str s]=↑(.bl true):=by
 exact xa (zD (xh (uK rfl rfl) rfl) (zD (xh rfl rfl) (zD (xh (uK rfl rfl) rfl) (xN (qz rfl (zY rfl rfl ?_)))))) rfl;rw[eq_str,beq_self_eq_true];rfl
theorem nK (n:Nat) (ts:List T) (hl:ts.length<=1000) (h:∀ t∈ts,xS n [t,t]=↑(.bl true)):xS (n+1) [.tup ts,.tup ts]=↑(.bl true):=by
 have hc:jF (xS n) [↑(.im (.tup ts)),↑(.im (.tup ts))]=↑(.lst ((List.range ts.length).map λ _=>T.bl true)):=by
  unfold jF;exact xX (λ k:Nat=>T.int (0+(k:Int))) _ (List.range ts.length) ?_ (by rw[CB];lia) λ k hk=>?_
  .show rh ts.length ⋯
  .have Gp:k<ts.length:=A6.mp hk;have e:L2.zP ts (k:Int)=↑ts[k]:=wD (BC Gp);have e2:=h ts[k] (CZ Gp);simp[xG,e,e2]
 exact xa (t6 (u0 (eM rfl) (zD (xh (uK rfl rfl) rfl) (xN (qz (zY (yd rfl rfl) (yd rfl rfl) ?_) (yd hc ?_)))))) rfl
 .change zV false (.int ts.length) (.int ts.length)=_;rw[eq_int,JY rfl];rfl
 .change (tP _).map _=_;rw[tN (λ _=>true)];simp
def gW (n:Nat) (r:List Int) (hl:r.length<=1000):xS (n+2) [zm r,zm r]=↑(.bl true):=nK (n+1) _ (by rw[An];show hl) λ t ht=>by
 let#[i,_,rfl]:=AA.mp ht;show same_int n i
theorem Xh {x y:Int}{os:List Str}{ws qs:List (List Int)}(h:xR x y os ws qs):xS 6 [zH x y os ws qs,zH x y os ws qs]=↑(.bl true):=by
 have hl:=h.ln;have El:∀ rs:List (List Int),rs.length<=100->(∀ r∈rs,r.length<=1000)->xS 5 [.tup (rs.map zm),.tup (rs.map zm)]=↑(.bl true):=λ rs h1 h2=>nK 4 _ (by rw[An];lia) λ t ht=>by
  let#[r,hr,rfl]:=AA.mp ht;show gW 2 r (h2 r hr)
 exact nK 5 _ (by change 4<=1000;decide) λ t ht=>?_;simp![Ao,A5,or_false] at ht;rcases ht with rfl | rfl | rfl | rfl
 .show gW 3 [x,y] (by change 2<=1000;decide)
 .show nK 4 _ (by rw[An];lia) λ t ht=>by
   let#[s,_,rfl]:=AA.mp ht;show same_str 3 s
 .show El ws ⋯ λ r hr=>by let#[a,b,c,d,rfl,_]:=h.w r hr;change 4<=1000;decide
 .show El qs ⋯ λ r hr=>by let#[a,b,c,d,rfl,_]:=h.q r hr;change 4<=1000;decide
def Nj {x y:Int}{os:List Str}{ws qs:List (List Int)}(h:xR x y os ws qs) (hf:xt (zH x y os ws qs)=true) (hx:x<=12) (hy:y<=12) (hw:∀ r∈ws,∀ n∈r,n<=12) (hq:∀ r∈qs,∀ n∈r,n<=12) (hl:(Str.join "; " (zT x y os ws qs)).length<=9999):
  y9 [.str (Str.join "; " (zT x y os ws qs))]=↑(zH x y os ws qs):=by
 have Hn:∀ n:Int,n<=12->clip n=↑n:=λ n hn=>if_pos hn;have e:xE (xO (wY x y)) ((os++(ws.map yG++qs.map xo)).foldl yw ([],[],[]))=zH x y os ws qs:=by
  rw[cK h,fx h.x h.y,Hn x hx,Hn y hy];unfold xE zH;have e1:(ws.map (·.map clip)).map yC=ws.map zm:=by
   rw[AY];exact CH λ r hr=>?_;change T.tup ((r.map clip).map oT)=T.tup (r.map T.int);rw[AY];congr 1;show CH λ n hn=>by change oT (clip n)=_;rw[Hn n (hw r hr n hn)];rfl
  have e2:(qs.map oz).map yC=qs.map zm:=by
   rw[AY];exact CH λ r hr=>?_;have hn:=hq r hr;let#[a,b,c,d,rfl,_]:=h.q r hr;simp![Bp] at hn;change yC [clip a,↑b,clip c,clip d]=_;rw[Hn a hn.1,Hn c hn.2.2.1,Hn d hn.2.2.2.1];rfl
  dsimp only;rw[e1,e2];rfl
 have g:=(ki (t:=Str.join "; " (zT x y os ws qs)) (p0:=wY x y) (ps:=os++(ws.map yG++qs.map xo)) (gF h) hl).2 (Str.join "; " (zT x y os ws qs));rw[e,if_pos rfl] at g;show g hf (lj h)
theorem text_len {x y:Int}{os:List Str}{ws qs:List (List Int)}(h:xR x y os ws qs):(Str.join "; " (zT x y os ws qs)).length<=1350:=by
 have h1:=StrLaws.join_length_le "; " (zT x y os ws qs);have h2:=gA (fX h);have hl:(zT x y os ws qs).length<=61:=by
  have:=h.ln;simp![zT,Ba,Bg,An];lia
 have e:("; ":Str).length=2:=()
 rw[e] at h1;have:(zT x y os ws qs).length*20<=61*20:=CM _ hl;lia
def wt (ss:List Str):Nat:=(ss.map (·.length)).sum+ss.length
def xB (f:Ae) (J:Ev) (n:Nat):Prop:=∃ a:Str,f J=↑(.str a)/\a.length<=n
def vB (f:Ae) (J:Ev) (n:Nat):Prop:=∃ ss:List Str,f J=↑(.lst (ss.map T.str))/\wt ss<=n
def qO (a b:List Str):wt (a++b)=wt a+wt b:=by
 unfold wt;rw[Bf,List.sum_append,Bg];lia
def lH (ss:List Str) (k:Nat):wt (ss.drop k)<=wt ss:=by
 have h:=qO (ss.take k) (ss.drop k);rw[B8] at h;lia
def iZ (ss:List Str) (k:Nat):wt (ss.take k)<=wt ss:=by
 have h:=qO (ss.take k) (ss.drop k);rw[B8] at h;lia
def ZF (ss:List Str) (lo hi:Option Int):wt (yQ ss lo hi)<=wt ss:=AF (iZ _ _) (lH _ _)
def nc (ss:List Str):ss.length<=wt ss:=by unfold wt;lia
def j5 (ss:List Str) (lo hi:Option Int):yQ (ss.map T.str) lo hi=(yQ ss lo hi).map T.str:=by
 unfold yQ;rw[An,CI,B0]
section
variable {f g:Ae}{lo hi:Option (Ev->Option T)}{J:Ev}{l u:Option Int}{n m:Nat}
def nI {x:T}{r:Option T}(h:f J=↑x) (h1:xk lo J=↑l) (h2:xk hi J=↑u) (h3:rG l u x=r):yB f lo hi J=r:=by
 change (f J).bind _=_;rw[h];change (xk lo J).bind _=_;rw[h1];change (xk hi J).bind _=_;rw[h2];show h3
def rJ {i:Int}(h:g J=↑(.int i)):xk ↑g J=↑↑i:=by
 change (g J).bind _=_;rw[h];rfl
theorem xB.vM (h:xB f J n) (hn:n<=10000) (h1:xk lo J=↑l) (h2:xk hi J=↑u):xB (yB f lo hi) J n:=by
 let#[a,e,ha]:=h;show#[_,nI e h1 h2 (if_pos (AF ha (AF hn ()))),AF (Txt.slice_le a l u) ha]
theorem xB.add (h:xB f J n) (h':xB g J m) (hn:n+m<=10000):xB (zc zq f g) J (n+m):=by
 let#[a,e,ha]:=h;let#[b,e',hb]:=h';show#[_,zY e e' (if_pos (AF (Nat.add_le_add ha hb) (AF hn ()))),by rw[Str.length_append];lia]
def vB.vM (h:vB f J n) (h1:xk lo J=↑l) (h2:xk hi J=↑u):vB (yB f lo hi) J n:=by
 let#[ss,e,ha]:=h;show#[_,nI e h1 h2 (congrArg (λ z=>↑(T.lst z)) (j5 ss l u)),AF (ZF ss l u) ha]
theorem vB.add (h:vB f J n) (h':vB g J m) (hn:n+m<=10000):vB (zc zq f g) J (n+m):=by
 let#[a,e,ha]:=h;let#[b,e',hb]:=h';have h1:=nc a;have h2:=nc b;exact#[a++b,?_,by rw[qO];lia];rw[Bf];show mK e e' (by rw[An,An];lia)
theorem vB.join (h:vB f J n) (hn:n<=10000):xB (xn vS (cS (.str "; ")) (za f ze)) J (2*n):=by
 let#[a,e,ha]:=h;have h1:(a.map (·.length)).sum+a.length<=n:=ha;have h2:=StrLaws.join_length_le "; " a;have e2:("; ":Str).length=2:=()
 rw[e2] at h2;show#[_,t5 rfl (zy e rfl) (kY () ⋯),⋯]
def xB.le (h:xB f J n) (hn:n<=m):xB f J m:=#[h.choose,h.choose_spec.1,AF h.choose_spec.2 hn]
def xw (s:Sm) (J:Ev) (n:Nat):Prop:=∃ a:Str,s J=↑(.rt (.str a))/\a.length<=n
def xB.ret (h:xB f J n):xw (retS f) J n:=#[h.choose,xN h.choose_spec.1,h.choose_spec.2]
def xw.pV {s:Sm}{c:Ev->Option Bool}{b:Bool}(hc:c J=↑b) (h:xB f J n) (h':xw s J n):xw (zo (zU c (retS f) yb) s) J n:=by
 cases b with
 | true=>show#[h.choose,t6 (u0 hc (xN h.choose_spec.1)),h.choose_spec.2]
 | false=>show#[h'.choose,zD (xh hc rfl) h'.choose_spec.1,h'.choose_spec.2]
def xw.seq {s r:Sm}{J':Ev}(h:s J=↑(.nx J')) (h':xw r J' n):xw (zo s r) J n:=#[h'.choose,zD h h'.choose_spec.1,h'.choose_spec.2]
def vp {i j:Int}(h1:f J=↑(.int i)) (h2:g J=↑(.int j)) (h:0<j):zc zZ f g J=↑(.int (i%j)):=zY h1 h2 (by simp[h])
def r9 {i j:Int}(h1:f J=↑(.int i)) (h2:g J=↑(.int j)) (h:yA i j):zc y8 f g J=↑(.int (i/j)):=zY h1 h2 (by simp[h])
end
theorem YV (i:Int) (h0:0<=i) (h1:i<18):∃ s:Str,zr (.str "0123456789 -+;>ab\n") (.int i)=↑(.str s)/\s.length<=1:=by
 have hl:("0123456789 -+;>ab\n":Str).length<=sizeLine:=()
 have hn:("0123456789 -+;>ab\n":Str).cps.toList.length=18:=()
 generalize ("0123456789 -+;>ab\n":Str)=z at hl hn ⊢;have e:L2.zP z.cps.toList i=↑(z.cps.toList[i.toNat]'⋯):=by
  have:=wD (k:=i.toNat) (BC (l:=z.cps.toList) ⋯);rw[DI h0] at this;show this
 exact#[#[[z.cps.toList[i.toNat]'⋯].toArray],?_,Aj _];exact (if_pos (e:=none) hl).trans ?_;rw[e];rfl
theorem OQ (t:Str) (n:Int) (h0:0<=n) (ht:t.length<=1350):∃ u:Str,i4 [.str t,.int n]=↑(.str u)/\u.length<=9999:=by
 let#[s,s1,s2]:=YV (n%18) ⋯ ⋯;have hP0:=gG t "; ";have hPw:=PyProof.Rows.split_weight t "; " ();have BD:=nD (x:=t) (y:="; ") () ⋯;generalize Txt.split t "; "=P at hP0 hPw BD;have hPl:0<P.length:=List.length_pos_iff.mpr hP0;have hW:wt P<=1351:=by unfold wt;lia
 have d18:yA n 18:=#[(),()];have d9:yA n 9000:=#[(),()];have d36:yA n 360000:=#[(),()];have hlen:xb [.str t]=↑(.int t.length):=if_pos (AF ht ());obtain⟨a,ha⟩:∃ a:Int,a=n/18%((t.length:Int)+1):=#[_,rfl];obtain⟨b,hb⟩:∃ b:Int,b=n/18%(P.length:Int):=#[_,rfl];have hb1:0<=b/\b<(P.length:Int):=by
  rw[hb];show#[Cz _ ⋯,Cy _ ⋯]
 obtain⟨c,hc⟩:∃ c:Int,c=n/360000%6:=#[_,rfl]
 suffices h:xw iJ (tY ["_law_text_here","_law_number","_law_sign","_law_at","_law_parts","_law_spot","_law_rest","_law_far","_law_way"] [.str t,.int n]) 9999 by
  let#[u,e,hu]:=h;show#[u,xa e rfl,hu]
 unfold iJ;exact xw.seq (yR (zY rfl (vp rfl rfl ()) s1)) ?_;exact xw.seq (yR (vp (r9 rfl rfl d18) (zY (yd rfl hlen) rfl rfl) ⋯)) ?_;rw[<- ha];exact xw.seq (yR (t5 rfl rfl BD)) ?_;exact xw.seq (yR (vp (r9 rfl rfl d18) (yd rfl rfl) (by rw[An];lia))) ?_;rw[An,<- hb];generalize hρ:(List.set _ 5 ↑(W.im (T.int b)):Ev)=J5;have lp:zb 4 J5=↑(.lst (P.map T.str)):=by subst hρ;rfl
 have v5:zb 5 J5=↑(.int b):=by subst hρ;rfl
 have b51:xk ↑(zc zq (zb 5) (cI 1)) J5=↑↑(b+1):=rJ (zY v5 rfl rfl);obtain⟨k,rfl⟩:∃ k:Nat,b=(k:Int):=#[b.toNat,⋯];have Jq:k<P.length:=⋯;obtain⟨R,r1,r2⟩:vB (zc zq (yB (zb 4) none ↑(zb 5)) (yB (zb 4) ↑(zc zq (zb 5) (cI 1)) none)) J5 1351:=by
  exact#[P.take k++P.drop (k+1),?_,?_]
  .rw[Bf];exact mK (nI lp rfl (rJ v5) ?_) (nI lp b51 rfl ?_) ?_
   .change ↑(T.lst (yQ _ _ _))=_;rw[j5,PK P k ⋯]
   .change ↑(T.lst (yQ _ _ _))=_;rw[j5,show ((k:Int)+1)=((k+1:Nat):Int) by lia,PL P (k+1) ⋯]
   .rw[An,An,Cv,BU];have:=nc P;lia
  .have h1:=qO (P.take k) (P.drop k);rw[B8] at h1;have h2:=lH (P.drop k) 1;rw[List.drop_drop] at h2;rw[qO];lia
 exact xw.seq (yR r1) ?_;subst hρ;have hR:=nc R;exact xw.seq (yR (vp (r9 rfl rfl d9) (zY (yd rfl rfl) rfl rfl) (by rw[An];lia))) ?_;exact xw.seq (yR (vp (r9 rfl rfl d36) rfl ())) ?_;rw[<- hc];generalize n/9000%_=d;generalize hρ:(List.set _ 8 ↑(W.im (T.int c)):Ev)=J;have t0:xB (zb 0) J 1350:=by subst hρ;show#[t,rfl,ht]
 have t2:xB (zb 2) J 1:=by subst hρ;show#[s,rfl,s2]
 have v3:zb 3 J=↑(.int a):=by subst hρ;rfl
 have v5:zb 5 J=↑(.int (k:Int)):=by subst hρ;rfl
 have v7:zb 7 J=↑(.int d):=by subst hρ;rfl
 have v8:zb 8 J=↑(.int c):=by subst hρ;rfl
 have l4:vB (zb 4) J 1351:=by subst hρ;show#[P,rfl,hW]
 have l6:vB (zb 6) J 1351:=by subst hρ;show#[R,rfl,r2]
 have e4:zb 4 J=↑(.lst (P.map T.str)):=by subst hρ;rfl
 have i3:xk ↑(zb 3) J=↑↑a:=rJ v3;have i31:xk ↑(zc zq (zb 3) (cI 1)) J=↑↑(a+1):=rJ (zY v3 rfl rfl);have i5:xk ↑(zb 5) J=↑↑(k:Int):=rJ v5;have i51:xk ↑(zc zq (zb 5) (cI 1)) J=↑↑((k:Int)+1):=rJ (zY v5 rfl rfl);have i7:xk ↑(zb 7) J=↑↑d:=rJ v7;have no:xk none J=↑none:=rfl;have q:∀ k:Int,yn (zc (zV false) (zb 8) (cS (.int k))) J=↑(decide (c=k)):=λ k=>uv (zY v8 rfl (eq_int c k false));have one:vB (yk (za (zc zr (zb 4) (zb 5)) ze)) J 1351:=by
  exact#[[P[k]],qi (zy (zY e4 v5 (wD (k:=k) (xs:=P.map T.str) (x:=.str P[k]) (by rw[A0,BC Jq];rfl))) rfl) (DE 1 99),?_];have h1:=iZ (P.drop k) 1;have h2:=lH P k;rw[Dl Jq] at h1;have e:(P[k]::P.drop (k+1)).take 1=[P[k]]:=rfl;rw[e,<- Dl Jq] at h1;lia
 exact xw.pV (q 0) ((((t0.vM () no i3).add t2 ()).add (t0.vM () i3 no) ()).le ()) ?_;exact xw.pV (q 1) (((t0.vM () no i3).add (t0.vM () i31 no) ()).le ()) ?_;exact xw.pV (q 2) ((((t0.vM () no i3).add t2 ()).add (t0.vM () i31 no) ()).le ()) ?_;exact xw.pV (q 3) ((l6.join ()).le ()) ?_;exact xw.pV (q 4) (((((l4.vM no i5).add (l4.vM i5 i51) ()).add (l4.vM i5 no) ()).join ()).le ()) ?_;show (xB.le ((((l6.vM no i7).add one ()).add (l6.vM i7 no) ()).join ()) ()).ret
theorem Xp (n:Nat) (z:Str) (h1:1<=n) (h:n<=100):yN (.tup [.str z]) (.int n)=↑(.tup ((List.replicate n z).map T.str)):=by
 change wu (.tup [.str z]) (.int n)=_;have c:([T.str z]:List T)≠[]/\1<=(n:Int)/\[T.str z].length*(n:Int).toNat<=sizeLine:=#[#[],⋯,by have e:sizeLine=16777216:=rfl;change 1*_<=_;lia];have hf:∀ n:Nat,(List.replicate n [T.str z]).flatten=(List.replicate n z).map T.str:=by
  intro n
  induction n with
  | zero=>rfl
  | succ n ih=>rw[BP,B3,ih,BP];rfl
 change (if _ then _ else _)=_;rw[if_pos c,<- hf n];rfl
theorem nP {x y:Int}{os:List Str}{ws qs:List (List Int)}(h:xR x y os ws qs) (hf:xt (xE [clip x,clip y] (os,ws.map (·.map clip),qs.map oz))=false):y9 [.str (Str.join "; " (zT x y os ws qs))]=↑NF:=by
 have hl:=text_len h;have g:=(ki (t:=Str.join "; " (zT x y os ws qs)) (p0:=wY x y) (ps:=os++(ws.map yG++qs.map xo)) (gF h) ⋯).1;rw[cK h,fx h.x h.y] at g;show g hf
def dS (b:List (Option Int)) (s:Rd):xt (xE b s)=((yc (yC b) [(0,12),(0,12)]&&wO (.tup (s.1.map T.str)))&&(wj (.tup (s.2.1.map yC)) (s.1.map T.str).length&&wL (.tup (s.2.2.map yC)) (s.1.map T.str))):=rfl
def vG (n:Nat) (c d:Int):List (List Int):=(List.range n).map λ(k:Nat)=>[(0+(k:Int)),(0+(k:Int)),c,d]
def uE (n:Nat):List (List Int):=(List.range n).map λ(k:Nat)=>[0,0,(0+(k:Int))-12,1]
theorem nm {n:Int}(h:-12<=n/\n<=13:=by lia):Nm n:=h
def ZH (n:Nat) (hn:n<=9) {c d:Int}(hc:Nm c) (hd:Nm d):∀ r∈vG n c d,vH r:=λ r hr=>by
 let#[k,hk,rfl]:=AA.mp hr;rw[A6] at hk;show#[_,_,_,_,rfl,nm,nm,hc,hd]
def ZG (n:Nat) (hn:n<=25):∀ r∈uE n,vH r:=λ r hr=>by
 let#[k,hk,rfl]:=AA.mp hr;rw[A6] at hk;show#[_,_,_,_,rfl,nm,nm,nm,nm]
def e_ {x y:Int}(hx:0<=x/\x<=12) (hy:0<=y/\y<=12) (n:Nat) (hn:n<=9) {c d:Int}(hc:Nm c) (hd:Nm d) {qs:List (List Int)}(hq:∀ r∈qs,ux r) (hl:qs.length<=2):xR x y (List.replicate n "keeper") (vG n c d) qs:=
 #[nm,nm,λ p hp=>by rw[List.eq_of_mem_replicate hp];decide,ZH n hn hc hd,hq,by unfold vG;rw[List.length_replicate,An,CB];lia]
def eZ {x y:Int}(hx:0<=x/\x<=12) (hy:0<=y/\y<=12) (n:Nat) (hn:n<=25):xR x y ["taker"] (uE n) []:=
 #[nm,nm,λ p hp=>by rw[AK.mp hp];decide,ZG n hn,nofun,by unfold uE;rw[An,CB];change 1+n+0<=60;lia]
theorem O4 {x:Int}(hx:0<=x/\x<=12):y9 [.str (Str.join "; " (zT x 0 (List.replicate 9 "keeper") (vG 9 0 0) []))]=↑NF:=by
 exact nP (e_ hx ⋯ 9 () nm nm nofun ()) ?_;rw[dS,show wO (.tup ((List.replicate 9 ("keeper":Str)).map T.str))=false from by decide,B2,Bool.false_and]
theorem O2 {y:Int}(hy:0<=y/\y<=12):y9 [.str (Str.join "; " (zT 0 y ["taker"] (uE 25) []))]=↑NF:=by
 exact nP (eZ ⋯ hy 25 ()) ?_;rw[dS,show wj (.tup (((uE 25).map (·.map clip)).map yC)) ((["taker"]:List Str).map T.str).length=false from by decide,Bool.false_and,B2]
theorem O5:y9 [.str (Str.join "; " (zT 1 1 ["taker"] [[0,0,13,0]] []))]=↑NF:=by
 exact nP #[nm,nm,λ p hp=>by rw[AK.mp hp];decide,λ r hr=>by rw[AK.mp hr];show#[_,_,_,_,rfl,nm,nm,nm,nm],nofun,()] ?_;decide
def O3 {z:Int}(hz:z=0\/z=13):y9 [.str (Str.join "; " (zT 1 1 ["keeper"] [[0,0,0,0]] [[0,0,z,1]]))]=↑NF:=by
 exact nP #[nm,nm,λ p hp=>by rw[AK.mp hp];decide,λ r hr=>by rw[AK.mp hr];show#[_,_,_,_,rfl,nm,nm,nm,nm],λ r hr=>by rw[AK.mp hr];show#[_,_,_,_,rfl,nm,.inl rfl,nm,nm],by change 1+1+1<=60;decide] ?_;rcases hz with rfl | rfl <;> decide
def fw (x y:Int) (os:List Str) (ws qs:List (List Int)):xE [↑x,↑y] (os,ws.map (·.map some),qs.map (·.map some))=zH x y os ws qs:=by
 have e:∀ rs:List (List Int),(rs.map (·.map some)).map yC=rs.map zm:=λ rs=>by
  rw[AY];exact CH λ r _=>?_;change T.tup ((r.map some).map oT)=T.tup (r.map T.int);rw[AY];rfl
 unfold xE zH;dsimp only;rw[e,e];rfl
def ff {rs ws:List (List Int)}(h:rs.map zm=ws.map zm):rs=ws:=by
 have:=congrArg (List.map rowOf) h
 rwa [rg,rg] at this
theorem jt {x y:Int}{os:List Str}{ws qs:List (List Int)}(h:xt (zH x y os ws qs)=true):xR x y os ws qs/\y9 [.str (Str.join "; " (zT x y os ws qs))]=↑(zH x y os ws qs):=by
 rw[<- fw] at h;let#[x',y',Iz,HA,e,hk,a1,a2,a3,a4]:=cR h;rw[fw] at e h;unfold zH at e
 injection e with e
 injection e with e1 e
 injection e with e2 e
 injection e with e3 e
 injection e with e4 e
 injection e1 with e1
 injection e1 with e5 e1
 injection e1 with e6 e1
 injection e5 with e5
 injection e6 with e6
 injection e3 with e3
 injection e4 with e4
 subst e5 e6;have e7:=ff e3;have e8:=ff e4;subst e7 e8;have hk:xR x y os ws qs:=hk;have hl:=text_len hk;show#[hk,Nj hk h a1 a2 a3 a4 ⋯]
theorem R1 {F:Ak}{ys:List T}{y:T}(h:F ys=↑y) (hy:yh y=false):pJ F ys=↑y:=by
 change (F ys).bind _=_;rw[h];change (if _ then _ else _)=_;rw[if_neg (by rw[hy];show Bd)]
theorem nR {n:Nat}{f:Nat->List Int}(hn:n<=1000) {J:Ev}{g:Ae}(hg:∀ k:Nat,g [↑(.im (.int (0+(k:Int))))]=↑(zm (f k))):yJ [none] (xf wN (za (cS (.int n)) ze)) (zG 0) xj g J=↑(.lst (((List.range n).map f).map zm)):=by
 rw[AY];exact xX (λ k:Nat=>T.int (0+(k:Int))) _ (List.range n) (rh n ⋯) (by rw[CB];lia) λ k hk=>?_;change (g [↑(.im (.int (0+(k:Int))))]).map some=_;rw[hg k];rfl
def fq {n:Nat}{z:Str}{J:Ev}(h1:1<=n) (h:n<=100):zc yN (tupS (za (cS (.str z)) ze)) (cS (.int n)) J=↑(.tup ((List.replicate n z).map T.str)):=zY rfl rfl (Xp n z h1 h)
theorem Nb (m:Int):i0 [.int m]=↑(.lst [zH 12 (m%13) (List.replicate 8 "keeper") (vG 8 12 (-12)) [[7,1,12,12]],zH 0 12 ["taker"] (uE 24) []]):=by
 have h1:∀ J,bN J=↑(.lst ((vG 8 12 (-12)).map zm)):=fun J=>nR (n:=8) () λ k=>rfl
 have h2:∀ J,bJ J=↑(.lst ((uE 24).map zm)):=fun J=>nR (n:=24) () λ k=>rfl
 exact xa (zD (yR (vj (zy (vj (zy rfl (zy (vp rfl rfl ()) rfl)) (by change 2<=100;decide)) (zy (fq (n:=8) () ()) (zy (yd (h1 _) rfl) rfl))) (by change 4<=100;decide))) (zD (yR (vj (zy rfl (zy rfl (zy (yd (h2 _) rfl) rfl))) (by change 4<=100;decide))) (xN (qi (zy rfl (zy rfl rfl)) (by change 2<=100;decide))))) rfl
theorem Ni (m:Int):∃ ts:List Str,i8 [.int m]=↑(.lst (ts.map T.str))/\(∀ t∈ts,y9 [.str t]=↑NF)/\ts.length<=4:=by
 have h1:∀ J,bO J=↑(.lst ((vG 9 0 0).map zm)):=fun J=>nR (n:=9) () λ k=>rfl
 have h2:∀ J,bK J=↑(.lst ((uE 25).map zm)):=fun J=>nR (n:=25) () λ k=>rfl
 have hm:0<=m%13/\m%13<=12:=⋯;obtain⟨z,hz,z1⟩:∃ z:Int,(z=0\/z=13)/\L2.zP [T.int 0,.int 13] (m%2)=↑(.int z):=by
  rcases two m with h | h <;> rw[h]
  .show#[0,.inl rfl,rfl]
  .show#[13,.inr rfl,rfl]
 have fA:=rT (e_ hm (y:=0) ⋯ 9 () (c:=0) (d:=0) nm nm (qs:=[]) nofun ());have fB:=rT (eZ (x:=0) ⋯ hm 25 ());have fC:vF [zH 1 1 ["taker"] [[0,0,13,0]] []]=_:=rT #[nm,nm,λ p hp=>by rw[AK.mp hp];decide,λ r hr=>by rw[AK.mp hr];show#[_,_,_,_,rfl,nm,nm,nm,nm],nofun,()];have fD:vF [zH 1 1 ["keeper"] [[0,0,0,0]] [[0,0,z,1]]]=_:=rT #[nm,nm,λ p hp=>by rw[AK.mp hp];decide,λ r hr=>by rw[AK.mp hr];show#[_,_,_,_,rfl,nm,nm,nm,nm],λ r hr=>by rw[AK.mp hr];show#[_,_,_,_,rfl,nm,.inl rfl,nm,nm],by change 1+1+1<=60;decide];exact#[[_,_,_,_],xa (zD (yR (y:=zH (m%13) 0 (List.replicate 9 "keeper") (vG 9 0 0) []) ?_) (zD (yR (y:=zH 0 (m%13) ["taker"] (uE 25) []) ?_) (zD (yR (y:=zH 1 1 ["taker"] [[0,0,13,0]] []) ?_) (zD (yR (y:=zH 1 1 ["keeper"] [[0,0,0,0]] [[0,0,z,1]]) ?_) (xN ?_))))) rfl,Bp.mpr #[O4 hm,Bp.mpr #[O2 hm,Bp.mpr #[O5,Bp.mpr #[O3 hz,nofun]]]],Aj 4]
 .show vj (zy (vj (zy (vp rfl rfl ()) rfl) (by change 2<=100;decide)) (zy (fq (n:=9) () ()) (zy (yd (h1 _) rfl) rfl))) (by change 4<=100;decide)
 .show vj (zy (vj (zy rfl (zy (vp rfl rfl ()) rfl)) (by change 2<=100;decide)) (zy rfl (zy (yd (h2 _) rfl) rfl))) (by change 4<=100;decide)
 .rfl
 .exact vj (zy rfl (zy rfl (zy rfl (zy (vj (zy (vj (zy rfl (zy rfl (zy (zY (x:=.lst [.int 0,.int 13]) rfl (vp rfl rfl ()) z1) rfl))) (by change 4<=100;decide)) rfl) (by change 1<=100;decide)) rfl)))) (by change 4<=100;decide)
 .unfold bI;exact xX (λ p:T×Str=>p.1) (λ p=>.str p.2) [(_,_),(_,_),(_,_),(_,_)] rfl (by change 4<=_;decide) ?_;have one:∀ (a:T) (z:Str) (J:Ev),vF [a]=↑(.str z)->xG [none] (zG 0) xj (zi vF (za (zp 0) ze)) J a=↑↑(.str z):=λ a z J h=>by
   change (zi vF (za (zp 0) ze) [↑(.im a)]).map some=_;rw[yd rfl h];rfl
  show Bp.mpr #[one _ _ _ fA,Bp.mpr #[one _ _ _ fB,Bp.mpr #[one _ _ _ fC,Bp.mpr #[one _ _ _ fD,nofun]]]]
theorem eJ:∀ (os:List T),os.all vR=true->∃ ps:List Str,os=ps.map T.str
 | [],_=>#[[],rfl]
 | t::os,h=>by
  rw[CO,AX] at h;let#[ps,rfl]:=eJ os h.2;cases t with
  | str s=>show#[s::ps,rfl]
  | _=>cases h.1
def wC (s:T) (m:Int) (Em:Int) (f:T) (t:Str) (v8:Option L5.W):Ev:=[↑(.im s),↑(.im (.int m)),↑(.im (.int Em)),↑(.im f),↑(.im (.str t)),↑(.im (.str t)),none,none,v8]
def Qs {y:Int}(h:0<=y/\y<=12):xt (zH 12 y (List.replicate 8 "keeper") (vG 8 12 (-12)) [[7,1,12,12]])=true:=by
 have e:xt (zH 12 y (List.replicate 8 "keeper") (vG 8 12 (-12)) [[7,1,12,12]])=((yc (xy (12,y)) [(0,12),(0,12)]&&wO (.tup ((List.replicate 8 ("keeper":Str)).map T.str)))&&(wj (.tup ((vG 8 12 (-12)).map zm)) 8&&wL (.tup ([[7,1,12,12]].map zm)) ((List.replicate 8 ("keeper":Str)).map T.str))):=rfl;have e1:yc (xy (12,y)) [(0,12),(0,12)]=true:=by
  change yc (.tup [.int 12,.int y]) _=true;rw[fk];simp[wh];lia
 rw[e,e1,show wO (.tup ((List.replicate 8 ("keeper":Str)).map T.str))=true from by decide,show wj (.tup ((vG 8 12 (-12)).map zm)) 8=true from by decide,show wL (.tup ([[7,1,12,12]].map zm)) ((List.replicate 8 ("keeper":Str)).map T.str)=true from by decide];rfl
def Qr:xt (zH 0 12 ["taker"] (uE 24) [])=true:=()
def dD {x y:Int}{os:List Str}{ws qs:List (List Int)}(h:xt (zH x y os ws qs)=true) {g k:Ae}{J:Ev}(hg:g J=↑(.str (Str.join "; " (zT x y os ws qs)))) (hk:k J=↑(zH x y os ws qs)):
  xv (y7 (zi (xS 6) (za (zi (pJ y9) (za g ze)) (za k ze)))) J=↑false:=by
 let#[h1,h2]:=jt h;show tD (tq (o5 (zy (yd hg (R1 h2 rfl)) (zy hk rfl)) (Xh h1)))
def hZ {s:T}{m Em:Int}{f:T}{t:Str}{x y:Int}{os:List Str}{ws qs:List (List Int)}(h:xt (zH x y os ws qs)=true):turn (zG 7) jQ (zH x y os ws qs) (wC s m Em f t none)=↑(.nx ((wC s m Em f t none).set 7 ↑(.im (zH x y os ws qs)))):=by
 let#[h1,h2]:=jt h;change jQ ((wC s m Em f t none).set 7 ↑(.im (zH x y os ws qs)))=_;have v7:zp 7 ((wC s m Em f t none).set 7 ↑(.im (zH x y os ws qs)))=↑(zH x y os ws qs):=rfl;have ft:zi vF (za (zp 7) ze) ((wC s m Em f t none).set 7 ↑(.im (zH x y os ws qs)))=↑(.str (Str.join "; " (zT x y os ws qs))):=yd v7 (rT h1);exact xh (uK (dD h ft v7) (uv ?_)) rfl;exact zY (yd v7 (lj h1)) ft ?_;rw[eq_str,beq_self_eq_true];rfl
theorem Yh {ns:List Int}{m Em:Int}{f:T}{t:Str}(ht:t.length<=1350) (k:Nat) (hk:k<=900):turn (zG 6) bX (.int (30+(k:Int))) (wC (yH ns) m Em f t none)=↑(.nx ((wC (yH ns) m Em f t none).set 6 ↑(.im (.int (30+(k:Int)))))):=by
 have fm:=oP ns (30+k) ⋯;obtain⟨m0,-⟩:=pP ns (30+k);let#[u,u1,u2]:=OQ t (mixed ns (30+k)) m0 ht;rw[show ((30+k:Nat):Int)=30+(k:Int) by lia] at fm;exact xh (tD (tq (yd (o5 (zy rfl (zy (o5 (zy rfl (zy rfl rfl)) fm) rfl)) u1) (sJ u2)))) rfl
def Ru {s:T}{m Em:Int}{f:T}{t:Str}{v8:Option L5.W}{z:T}(h:qH [z]=↑(.bl true)):turn (zG 7) jP z (wC s m Em f t v8)=↑(.nx ((wC s m Em f t v8).set 7 ↑(.im z))):=
 xh (tD (tq (yd rfl h))) rfl
theorem kR {is:List Nat}{g:T->Ev->Option Ev}{b:Sm}{J:Ev}(hρ:xi is J=J) {ts:List T}(h:∀ z∈ts,∃ J',turn g b z J=↑(.nx J')/\xi is J'=J):xF is g b ts J=↑(.nx J):=by
 let#[J',h1,h2]:=rn (is:=is) (g:=g) (b:=b) (λ t:T=>t) (λ _ r=>r=J) ts J hρ (by
  rintro p x q e r rfl;show h x (by rw[e];simp))
 subst h2;rw[List.map_id'] at h1;show h1
def RH {g:Ae}{J:Ev}{zs:List T}(h:g J=↑(.lst zs)):xc g J=↑zs:=by
 change (g J).bind _=_;rw[h];rfl
def bL {F:Ak}{g:Ae}{J:Ev}{x:T}{zs:List T}(h:g J=↑x) (hF:F [x]=↑(.lst zs)):xc (zi F (za g ze)) J=↑zs:=by
 change (zi F (za g ze) J).bind _=_;rw[yd h hF];rfl
theorem RW (ns:List Int) (_:ns.length<=63):oQ [yH ns]=↑(.bl true):=by
 have fm:=oP ns 0 ();obtain⟨m0,-⟩:=pP ns 0;generalize mixed ns 0=m at *;obtain⟨Em,hm⟩:∃ Em:Nat,(Em:Int)=1+m%8:=#[(1+m%8).toNat,⋯];obtain⟨more,Dy⟩:∃ more:Nat,(more:Int)=m/1352%17:=#[(m/1352%17).toNat,⋯];obtain⟨x,hx⟩:∃ b,b=m/8%13:=#[_,rfl];obtain⟨y,hy⟩:∃ b,b=m/104%13:=#[_,rfl];let#[G6,ws,qs,w1,w2,w3,w4,w5,w6,w7,w8,w9]:=Nf ns 2 Em more (xy (x,y)) () ⋯ ⋯ ⋯;let#[os,rfl]:=eJ G6 w3;have hb:yc (xy (x,y)) [(0,12),(0,12)]=true:=by
  change yc (.tup [.int x,.int y]) _=true;rw[fk];simp[wh];lia
 have hF:xt (zH x y os ws qs)=true:=QY hb w2 ⋯ ⋯ w3 w4 w5;have w1':qJ [yH ns,.int 2,.int Em,xy (x,y),.int more]=↑(zH x y os ws qs):=w1;let#[hk,hr]:=jt hF;have tl:=text_len hk;have ft:=rT hk;have fs:=lj hk;have sm:∀ {g k:Ae}{J:Ev},g J=↑(.str (Str.join "; " (zT x y os ws qs)))->k J=↑(zH x y os ws qs)->_:=λ hg hk=>dD hF hg hk;generalize Str.join "; " (zT x y os ws qs)=t at *;generalize zH x y os ws qs=f at *;have d8:yA m 8:=#[(),()];have JE:yA m 104:=#[(),()];have Ie:yA m 1352:=#[(),()];let#[bs,b1,b2,b3]:=Ni m;have GO:jG (wC (yH ns) m Em f t none)=↑(.lst (bs.map λ _=>T.bl true)):=by
  unfold jG;exact xX T.str _ bs (bL rfl b1) (AF b3 ()) λ z hz=>?_;change (zi ly (za (zp 0) ze) [↑(.im (.str z))]).map some=_;rw[yd rfl (OX (b2 z hz))];rfl
 have tail:∀ J:Ev,J=wC (yH ns) m Em f t none->∃ y,zo (zK 8 (yk (za (zc zq (zb 4) (cS (.str "\n"))) (za (zc zq (cS (.str "\n")) (zb 4)) (za (zc zq (zb 4) (cS (.str ";"))) (za (cS (.str "")) (za (cS (.str "brims 1 1")) (za (cS .zk) (za (cI 5) (za (yk (za (zp 4) ze)) ze))))))))))
   (zo (vw [7] (xc (zc zq (zb 8) (yk (za (cS (.str "brims 1 1; keeper; 0>0 0 -0")) (za (cS (.str "brims 01 1; keeper; 0>0 0 0")) ze))))) (zG 7) jP) (retS (cS (.bl true)))) J=↑(.rt y)/\y=.bl true:=by
  rintro J rfl;have e4:xB (zb 4) (wC (yH ns) m Em f t none) 1350:=#[t,rfl,tl];let#[a1,a2,a3]:=e4.add (m:=1) (g:=cS (.str "\n")) #["\n",rfl,()] ();let#[c1,c2,c3]:=xB.add (n:=1) (f:=cS (.str "\n")) #["\n",rfl,()] e4 ();let#[e1,e2,e3]:=e4.add (m:=1) (g:=cS (.str ";")) #[";",rfl,()] ();exact#[_,zD (yR (qi (zy a2 (zy c2 (zy e2 (zy rfl (zy rfl (zy rfl (zy rfl (zy rfl rfl)))))))) (by change 8<=100;decide))) (zD (si (RH (mK rfl rfl (by change 8+2<=10000;decide))) (kR (J:=wC (yH ns) m Em f t ↑(.im _)) rfl λ z hz=>#[_,Ru ?_,rfl])) rfl),rfl];simp![DG,List.nil_append,Ao,A5,or_false] at hz;rcases hz with rfl | rfl | rfl | rfl | rfl | rfl | rfl | rfl | rfl | rfl
  .show sJ ⋯
  .show sJ ⋯
  .show sJ ⋯
  .show sJ ()
  .show sJ ()
  .show lr (iz rfl)
  .show lr (iz rfl)
  .show lr (iz rfl)
  .show sJ ()
  .show sJ ()
 let#[_,tl1,rfl]:=tail _ rfl;exact xa (zD (yR (o5 (zy rfl (zy rfl rfl)) fm)) (zD (yR (y:=.int Em) ?_) (zD (yR (o5 (zy rfl (zy rfl (zy rfl (zy (x:=xy (x,y)) ?_ (zy (x:=.int more) ?_ rfl))))) w1')) (zD (yR (yd rfl ft)) (zD (yR (yd rfl fs)) (zD (xh (uK (tD (b:=true) (tq rfl)) (uK (uv (zY rfl rfl ?_)) (sm rfl rfl))) rfl) (zD (si (ts:=(List.range (62-30)).map λ(k:Nat)=>T.int (30+(k:Int))) (Xn 30 62 () ()) (kR (J:=wC (yH ns) m Em f t none) rfl ?_)) (zD (xh (tD (b:=true) (tq (yd GO ?_))) rfl) (zD (si (bL rfl (Nb m)) (kR (J:=wC (yH ns) m Em f t none) rfl ?_)) tl1))))))))) rfl
 .rw[hm];show zY rfl (vp rfl rfl ()) rfl
 .rw[hx,hy];show vj (zy (vp (r9 rfl rfl d8) rfl ()) (zy (vp (r9 rfl rfl JE) rfl ()) rfl)) (by change 2<=100;decide)
 .rw[Dy];show vp (r9 rfl rfl Ie) rfl ()
 .rw[eq_str,beq_self_eq_true];rfl
 .intro z hz;let#[k,hk,rfl]:=AA.mp hz;rw[A6] at hk;show#[_,Yh tl k ⋯,rfl]
 .change (tP _).map _=_;rw[tN (λ _=>true)];simp
 .show Bp.mpr #[#[_,hZ (Qs ⋯),rfl],Bp.mpr #[#[_,hZ Qr,rfl],nofun]]
end ym
namespace PySem.W.Fast
def te5027381407270049655:=0
local macro_rules|`(command|example:=$s:str)=>do
 let mut r:Array Lean.Syntax:=.empty
 let mut n:=0
 let mut k:=0
 for c in s.getString.toList do
  let a:=c.toNat
  n:=n*62+(if a>96 then a-61 else if a>64 then a-55 else a-48)
  k:=k+1
  if k==11 then
   let i:=Lean.mkIdent (.mkSimple s!"tw{n}")
   r:=r.push (<-`(command|theorem $i:ident:True:=trivial))
   n:=0
   k:=0
 return Lean.mkNullNode r
example:="Er2qoBpDrMYBwzJlvWYxuqLsHciSPUsnAAXvQd9RsGev9yIiMch2PNYKEaBemWSY29ILVgrtNH9XI3K3sBwBCuJ63lMfVuThtxO0OpOWuq9ZXjI88G2VHFWLu8jzT6NqXkPSCnS0Ra6rahRAh3lhbF2cXC9gpTW4stbkMFMzRz055vOp5K0AWT3ziFtKcjn1lGDZNy5kHbV9g6yVU7snrUNW0zV104QC5UBCxYi7BelptEsDZa0o2VCJkW84h4JxvLFfwQe48wyAKU3WPvrL6EBW9hayEoArCmEHZKHRE243mmxJb4be81c5pO0pIZVDkMlddJk1NF9HXpqF3yw9q6V7tcvLeiWU75sV730eSPj3a0UlBcgMGg8UeiXFzdFCRHYJ3lrtCqh07XHykwll4NkBusIXeQctUcI6ghnAQxDy4JSLURjjpwW78us6hHiFfQ5EIH7BwOzFL9BpcLWqHoMFdC9CS8c9J6Kz3vnbnTrUKyvFrwC2PO7hui98s3en603ZrG6vH5st7cGF1Wf3AWGoAPJ7GEX5JFmWul7BvxrXtv3E5BnLHyUoXvt77iA9niuuCuSAt1pJHtsZ0CEo3QMx8iWMk9JSjJDDwR4C95cQSk9ZghAJs4QL2SG0vdJ4yi0z6mX9ZDtnHG8DuygeK0etWIPpi4FAYZqRWLNmLAHE91reZLeEl3gIlXJfYssmGelrNNRauDD2ctctsF1oeL1GIZmaLT5rX1BEC6SdqPYm09QiaRhJfc73ybdlsT299uGEStCnSdIJaBXa63OcDXBc4zXPSCIQJ6PF8uB1Ncsxsg4yTM4eGDgzIHu345Z9hWgp4JXZHf2PsB20YtBMced5t8ChMMUOWxLxs8WTvDhydhTuHdnLXIlVJZG9LDfLIAez6e1wxXuZkQBNEBPr1vliZwdJ1PS17ji4pzfKhrfTLOWsqh8XTQs8dXGcu0MsdWnmCOEd8kyKLr4Sl18IL00a3cicLXHLy4FkAoZwKJLkQgQDLpWeEwcdQr55bt32LslSzTTwBhFwmZkW9VKSjAynf8Do1f9f0wkcOcQdXUv3rOa6Ki7J3kLYCPoxnbaHq0nFL0D0aSxi7mNFJUCDrG71otJuk8zx8nHNgrLpa8Bd29trzdf3sNV296Qaptntu8VG5W3wSJbkgnEyzkMkXXBXY0hOvxvRws4n64bokZatojnLE7FkHBATu484TfAwsbdtG3tqmg6ahOIULmT2oAkV8e3CAkbjAhSRwm97DnjDR8NZ2ASFsTUcVarm6PYoDq94JTMGXHWGQO0pSe6ZmzhWJCjHIIZAzinL3lQKCQuGabKL0xuImUgk8ttSNH4iSbGcEDKpuJTGRdYIxjWlCLmY2CvraY6LnyyC4HUWpgE61EoCFGBGE21aH24F0xaWICQ5O7XmO2A1h5fX72LfQXI2DIYVmfXbzDSCV1FzVzBc1cD8tjVFOZn5MWaNUIQbyyG47yxeqYVlq0KXyXoYUWnqLD6MpczK7yXEcZ77IjnErg8lMU6LvOgMJJuhVd8Bq0QG9f1Yy7zknwYCBodYiyDKKvIyDylSlB5uw0OD5td65fxcGO7zdtULAYUJGBHGJ6PKV59KQKwFt7fpuC8VC4uPA3ReK0wCTipReH0JMYBW4crdTu4G3BlP8t3aVFS1TBWFi5X8DlPtyfqznwKElldmb1xOkh55iZ3PRGqZoK1gPhCPsISs8swe8DThL0t8JXVr9eihAb0yhazr3mfyICJk6NWr9Aie1uaw4CD0kLOEdGtiatxgcV4aeV33AMIKF7YXhzyjVfwh4LatPdygjYm3OcdfC6ObbY3g9vQd1eJW0EZTYJGYGLJi5MWrgAbFnOsIGjWfIWeTwX0IPP463n5ptJcH01zx9NVf6fcVeb7WYRS0ZJXXqqIR0A2noym3zE6pWEZZiNFowpMqIcnmZFAWkyXJvRmByadgEs3UrEcVLq8KvJi0QHQ50RUGL5nqvCv1hHfIvGoXEOhk8BANhOp0Dp4L3BKbmv5GfONOIE7cmFueysmA9HjAMy9E9j9QLjPp6NsblBIHzcwQFzRFAQ4Vauf6NdcIzuKdRKR4v51GCndtd0Tf2HtgINnwmDPX9kFlnvXsWEPGmjlR8tpVfJ7oXC8QcpTQw0Ea5Xb0E8Rh5mwTYgilirwEFSp4P6ktO3Cbliv1NUjh84tQeMR9ZaA21TazWlSQoo90Oy4tGmpyPjBMD043kj8CfKslEDgRjlei8rs6gRz71xuDV43ahIOylp4XaGOr7FfzU5kyMsI9NujiIHxMiR9TUxvJjieVhbi728BzzZSMybXWSIMgBV9mZ4SA1sn1X7B2Jpp1yQ8BihOBckCaASegd020tAexYtLKNaszLN09tWLMHRq5kRpE0a9rpP4ZdDAKQ5DQi23HEWQafuh528E6t1ThTgU8dgLlubHEpM0PW67G8UJEK0gnE5A33ATRJxnSpJmfHY7G0rxYOKSDlqDIn0CxEbdF90dYXx2wkbEzEGBneRb5rlaHkJcz5bQQ369uQmRoK7NgmDIbtxXKWU4E81xOWeg4T8X0HIXxRsWtEt1RjQY0WVVqBFyjHMbEVHAAKBK82UFcnqT6lbRHCIfuAfF3JdJO6HYxj2YWUQeH6Wtm8OsRwlTBbP8HfTjqLyqYf18PWHMN9GzjZFboYRLWrH267AfVDrK3HqZC1paJ5EmOKgGunRvxpzkkz77Ca9BlQKZ1CfIzCrHWSnBJhdI8QNNcIx5sFFynlgI6S1cTPGLo1mIRFush3wrzRYDLOgS4Y1gYSf6EyqWKLgTPV9B7ySJeM4iPHHlEts6kNDU83bQShlIwalFwr5htxjAUT8Y9d4ErWFdG9AdtlzqiYHUEcPis9FzSubI0pYnu8wbRvGw1h4yiKiPq7ucE9ZYOdVRJ1N5eVqjzRr5hQ9t8CYuR9GBpX3SPkTjDBAMGjVVrBUJ4teyP9sr3zWBd5Q7fsImzY5cYNZdjcxcLHHSzN6ValZpAcTP2ObcTxP5PTiHMZMyQ15eOWUWtfZPhK8gTzizB26jDU7gjmP5lvzD56vxV2BtVaK3tvRIG7x7h8Jh1TcbSE11D9tlqUn14u0GanAISuBNbn5wtAIZv32gEGJlIu9rrcdlDygQFkuoSLs5US6vutRTLHIhCNN8mRtRr3sqfYhSrDiz8O0JcSQw8i3BwGoOWdZeRfAoYTKGMei3uDDN16kK6Vok1Rnz65NMDir70ai1xx4Y0DH0Oq5v6hG8f10DLmP1JKT70dkWf0dUcAR2tGb8IuCmoaKlI70LdchHHEp5Ql1LVuIn82JJeOMF5EQJyqG78NvoW3JQuwh9ZktlMBVUTbIWJrat4LFfQj5IlG8DYGqlhTLPXiKZxDayrup7kKBvOBJLbY9W9BPpuw4YZLEBuVC9xnpqeu7JAo43Gdx2cAO7l1ogXcmP1Ad9NJWHf249BubNqnv5ga2hi96NiMiZS8qQ6fyzBVic02Tov3PBiofJ4PgCWJKYARFPInXrimt8u0YhZlRd1zMRG7PK6YylnJF7NSoeeVoBKG0zybo03TOCA9cSamGL7B91ADOaZBSNOUS5KDp8jpyTVa6UQh2b43MRmCTghabTLJHfHtnjv2eAHSR6xNBkQNfaArI57I7IUAbYq3LWguMRl3Nz6F8930aHgu4DGfKNKDe2YUCuU1Exg8sSgByZ3lnCjceg2lEIbLoKu1WISL8Yu3DMAc13Yxizl2oCn0xMnfpzQRjlCNzvRLTUgBZJIlfSUIXrs3J0kXrapsFMuFmhVxSZQ2ivETLp88xQDPPHDWRfSroB7OJMZidykJaqt3ZXbWeU2qYo9aVt9Sm6CaDHfXt4CjAxQx0la5lWgWJiE0zxete2MI3bB584ro6BzTHFONTc1SmbDY70csGMbyGVuIM06u7VJNwNDaA8dRXcWCvGt2zbYOxoxcBvqIHyLIhiIGbcWwN7WunK49jKL5YH9Ms8JW6HMvowuKLh6ULUWtwIhAPdFvBNdkaR6YIiZohktxQDRBHFCsQ7MJ9Zj8XHAEX5NKwW45T88I2tEuRdbAYRhmkFuVQAm7DZEeDpfr8iAbMuI4iN2o698N1VFlF5RHnd8pk4he4bYCvujI3XkF6wHRgEO"
end PySem.W.Fast
namespace ym
open PySem L2 L3 L5
open PyProof.Rows hiding St
def top (i:Nat):Stmt:=PySem.Challenge.pw_purseborder_k03_floors_written.main.body.getD i (.Pass #[0,0,0,0])
set_option maxHeartbeats 0
section
variable (P:Program)(w:World)(K:Ab)(mg:Au)(base:Heap)
abbrev Zc:=FD P w K mg base "is_whole" 1 ["thing"] (zB zx l7)
abbrev iH:=FD P w K mg base "are_rising" 1 ["things"] (zB zx rX)
abbrev Zd:=FD P w K mg base "is_owner" 1 ["thing"] (zB zx i9)
abbrev aM:=FD P w K mg base "show_way" 1 ["way"] (zB zx ix)
abbrev aN:=FD P w K mg base "show_stall" 1 ["stall"] (zB zx iy)
abbrev aP:=FD P w K mg base "read_word" 1 ["word"] (zB wa ll)
abbrev oX:=FD P w K mg base "_law_mixed" 1 ["_law_script","_law_k"] (zB zx sL)
abbrev aW:=FD P w K mg base "_law_stalls" 1 ["_law_cell","_law_owners"] (zB zx lx)
abbrev iC:=FD P w K mg base "_law_kinds" 1 ["_law_caught"] (zB zx qI)
abbrev lC:=FD P w K mg base "_law_text" 1 ["_law_floor_here"] (zB wa vF)
abbrev aV:=FD P w K mg base "_law_turned" 1 ["_law_text_here","_law_number"] (zB wa i4)
abbrev aR:=FD P w K mg base "_law_within" 1 ["_law_number"] (zB zx i0)
abbrev Zb:=FD P w K mg base "is_whole_within" 2 ["thing","least","most"] (zB zx oS)
abbrev Zg:=FD P w K mg base "are_owners" 2 ["thing"] (zB zx oW)
abbrev iB:=FD P w K mg base "show_floor" 2 ["floor"] (zB wa rV)
abbrev aO:=FD P w K mg base "read_words" 2 ["words"] (zB zx rW)
abbrev aU:=FD P w K mg base "_law_ways" 2 ["_law_script","_law_at","_law_many","_law_more","_law_span"] (zB zx lu)
abbrev aX:=FD P w K mg base "_law_stall_cell" 2 ["_law_script","_law_at","_law_digits"] (zB zx i6)
abbrev Za:=FD P w K mg base "_law_beyond" 2 ["_law_number"] (zB zx i8)
abbrev iD:=FD P w K mg base "is_row_within" 3 ["thing","bounds"] (zB zx qK)
abbrev aQ:=FD P w K mg base "read_parts" 3 ["parts"] (zB zx lq)
abbrev a_:=FD P w K mg base "_law_floor" 3 ["_law_script","_law_at","_law_many","_law_brims","_law_more"] (zB zx qJ)
abbrev iG:=FD P w K mg base "are_rows_within" 4 ["thing","bounds"] (zB zx qL)
abbrev Zh:=FD P w K mg base "are_brims" 4 ["thing"] (zB zx l8)
abbrev Ze:=FD P w K mg base "are_ways" 5 ["thing","places"] (zB zx oU)
abbrev Zf:=FD P w K mg base "are_stalls" 5 ["thing","owners"] (zB zx oV)
abbrev iE:=FD P w K mg base "is_floor" 6 ["thing"] (zB zx sM)
abbrev lB:=uZ P w K mg base "read_floor" 7 ["text"] (zB wa y9)
abbrev lA (n:Nat):=FD P w K mg base "_law_same" (n+1) ["_law_found","_law_due"] (zB zx (xS n))
abbrev Nl:=lA P w K mg base 6
abbrev aY:=FD P w K mg base "_law_refused" 8 ["_law_text_here"] (zB zx ly)
abbrev aZ:=FD P w K mg base "_law_read" 8 ["_law_text_here"] (zB zx qH)
variable {K mg}(T:Bt mg)(U:Bq mg)
include T U
theorem SK (F:Fy K mg "is_whole" (top 17)):Zc P w K mg base:=
 yu [] F
theorem Rm (F:Fy K mg "are_rising" (top 21)):iH P w K mg base:=
 yu [(["one","other"],[none,none])] F
theorem SN (F:Fy K mg "is_owner" (top 23)) (EH:Cm mg "KEEPER" (.str "keeper")) (E7:Cm mg "TAKER" (.str "taker")):Zd P w K mg base:=
 yu [] F
theorem TY (F:Fy K mg "show_way" (top 30)):aM P w K mg base:=
 yu [] F
theorem TZ (F:Fy K mg "show_stall" (top 31)) (ET:Cq K mg "PURSES" ["a","b"]):aN P w K mg base:=
 yu [] F
theorem Sf (F:Fy K mg "read_word" (top 33)) (Er:Cm mg "MOST_COINS" (.int 12)) (ET:Cq K mg "PURSES" ["a","b"]):aP P w K mg base:=
 yu [] F
theorem SA (F:Fy K mg "_law_mixed" (top 38)):oX P w K mg base:=
 yu [] F
theorem Sz (F:Fy K mg "_law_stalls" (top 40)):aW P w K mg base:=
 yu [] F
theorem SD (F:Fy K mg "_law_kinds" (top 43)) (EL:Og K mg "NoChange") (E5:Og K mg "NoCount") (E4:Og K mg "NoFloor") (Fd:Og K mg "NoMore") (Fc:Og K mg "NoName") (Fb:Og K mg "NoPair") (EZ:Og K mg "NoPlace") (Fz:Og K mg "NoRow") (Fw:Og K mg "NoWay") (E_:Og K mg "PurseError") (HV:mg "ValueError"=none):iC P w K mg base:=
 yu [(["_law_k","_law_some"],[none,↑1])] F
theorem Sy (F:Fy K mg "_law_text" (top 45)):lC P w K mg base:=
 yu [] F
theorem Sw (F:Fy K mg "_law_turned" (top 46)):aV P w K mg base:=
 yu [] F
theorem Su (F:Fy K mg "_law_within" (top 48)):aR P w K mg base:=
 yu [(["_law_k"],[none])] F
theorem SH (F:Fy K mg "is_whole_within" (top 18)) (FI:Zc P w K mg base):Zb P w K mg base:=
 yu [] F
theorem Rn (F:Fy K mg "are_owners" (top 24)) (EG:Cm mg "MOST_PLACES" (.int 8)) (FJ:Zd P w K mg base):Zg P w K mg base:=
 yu [(["owner"],[none])] F
theorem T_ (F:Fy K mg "show_floor" (top 32)) (FF:aM P w K mg base) (Fe:aN P w K mg base):iB P w K mg base:=
 yu [(["way"],[none]),(["stall"],[none])] F
theorem Sd (F:Fy K mg "read_words" (top 34)) (Ft:aP P w K mg base):aO P w K mg base:=
 yu [(["word"],[none])] F
theorem Sv (F:Fy K mg "_law_ways" (top 39)) (Ew:oX P w K mg base):aU P w K mg base:=
 yu [] F
theorem S7 (F:Fy K mg "_law_stall_cell" (top 41)) (Ew:oX P w K mg base):aX P w K mg base:=
 yu [] F
theorem SF (F:Fy K mg "_law_beyond" (top 47)) (EF:lC P w K mg base):Za P w K mg base:=
 yu [(["_law_k"],[none]),(["_law_thing"],[none])] F
theorem SM (F:Fy K mg "is_row_within" (top 19)) (EO:Zb P w K mg base):iD P w K mg base:=
 yu [(["number","bound"],[none,none])] F
theorem Sg (F:Fy K mg "read_parts" (top 35)) (EH:Cm mg "KEEPER" (.str "keeper")) (E7:Cm mg "TAKER" (.str "taker")) (Ff:aO P w K mg base):aQ P w K mg base:=
 yu [] F
theorem SE (F:Fy K mg "_law_floor" (top 42)) (Ew:oX P w K mg base) (Fj:aW P w K mg base) (FG:aU P w K mg base) (EU:aX P w K mg base):a_ P w K mg base:=
 yu [] F
theorem Rl (F:Fy K mg "are_rows_within" (top 20)) (EE:iD P w K mg base):iG P w K mg base:=
 yu [(["row","bounds"],[none,↑1])] F
theorem Ro (F:Fy K mg "are_brims" (top 22)) (Er:Cm mg "MOST_COINS" (.int 12)) (EE:iD P w K mg base):Zh P w K mg base:=
 yu [] F
theorem Ri (F:Fy K mg "are_ways" (top 25)) (Er:Cm mg "MOST_COINS" (.int 12)) (EM:Cm mg "MOST_WAYS" (.int 24)) (Ey:iG P w K mg base) (EK:iH P w K mg base):Ze P w K mg base:=
 yu [(["way"],[none]),(["start","starts"],[none,↑4])] F
theorem Rj (F:Fy K mg "are_stalls" (top 26)) (EH:Cm mg "KEEPER" (.str "keeper")) (Er:Cm mg "MOST_COINS" (.int 12)) (Ey:iG P w K mg base) (EK:iH P w K mg base):Zf P w K mg base:=
 yu [(["stall"],[none]),(["stall","owners"],[none,↑1])] F
theorem SO (F:Fy K mg "is_floor" (top 27)) (FK:Ze P w K mg base) (Fn:Zf P w K mg base) (Fv:Zh P w K mg base) (Fo:Zg P w K mg base):iE P w K mg base:=
 yu [] F
theorem Sh (F:Fy K mg "read_floor" (top 36)) (E6:lb K mg "NoFloor") (Fg:aQ P w K mg base) (EW:iE P w K mg base) (EJ:iB P w K mg base):lB P w K mg base:=
 Pc [] F
theorem qh {n:Nat}(F:Fy K mg "_law_same" (top 44)) (Eo:lA P w K mg base n):lA P w K mg base (n+1):=by
 have hh:n+1+1=n+1+1:=⋯;change FD P w K mg base _ (n+1+1) _ _;rw[hh];show yu [(["_law_k","_law_found","_law_due"],[none,↑0,↑1])] F
theorem Rq (F:Fy K mg "_law_same" (top 44)):lA P w K mg base 0:=Pg F (λ _ _ _ _ _ _=>jU λ _ _=>rfl)
theorem S8 (F:Fy K mg "_law_refused" (top 49)) (EA:lB P w K mg base) (EN:iC P w K mg base):aY P w K mg base:=
 yu [] F
theorem S9 (F:Fy K mg "_law_read" (top 50)) (EA:lB P w K mg base) (EN:iC P w K mg base) (EW:iE P w K mg base) (EF:lC P w K mg base):aZ P w K mg base:=
 yu [] F
theorem SG {f:Addr}{fd:FuncData}(F:vC K "law" "law" (top 51) f fd) (Ew:oX P w K mg base) (Fu:a_ P w K mg base) (EF:lC P w K mg base) (EJ:iB P w K mg base) (Fh:aR P w K mg base) (Eo:Nl P w K mg base) (FH:aZ P w K mg base) (EA:lB P w K mg base) (Fi:aV P w K mg base) (E8:aY P w K mg base) (Fm:Za P w K mg base):yL P w K mg base yv 9 f fd ["_law_script"] (uu K (zB zx oQ)):=
 QX [(["_law_thing"],[none])] F
end
def all_mk {l:PySem.W.OpenLaw}{w:World}{K:Ab}{h:Heap}{mg:Au}{fa:Addr}(X:K.In h) (G:h.Ns mainGlobals mg) (Eg:mg "law"=↑(.ref fa))
  (h0:Fx K "is_whole" (top 17)) (h1:Fx K "is_whole_within" (top 18)) (h2:Fx K "is_row_within" (top 19)) (h3:Fx K "are_rows_within" (top 20)) (h4:Fx K "are_rising" (top 21)) (h5:Fx K "are_brims" (top 22)) (h6:Fx K "is_owner" (top 23)) (h7:Fx K "are_owners" (top 24)) (h8:Fx K "are_ways" (top 25)) (h9:Fx K "are_stalls" (top 26)) (h10:Fx K "is_floor" (top 27)) (h11:Fx K "show_way" (top 30)) (h12:Fx K "show_stall" (top 31)) (h13:Fx K "show_floor" (top 32)) (h14:Fx K "read_word" (top 33)) (h15:Fx K "read_words" (top 34)) (h16:Fx K "read_parts" (top 35)) (h17:Fx K "read_floor" (top 36)) (h18:Fx K "_law_mixed" (top 38)) (h19:Fx K "_law_ways" (top 39)) (h20:Fx K "_law_stalls" (top 40)) (h21:Fx K "_law_stall_cell" (top 41)) (h22:Fx K "_law_floor" (top 42)) (h23:Fx K "_law_kinds" (top 43)) (GH:Fx K "_law_same" (top 44)) (h25:Fx K "_law_text" (top 45)) (h26:Fx K "_law_turned" (top 46)) (h27:Fx K "_law_beyond" (top 47)) (h28:Fx K "_law_within" (top 48)) (h29:Fx K "_law_refused" (top 49)) (h30:Fx K "_law_read" (top 50)) (h31:Fx K "law" (top 51))
  (EH:Cn K "KEEPER" (.str "keeper"))
  (Er:Cn K "MOST_COINS" (.int 12))
  (EG:Cn K "MOST_PLACES" (.int 8))
  (EM:Cn K "MOST_WAYS" (.int 24))
  (ET:Ct K "PURSES" ["a","b"])
  (E7:Cn K "TAKER" (.str "taker"))
  (E6:Ez K "NoFloor")
  (EL:Ec K "NoChange")
  (E5:Ec K "NoCount")
  (E4:Ec K "NoFloor")
  (Fd:Ec K "NoMore")
  (Fc:Ec K "NoName")
  (Fb:Ec K "NoPair")
  (EZ:Ec K "NoPlace")
  (Fz:Ec K "NoRow")
  (Fw:Ec K "NoWay")
  (HV:PySem.W.nsIn K mainGlobals "ValueError"=↑none)
  (y0:PySem.W.nsIn K mainGlobals "set"=↑none) (y1:PySem.W.nsIn K mainGlobals "zip"=↑none) (y2:PySem.W.nsIn K mainGlobals "enumerate"=↑none)
  (z0:PySem.W.nsIn K mainGlobals "len"=↑none) (z1:PySem.W.nsIn K mainGlobals "range"=↑none) (z2:PySem.W.nsIn K mainGlobals "any"=↑none) (z3:PySem.W.nsIn K mainGlobals "all"=↑none) (z4:PySem.W.nsIn K mainGlobals "sorted"=↑none) (z5:PySem.W.nsIn K mainGlobals "isinstance"=↑none) (z6:PySem.W.nsIn K mainGlobals "bool"=↑none) (z7:PySem.W.nsIn K mainGlobals "int"=↑none) (z8:PySem.W.nsIn K mainGlobals "str"=↑none) (z9:PySem.W.nsIn K mainGlobals "list"=↑none) (z10:PySem.W.nsIn K mainGlobals "tuple"=↑none) (z11:PySem.W.nsIn K mainGlobals "max"=↑none) (z12:PySem.W.nsIn K mainGlobals "min"=↑none):
  ∃ fd:FuncData,(∀ (s:Shared) (v:Value),BindsTo s fd #[[v],[]] [("_law_script",v)])/\∀ base:Heap,K.In base->base.Ns mainGlobals mg->yL l.prog w K mg base yv 9 fa fd ["_law_script"] (uu K (zB zx oQ)):=by
 have T:Bt mg:=#[Be X G z0,Be X G z1,Be X G z2,Be X G z3,Be X G z4,Be X G z5,Be X G z6,Be X G z7,Be X G z8,Be X G z9,Be X G z10,Be X G z11,Be X G z12];have U:Bq mg:=#[Be X G y0,Be X G y1,Be X G y2];replace EH:=EH.mk X G;replace Er:=Er.mk X G;replace EG:=EG.mk X G;replace EM:=EM.mk X G;replace ET:=ET.mk X G;replace E7:=E7.mk X G;replace E6:=E6.mk X G;have E_:=EL.par X G;replace EL:=EL.mk X G;replace E5:=E5.mk X G;replace E4:=E4.mk X G;replace Fd:=Fd.mk X G;replace Fc:=Fc.mk X G;replace Fb:=Fb.mk X G;replace EZ:=EZ.mk X G;replace Fz:=Fz.mk X G;replace Fw:=Fw.mk X G;replace HV:=Be X G HV;let#[fd,Fl,hb]:=h31.law X G Eg λ _ _ _ _ _ _ _ _=>.of_eq rfl;exact#[fd,hb,λ base _ _=>?_];have FI:=SK l.prog w base T U (h0.mk X G);have EK:=Rm l.prog w base T U (h4.mk X G);have FJ:=SN l.prog w base T U (h6.mk X G) EH E7;have FF:=TY l.prog w base T U (h11.mk X G);have Fe:=TZ l.prog w base T U (h12.mk X G) ET;have Ft:=Sf l.prog w base T U (h14.mk X G) Er ET;have Ew:=SA l.prog w base T U (h18.mk X G);have Fj:=Sz l.prog w base T U (h20.mk X G);have EN:=SD l.prog w base T U (h23.mk X G) EL E5 E4 Fd Fc Fb EZ Fz Fw E_ HV;have EF:=Sy l.prog w base T U (h25.mk X G);have Fi:=Sw l.prog w base T U (h26.mk X G);have Fh:=Su l.prog w base T U (h28.mk X G);have EO:=SH l.prog w base T U (h1.mk X G) FI;have Fo:=Rn l.prog w base T U (h7.mk X G) EG FJ;have EJ:=T_ l.prog w base T U (h13.mk X G) FF Fe;have Ff:=Sd l.prog w base T U (h15.mk X G) Ft;have FG:=Sv l.prog w base T U (h19.mk X G) Ew;have EU:=S7 l.prog w base T U (h21.mk X G) Ew;have Fm:=SF l.prog w base T U (h27.mk X G) EF;have EE:=SM l.prog w base T U (h2.mk X G) EO;have Fg:=Sg l.prog w base T U (h16.mk X G) EH E7 Ff;have Fu:=SE l.prog w base T U (h22.mk X G) Ew Fj FG EU;have Ey:=Rl l.prog w base T U (h3.mk X G) EE;have Fv:=Ro l.prog w base T U (h5.mk X G) Er EE;have FK:=Ri l.prog w base T U (h8.mk X G) Er EM Ey EK;have Fn:=Rj l.prog w base T U (h9.mk X G) EH Er Ey EK;have EW:=SO l.prog w base T U (h10.mk X G) FK Fn Fv Fo;have EA:=Sh l.prog w base T U (h17.mk X G) E6 Fg EW EJ;have Eo:=Rq l.prog w base T U (GH.mk X G);replace Eo:=qh l.prog w base T U (GH.mk X G) Eo;replace Eo:=qh l.prog w base T U (GH.mk X G) Eo;replace Eo:=qh l.prog w base T U (GH.mk X G) Eo;replace Eo:=qh l.prog w base T U (GH.mk X G) Eo;replace Eo:=qh l.prog w base T U (GH.mk X G) Eo;replace Eo:=qh l.prog w base T U (GH.mk X G) Eo;have E8:=S8 l.prog w base T U (h29.mk X G) EA EN;have FH:=S9 l.prog w base T U (h30.mk X G) EA EN EW EF;show SG l.prog w base T U Fl Ew Fu EF EJ Fh Eo FH EA Fi E8 Fm
def walk {l:PySem.W.OpenLaw}{q:Program}{loose:List Str}{XP:(Str->Option Value)->Heap->Prop}{YP:World->Heap->Prop}{d:DefRec}{K:Params->Ab}(hn:l.most=↑63) (Df:d.params.defaults=[])
  (hY:∀ (w:World) (h:Heap),YP w h->(K w.params).In h)
  (F:∀ (w:World) (mg:Au) (fa:Addr) (h:Heap),(K w.params).In h->h.Ns mainGlobals mg->mg d.name=↑(.ref fa)->
   ∃ fd:FuncData,(∀ (s:Shared) (u:Value),BindsTo s fd #[[u],[]] [("_law_script",u)])/\∀ base:Heap,(K w.params).In base->base.Ns mainGlobals mg->yL l.prog w (K w.params) mg base yv 9 fa fd ["_law_script"] (uu (K w.params) (zB zx oQ))):
  PySem.W.WalkO q loose XP YP l.row.toRowW d [] (λ f vs=>PySem.call f vs):=
 L2.ZT (n:=63) (k:=9) (x:="_law_script") (CX:=λ _=>yv) (sp:=λ w=>uu (K w.params) (zB zx oQ)) hn () Df #[rfl,(),()] hY F (λ _ _ a ns hl hO hS=>RY RW hO hS hl) λ _ _ _ _ _ z=>z
end ym
open PySem PySem.W PyProof.Rows
set_option maxHeartbeats 0 in
theorem PySem.Challenge.cw_purseborder_k03_floors_written_holds : PySem.Challenge.rw_purseborder_k03_floors_written.Holds := by
 w_on;o_law;k_head;(case hw=>w_witness2)
 k_fill
 refine ym.walk (l:=PySem.Challenge.rw_purseborder_k03_floors_written) rfl rfl (λ w h Y=>PySem.W.kIn_of Y) ?F
 case F=>
  intro w mg fa h KX G C7;refine' ym.all_mk KX G C7 ?_ ?_ ?_ ?_ ?_ ?_ ?_ ?_ ?_ ?_ ?_ ?_ ?_ ?_ ?_ ?_ ?_ ?_ ?_ ?_ ?_ ?_ ?_ ?_ ?_ ?_ ?_ ?_ ?_ ?_ ?_ ?_ ?_ ?_ ?_ ?_ ?_ ?_ ?_ ?_ ?_ ?_ ?_ ?_ ?_ ?_ ?_ ?_ ?_ ?_ ?_ ?_ ?_ ?_ ?_ ?_ ?_ ?_ ?_ ?_ ?_ ?_ ?_ ?_ ?_
  all_goals first | exact L3.Ei.i (by k_is) (by k_is) (by k_is) (by k_is) (by kernel_rfl) (by k_is) (by k_is) (by k_is) (by k_is) (by k_is) (by k_is) | exact L3.Ec.i (by k_is) (by k_is) (by k_is) (by k_is) (by kernel_rfl) | exact L3.Ez.i (by k_is) (by k_is) (by k_is) (by k_is) (by kernel_rfl) (by k_is) (by k_is) | exact L5.Fx.i (by k_is) (by k_is) (by k_is) (by k_is) | k_is | exact L5.Cn.i (by k_is) (by exact⟨_,rfl⟩) | exact L5.Ct.i (by k_is) (by k_is) ⟨rfl,rfl⟩ rfl (by decide) (.cons ⟨_,rfl⟩ (.cons ⟨_,rfl⟩ .nil))
