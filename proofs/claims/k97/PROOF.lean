import PyProof.Rows.All
import Wide.All
import OpenK.AllK
import Wide.FinOn
import Lean
import PyProof.EqAt
import PyProof.EqKinds
import PyProof.TupleCall
import PySem.SetOps
import PyProof.SetScanFacts
import PyProof.TupleKey
import PyProof.SetKind
import PyProof.SetRoads
import PyProof.IsRules
import PyProof.ZipIter
import PyProof.TupleIter
import PyProof.ListMulRoad
import PyProof.FactsAll.tuple
import PyProof.ListRange
import PyProof.Draws
import PyProof.EnumFor
import PyProof.Rows.ListMul
import PyProof.AutoListH
import PyProof.ExcInit
import PyProof.ExcClass2
import PyProof.InstStore
import PyProof.InstStoreFacts
import PyProof.ExcArgsOwn
import PyProof.IsInstance
import PyProof.IsInstanceH
import PyProof.StationsW
import PyProof.Rows.CatchOwn
import PyProof.FactsAll.dict_1
import PyProof.Rows.Range3
import PyProof.FitsBits
import PyProof.MinMaxWalk
import PyProof.WalkInts
import PyProof.Rows.MinMaxN
import PyProof.EqKinds
import PyProof.StrCalls2
import PyProof.StrCalls6
import PyProof.CallStr
import PyProof.StrBlockG
import PyProof.SliceStr2
import PyProof.IsInstanceT
import PyProof.StrLawsReplace
import PyProof.Rows.StrSplitJoin
import PyProof.StrLoop
import PyProof.StrWalks
import PyProof.Rows.StrSplitMax
import KE.KIntText
import PyProof.StrBlock
import PyProof.StrCalls5
import PySem.Challenge.RW_purseborder_k97_whole_more_never_harms
set_option Elab.async false
set_option linter.all false
set_option maxRecDepth 100000
set_option genSizeOf false
set_option compiler.extract_closed false
set_option bootstrap.genMatcherCode false
abbrev zVP:=PySem.Value->PySem.Shared->Prop
abbrev zLA:=List (PySem.Addr×PySem.Obj)
abbrev zLV:=List PySem.Value
abbrev zSV:=PySem.Str->Option PySem.Value
abbrev zAV:=Array PySem.Value
def zdK {p:Prop}[Decidable p](h:decide p=true:=by decide +kernel):p:=of_decide_eq_true h
noncomputable section
def zeS:=@PySem.wpAny_bind
def zeT:=@PySem.Heap.get?_push_of_some
def zeU:=@PySem.PassesOwn.never
def zeV:=@decide_eq_true
def zeW:=@decide_eq_false
def zeX:=@PySem.wpAny_field
def zeY:=@PySem.wpAny_mono
def zeZ:=@PySem.wpAny_holding
def zf0:=@PySem.wpAny_call_entry
def zf1:=@PySem.wpAny_newObj_type
def zf2:=@PySem.wpAny_truthy_bool
def zf3:=@PySem.wpAny_setState_of
def zf4:=@PySem.wpAny_seqItems
def zf5:=@PySem.wpAny_callSpecial?_slot
def zf6:=@PySem.wpAny_rule
def zf7:=@PySem.wpAny_typeOf
def zf8:=@PySem.wpAny_passesOwn
def zf9:=@PySem.Heap.get?_update_self
def zfA:=@PySem.wpAny_Call_method_late
def zfB:=@PySem.wpAny_setField_rec
def zfC:=@PySem.wpAny_execs_nil
def zfD:=@PySem.wpAny_Call_Name_kw
def zfE:=@PySem.wpAny_pyIter_list
def zfF:=@PySem.wpAny_askSetting
def zfG:=@PySem.wpAny_setField
def zfH:=@PySem.Heap.get?_update_other
def zfI:=@PySem.Heap.get?_update_ne
def zfJ:=@PySem.wpAny_getItem_str_slice
def zc0:=@Option.bind_eq_some_iff
def zc1:=@List.mem_cons_self
def zc2:=@List.mem_cons_of_mem
def zc3:=@Option.map_eq_some_iff
def zc4:=@List.map_nil
def zc5:=@List.lookup_cons
def zc6:=@List.not_mem_nil
def zc7:=@Bool.false_ne_true
def zc8:=@List.pairwise_cons
def zc9:=@List.map_congr_left
def zcA:=@List.append_nil
def zcB:=@List.nodup_cons
def zcC:=@Nat.lt_or_ge
def zcD:=@List.pairwise_map
def zcE:=@List.any_cons
def zcF:=@Nat.ne_of_gt
def zcG:=@List.mem_flatMap
def zcH:=@List.filterMap_cons
def zcI:=@Nat.lt_trans
def zcJ:=@List.all_map
def zcK:=@List.mem_append_left
def zcL:=@List.length_nil
def zcM:=@List.length_drop
def zcN:=@List.replicate_succ
def zcO:=@List.find?_cons
def zcP:=@List.mem_iff_getElem
def zcQ:=@List.all_cons
def zcR:=@List.flatten_cons
def zcS:=@List.map_id
def zcT:=@List.foldl_cons
def zcU:=@List.getElem?_append_left
def zcV:=@Bool.and_false
def zcW:=@List.ext_getElem
def zcX:=@Array.getElem_toList
def zcY:=@Array.getElem?_eq_none
def zcZ:=@List.map_drop
def zd0:=@Nat.lt_succ_of_lt
def zd1:=@Nat.le_add_right
def zd2:=@Int.toNat_natCast
def zd3:=@List.getElem?_replicate
def zd4:=@List.forIn_cons
def zd5:=@Nat.mul_le_mul_right
def zd6:=@Nat.lt_trichotomy
def zd7:=@List.length_filter_le
def zd8:=@List.of_mem_zip
def zd9:=@Option.isSome_iff_exists
def zdA:=@List.length_take
def zdB:=@List.getElem?_append_right
def zdC:=@List.length_set
def zdD:=@Nat.lt_of_le_of_lt
def zdE:=@List.getElem?_set
def zdF:=@List.getElem?_eq_none
def zdG:=@Array.size_map
def zdH:=@List.pairwise_iff_getElem
def zdI:=@Bool.and_self
def zdJ:=@List.cons_append
def zdL:=@Nat.mod_lt
def zdM:=@List.toList_toArray
def zdN:=@List.length_zip
def zdO:=@Nat.zero_add
def zdP:=@List.mem_of_find?_eq_some
def zdQ:=@List.sum_cons
def zdR:=@Int.mul_nonneg
def zdS:=@Int.natCast_succ
def zdT:=@Int.add_mul
def zdU:=@List.foldl_append
def zdV:=@List.getElem?_eq_none_iff
def zdW:=@Nat.le_of_eq
def zdX:=@List.zip_cons_cons
def zdY:=@List.pairwise_append
def zdZ:=@List.lookup_append
def ze0:=@Array.getD_eq_getD_getElem?
def ze1:=@Option.isSome_map
def ze2:=@Nat.mul_comm
def ze3:=@Nat.add_comm
def ze4:=@List.take_append_drop
def ze5:=@Array.getElem?_setIfInBounds
def ze6:=@List.map_take
def ze7:=@List.zipIdx_cons
def ze8:=@Int.zero_add
def ze9:=@List.any_map
def zeB:=@List.take_of_length_le
def zeC:=@Bool.not_eq_true'
def zeD:=@List.mem_filterMap
def zeE:=@List.pairwise_singleton
def zeF:=@List.getElem_range
def zeG:=@List.length_pos_of_mem
def zeH:=@List.nodup_range
def zeI:=@List.getElem?_cons_succ
def zeJ:=@List.mem_of_mem_drop
def zeK:=@List.perm_ext_iff_of_nodup
def zeM:=@List.mem_iff_getElem?
def zeN:=@List.length_pos_iff
def zeP:=@List.exists_cons_of_ne_nil
def zeQ:=@List.mem_reverse
def zeR:=@Bool.beq_eq_decide_eq
def zA0:=@List.size_toArray
def zA1:=@List.getElem?_eq_getElem
def zA2:=@List.getElem?_eq_some_iff
def zA3:=@List.getElem?_map
def zA4:=@Nat.le_refl
def zA5:=@List.mem_cons
def zA6:=@List.map_cons
def zA7:=@List.length_map
def zA8:=@PySem.Heap.lt_size
def zA9:=@PySem.Heap.get?_push_size
def zB0:=@List.mem_map
def zB1:=@List.getD_eq_getElem?_getD
def zB2:=@Bool.not_false
def zB3:=@Nat.ne_of_lt
def zB4:=@List.mem_append_right
def zB5:=@Bool.not_true
def zB6:=@List.mem_singleton
def zB7:=@List.mem_of_getElem?
def zB8:=@Array.getElem?_eq_getElem
def zB9:=@List.mem_append
def zC0:=@List.length_cons
def zC1:=@List.mem_range
def zC2:=@PySem.W.mg_none_of
def zC3:=@Nat.lt_of_lt_of_le
def zC4:=@Bool.false_eq_true
def zC5:=@List.length_range
def zC6:=@Int.le_refl
def zC7:=@Bool.eq_iff_iff
def zC8:=@List.mem_filter
def zC9:=@Option.bind_some
def zD0:=@List.any_eq_true
def zD1:=@PySem.wpAny_pure
def zD2:=@Array.length_toList
def zD3:=@Array.getElem?_toList
def zD4:=@Nat.zero_le
def zD5:=@Option.some.inj
def zD6:=@List.map_map
def zD7:=@List.length_append
def zD8:=@List.getElem_mem
def zE0:=@Nat.le_trans
def zE1:=@Nat.lt_irrefl
def zE2:=@Nat.lt_succ_self
def zE3:=@Nat.le_of_lt
def zE4:=@List.all_eq_true
def zE5:=@Bool.and_eq_true
def zE6:=@Bool.or_eq_true
def zE7:=@List.map_append
def zE8:=@List.append_assoc
def zE9:=@Bool.not_eq_true
def zF0:=@Int.emod_nonneg
def zF1:=@Int.emod_lt_of_pos
def zF2:=@Int.toNat_of_nonneg
section
theorem E_0_1{p:Prop}{G:Prop}(h:p) (f:p->G):G:=f h
theorem E_0_2{p q:Prop}{G:Prop}(h:p/\q) (f:p->q->G):G:=E_0_1 h.2 (f h.1)
theorem E_1_1{α:Sort _}{p:α->Prop}{G:Prop}(h:∃ a,p a) (f:∀ a,p a->G):G:=h.elim λ a h=>E_0_1 h (f a)
theorem E_0_3{p q r:Prop}{G:Prop}(h:p/\q/\r) (f:p->q->r->G):G:=E_0_2 h.2 (f h.1)
theorem E_1_2{α:Sort _}{p q:α->Prop}{G:Prop}(h:∃ a,p a/\q a) (f:∀ a,p a->q a->G):G:=h.elim λ a h=>E_0_2 h (f a)
theorem E_2_1{α β:Sort _}{p:α->β->Prop}{G:Prop}(h:∃ a b,p a b) (f:∀ a b,p a b->G):G:=h.elim λ a h=>E_1_1 h (f a)
theorem E_0_4{p q r s:Prop}{G:Prop}(h:p/\q/\r/\s) (f:p->q->r->s->G):G:=E_0_3 h.2 (f h.1)
theorem E_1_3{α:Sort _}{p q r:α->Prop}{G:Prop}(h:∃ a,p a/\q a/\r a) (f:∀ a,p a->q a->r a->G):G:=h.elim λ a h=>E_0_3 h (f a)
theorem E_2_2{α β:Sort _}{p q:α->β->Prop}{G:Prop}(h:∃ a b,p a b/\q a b) (f:∀ a b,p a b->q a b->G):G:=h.elim λ a h=>E_1_2 h (f a)
theorem E_3_1{α β γ:Sort _}{p:α->β->γ->Prop}{G:Prop}(h:∃ a b c,p a b c) (f:∀ a b c,p a b c->G):G:=h.elim λ a h=>E_2_1 h (f a)
theorem E_0_5{p q r s t:Prop}{G:Prop}(h:p/\q/\r/\s/\t) (f:p->q->r->s->t->G):G:=E_0_4 h.2 (f h.1)
theorem E_1_4{α:Sort _}{p q r s:α->Prop}{G:Prop}(h:∃ a,p a/\q a/\r a/\s a) (f:∀ a,p a->q a->r a->s a->G):G:=h.elim λ a h=>E_0_4 h (f a)
theorem E_2_3{α β:Sort _}{p q r:α->β->Prop}{G:Prop}(h:∃ a b,p a b/\q a b/\r a b) (f:∀ a b,p a b->q a b->r a b->G):G:=h.elim λ a h=>E_1_3 h (f a)
theorem E_3_2{α β γ:Sort _}{p q:α->β->γ->Prop}{G:Prop}(h:∃ a b c,p a b c/\q a b c) (f:∀ a b c,p a b c->q a b c->G):G:=h.elim λ a h=>E_2_2 h (f a)
theorem E_4_1{α β γ δ:Sort _}{p:α->β->γ->δ->Prop}{G:Prop}(h:∃ a b c d,p a b c d) (f:∀ a b c d,p a b c d->G):G:=h.elim λ a h=>E_3_1 h (f a)
theorem E_0_6{p q r s t u:Prop}{G:Prop}(h:p/\q/\r/\s/\t/\u) (f:p->q->r->s->t->u->G):G:=E_0_5 h.2 (f h.1)
theorem E_1_5{α:Sort _}{p q r s t:α->Prop}{G:Prop}(h:∃ a,p a/\q a/\r a/\s a/\t a) (f:∀ a,p a->q a->r a->s a->t a->G):G:=h.elim λ a h=>E_0_5 h (f a)
theorem E_2_4{α β:Sort _}{p q r s:α->β->Prop}{G:Prop}(h:∃ a b,p a b/\q a b/\r a b/\s a b) (f:∀ a b,p a b->q a b->r a b->s a b->G):G:=h.elim λ a h=>E_1_4 h (f a)
theorem E_3_3{α β γ:Sort _}{p q r:α->β->γ->Prop}{G:Prop}(h:∃ a b c,p a b c/\q a b c/\r a b c) (f:∀ a b c,p a b c->q a b c->r a b c->G):G:=h.elim λ a h=>E_2_3 h (f a)
theorem E_4_2{α β γ δ:Sort _}{p q:α->β->γ->δ->Prop}{G:Prop}(h:∃ a b c d,p a b c d/\q a b c d) (f:∀ a b c d,p a b c d->q a b c d->G):G:=h.elim λ a h=>E_3_2 h (f a)
theorem E_0_7{p q r s t u v:Prop}{G:Prop}(h:p/\q/\r/\s/\t/\u/\v) (f:p->q->r->s->t->u->v->G):G:=E_0_6 h.2 (f h.1)
theorem E_1_6{α:Sort _}{p q r s t u:α->Prop}{G:Prop}(h:∃ a,p a/\q a/\r a/\s a/\t a/\u a) (f:∀ a,p a->q a->r a->s a->t a->u a->G):G:=h.elim λ a h=>E_0_6 h (f a)
theorem E_2_5{α β:Sort _}{p q r s t:α->β->Prop}{G:Prop}(h:∃ a b,p a b/\q a b/\r a b/\s a b/\t a b) (f:∀ a b,p a b->q a b->r a b->s a b->t a b->G):G:=h.elim λ a h=>E_1_5 h (f a)
theorem E_3_4{α β γ:Sort _}{p q r s:α->β->γ->Prop}{G:Prop}(h:∃ a b c,p a b c/\q a b c/\r a b c/\s a b c) (f:∀ a b c,p a b c->q a b c->r a b c->s a b c->G):G:=h.elim λ a h=>E_2_4 h (f a)
theorem E_4_3{α β γ δ:Sort _}{p q r:α->β->γ->δ->Prop}{G:Prop}(h:∃ a b c d,p a b c d/\q a b c d/\r a b c d) (f:∀ a b c d,p a b c d->q a b c d->r a b c d->G):G:=h.elim λ a h=>E_3_3 h (f a)
theorem E_0_8{p q r s t u v w:Prop}{G:Prop}(h:p/\q/\r/\s/\t/\u/\v/\w) (f:p->q->r->s->t->u->v->w->G):G:=E_0_7 h.2 (f h.1)
theorem E_1_7{α:Sort _}{p q r s t u v:α->Prop}{G:Prop}(h:∃ a,p a/\q a/\r a/\s a/\t a/\u a/\v a) (f:∀ a,p a->q a->r a->s a->t a->u a->v a->G):G:=h.elim λ a h=>E_0_7 h (f a)
theorem E_2_6{α β:Sort _}{p q r s t u:α->β->Prop}{G:Prop}(h:∃ a b,p a b/\q a b/\r a b/\s a b/\t a b/\u a b) (f:∀ a b,p a b->q a b->r a b->s a b->t a b->u a b->G):G:=h.elim λ a h=>E_1_6 h (f a)
theorem E_3_5{α β γ:Sort _}{p q r s t:α->β->γ->Prop}{G:Prop}(h:∃ a b c,p a b c/\q a b c/\r a b c/\s a b c/\t a b c) (f:∀ a b c,p a b c->q a b c->r a b c->s a b c->t a b c->G):G:=h.elim λ a h=>E_2_5 h (f a)
theorem E_4_4{α β γ δ:Sort _}{p q r s:α->β->γ->δ->Prop}{G:Prop}(h:∃ a b c d,p a b c d/\q a b c d/\r a b c d/\s a b c d) (f:∀ a b c d,p a b c d->q a b c d->r a b c d->s a b c d->G):G:=h.elim λ a h=>E_3_4 h (f a)
theorem E_5_3{α β γ δ ε:Sort _}{p q r:α->β->γ->δ->ε->Prop}{G:Prop}(h:∃ a b c d e,p a b c d e/\q a b c d e/\r a b c d e) (f:∀ a b c d e,p a b c d e->q a b c d e->r a b c d e->G):G:=h.elim λ a h=>E_4_3 h (f a)
theorem E_1_8{α:Sort _}{p q r s t u v w:α->Prop}{G:Prop}(h:∃ a,p a/\q a/\r a/\s a/\t a/\u a/\v a/\w a) (f:∀ a,p a->q a->r a->s a->t a->u a->v a->w a->G):G:=h.elim λ a h=>E_0_8 h (f a)
theorem E_2_7{α β:Sort _}{p q r s t u v:α->β->Prop}{G:Prop}(h:∃ a b,p a b/\q a b/\r a b/\s a b/\t a b/\u a b/\v a b) (f:∀ a b,p a b->q a b->r a b->s a b->t a b->u a b->v a b->G):G:=h.elim λ a h=>E_1_7 h (f a)
theorem E_3_6{α β γ:Sort _}{p q r s t u:α->β->γ->Prop}{G:Prop}(h:∃ a b c,p a b c/\q a b c/\r a b c/\s a b c/\t a b c/\u a b c) (f:∀ a b c,p a b c->q a b c->r a b c->s a b c->t a b c->u a b c->G):G:=h.elim λ a h=>E_2_6 h (f a)
theorem E_4_5{α β γ δ:Sort _}{p q r s t:α->β->γ->δ->Prop}{G:Prop}(h:∃ a b c d,p a b c d/\q a b c d/\r a b c d/\s a b c d/\t a b c d) (f:∀ a b c d,p a b c d->q a b c d->r a b c d->s a b c d->t a b c d->G):G:=h.elim λ a h=>E_3_5 h (f a)
theorem E_2_8{α β:Sort _}{p q r s t u v w:α->β->Prop}{G:Prop}(h:∃ a b,p a b/\q a b/\r a b/\s a b/\t a b/\u a b/\v a b/\w a b) (f:∀ a b,p a b->q a b->r a b->s a b->t a b->u a b->v a b->w a b->G):G:=h.elim λ a h=>E_1_8 h (f a)
theorem E_4_6{α β γ δ:Sort _}{p q r s t u:α->β->γ->δ->Prop}{G:Prop}(h:∃ a b c d,p a b c d/\q a b c d/\r a b c d/\s a b c d/\t a b c d/\u a b c d) (f:∀ a b c d,p a b c d->q a b c d->r a b c d->s a b c d->t a b c d->u a b c d->G):G:=h.elim λ a h=>E_3_6 h (f a)
theorem E_3_8{α β γ:Sort _}{p q r s t u v w:α->β->γ->Prop}{G:Prop}(h:∃ a b c,p a b c/\q a b c/\r a b c/\s a b c/\t a b c/\u a b c/\v a b c/\w a b c) (f:∀ a b c,p a b c->q a b c->r a b c->s a b c->t a b c->u a b c->v a b c->w a b c->G):G:=h.elim λ a h=>E_2_8 h (f a)
end
open Lean in
def eKM (a:Array Term) (e:Term):MacroM (TSyntax `tactic):=do
 let n:=a.size
 if n<3||n>12 then Macro.throwUnsupported
 let f<-(List.range n).toArray.mapM λ k=>`(tacticSeq|refine $(mkIdent (.mkSimple s!"E_{n-1-k}_{k+1}")):ident $e ?_)
 let mut ts:=#[<-`(tactic|first $[|$f]*)]
 if e.raw.isIdent then ts:=ts.push (<-`(tactic|try clear $(⟨e.raw⟩):ident))
 let mut xs:Array Term:=#[]
 for x in a do
  if x.raw.isOfKind ``Lean.Parser.Term.hole||x.raw.isIdent&&x.raw.getId != `rfl then xs:=xs.push x
  else
   let y:Term<-withFreshMacroScope `(y)
   xs:=xs.push y
   ts:=ts.push (<-`(tactic|intro $xs:term*))
   xs:=#[]
   ts:=ts.push (<-if x.raw.isIdent then `(tactic|obtain $(⟨x.raw⟩):ident:=$y) else `(tactic|let $x:term:=$y))
 if xs.size>0 then ts:=ts.push (<-`(tactic|intro $xs:term*))
 `(tactic|($[$ts:tactic]*))
open Lean in
def czXX (T:NameMap (List Syntax)):Nat->Syntax->List Syntax
|0,s=>[s]
|n+1,s=>match s with
 |.ident _ _ v _=>(T.find? v).getD [s.setInfo .none]
 |.node i k a=>
  match if k== ``Lean.Elab.Tactic.Ext.ext then T.find? s[1][0][0][0].getId else if k== ``Lean.Parser.Term.implicitBinder&&s[2].getNumArgs==0 then T.find? s[1][0].getId else none with
  |some r=>if r.head!.isOfKind ``Lean.Parser.Term.byTactic then r.head![1][0][0].getArgs.toList else r
  |_=>let b:=a.toList.flatMap (czXX T n)
   [.node i k (match b with
    |[f,x]=>if k== ``Lean.Parser.Term.app&&f.isOfKind k then #[f[0],mkNullNode (f[1].getArgs++x.getArgs)] else b.toArray
    |_=>b.toArray)]
 |_=>[s.setInfo .none]
open Lean in
def czYY (q:Syntax):Array Syntax:=(q[1].getArgs.foldl (λ(T,a) c=>
 let e:=c[1]
 let z:=czXX T 9999
 if c.isOfKind ``Lean.Parser.Command.declaration&&e.isOfKind ``Lean.Parser.Command.example then
  let b:=e[1][0].getArgs
  let v:=e[2][1]
  (T.insert b[0]!.getId (if b.size==1 then z v else if b[1]!.isOfKind ``Lean.Parser.Term.hole then v[1].getArgs.toList.flatMap z else (b.toList.drop 1).flatMap z),a)
 else (T,a++z c)) ((∅:NameMap (List Syntax)),#[])).2
local macro_rules(kind:=Lean.Parser.Command.declaration)|s=>do
 unless s[1][2][1].isOfKind ``Lean.Parser.Command.quot do Lean.Macro.throwUnsupported
 return Lean.mkNullNode (czYY s[1][2][1])
open Lean in
def zRc:Nat->Term->MacroM (TSyntax `rcasesPat)
|0,_=>Macro.throwUnsupported
|n+1,t=>match t with
 |`(#[$xs,*])=>do let ys<-xs.getElems.mapM (zRc n);`(rcasesPat|⟨$[$ys:rcasesPat],*⟩)
 |`(_)=>`(rcasesPat|_)
 |`($x:ident)=>`(rcasesPat|$x:ident)
 |_=>Macro.throwUnsupported
local macro_rules|`(tactic|let $p:term:=$e)=>do let q<-zRc 9 p;`(tactic|obtain $q:rcasesPat:=$e)
local macro_rules|`(tactic|let #[$a,*]:=$e)=>do let q<-zRc 9 (<-`(#[$a,*]));let t<-eKM a.getElems e;`(tactic|first|$t:tactic|obtain $q:rcasesPat:=$e)
local macro_rules|`(tactic|simp! [$a,*] $[$l:location]?)=>`(tactic|simp only [$a,*] $[$l:location]?)
local macro_rules|`(tactic|exists $e)=>`(tactic|simpa using $e)
local macro_rules|`(tactic|show $e)=>`(tactic|refine $e)
local macro_rules|`(tactic|exact $e)=>`(tactic|refine $e)
local macro_rules|`(#[])=>`(by simp)|`(#[$xs,*])=>`(⟨$xs,*⟩)
local macro_rules|`(↑$x)=>`(some $x)
local macro_rules|`(⋯)=>`(by lia)
local macro_rules|`(())=>`(by decide)
abbrev zFr:=PySem.W.Frag
local macro_rules(kind:=Lean.Parser.Command.declaration)|s=>do
 if s[0][4].getNumArgs>0||![``Lean.Parser.Command.definition,``Lean.Parser.Command.abbrev].contains s[1].getKind then Lean.Macro.throwUnsupported
 return s.setArg 0 (s[0].setArg 4 (Lean.mkNullNode [Lean.mkNode ``Lean.Parser.Command.noncomputable [Lean.mkAtom "noncomputable"].toArray].toArray))
example:=`(
example À:=s.heap.objs.size
example È9:=(apos.endLine == cpos.line)
example Ĭ4(hline:È9=true):=0
example Ĥ1:=zEE X e []
example ń0:=(λ x=>!x.1)
example Ū:=starEach
example Ë:=X.env
example Ũ9:=(keywordEach [] Ë)
example ā:=(backToKw cpos Ũ9).all (λ x=>x.1.isSome)
example é9:=([]:List Keyword).length
example ğ0:=backTo
example Ď:=decide
example ŷ:=(if ([]:List Keyword).isEmpty then 0 else 1)
example þ6:=((ğ0 cpos (Ū [e] Ë)).all ń0&&ā && Ď ([e].length+é9+ŷ<30))=true
example Á(hfew:þ6) Ĭ4 (hs:Ĥ1) (hplain:zEB X cpos []):=0
example Â:=Option
example ď _:=x X gV σ
example Ã:=Inv ď H s
example Ä:=.ref
example Ĉ _:=x X.prog X.w
example ć4:=(model Ĉ)
example Å _:=x ć4 X.A
example É7:=Program
example ŗ5{w:World}:=0
example Ó7{prog:É7}ŗ5:=0
example û:=Shared
example ď5{s:û}:=0
example Ä5{A:Around}:=0
example û0{E:zVP}:=0
example Æ Ó7 Ä5 û0 ď5:=0
example Ç:=false
example È _:=x _ _
example É:=PyProof.Rows
example Ê:=sizeLine
example É5(H:Hp):=0
example Çs(σ:St):=0
example ę8(s:û):=0
example Ì(gV:zLA) ę8 Çs É5:=0
example Í:=by let#[L,S,r1,r2,z]:=hu
example Í3 _:=x prog w
example Î _:=x (model Í3) A
example Ï:=List Int
example ĺ{H:Hp}:=0
example į6{gV:zLA}:=0
example é6{σ:St}:=0
example Ð į6 é6 ĺ ď5:=0
example Ñ:=Value
example č3 _:=x cl C s H fp
example Î7:=scope
example Ò:=(xG X N' Î7 č3)
example Ó:=xs.length
example Ę1:=.function
example Ŧ2:=env.scope.kind == Ę1
example æ2:=NameKind.free
example Ř1:=env.kindOf
example Đ9:=.cell
example Ô:=(k == æ2&&Ŧ2&&Ř1 n == ↑ Đ9)
example ė8(ha:PD X a ta):=0
example Õ ė8 (hb:PD X b tb):=0
example Ö:=List Str
example ķ9:=by simp![zj]
example Ø:=by ext ķ9
example Ù:=(zb 0)
example À5:=attributeBase
example ÂV:=hbase
example ĸ:=eval o Ë
example û3 _:=x Ë (ĸ)
example ī:=(e::es)
example ö8:=((ğ0 cpos (Ū ī Ë)).all ń0&&ā && Ď ((e::es).length+é9+ŷ<30))
example Ē0:=zEE X e es
example Ú(ÂV:À5 o name û3=ĸ) (hfew:ö8=true) Ĭ4 (hs:Ē0) (hplain:zEB X cpos es):=0
example Û _:=x P w K mg base
example Ň _:=x σ H
example Ü _:=x gV s Ň
example Ý:=(x == ("__debug__":Str))=Ç
example Þ:=s.heap.get?
example ß:=.str
example à:=if_neg
example Ł0:=List Env
example Ĥ6(A:Around):=0
example ð5:=outer
example á Ĥ6 (ð5:Ł0) ę8 É5:=0
example â:=PySem.Spec
example ã:=(.ListComp elt [#[tg,iter,ifs,0]] Î7 pos)
example ä:=.int
example å:=by rw[yA (nC q h (by intro z;cases z))];show q
example æ{P:É7}ŗ5:=0
example ç:=List T
example è:=s.heap.push
example Ō4 _:=x A ð5 s H
example Ä7 _:=x cdv Ō4 E
example Ĝ8:=(yj st)
example é _:=x Ĝ8 f Ä7
example ê:=by intro X hP hw hK hc i gV s σ H E I hf st hg;subst hP hw hK
example ë:=intKind Í3
example ú:=.lst
example Ţ4:=b=true
example Í1:=ys.length
example ů5:=J.fV i H x H'
example Åq:=(Ä D)
example ü8:=(i+1)
example ì:=∀ i m σ H,W i m Ň->(J.stop i H/\Q Åq H)\/(J.go i H/\∀ x H',ů5->g x σ H' fun σ2 H2=>tc σ2 H2 λ b H3=> if Ţ4 then te σ2 H3 λ y H4=>∃ ys m',H4 D=↑(ú ys)/\Í1<Ê/\m'<m/\W ü8 m' σ2 (upd H4 D (ú (ys++[y]))) else ∃ m',m'<m/\W ü8 m' σ2 H3)
example í:=if_pos
example î:=wpAny
example È5:=.Constant
example Š8:=(ß y)
example æ8:=(Ç,eval (È5 Š8 j1 p1) Ë)
example Õ0:=Expr.Constant Š8 j1 p1
example ò1:=È5 (ß z) j2 p2
example Ř6:=z.length
example ï(hyz:(y == z)=Ç) (hz:Ř6<=14) (ÂV:À5 o "replace" û3=ĸ) (hfew:((ğ0 cpos (Ū [Õ0,ò1] Ë)).all ń0&&ā && Ď ([Õ0,ò1].length+é9+ŷ<30))=true) Ĭ4 (hs:Ū [Õ0,ò1] Ë=[æ8,(Ç,eval (ò1) Ë)]):=0
example ð:=(rk Í3).hash
example ñ(K:zFr):=0
example À3:=(cI 0)
example ò:=(zc zk Ù À3)
example ó:=s.heap
example Ź9(hpl:zEB X pos es):=0
example ô(he:Ē0) Ź9:=0
example õ:=λ x S1 v H1 h1 q1 e1 p1=>?_
example ö _:=x S Z L J
example ø:=[].toArray
example ĝ0:=List D
example ù{ds:ĝ0}:=0
example Ű9:=X.A.units
example ü _:=x (λ y hy=>dR I a3 hz a6 g2 w1 a4 a1 rx (A:=X.A.in1) (by change Ű9+1+_<_;lia) (by change Ű9+1+_<_;lia) (by exists hy)) #[.bl _,H,I,rfl,?_]
example ý:=items.size
example þ{X:Cx}:=0
example À2:=(cI 1)
example ÿ:=(zc zk Ù À2)
example Į2:=zD1 ?_
example À7:=(Į2)
example Æx:=(Ä z)
example ċ6:=if_true
example Ą3:=.none
example Č4:=Str.ofString "__next__"
example ś6 _:=x rfl ?_
example đ6:=.bool
example Ā:=by exact zeS (wpAny_attempt (zf5 (name:=Č4) hT F.slot_zip_next (zf0 F.slot_zip_next hT F.entry_zip_next ?_ (F.args_zip_next_1 _))));exact zeS (m:=field Æx 2) (zeX hz rfl (x:=đ6 Ç) ś6);exact zeS (m:=field Æx 3) (zeX hz rfl (x:=Ä TI) ś6);exact zeS (m:=seqItems? (Ä TI)) (zf4 hti ś6);exact zeS (m:=Builtin.SmallTypes.ownedTupleIsFree Æx) (zeS (m:=field Æx 0) (zeX hz rfl (x:=Ą3) rfl À7));simp![ċ6]
example õ1:=SetTable
example ŧ:=Array
example Ù6:=ŧ (Int× Ñ)
example Ă{es:Ù6}{ep:Nat}{t:õ1}:=0
example ÄM:=X.calm=true
example ă(hc:ÄM):=0
example Ą:=List V
example ô0:=Calls.callWith_builtin
example î0 _:=x gV s2 σ H2
example Ý7 _:=x r1 r2
example đ:=(·.1)
example ÿ3:=Calls.evalArgs_plain
example ą:=by rw[hs] at hA ⊢;exact ô0 (by change (Ç||(ğ0 cpos (Ū es Ë)).any đ)=Ç;rw[hplain] <;> rfl) (ÿ3 ?_);show zI hA λ us s2 #[vs,H2,I2,r2,q2]=>hm î0 x vs v us Q I2 Ý7 q2
example Ć:=.type
example ć:=(λ _=>nofun)
example ĉ _:=x e1 λ d S1 s1 r1=>?_
example õ0:=zc0.mp
example Ċ:=õ0 e
example ċ(i:Nat):=0
example Č _:=x ‹_› hA
example č:=by intro gV s σ H Q I h
example Ű2:=A.deeper
example Ň5 _:=x (pJ pZ) (yM 0)
example Ãp:=(mZ tc2 (kA (oj Ň5 ua2)) tx)
example Û6:=wj xD Û N "Desk.say" é
example ÆQ:=(mZ tc (kA (oj Ň5 ua)) ak)
example Đ:=y4 k (Ű2 (envOfC "Desk.say" Ĝ8 À f cdv))-> ∃ te1 te2 tc ua tc2 ua2 tx,(zr (Û6).wJ s1 (vt te1 (hName 2))/\zr (Û6).wJ s2 (vt te2 (hName 3))/\zr (Û6).wJ s3 ÆQ/\zr (Û6).wJ s4 Ãp)/\vD f1 te1/\vD f2 te2/\vd c tc/\oQ ga ua/\vd c2 tc2/\oQ ga2 ua2
example Ñ7(hd:Ý:=by decide):=0
example ć0:=X.N[i]?=↑x
example è7:=X.env.scope
example Ē(hN:ć0:=by rfl) (hv:fC è7 x:=by first | show Or.inl rfl | show Or.inr (Or.inl rfl) | show Or.inr (Or.inr rfl)) Ñ7:=0
example ē:=.inl
example Ĕ:=.Attribute
example ĕ:=its.toArray
example Ė:=#[x,H1,I1,r1,q1]
example ė:=List.replicate
example ľ9 _:=x (mW st) (wF st) Ĝ8 Ą3 kV
example Ę _:=x ľ9 doc pm an cdv
example ę _:=x S (.refl S)
example Ě:=Hp->VK->Prop
example Ź7(ÂV:À5 o "startswith" û3=ĸ):=0
example ě Ź7 (hfew:((ğ0 cpos (Ū [Õ0] Ë)).all ń0&&ā && Ď ([Õ0].length+é9+ŷ<30))=true) Ĭ4 (hs:Ū [Õ0] Ë=[æ8]):=0
example Ĝ:=.Name
example ĝ:=fun σ H Q hu=>?_
example Ğ:=X.env.scope.names.lookup
example Äi:=s1.trans
example ğ:=Äi s2
example ĵ0:=λ t' k=>#[ß _,H,I.tok k,#[t',rfl],q]
example Ġ _:=x (st:=none) #[o,h1,h2,h3] rfl (post_val_or_str #[zE0 (Txt.slice_le z È) hz,ĵ0])
example ċ2:=(Ä it)
example ķ:=Value.ref
example ì5:=Value.none
example ų:=by dsimp only
example ġ:=by let#[ol,g1,_,n,g2]:=hl;exact zeS (zf5 (name:=Č4) ht F.slot_tuple_iterator_next (zf0 F.slot_tuple_iterator_next ht F.entry_tuple_iterator_next ?_ (F.args_tuple_iterator_next_1 _)));exact zeS (m:=field ċ2 0) (zeX e1 e3 (x:=Ä l) ś6);ext ų;rw[à (show ¬ ((ķ l == ì5)=true) from zc7)];exact zeS (m:=field ċ2 1) (zeX e1 e3 (x:=ä i 0) ś6)
example Ģ:=List Expr
example ģ{K:zFr}:=0
example Ĥ:=by intro gV s σ H x y v u Q I rx ry h
example ĥ:=Ev->Â (ç)
example Ħ{a:Addr}:=0
example ħ:=.inr
example Ĩ:=(upd H l (.ext (ST.wo w l us)))
example ĭ3:=X.env.cells.lookup
example ĩ:=ĭ3 x=↑c
example Ī:=.cons
example Ĭ:=Hp->Prop
example ĭ:=(zb 1)
example Į:=by rcases we e with ⟨rfl,hl,e⟩ | ⟨n,e⟩
example į(I:Ã):=0
example Ű6:=zA4 _
example İ:=(Ű6)
example ı:=List (Â Nat)
example Ĳ:=by intro gV s σ H xs us Q I r h
example ÆB:=e1.extBut
example Ë9:=Ne.symm
example Ā2 _:=x (s1.on λ o q=>ÆB È (Ë9 n3) q) (h1.on λ o q=>ÆB È a1 q) hx
example ŵ7:=wpAny_onRaise
example É1:=Builtin.SmallTypes.nextOf
example Æw:=IsPair
example ĳ:=by exact zeS (zeS (ŵ7 (zeS (m:=É1 (Ä i1)) (draw Ā2 λ g2 s12 e2=>Į2))));have to2:Æw g2 TO a b:=e2.extBut È n8 (ÆB È (Ë9 n2) hto);exact zeS (zf4 to2 rfl (zeS (wpAny_updateSeq_pair to2 λ g3 to3 e3=>zeS (wpAny_letGo À7))))
example Ĵ:=w.params.followText "set-order"
example ä2:=by let#[c,cs,rfl,h1,h2]:=h
example ĵ:=by simp![zo] at h;ext ä2
example Ķ:=PySem
example Ĺ:=(.refl H)
example Æb:=.new hp _
example Ļ:=(Æb)
example Ĉ9 _:=x σ H1
example ļ _:=x gV s1 Ĉ9
example Ŕ7:=(ë).hash
example ì4:=Value.int
example Ľ:=insertAt es p (Ŕ7 n,ì4 n tk)
example Ò6:=(a == sysModules)=Ç
example Å9:=kvs.length
example Äd:=(vn P w)
example Åa:=KV kvs vs
example ľ:=Å9<=Ê/\Ò6/\∃ vs,Åa/\h.DictOf Äd a vs
example Ŀ(w:World):=0
example ŀ:=.tup
example Ċ0:=.fields
example Ŏ2:=Ċ0 [ä lo t,ä hi u,ä 1 v].toArray
example Ł:=è { cls:=Ć "range",data:=Ŏ2 }
example ł _:=x Ü _ I h
example Ń:=False
example ń:=vs.toArray
example Ņ:=List (Key×V)
example Ġ6:=s.TypeIs
example ŵ9:=or_false
example ņ:=by simp![zcB,zA5,zc6,ŵ9,not_or,List.nodup_nil,and_true,not_false_eq_true] at nd f1 f2;let#[#[n1,n2,n3,n4],#[n5,n6,n7],#[n8,n9],n10]:=nd;let#[a1,a2,a3,a4,a5]:=f1;let#[b1,b2,b3,b4,b5]:=f2;let#[hz,hti,#[a,b,hto],s1,s2]:=S;have hT:Ġ6 Æx "zip":=#[_,hz,rfl]
example ň:=Ev->Â Bool
example ŉ:=û->Prop
example ð6:=[a,b]
example ş5:=.Tuple
example Ŋ _:=x [ş5 [Ĝ x px,Ĝ y py] kt pt] (ş5 ð6 k2 pt2)
example ŋ _:=x K H
example Ō:=r1.ext e1
example Ś1:=yy R g t
example ŕ9:=y4 k (Ű2 (envOfC x Ĝ8 À f cdv))
example Č7:=wj xD Û N x é
example ō:=ŕ9-> ∃ t,xl (Č7).wJ (wF st) t/\Ś1
example Ŏ:=[z,TI,TO,i1,i2]
example ŏ{pos:Pos}:=0
example Ő:=by let#[L,S,r1,r2,h]:=hu
example ő:=List.range
example Œ:=s.toks
example ſ0:=(n,k)
example æ3:=NameKind.cell
example œ:=(names.map λ ſ0=>if Ô then (n,æ3) else ſ0).lookup x
example ù3:=#[_,ho,rfl]
example Ÿ2 _:=x ù3 #[_,ho2,rfl]
example Ŕ _:=x Ÿ2 noFill_tuple_add seq_tuple_add PySem.F.slot_tuple_add PySem.F.entry_tuple_add (PySem.F.args_tuple_add_2 È)
example û7 _:=x [] cpos
example ŕ _:=x (Ĕ o "startswith" apos) [È5 Š8 j1 p1] û7
example Ŗ:=h'.get?
example ŗ:=absurd
example Ř:=t.mask
example ř{S:SS}:=0
example Ś:=zo S ts ds
example ś:=t.place.toList
example ĕ2:=Int×Int
example Ŝ:=List (ĕ2)
example ŝ:=Addr->Prop
example é5:=(za (zu 1) ze)
example ê7:=(zu 0)
example Ş:=(za ê7 é5)
example ş:=by let#[f0,f1,f2,f3,f4,f5]:=hf it #[]
example Š _:=x ÂV hfew hline
example ÄP:=AllBare s'.gens
example Ŝ2:=đ6 true
example Ę8:=s₁.heap
example ł0:=s'.heap
example Ú6:=Ä a
example š _:=x callerA (.call (Ä fa) #[[Ú6],[]]) (λ r s'=>r=.ok (.ret (Ŝ2))/\OldK Ę8 ł0/\s'.os=s₁.os/\ÄP) s₁
example Ţ:=mainGlobals
example ţ:=∀ x,foldedSetIterable iter Ë x=pure x
example Č1:=(nI its ts u)
example Ť:=by rw[show its.toArray.any Č1=its.any Č1 by simp,YV I a3 hz a6 g2 w1];show q
example ť:=xs.map
example Ŧ _:=x L S È
example ï3:=(cI 2)
example Ũ:=(zc zk Ù ï3)
example ũ{x:Str}:=0
example ū:=.builtin
example Ŭ:=by rcases h with h | ⟨_,_,_,h,_⟩ | ⟨_,_,_,_,h,_⟩
example ŭ:=.Subscript
example Ý3:=scope.names
example Ů:=(x,æ2)∈ Ý3
example ů:=(wc 2 (y8 (zC 0) (y8 (zC 1) wK)))
example Ű(X:Cx):=0
example Õ7{k:Nat}:=0
example č2(hr:y4 k X.A):=0
example ű Õ7 č2:=0
example Þ6 _:=x È _
example Ĵ7:=typeIs_str Þ6
example Ų _:=x F.slot_str_split (Ĵ7) F.entry_str_split
example Ŵ:=(cS (ß " "))
example ŵ:=s1.heap.objs.size
example Ŷ:=λ kv=>Ď (kv.1=k)
example Ÿ:=yR M h n
example Ź:=(za ê7 ze)
example ź:=by let#[x,hx,h1]:=h0.one;subst hx
example Ż:=vs.length
example Ð7:=t.place
example Ć3:=below Ð7 j
example ż:=insertAt Ð7 (Ć3) j
example Ž:=by intro gV s σ H x vs v us Q I rx rv h
example ž:=h.get?
example ſ:=(·.2)
example Áu:=X.base
example À0 _:=x Ĉ X.K X.mg Áu
example À1:=Ć "tuple"
example À4:=.Call
example À6:=by let#[u,rfl,ru]:=vals1 r;cases ru
example À8(hb:Binds X.K fd ps ds) (hd:Vals dvs ds) (hx:Passes CX X E):=0
example ĭ4:=e1.trans
example Ä9:=ĭ4 e2
example ê6:=(Ä9).trans
example Åw:=g4.length
example í4:=zv.ext
example Ğ1 _:=x È (Ø)
example À9:=by exact#[p,q,xs',ys',rfl,rfl,g3,g5,by rw[<- Åw,<- g6.length];show b3,?_];have e4:Ext H2 (upd H2 p (ú (xs'++ys'))):=ú g3 _;show b4 Ğ1 (ê6 e4) (p2.ups e4 #[_,yO,í4 e4 _ (g4.append g6)])
example Å6:=X.env.locals
example Ø9:=X.s₀.heap.objs.size
example ł3:=(∀ x c,ĩ->c≠b)/\∀ p∈X.pn++gV,p.1≠b
example Á0(hch:∀ b∈ch,(b∈X.ex\/Ø9<=b)/\b≠ Å6/\ł3):=0
example Á1:=zA9 _ rfl
example Á2:=Þ b=↑o
example Á3:=(f J).bind
example Á4:=(zb 2)
example Á5:=.nil
example Á6:=λ h' eb=>#[rfl,I.turned (t':=Œ) (λ b o hb e=>eb b o hb e) f0 f1 f3 f4 f5]
example Á7 _:=x ⋯ ⋯
example Á8:=by simpa only [Sn] using q
example Á9:=Ć "list"
example Â0{t:õ1}{hs:Ï}(T:Tab t hs):=0
example Â1:=Ä p
example ģ7:=yf ý 0 lo
example ž5:=(1:Int)
example ł6:=yf ý ý hi
example Â2:=(((ģ7:Nat):Int) == 0&&ž5 == 1&&(ł6-ģ7) == ý)=true
example đ9:=List.lookup
example Â3:=đ9 x ((if Ô=true then (n,æ3) else ſ0)::_)
example Ċ1:=List (κ × V)
example Â4{kvs:Ċ1}{vs:List (κ × Ñ)}(r:Åa):=0
example ÄS:=yB.of
example Ü4:=by simp![zj] at q1
example Ĳ2:=by ext Ü4;subst q1
example Â5:=by let#[#[ds,hd],h1]:=h1;ext Ĳ2;let#[xs,g1,g2]:=p1 È hd;exact#[ē #[rfl,xs,ÄS g1],?_]
example Â6(hcd:(x == ("__classdict__":Str))=Ç:=by decide):=0
example ĕ9(hN:X.N.Nodup):=0
example Â7 ĕ9 (hi:ć0) (hx:Loc è7 x):=0
example Â8 _:=x (Ō) p1 h1 λ y S2 w H2 h2 q2 e2 p2=>?_
example ĉ3(hty:typeOf (ū id)=pure (Ć "method_descriptor")) (hm:kJ X id r):=0
example Â9(pa:PlainAttrs T) (slot:Slot T name id) ĉ3:=0
example ÅO:=xI ts
example ð7:=cLine
example ÇO:=by intro gV s σ H x y v w Q I rx ry h
example Ã0:=by ext ÇO;let#[S,d,e,u,ts,ds,a1,a2,a3,a4,a5,a6,a7,a8,q]:=h;have hz:ÅO<ð7:=⋯;let#[l,xs,rfl,g1,g2]:=yI.sq a2 a3 a5;cases ry;rcases g1 with g1 | g1
example ċ4:=(Ä C)
example Ø3:=PySem.W.findIn
example Ã1:=Ø3 K ċ4 "__setattr__"=↑↑(ū "object.__setattr__")
example ů1:=(.bl Ç)
example Ã2 _:=x (retS (cS ů1)) yw
example Ã3:=by let#[hp,g,d,tk,os]:=s
example å5 _:=x S1 Z L J
example ù9:=hE.grow
example Æc:=ù9 s1
example Í8 _:=x _ (Æc) e2
example Ã4 _:=x å5 y Í8 λ d S2 s2 r2=>hq d S2 (ğ) (Cl.cl s1 r2)
example Ã5(ha:yH X ī tA):=0
example Ã6(ha:yU fa ta) (hb:yU fb tb):=0
example ģ6:=I.zM.fresh
example Ã7:=ģ6 İ
example Î4:=compareOp
example ÿ8(ho:yT X (Î4 op) r):=0
example Ã8{r r':R2}ÿ8 (ho':yT X (Î4 op') r'):=0
example ÅA:=bs.all id
example Ã9:=(oJ λ bs=>ÅA)
example Ä0(hg:∀ cl C s H fp,PG Ò tg g) (hf:∀ cl C s H fp,PF Ò ifs tc) (he:∀ cl C s H fp,PE Ò elt te):=0
example Ē3:=ŧ (Â Ñ)
example Ï7(n:Nat):=0
example ũ5(t:Tok):=0
example đ4:=Â Addr
example Ň4(l:Addr):=0
example ā1:=items
example Ä1 ũ5 Ň4 (ā1:zAV) Ï7 (dd:đ4) (sl:Ē3):=0
example Ä2:=λ e=>(Ŕ7 e.1,ì4 e.1 e.2)
example Ä3:=zv ŋ ds xs
example ŉ2:=(cI 3)
example Ä4:=(zc zk Ù ŉ2)
example ĕ7(ha:PE X a ta):=0
example Ä6 ĕ7 (hb:PE X b tb):=0
example Ä8:=by let#[d,rfl,h1]:=m8 hv
example Å0(X:K.In h) (G:h.Ns Ţ mg):=0
example Å1:=T->T->Â T
example Å2{α:Type}:=0
example Äp:=by with_unfolding_all rfl
example Å3(hm:lastMarks [op,op'] [b,c]=Ç:=by ext Äp):=0
example Åm:=h.elim
example Å4:=by .show Åm
example Å5{xs:Ą}:=0
example á1:=.zF ks ts
example Ŷ5:=(wM N (á1::ys)).set 2 ↑(.im w)
example Å7:=((Ŷ5).set 3 ↑(.im v))
example ņ3(mg:zSV):=0
example Å8 ņ3 (base:Heap):=0
example Æ0:=List (Key×D)
example ø8:=.local
example ŀ7:=X.fn x=true\/Ğ x=↑ ø8
example Ď7:=ē rfl
example Èn:=by first | show Ď7 | show ħ rfl | assumption
example Æ1(hf:ŀ7:=by ext Èn):=0
example Ģ2 _:=x ö x _ hE ĉ
example đ1:=by split at e2
example Ŋ2:=by let#[x,e1,e2]:=Ċ
example Æ2:=by ext Ŋ2;exact h Ģ2;ext đ1
example Æn:=es.map đ
example Ũ3:=t.plain
example Æ3:=by let#[t',order,h1,h2,h3,h4,h5,h6,h7]:=QB hM t.finger (t.movedTo M) t.led Ũ3 (Æn) (by rw[hsz];lia);rw[hsz] at h6;have hlt:∀ k∈order.toList,k<Ó:=λ k hk=>by exists h6.mem_iff.mp hk
example Âb:=rs.length<64/\∀ r∈rs,r≠[]
example Æ4:=(nQ ts).bind λ rs=>if Âb then ↑(ú ((L4.xN (wQ rs)).map zH)) else none
example ý4(us:zLV):=0
example Æ5(kV doc pm:Ñ) (an:đ4) (cdv ct:Ñ) ý4:=0
example Æ6:=by simp![zj] at r
example Ġ0:=.seq
example Æ7:=Þ l=↑{ cls:=À1,dict:=dd,data:=Ġ0 ā1 n,slots:=sl }
example Æ8:=by rcases we e' with ⟨rfl,hl,e'⟩ | ⟨n,e'⟩
example Æ9:=#[_,rfl]
example Ç0:=ts.length
example Ç1:=Ev->Â Ev
example Ç2:=scope.names.lookup
example Ę7:=ns.map
example Ç3:=(Ę7 V.int)
example Ç4:=I.items.length
example Ç5:=(yk S Z)
example Ç6{e:Expr}:=0
example Ç7:=p.getD
example ĺ2:=Cl.of
example Ç8:=hq _ ę (ĺ2 ć oz)
example Ç9 _:=x (g:=cx X.K g) (tc:=pU X.K tcc) (te:=zZ X.K te) Sc hc hi.pi (λ cl C s H fp=>(hg č3).pg) (λ cl C s H fp=>(hf č3).pf) (λ cl C s H fp=>(he č3).pe)
example à2:=(Ä f)
example ş8:=PySem.W.keepIn
example È0:=ş8 K à2
example È1{i:Nat}:=0
example È2 _:=x X (Ĝ x pos)
example È3:=by let#[t,rfl]:=rx
example Ò2 _:=x [] pos
example Ŀ8 _:=x ī Ò2
example È4 _:=x X (À4 (Ĝ x p) Ŀ8)
example È6:=#[ok.mod,ok.kind,ok.glob,ok.blt,ok.above,ok.inj,ok.has,ok.av,ok.hd,ok.frames,ok.Zr,ok.Vz,ok.bs,ok.iP,ok.bj,ok.bX,ok.lC,ok.fg]
example È7:=es.size
example È8:=insertAt es p (ð key,ķ b)
example É0:=order.filterMap (es[·]?)
example Ū0 _:=x X e te
example É2(he:PD Ū0):=0
example É3(ho:PD X o to):=0
example Ĳ9:=#[vs,H1,I1,r1,q1]
example É4:=(zI (ha pos ł) λ us s1 Ĳ9=>?_)
example É6:=by intro gV s σ H D I h
example É8:=h.objs.size
example É9(hg:Gl X x):=0
example Ê0 _:=x { nx:=λ _ S'=>Q .zJ S',rt:=Q } (oy N ds) S
example Ê1{ts:ç}:=0
example Ê2 _:=x (zC 0) xo
example Ê3:=List (Ï)
example ş6:=rawInt
example ĝ8:=by exact zeS À7
example Ê4:=by exact zeS (wpAny_attempt (zf5 (name:=Č4) (gT ho) eI (zf0 eI (gT ho) Oa ?_ (NK _))));ext ĝ8;ext ų;exact zeS (wpAny_fieldsOf ho ś6);dsimp only[ş6];exact zeS (zeS (zf3 S.get rfl S.fits À7))
example Ó6:=I.ok.hd hc
example â0:=#[_,Á1,rfl,rfl]
example Ė6:=λ i=>bs.getD i true
example Ê5:=#[À,_,_,_,_,_,Ė6,rfl,Walks.list (A:=X.A.in1) (Ó6) À p (zB3 hlt) ĕ,#[â0,pl.isList.push _],λ i v s' Q' E' hv hq'=>?_,λ h' tk hk=>?_]
example Ð1:=its.toArray.size
example Ò7:=I.tuple
example ì1:=by intro gV s σ H x v vl vu lo hi sl Q I rx hs pl pu h
example Ê6:=by ext ì1;let#[a,xs,rfl,hx,hw,q]:=h;cases rx;let#[its,r,ht,hz]:=Ò7 hx;have hlen:Ð1=Ó:=by rw[zA0];show r.length.symm
example Ĩ3 _:=x es ep t
example õ2:=Ć "set"
example Ê7:=ž a=↑{ cls:=õ2,dict:=none,data:=.set Ĩ3 }
example Ŋ0:=by exists this
example Ê8:=by unfold SetTable.tooFull at this;rw[hfill,hmt] at this;ext Ŋ0
example Ţ1(hi:yG X tg iter ti):=0
example Ê9 Ţ1 (hg:∀ cl C s H fp,N'.Nodup->mz Ò tg g) (hf:∀ cl C s H fp,N'.Nodup->dY Ò ifs tcc) (he:∀ cl C s H fp,N'.Nodup->PD Ò elt te) (nd:N'.Nodup):=0
example Ë0{n:Nat}:=0
example Ë1:=by simp![zj] at h1 h2
example Ë2:=us.length
example Ë3 _:=x (EP ď Q) X.xe
example Ë4 _:=x (Ō) p1 z λ y S2 w H2 h2 q2 e2 p2=>h2 w H2 q2 (Ä9) p2
example Ë5:=["enumerate","zip","dict_itemiterator","dict_reverseitemiterator","odict_iterator","itertools.zip_longest","itertools.pairwise"].contains n
example Ë6:=k.toNat
example Ãb:=ha.pa
example Ãy _:=x he hpl
example Ë7 _:=x Ãb () () Ãy
example Ë8:=SS->Prop
example Ì0:=Ū ð6 Ë=[(Ç,eval a Ë),(Ç,eval b Ë)]
example Ì1:=PySem.mem_of_lookup
example Ì2:=Â Int
example Ì3:=ds.length
example Ì4:=behindInMarks
example Ì5:=.Compare
example Ì6:=∀ d S',Q d S'->Q' d S'
example ó9:=(Â1)
example Ì7:=L[i]?=↑↑ ó9
example Ì8:=(zO Ç)
example à8:=ha.mo
example Ì9 _:=x à8 hb.mo
example ř2:=by simp[h.len]
example Í0:=#[#[h.er.zd,λ j t e=>?_,λ j ts e=>?_],ř2,h.sx,h.z0,h.zz,h.zn,λ j ts p e e'=>?_,λ j k ts us p n e1 e2 e3 e4=>?_]
example Í2:=owner
example ã5 _:=x ļ _ I1 q1
example í1:=#[y,H2,I2,r2,q2]
example ÃV:=(ho î0 x y v u _ I2 Ý7 q2)
example Ż0:=#[z,H3,I3,r3,k,e,q3]
example Í4:=(zI (hb ã5) λ u s2 í1=> zI ÃV λ d s3 Ż0=>?_)
example ÅF:=seqObj
example Í5:=(ÅF "list" ø 0)
example Í6 _:=x Q E s
example Ŗ4{its:zLV}:=0
example Ñ8 _:=x X.K H
example œ8:=zv Ñ8 ds xs
example ą0:=Vals xs its
example Í7 Ŗ4(hz:ÅO<ð7) (h1:Ś) (h2:œ8) (h3:ą0):=0
example Í9(a:Addr):=0
example Î0(h:Heap):=0
example Ņ8 _:=x Ň Q
example Î1(hi:∀ σ H Q,t' Ņ8->t Ņ8):=0
example Î2:=by rcases g with ⟨kvs,k,e,ey,l⟩ | ⟨kvs,k,b,e,ey,eb,l⟩
example Î3:=k È (Ď7) e
example Î5:=Heap.size_push
example Î6:=ps.length
example Î8:=#[λ b ys q=>å,λ b ob u q=>å,λ b u q=>å,λ b x u q=>#[u,å]]
example Î9:=(upd H r (.ext (lU r j)))
example Ē5:=Int->Int->D
example ó8:=(g i j)
example Ï0{g:Ē5}{g':Int->Int->V}(hg:∀ i j H,zj ŋ ó8 (g' i j)):=0
example Ï1 _:=x _ H (Ø) Ĺ
example á6 _:=x r1 r2 z
example ÂZ:=λ ds S1 xs H1 h1 q1 e1 p1=>?_
example Ï2 _:=x á6 ÂZ
example õ5:=List Key
example ĸ0:=List (õ5 ×Addr× Ñ)
example ľ0:=List (õ5 ×V)
example Ï3{kvs:ľ0}{xs:ĸ0}(r:KT H kvs xs):=0
example Ğ6 _:=x z TI TO .ellipsis
example ů4:=pyNext
example ő0:=zeS ?_
example Ï4:=by unfold ů4;ext Ā;exact zeS (zf6 (zeS (zeX hz rfl (x:=Ä TO) rfl (zeS (zfB hz #[] λ g1 hz1 e1=>?_)))));replace hz1:IsZip g1 Ğ6:=hz1;exact ő0;simp![ze7,List.zipIdx_nil,zd4,List.forIn_nil]
example Ï5:=by rw[show nB f v ((k,x)::r)=(if k=f then (k,v)::r else (k,x)::nB f v r) from rfl];by_cases hk:k=f
example Ï6(hh:A.handled=none):=0
example Ï8{h:Heap}:=0
example ĸ1:=by cases rx;let#[u,rfl,ru]:=rv.one
example ż8:=by let#[z,its,n,r,hl,e]:=I.ZZ hH
example İ3:=by let#[l,b,xs,zs,rfl,rfl,hH,hB,hz,q]:=h
example Ï9:=by ext Ž;ext İ3;ext ĸ1;cases ru;ext ż8
example ŗ7{te:zA}:=0
example ŗ0{f:zEO}:=0
example Ð0 ŗ0 ŗ7:=0
example ê5:=Ŗ b=↑o
example Ł8:=Á2->ê5
example Ãk:=∀ b o,b<À->Ł8
example ŝ5:=Ä À
example ä3:=(ŝ5)
example Ð2:=(Ãk)->Q ä3 { s with heap:=h',toks:=tk }
example Ð3{us:zLV}:=0
example ż7:=by let#[j,h1,h2,h3,h4,h5]:=Uh he
example á8:=r.length
example Ð4:=by ext ż7;let#[w,ew,rw']:=r.get h2;have hl:=á8;have hn:=gP;have fin:EP ď Q w s:=#[z,H,I,rw',q]
example Ð5:=y4 k (Ű2 (envOfC qual Ĝ8 À f cdv))
example Ľ2 _:=x S0 Z0
example Ð6:=FR Ľ2 ö
example Ð8:=Heap.SameBut.update
example Ð9{Q:zVP}:=0
example Ñ0 _:=x _ hE e1 λ ds S1 s1 r1=>?_
example Ō6 _:=x k1 k2
example Ñ1 _:=x Ō6 ó l1 l2
example Ñ2:=sc.names.lookup x
example Ñ3:=∀ b∈fp,lh X gV H b
example Ñ4:=A.under (ū "type.__call__" #[Ä C::us,kw])
example Ñ5:=PySem.W.fnOf
example Ñ6:=hq _ ę (ĺ2 ć oZ)
example Ñ9:=order.toList.filterMap λ k=>xs[k]?
example Ò0 _:=x z TI TO i1 i2 l1 l2
example Ò1 _:=x á6 λ d S1 v H1 h1 q1 e1 p1=>?_
example Âv(hk:lV X.K) (ho:PE X o (nP i)):=0
example Ò3(hr:y4 n X.A) Âv (hi:PE X ie (nP j)):=0
example Ò4 _:=x (λ _ _ _=>oZ) λ _ _ _=>nofun
example Ò5:=beq_eq_false_iff_ne.mpr
example Ò8:=#[hp,g,d,tk,os]
example Ò9:=trivial
example Ó0:=yv ŋ S
example Ó1:=λ D σ H hu=>?_
example Ó2:=Builtin.List.listExtendWith
example Ó3:=λ e=>Ŕ7 e.1
example Ó4:=(zm xy (za Ù ze))
example Ó5:=assignEach
example Ó8:=(items.toList.drop (ģ7)).take (ł6-ģ7)
example ũ3:=ne_true_of_eq_false
example Ó9:=hq (numbered Œ _) _ ((numbered_texts È).trans ((à (ũ3 h1)).trans (à (ũ3 hf))).symm)
example Ô0:=PySem.W.nsIn
example Ţ7:=(zc zk ò À3)
example Ţ8:=(zc zk ò À2)
example Ô1:=(xC (za (zc ye (zc ye (zc ye (cS (ß "brims ")) (zm xB (za Ţ7 ze))) Ŵ) (zm xB (za Ţ8 ze))) ze))
example Ô2:=["floor","number","number","number"]
example Þ3:=zc3.mp
example Ô3:=by ext Ä8;let#[ts,e1,rfl]:=Þ3 e;let#[es,h2,h3]:=h1.seq e1
example Ô4:=by let#[p,ob,h1,h2,h3,h4]:=F.er.ow i _ h
example Ô5(x:Str):=0
example Ô6 _:=x pos.line Ë
example Ô7{es:Ģ}:=0
example Ô8:=by let#[h',g',d',tk',os']:=s';obtain rfl:g'=s.gens:=hm.gens;obtain rfl:d'=s.drawn:=hm.drawn;obtain rfl:os'=s.os:=hm.os
example Ô9:=HT.lexLt
example Õ1 Ţ1 (hg:∀ cl C s H fp,mz Ò tg g) (hf:∀ cl C s H fp,dY Ò ifs tcc) (he:∀ cl C s H fp,PD Ò elt te):=0
example Õ2:=List (Str× Ñ)
example ÂS:=wpAny_forIn_list
example Õ3:=by exact ő0;change î È (forIn ā1 È) È s;rw[<- Array.forIn_toList];exact ÂS _ (λ rest r s'=>r.1=none/\s'=s/\∀ v∈rest,∃ n t,v=ä n t) _ ?_ ?_ È #[rfl,rfl,items_int hi]
example Ŭ7:=λ kv=>if kv.1=k then (kv.1,v) else kv
example ę0:=(kvs.any Ŷ)
example Õ4:=if ę0=true then kvs.map (Ŭ7) else kvs++[(k,v)]
example Õ5:=by have nd:=D.nd;simp![zcB,zA5,zc6,ŵ9,not_or] at nd
example Ş1:=(zdK)
example Õ6 _:=x (by rw[typeLookup_type,builtinLookup_eq_fast];kernel_rfl) Ş1 Ş1 Ş1 (by first | show ē Ş1 | show ħ Ş1) (by rw[isSubtype_type];kernel_rfl)
example Õ8:=by rcases we e1 with ⟨rfl,hl,e⟩ | ⟨n1,e1⟩
example Õ9:=envOfC qual Î7 À f cd
example Ö0{oc:Ñ}{od an:đ4}{osl:Ē3}{kV doc pm cdv ct:Ñ}:=0
example Äv:=by let#[d,d',rfl,h1,h2]:=gk hv
example Ö1:=by ext Äv;cases h1.str
example Ŏ1:=.own
example í6:=ú ts
example Ãc:=(í6)
example Ö2:=some ↑(Ŏ1 Ãc)
example Ö3{d:D}:=0
example Ö4:=λ _ _ q=>q
example Ö5:=PySem.W.emptyDict
example Ö6:=IntsAre
example Ö7:=(lives M Í2).map
example Ö8:=(za ĭ ze)
example Ö9 _:=x ŋ a xs
example Ø0:=by subst ex;obtain rfl:u=ķ a:=rx
example Ø1:=(Ä l)
example Ø2:=(by simp;lia)
example Ø4:=HT.yf Ó 0 lo
example Ø5:=Ext H H'
example Ø6:=zZ.go
example Ġ5:=hbody
example ħ4 _:=x rfl rfl
example Ø7:=λ f cdv A ð5 s H E hr=>Ġ5 f Ä7 Ò9 Sc.nd ħ4 hr
example Ž4:=(ŀ xs)
example Ø8:=∀ b xs,H b=↑ Ž4->H' b=↑ Ž4
example Ù0:=Heap.SameBut
example ĥ4:=λ b o e n hb hx=>?_
example Ł7:=I.base.free
example Ù1:=#[ĥ4,ĥ4,Ł7,λ b o e hx=>?_,I.base.kR,I.base.jO,I.base.ib]
example Ù2:=oU N ps Ĝ8
example Ù3:=Option.map_some
example ũ6 _:=x Ü Q I
example Ù4:=λ gV s σ H Q I q=>h ũ6 (hi Ņ8 q)
example Ù5:=way M h k
example Ù7:=comes w a es ep
example Ù8:=(zb 3)
example Ù9 _:=x ta tb
example Ú0(ha:yE ta) (hb:yE tb):=0
example Č0:=ŧ Nat
example Çz{p:Č0}:=0
example ļ7(o:Ord lt):=0
example Ú1 ļ7 Çz:=0
example Ú2 _:=x (prog:=prog) (w:=w)
example Ú3(S:nJ w ó a Ĩ3):=0
example Ú4:=by let#[x,r,h1,h2,h3]:=h
example Ú5 _:=x Sc hc hi (λ cl C s H fp=>hg č3 nd) (λ cl C s H fp=>hf č3 nd) (λ cl C s H fp=>he č3 nd)
example Ú7:=Vals xs us
example ÿ7 _:=x σ' H'
example Ú8:=Inv X gV ÿ7 s'
example Ú9:=(zD1 #[_,rfl,zD1 h])
example Û0:=Obj.mapSeq
example Û1:=Builtin.List.listTooLong
example Û2:=#[h.1,hq È h.2]
example Û3:=(À4 (Ĕ o "append" apos) [e] û7)
example Û4:=(ğ).trans
example Û5:=(Str×Str)
example Û7:=(cS (ß "keeper"))
example Û8:=by let#[w,w1,w2]:=r1.2 i _ h1;let#[y,y1,y2]:=r1.2 j _ h3
example Û9:=I.tok _
example ĳ2:=zeT _ e
example Ü0:=λ b o e=>ĳ2
example Ü1:=A.units
example Ħ3:=ho.mo
example ÅY:=(Ō).ext e2
example Ŧ9:=hi.mo
example Ü2:=by ext Í;exact Ø6 hv.mo á6 λ w S1 w1 H1 h1 q1 e1 p1=>?_;exact Ø6 Ħ3 (Ō) p1 h1 λ x S2 w2 H2 h2 q2 e2 p2=>?_;exact Ø6 Ŧ9 (ÅY) p2 h2 λ y S3 w3 H3 h3 q3 e3 p3=>?_
example Ü3:=List α
example ā0:=I.list
example ÁA:=ā0 hq
example ĸ4:=rv.length
example č8:=by ext À6;let#[its,rv,pl,hz]:=ÁA;have hl:=ĸ4;rw[zA7] at hl
example Ŋ6:=zA8 e
example Ü5:=by let#[p,bs,rfl,hq,q]:=h;ext č8;have hlt:p<À:=by let#[o,n,e,_]:=pl;show Ŋ6
example Ü6:=s3.heap.push { cls:=Ć "slice",data:=Ċ0 [vl,vu,Ą3].toArray }
example ņ8(h:Int):=0
example Ć9(M:Nat):=0
example Ü7 Ć9 ņ8:=0
example ě2:=by unfold yM;rw[h1]
example Ü8:=by let#[p,b,h1,h2,h3]:=ZM hE h;change yM i L S _;ext ě2
example Áq:=by cases rx;let#[t,rfl]:=ry
example ŝ2:=value
example ŉ7:=by intro ŝ2 slice gV s σ H x y v u Q I rx ry h hs
example Ü9:=by ext ŉ7;let#[p,xs,i,z,rfl,rfl,hq,he,q]:=h;ext Áq
example ĭ7:=RelV x v
example č0(Q:VK):=0
example Ŗ1(xs:Ą):=0
example Ý0:=∀ Ì (x:V) Ŗ1 (v:Ñ) ý4 č0,Ã->ĭ7->Ú7->r x xs H Q-> î Å (call (ū id) (v::us)) Ë3 s
example ě8:=PySem.W.plainGet
example ı2:=PySem.W.plainOver K C=true
example Ċ7:=PySem.W.hasDictIn K C=true
example Ý1(c1:ě8 K C Str.empty=true) (c2:Ċ7) (c3:ı2) (c4:Ã1):=0
example Ý2:=by rintro⟨r1,r2⟩ s' ⟨hr,rfl,_⟩;simp only at hr;subst hr
example ÀR _:=x N' pick Î7
example Ý4:=jr X ÀR
example Ý5:=(.ins C dx [("kept",Ä q)])
example Ý6:=Array.getElem?_eq_some_iff.mp
example ŭ5 _:=x L S1
example Ý8 _:=x ŭ5 È
example Ý9 _:=x e (λ z=>nomatch z) fin
example Ž9:=standAt
example ě6:=holding
example Þ0(he:∀ whole,isTrue (À4 ŕ) Ë whole=(do let v <- whole;Ž9 (Expr.Call ŕ).pos;ě6 [v] (truthy v))):=0
example Þ1:=ž b=↑u->Ŗ b=↑u
example Þ2:=(.dK kvs)
example Þ4:=by let#[_,_,_,_,o,_,_,e,_]:=x
example Þ5{mg:zSV}{base:Heap}:=0
example į0:=Ć "StopIteration"
example ÆA:=(∃ o,Ŗ e=↑o/\o.cls=į0)
example Þ7(hE:∀ h' e,Heap.ExtBut it ó h'->ÆA->E (Ä e) { s with heap:=h' }):=0
example Þ8:=hq È h
example Þ9:=(ú ds)
example ń6:=(M+1)
example Ĉ1:=bits h%ń6
example ß0:=layClean.free M Í2 (turns M) (Ĉ1) (bits h)
example ß1{p:Addr}:=0
example ß2:=Nat->Nat->Bool
example ħ8{ps:Ö}:=0
example ÇS{sp:pE}:=0
example ß3 ħ8 ÇS(F:FD À0 x k ps sp):=0
example ß4:=by obtain⟨ds,rfl | ⟨a,rfl,h1⟩,h2⟩:=Vw.lst r1
example Åe:=zeT _ q
example ß5:=λ b ob q=>Åe
example ß6:=xY ŋ L σ
example ß7 _:=x lo hi
example ß8{a b:Expr}:=0
example Ő8:=j.toNat
example ß9 _:=x (λ _ j=>0<=j) λ i j=>ä (i/2 ^ Ő8)
example ÆE:=x2.trans e3
example à0:=fun L5 S5 #[m',b,w5] σ5 H5 b1 b2 b3=>#[(ÆE).trans b2,L5,S5,m',b,b1,b3,w5]
example Ň6:=xs[i]?
example à1:=Ň6=↑x
example Ř2:=its.toList
example ġ2:=its.size
example Ő2:=o.data
example à3:=Ő2=Ġ0 its n/\ġ2<=Ê/\Vals xs Ř2
example à4:=PyProof.Rows.callWith_type1
example à5:=ns.length
example à6:=V->Ì2->Ì2->Ě
example à7:=(λ z=>?_)
example à9:=(.new hl _)
example á0:=#[hp.below ⋯,hp.below ⋯,?_]
example ŕ5:=V.str
example á2:=q.1=r.1/\∃ a,r.2=Ú6/\∀ H,yC ŋ a (q.2.map ŕ5)
example á3:=(zc zk Á4 À3)
example á4 _:=x x y H Q
example Ãn:=(À4 (Ĕ o name apos) ī û7)
example á5 _:=x X Ãn (gs X.K T r to t)
example á7(f:zEO):=0
example á9:=FuncData
example â1:=∀ d S1 m',Sx S S1->Sn S1 r.1 d->m'.map đ=r.2.1->zo S1 r.2.2 (m'.map ſ)->Q d (ups S1 p (.zF m'))
example â2:=List Addr
example ÂT:=s.heap.IsSliceOf sl vl vu Ą3
example â3(hs:ÂT) (pl:IsPart vl lo) (pu:IsPart vu hi):=0
example ú5:=codeAny_builtin
example ğ6:=Around.under_plainId
example ž4:=A.in1
example â4:=by exact ú5 F.entry_set_update_loop ?_;rw[ğ6 F.plain_set_update_loop _];change î _ ž4 (ů4 (Ä I) >>= _) È s
example â5:=by simp![Sn] at q ⊢;let#[ds,q1,q2]:=q
example â6:=by subst e;let#[o,e,c,d]:=st;show#[o,e,λ v z=>by rw[d] at z;cases z]
example Æz:=e3.extBut
example â7:=by have up:∀ c o,c≠z->c≠i1->c≠TO->Þ c=↑o->g3.get? c=↑o:=λ c o c1 c2 c3 q=>Æz È c3 (e2.extBut È c2 (ÆB È c1 q))
example â8:=(hs.2 b (zB3 (zC3 (Ŋ6) (I.ok.av x c hfn hc)))).trans
example â9:=#[cls,dd,data,sl]
example ã0(k:Nat):=0
example Ľ3{g:T->Ç1}:=0
example Ě3{pick:ı}:=0
example ņ2(xs:Ü3):=0
example ã1 Ě3{it:ĥ}Ľ3{c:ň}ŗ0{J:Ev}ņ2 (hi:it J=↑(ť enc)) (hl:Ó<=16777216):=0
example ã2 _:=x ha hb (l9 _)
example ã3 _:=x Š hs hplain
example ã4:=by let#[y,e1,e2]:=Ċ
example ã6:=Paired
example ã7:=zA5.mp
example ã8:=PE.imp
example ã9:=ps.map
example ä0:=(backToKw pos Ũ9)
example Ľ0{kvs:Æ0}{vs:Ņ}:=0
example Į6:=xZ ŋ kvs vs
example ä1 Ľ0(h:Į6):=0
example ä4:=Builtin.Tuple.tupleExact _
example ä5:=#[.bl _,H,I,rfl,q]
example ä6:=by ext È3;let#[t',rfl]:=ry
example ä7(F:ou À0 CX k f fd ps sp):=0
example ä8{g:Int->Int->T}{g':Ē5}(h:∀ i j S,Sn S ó8 (g' i j)) (n:∀ i j ts,g i j≠ í6):=0
example ä9:=Heap->Prop
example å0:=xS P w H h
example å1:=its.length
example å2:=call_meets
example å3:=cl.lookup x=↑c
example å4:=(za ÿ ze)
example å6:=congrArg
example å7:=swapsWith
example å8:=binaryOp
example å9:=Calls.spliced_cons
example æ0:=if_false
example ÄY:=Ą->Ě
example æ1:=V->ÄY
example æ4:=zj ŋ d v
example æ5:=Sn S t d
example æ6:=zo Ç5 ts ds
example Ē7:=zo.sx
example Ń2:=(ds++es)
example æ7:=P _ Z L (F1.mut (us:=ú (ts++us)) (es:=ú Ń2) i h h1 ((Ē7 (oG s1) ts h3).append g4))
example æ9(he:Ē0:=by rfl) (hpl:zEB X pos es:=by rfl):=0
example ç0{st:Stmt}:=0
example ç1:=by ext Æ6;let#[a,xs,h1,h2,h3]:=r
example ç2{R:Rk}:=0
example Ē2:=(ps.zip us)
example ū6(Sc:Ù2) (hn:n=Î6):=0
example Ĺ3:=#[us,[]]
example ç3 ū6 (hb:∀ Æ5,Ë2=Î6->bindArgs (Ñ5 x x Ę ct) Ĺ3=pure Ē2):=0
example ÄO:=I.bare
example ç4 _:=x (λ _ _ e=>e) (λ _ _ _ e=>e) (λ b ps e=>#[ø,by rw[e];simp]) (λ m hm=>?_) (λ b u e=>?_) ÄO
example ç5:=by ext č;let#[cl,hclos,c1,c2]:=OL (Î7:=Î7) (env:=Ë) λ y hy hk=>I.ok.has y.1 (S.free y hy hk)
example ç6:=List (Key×T)
example ç7:=Ċ0 [Ą3,đ6 Ç,ŝ5,ş6 0,Ą3,Ą3].toArray
example Æo:=(hperm.map _).nodup_iff.mpr
example ç8:=by exact Æo ?_;rw[zE7,List.nodup_append];exact#[hnd,#[],λ x hx y hy=>?_];simp at hy;subst hy;show λ e=>hm (e▸hx)
example ç9:=by simp![zA5,zc6,ŵ9] at hb
example Ĳ7:=Inv ď H { s with heap:=h' }
example Ãv _:=x b hb
example ŀ1 _:=x (λ b o hb e=>(sb.2 Ãv).trans e) f0 f1 f3 f4 f5
example è0:=by have I1:Ĳ7:=I.turned (t':=Œ) ŀ1;let#[o,e,c,d]:=id st'
example è1:=by cases h
example è2:=ž b=↑o
example Ÿ1{N ps:Ö}:=0
example è3 Ÿ1{k n:Nat}{g:Sm}:=0
example Ģ0{l:Addr}:=0
example è4{k:Bool}Ģ0{xs:zAV}:=0
example è5:=(kC pick ti g tcc te)
example è6{f1 f2:zEO}{c c2:ň}{ga ga2:ĥ}:=0
example è8:=(.ins C dx fs)
example è9:=Option.none
example é0:=#[.bl _,H,I.kept (t':=tk) λ b o eo=>hk b o (by exists zB3 (zA8 eo)) (zeT _ eo),rfl,q]
example é1:=ŧ (Â Nat)
example é2:=#[_,rfl,h]
example é3:=(ss.map ŕ5)
example é4:=(zc zk ĭ À3)
example é7{tA:y9}:=0
example ě9:=(k+1)
example é8 _:=x ě9 ps (zR R (z_ N n g))
example Ē9:=Ì3+es.length<=Ê
example ê0:=Ē9/\∀ r,S r=none->Q (Ä r) (ups S r (ú Ń2))
example ê1:=ŗ z' (by simp![dep];lia)
example ż5 _:=x I.zM e
example ê2:=by subst ey;cases (show u=ķ b from ry);let#[z,hd,xs,rel,dd]:=dG ż5
example ê3:=by ext Ő;exact Ø6 à8 Ý7 h õ
example Åh:=List.length
example ê4:=by have hlen:È7=Ó:=by have:=å6 Åh he;ext Ŋ0
example ê8 _:=x (a::b::rest) pos
example ĕ3:=(by kernel_rfl)
example ê9 _:=x (o:=['r','o','t','a','r','e','t','i','_','t','e','s']) ĕ3 RV
example Ļ0:=λ(k:Nat)=>V.int (k:Int)
example ë0:=ú ((ő Ő8).map Ļ0)
example ë1 _:=x (b,o) (zB4 _ (zB4 _ (ZW hb e)))
example ë2 _:=x (wj xD Û N qual é).wJ (wF st) t
example ĸ7:=(zI (hi ł) λ v s1 h1=>zI h1 λ itv s2 h2=>?_)
example ë3 _:=x rfl hs hclos S.kind (λ y hy e=>e▸S.uniq y hy) ĸ7
example ÅI:=λ _ _ _=>Ø
example ë4 _:=x (fI.fits ÅI) fI.mo ha hb
example ë5:=by rename_i ks ts x h1 h2;let#[p,m,g1,g2,rfl,g4]:=hE.iJ h1;let#[d,k1,k2]:=hE.im j _ h2
example ë6:=K.lookup
example ë7:=(ÅF "list" ń 0)
example ë8:=a.length
example ë9:=(ð key)
example ì0:=(.ext (wo X.w l us))
example ì2(h:yE to) (h':yE te):=0
example Ÿ6{L:yZ}:=0
example ì3{Z:ŝ}Ÿ6{J:Ev}:=0
example ì6:=Value.type
example ì7:=PySem.W.instObj
example ì8:=Unit.unit
example ì9:=.BoolOp
example í0:=False.elim
example í2:=pl.isList
example í3:=PyProof.Rows.slot_tuple_getitem
example í5:=Sx S S'
example í7:=(g J).bind
example í8:=(Txt.splitMax a b k).map
example ý3 _:=x b o e
example í9:=by let#[o',e1]:=I.base.there ý3 hx
example î1{ta tb:zA}:=0
example Är(cdv:Ñ):=0
example î2(f:Addr) Är:=0
example î3 _:=x X (Ì5 a [op,op'] [b,c] pos)
example î4(he:∀ whole,isTrue a Ë whole=(do let v <- whole;Ž9 a.pos;ě6 [v] (truthy v))):=0
example î5:=by rcases we e2 with ⟨rfl,hl,e⟩ | ⟨n2,e2⟩
example ÆG:=AutoSeq1.wpAny_loadPart' hl
example î6:=by wp_walk using ÆG,made hL
example î7:=∀ b o u,H b=↑(.oH o u)->H' b=↑(.oH o u)
example î8:=(kvs.map λ kv=>if kv.1=k then (kv.1,y) else kv)
example î9:=λ i j=>ä (Builtin.bitAnd i j)
example ï0:=Ř6<=Ê
example ï1:=H2.objs.size
example ï2:=its[i]?=↑v
example ï4:=by let#[_,_,_,q,_]:=h2.iu p r2
example ï5:=List Stmt
example ï6:=by simp![dep] at hn hu hu';let#[e1,e2,q]:=el hn hu hu' g1 g2 Ý7 v1 v2;exact en (λ z=>by cases hq z;rfl) ?_;rw[V0,<- e1,<- e2]
example Ř3:=λ _=>rfl
example Àx:=λ _ _=>rfl
example ï7:=by intro _ _ _ _ _ _;first | show Ul Ř3 | show Uk Àx | show Uj λ _ _ _=>rfl | show NM λ _ _ _ _=>rfl | show NL λ _ _ _ _ _=>rfl
example År:=Ć "dict"
example ï8:=#[År,none,.dict es ep,ø]
example ï9:=by simp only at hc hd hc2 hd2;subst hc hd hc2 hd2
example ð0:=by let#[its,r',pl,hz]:=ÁA;have hlen:=r'.length
example ę4:=((x2.trans x3).trans a2).trans
example ð1:=fun L5 S5 w5 σ5 H5 b1 b2 b3=>#[ę4 b2,L5,S5,b1,b3,w5]
example ð2:=by rcases we e2 with ⟨rfl,hl,_⟩ | ⟨n2,e2⟩
example š2:=PySem.W.codeIn
example ð3:=š2 K cdv qual=true
example ð4:=Paired.length
example ċ3:=(n:Int)
example ð8:=if v<0 then (v+ċ3).toNat else min v.toNat n
example ð9:=s.heap.update
example ñ0:=x.length
example ñ1{vs:zLV}:=0
example ñ2(ry:RelV y u):=0
example ñ3(lo hi:Ì2):=0
example ñ4 _:=x (s2.on λ o q=>up _ o (Ë9 n4) (Ë9 n10) (Ë9 n9) q) (h2.on λ o q=>up _ o b1 b4 b3 q) hy
example ñ5 _:=x PySem.F.slot_str_split PySem.F.type_str_split
example ñ6:=g y J=↑J'-> (∀ L',ER S Z L' J'->fD B L'->L'.length=J'.length->Q L' S)->t d L S Q
example Ś8(mu:dZ (H x)) (he:e=x\/H e=↑(Ŏ1 x)):=0
example ñ7 Ś8 (k:∀ b u,b≠e->Þ1) (heo:∃ u,Ŗ e=↑u):=0
example ñ8:=#[T,id,pa,slot,hty,h1,h2,?_]
example ñ9:=λ E E' L S hE z=>hc.mo Ŧ (λ k S1 z=>p_ (h.mo È ŭ5 hE) (h'.mo È ŭ5 hE) z) z
example Ņ4:=-1000000<=i/\i<=1000000
example ö7:=ä i
example ÀF:=(ß (toString i))
example ò0:=(λ xs H Q=>∃ i:Int,xs=[ö7]/\(Ņ4)/\Q ÀF H)
example ò2:=(À4 (Ĕ o "say" ap) [e] Ò2)
example Ço{o:Obj}:=0
example Ś7{b:Addr}:=0
example ò3 Ś7 Ço:=0
example ò4{i j:Nat}:=0
example ş3:=x≠"__name__"
example ò5(hn:ş3:=by decide):=0
example ò6{H H':Hp}:=0
example į5{α β:Type}:=0
example ò7 į5{F:α->β->Prop}:=0
example ò8(ha:yH X [e] tA):=0
example ò9:=s.heap.IsTuple
example ó0:=True.intro
example ó1:=HT.yf Ó Ó hi
example ó2:=S p=↑(.zF m)
example ó3:=IsTupleKey
example ó4:=tab.lookup
example ÅT:=dd.typeIs
example ó5 _:=x PySem.F.slot_dict_get ÅT PySem.F.entry_dict_get (PySem.F.args_dict_get_3 Þ6)
example ó6(hr:y4 k' X.A):=0
example ó7:=pure Ç
example ô1 _:=x È È
example ÀN(E:zVP):=0
example ô2 ę8 (Q:zVP) ÀN:=0
example ž9:=#[t,rfl]
example ô3:=by ext Ĳ;let#[i,j,rfl,q]:=h;let#[u,w',rfl,ž9,#[t',rfl]]:=vals2 r
example ô4(hg:Gl X "isinstance"):=0
example ô5 _:=x (m.map đ) ts
example ô6:=zB3 (zC3 (Ŋ6) I.ok.above)
example ô7:=Ū [a] Ë=[(Ç,eval a Ë)]
example ô8:=xs=[Â1]
example ô9:=of_decide_eq_false
example õ3:=(ė Ë6 its).flatten.toArray
example ÅX:=ho.pe
example õ4 _:=x PySem.F.plainAttrs_list PySem.F.slot_list_append PySem.F.type_list_append WE ÅX
example õ6:=zeS (m:=firstArgMember È) (wpAny_of_eq (a:=ì5) (by first | rfl | (simp![firstArgMember];rfl)) (zf1 ?_ (by size_fits)))
example đ3:=λ p hp=>?_
example õ7:=by let#[L,S,r1,r2,h']:=hu;exact wW.go h.mo Ý7 h' λ ds S1 xs H1 h1 q1 e1 p1=>#[by rw[<- q1.length];show h1.1,đ3]
example ÄR:=o.cls=À1
example Ł5:=o.dict=none
example õ8(h2:ë6 a=↑o) (hc:ÄR/\Ł5) (hs:Ő2=Ġ0 its n) (hz:ġ2<=Ê) (r:Vals é3 Ř2):=0
example õ9:=by let#[_,_,_,q,_]:=h2.ia r2;cases q
example ö0:=by have hperm:(Ñ9).Perm xs:=(h6.filterMap _).trans (by rw[List.filterMap_getElem?_range_length])
example ö1:=(by simp[z])
example ö2:=PySem.W.isFn K à2=true
example ö3:=by subst ey;let#[z,hd,vs,rel,dd]:=Y4 ż5
example ö4:=by simpa only [zj] using h
example ö5:=Ū [b] Ë=[(Ç,eval b Ë)]
example ö6:=by let#[x,e1,e]:=Ċ
example ö9:=by ext č;let#[v,e,h]:=h;let#[m,hn,hl]:=I.loc;let#[u,r,l]:=hl i x v hN e hv
example ø0 _:=x (zI (ha pos ł) λ us s1 Ĳ9=>hc ļ vs us Q I1 r1 q1) Ãy
example ø1:=List (Str× Ö)
example ø2:=by have ht:=hit.typeIs;let#[oi,e1,e2,e3]:=id hit;ext ġ;ext ų;exact zeS (m:=seqItems? Ø1) (zf4 g1 g2 ?_);simp![zd2,hx]
example ø3:=by rintro r ⟨a1,a2,a3,a4⟩;show#[a1,⋯,⋯,a4]
example ø4:=∀ b∈fp,H' b=none
example ø5:=by cases ef;cases hx.int;cases hy.int
example ø6:=å7 ã ↑(Ĝ y py) spos.line Ë=pure true
example ø7:=by ext Æ6;subst r
example ø9:=zA2.mp
example ù0:=Inv ď H' s'
example ù1:=Ê=16777216
example ù2:=#[cls2,dd2,data2,sl2]
example ù4:=sliceBounds
example ù5:=(hName i)
example ù6:=PySem.W.kia_one
example ù7:=ŭ o i pos'
example ù8:=hq _ ę (ĺ2 ć mD)
example ú0:=(Ÿ).1
example ú1:=hs.length
example ú2:=Í2[j]?=↑↑k
example ú3:=∃ (i:Nat) (e:Ï ×Addr),Ð7[i]?=↑(way Ř ë9 m).j/\Ň6=↑e/\e.1≠key
example ú4:=hperm.length_eq
example ú6:=ss.map D.str
example ú7:=occurrences
example ú8:=["self","name","floor"]
example ŉ3:=(zb 7)
example ŉ1:=(zb 5)
example Çe:=(zc zk ŉ1 À3)
example ú9:=(kF jo (za ŉ3 (za (cS (ß "fa")) (za Á4 (za Çe ze)))))
example û1 _:=x [b] pos
example û2 _:=x X (Ì5 a [op] û1)
example û4:=by let#[a,xs,rfl,r1,r2]:=h1
example û5(p:yv Ñ8 S):=0
example û6(hu:Ű9+64<ð7):=0
example û8:=by let#[xs,e1,e2]:=Ċ
example û9:=by let#[a,xs,rfl,g1,g2]:=h1
example ü0{Q:Bool->ŉ}:=0
example ü1(h1:SQ ó k1 l1 xs) (h2:SQ ó k2 l2 ys):=0
example ü2{mg:zSV}{base h:Heap}:=0
example ü3:=by let#[_,y]:=e.ds Þ6 z;rw[h] at y
example ü4 _:=x (λ _ j=>0<j) λ i j=>ä (i%j)
example ü5 _:=x kindOf ((p,w)::P.zip vs) m
example ü6:=by repeat (any_goals (first | assumption | wp_step))
example ü7:=RelV v u
example ü9:=λ x hx=>?_
example ý0:=of_decide_eq_true
example ý1:=nomatch h2.flat r2
example ý2:=(Str×(ç->Â T))
example ý5:=String
example ý6:=(yB Ñ8 p ys\/yC Ñ8 p ys)
example Ĝ2:=fun σ H R hu=>?_
example ý7:=#[fun L S Q Q' hq z=>hm Ŧ (λ ds S1 z=>?_) z,PI.imp h Ĝ2]
example ý8:=lt (Ç7 m 0) (Ç7 (m-1) 0)
example ý9:=owner.setIfInBounds j ↑m
example þ0:=(ė Ë6 xs).flatten.length
example Ľ9:=by simp![zo] at h;subst h
example þ1:=by ext Ľ9;exists zo.nil
example þ2:=List (Str×Addr)
example Ļ3:=λ ds S2 s2 r2=>?_
example þ3:=by let#[x,e1,e0]:=Ċ;let#[xs,e2,e3]:=õ0 e0;cases e3;exact h Ģ2;exact h' å5 xs Í8 Ļ3
example þ4:=H b=none
example þ5:=dv (by rw[h.len];show hl)
example þ7:=by have lo:∀ S' d y,R SB S' Z0 y d->R S0 S' Z0 y d:=λ S' d y r=>Lo.lo b1 (λ _ z=>z) r
example þ8:=by let#[#[slot,h1,h2],S]:=st
example Çv _:=x È h2
example þ9:=by let#[C,dx,q,vs,g1,g2,g3,g4]:=r2 Çv;let#[C',c1,c2,c3]:=hk
example ÿ0:=#[.zJ,_,I.WM (its':=its++its2) hH e #[] (r.append r2) ?_,rfl,q]
example ÿ1:=#[L,S,r1,r2,mo Ŧ (λ d S' q v H' a b c=>k d S' v H' q a b c) h]
example ÿ2:=h1.length.trans (r1.length.trans (r2.length.symm.trans h2.length.symm))
example Àp:=J.set
example ÿ4:=(Àp i ↑(.im y))
example ÿ5:=∀ J,I p J->∃ J',turn g b (enc x) J=↑(.nx J')/\I (p++[x]) (xO is J')
example ÿ6:=(∀ c o,c∉ Ŏ->Þ c=↑o->Ŗ c=↑o)
example ÿ9 _:=x (yP Ù) Ê2
example Ā0:=(V_ ha hb I h λ v u s2 x y H2 I2 rx ry q=>ho î0 x y v u Q I2 rx ry q)
example Ń3:=yZ->Ë8
example Ā1:=∀ d L S (Q Q':Ń3),(∀ L S,Q L S->Q' L S)->t d L S Q->t d L S Q'
example ÆD:=F.slot_int_rmul
example Ā3 _:=x ÆD (typeIs_int s k t) F.entry_int_rmul (F.args_int_rmul_2 È)
example Ā4:=í rfl
example Ā5:=bootBuiltins x
example Ā6:=eval e Ë
example Ā7:=I.ok.kind
example Ā8:=Inv ď H { s with heap:=h',toks:=t' }
example Ā9:=(Ú6)
example ā2:=Int->Int->Prop
example ā3:=by simp at h
example ā4:=Builtin.Slice.slicePlaces
example ā5:=è { cls:=År,data:=.dict ø }
example ā6:=zj ŋ d x
example ā7:=(Ç7 k 0)
example ā8:=λ r=>vC n r.2/\r.1<=n/\my lt r.2 r.1
example ā9:=ŀ ts
example Ă0:=F.grow s1
example Ă1:=PySem.SetTable
example Ă2:=ť λ e=>ð e.1
example Ă3:=#[λ _ _ _ _ _ h=>Åm,λ _ _ _ _ _ _ #[_,_,_,_,h]=>Åm]
example Ă4:=Ĕ o "kept" ap
example Ă5:=(za (cS (ß "taker")) ze)
example Ă6 _:=x (b::rest) pos
example Ă7(hp:PassesOwn Å Ë X.xe):=0
example Ă8{kindOf:Str->Â NameKind}:=0
example Ă9(pick:ı):=0
example ă0{S S':SS}:=0
example ă1 _:=x ts (m.map ſ)
example ă2(hM:m5 M):=0
example ă3 _:=x PySem.F.plainAttrs_list PySem.F.slot_list_extend PySem.F.type_list_extend
example ĭ2:=tupleKind Äd
example ă4:=Å9<=Ê/\Ò6/\ ∃ xs,KT H kvs xs/\h.DictOfH (ĭ2) a xs
example ă5:=(hq [(x,t)] Œ ((à (ũ3 h1)).trans (í hf)).symm)
example ă6:=["self","row"]
example ă7(e:Expr):=0
example ă8:=by rw[List.getElem?_set_ne (Ë9 hj)] at e2;let#[u',r',q]:=hl j y v' e1 e2 e3
example ă9{q:É7}{loose:Ö}{XP:(Str->Â Ñ)->ä9}{YP:World->ä9}{d:DefRec}:=0
example Ą0 _:=x "__init__" "Desk.__init__"
example Ą1:=List Bool
example Ą2:=by let#[ys,e1,e2]:=Ċ;exact h ö ys Ñ0
example Ą4:=by let#[σ3,H3,I3,n3]:=q3;let#[m',hm,w3]:=hN σ3 H3 n3;show#[m',hm,σ3,H3,I3,w3]
example Ą5:=by have h0:zv ŋ ([a,b].map D.str) xs:=h0;cases h0.strs
example Ą6:=by rw[zA6] at h;simp![zv,zj] at h;ext Ú4;subst h1 h2
example Ĳ1:=by decide +kernel
example Ą7(h5:pick.length=N'.length:=by rfl) (h6:gC N ÀR=true:=by ext Ĳ1):=0
example Ą8{f:Addr}{fd:á9}:=0
example ē9 _:=x X.xe s
example Ą9:=Ã->t Ņ8->î Å (spliced (ğ0 pos (Ū es Ë))) (AP ď Q) ē9
example ą1:=X.stack
example ą2:=(ú xs)
example ą3:=.Assign
example ą4:=its.toArray.isEmpty
example Åf:=x::xs
example ą5:=λ us s2 #[xs,H2,I2,r2,q2]=>#[Åf,H2,I2,Ī Ý7,q2]
example ą6:=hq È z
example ą7:=zK.fits ÅI
example ą8:=h1.elim
example Ų5:=listUpdate_at
example Ĝ3:=(zD4 _)
example ą9:=zeS (seqEpoch_at g6 rfl (zeS (Ų5 g6 ś6 Ĝ3 ?_)))
example Ć0:=(Ĝ "isinstance" p)
example Ć1:=ts.any λ t=>eqT t u
example Ć2:=xs.size
example Ć4:=t.put j
example Ć5:=(Txt.split a b).map
example Ć6:=(ŭ (Ĝ x p) i pos)
example Ć7:=by let#[oc,od,kV,doc,pm,an,cdv,ct,osl,rfl,lk,hcd]:=F.ex
example Ć8(hu:Ű9+1<ð7) (ho:PE X o td):=0
example ć1:=by exists hb
example ť2:=(ha ł)
example ć2:=zI ť2 λ v s1 Ė=>?_
example ć3:=[ö7,ä j]
example Ų0:=yI d S
example ć5:=Ų0=↑ds
example ć6:=(yB ŋ p ys\/yC ŋ p ys)
example ć7:=(((ð9 a (Û0 λ _=>ø)).push (ÅF "tuple" ń 0)).push Í5).get?
example ŗ1 _:=x _ S1 s1
example ć8:=hq ŗ1 (ĺ2 ć oz)
example Às:=λ _ _=>Ò9
example ć9:=hq ŗ1 h2 Às
example ĺ0:=(.xw kvs)
example Ĉ0:=some ↑(Ŏ1 ĺ0)
example Ĉ2:=t.place.size
example Ĉ3:=g5.objs.size
example Ĉ4(prog:É7):=0
example Ĉ5{u:Ñ}:=0
example Ĉ6:=by ext Ĥ;let#[S,d,e,t,u',a1,a2,a3,a4,a5,a6,a7,q]:=h
example ž2:=î Å (f (ä i t) (ä j u)) Í6
example Ĉ7:=Q (ä ó8 Œ) { s with toks:=Œ+1 }->ž2
example Ĉ8:=λ kv=>if kv.1=k then (kv.1,d) else kv
example ĉ0:=by intro gV s σ H R I h
example ĉ1 _:=x (tupleKind_room_in1 hu) (bx I.zM eb)
example ĉ2:=by rename_i hb;rw[í hb]
example ĉ4 _:=x H1 e1 p1
example ĉ5:=by rintro v rest r s' ⟨hr,rfl,hall⟩
example ĉ6:=by ext Ã3;let#[hl,h]:=h
example ĉ7:=by let#[f,oc,od,kV,dc,pm,an,cd,ct,sl,a,l,c,k]:=H
example ĉ8:=by ext È3;let#[_,rfl,u,rfl]:=rv.one
example ĉ9:=es.toList
example Ċ2:=by exact#[ÅT,λ b q=>?_,hd];cases q;let#[ob,_,_,h1,h2,_]:=dd;show#[ob,h1,h2.2.1]
example Ċ3:=ë6 f=↑#[oc,od,.func (Ñ5 x x ľ9 dc pm an cd ct),sl]
example ě0:=by subst this
example Ċ4:=by ext ě0;rw[X5 I p ts us (by simp![dep] at z;lia) (by simp![dep] at z';lia) g3 k3 g2 k2]
example Ċ5{k1 k2:Bool}{z TI TO i1 i2 l1 l2:Addr}:=0
example Ċ6:=Þ p.1=↑p.2/\H p.1=none/\p.1≠ Å6/\p.1∉X.fs/\∀ v,p.2.data≠ Đ9 v
example Ċ8:=(by exists hi)
example Ċ9:=by rename_i hb;rw[à hb]
example ċ0:=X.base.get? b=↑o
example ċ1:=#[H1,I1,q1]
example ċ5:=I.laid
example ċ7:=kN K "Desk" C
example ċ8:=Decidable
example ċ9:=λ k S1 H1 h1 e1 p1=>p_ à7 à7 h1
example Č2:=hq S1 s1
example Č3:=(è Í5).update À (Û0 (·++ń))
example Č5:=[a,b,c,d]
example Äe:=(.dK [])
example Č6:=(upd H q Äe)
example Č8:=(instS "tuple" Ù)
example ÀJ:=(cI 12)
example Č9:=(za ÀJ ze)
example č1{f:Ñ->Ñ->Sem Ñ}:=0
example č4:=by let#[L,S,r1,r2,h]:=h
example č5 _:=x ha.pe hb.pe
example č6(r:æ4) (p:Ó0):=0
example č7{a:ç6}{b:Æ0}:=0
example č9:=by let#[sl,e1]:=I.base.slot ý3 n hb hx
example Ď0 _:=x gi λ i j=>ä (i ^ Ő8)
example ħ5 _:=x h1 h2
example Ď1 _:=x hg2 () () he hg ħ5 h3
example Ď2 _:=x val its ks
example Ŕ2:=i.length+j.length<=Ê
example Ď3:=∃ i j,x=ß i/\y=ß j/\Ŕ2/\Q (ß (i++j)) H
example Ď4 _:=x hg hm
example Ď5(hy:X.N[i]?=↑y) (hx:Loc è7 y):=0
example Ď6 _:=x Ŧ9 (hg [] 0 s H []).mo (hf [] 0 s H []).mo (he [] 0 s H []).mo
example Ď8:=Inv ď H' { s with heap:=h',gens:=g',drawn:=d',toks:=t' }
example Ď9:=λ i j=>.bl (Ď (i<=j))
example ď0:=λ i j=>.bl (Ď (j<=i))
example ď1:=(À+1)
example Ŵ7:=ť đ
example ď2:=key∈ Ŵ7/\xs'=xs\/key∉ Ŵ7/\xs'.Perm (xs++[(key,b)])
example ď3:=PySem.F.plainAttrs_str
example ď4:=by let#[e,n,ne,nf,d]:=I.pin p hp
example ď6(S:SS):=0
example ď7:=by split at h
example ď8:=by rw[h1.length,h2.length,h3.length]
example ď9:=by let#[q1,q2]:=nE q
example Đ0:=List (Str×V)
example Đ1:=(zI (h pos Ü _ I hq) λ us s1 #[xs,H1,I1,r,z,q]=>#[by rw[<- á8];show z,?_])
example Đ2:=by simp![zo] at q ⊢;let#[c,cs,q1,q2,q3]:=q
example Đ3 _:=x _ [] ⋯ Ĝ3 #[â0,hl1.push _] ?_ ?_ #[λ e he=>(by cases he),λ j r hj=>⋯] ?_
example Đ4:=by have:=å6 Åh X.es;ext Ŋ0
example Đ5:=H p=none
example Đ6:=s2.heap.push { cls:=Ć "slice",data:=Ċ0 [Ą3,Ą3,ä k tk].toArray }
example Đ7:=by exact (I.zM b u e).jv (λ c v hc q=>k c v ?_ q) (λ _ q=>q) Ö4;rcases hc with z | z
example ÅD:=scope.names.all
example Đ8(h2:ÅD (λ y=>Ď (Ç2 y.1=↑y.2))=true:=by ext Ĳ1):=0
example đ0:=by let#[it,fp,tn,J,H2,e,I2,T,st2,f2,rd]:=h2;subst e
example đ2:=.bl b
example đ5:=wpAny_Name (wpAny_loadName_free Ā7 hk hc hcell fin hcd) hd
example đ7:=(model P w)
example đ8:=I1.zM.fresh
example Åg:=sp vs H Q E
example Ē1:=∀ vs H Q E,Åg->Ż=Î6
example Ē4:=(by rw[zA0];lia)
example ÅG:=Ô9 b a
example Ē6:=λ a b=>ÅG=Ç
example Ē8:=λ d2 S2 s2 r2=>?_
example ē0:=below xs j
example ē1:=wpAny_storeSet_of ho ś6 hsl
example ē2:=(è L0).objs.size
example ē3:=rows.length
example ē4:=À4 (Ĝ "range" p2) [e] [] pos2
example ē5:=bL (λ _ _ _=>oz) λ _ _ _=>nofun
example Åv:=h2.none
example ē6:=h l (Åv hf) Ğ1 hx (h2.ups hx #[_,yO,zv.eN _])
example Ŷ8:=ya.map đ
example ē7:=(Ŷ8).Nodup
example ē8:=(xC ze)
example Ĕ0 _:=x X (.UnaryOp .Not a pos)
example Ĕ1(X:K.In ó) (I:fK ó x dx C mA):=0
example Ž7:=Scope
example Ĕ2{Î7:Ž7}:=0
example Ĕ3 _:=x CX Û N qual Î7 f
example Ĕ4 _:=x n n2 dd dd2 sl sl2
example Ė0{apos cpos:Pos}:=0
example Ĕ5{to:TE}{t:TA}{name:Str}Ė0{T id:ý5}{r:æ1}:=0
example Ĕ6(hp:vC n p):=0
example Ĕ7{rows:Ê3}:=0
example Ĕ8(g:T->Ç1):=0
example Ĕ9{h h':Heap}:=0
example ĕ0:=Bool->Ĭ
example ĕ1:=y.length
example ĕ4:=(ss.map T.str)
example ĕ5:=(za (zu 4) ze)
example ĕ6{t':Nat}:=0
example ĕ8(he:PE Ū0):=0
example Ė1:=List Nat
example Ė2:=by ext À6;obtain⟨⟨es,ep,t,S,eu⟩,-,-⟩:=(show wu Ĉ H ó l ì0 from I.zM l _ hl)
example Ė3:=(by simp![zA0] <;> lia)
example Ė4:=by let#[y',h1,h2]:=e9 e;cases h2
example Ė5:=∀ a,Z a->S a≠none
example Ė7:=Þ l=↑{ cls:=Á9,dict:=dd,data:=Ġ0 ā1 n,slots:=sl }
example Ė8:=ß #[[c].toArray]
example Ė9 _:=x _ H1 (Ø) e1 p1
example ÆV:=List (Ï ×Addr)
example ė0{xs:ÆV}:=0
example ė1:=by let#[z,y,vs,r,ob,es,ep,e,c]:=x;show#[z,y,vs,r,ob,es,ep,Î3,c]
example ė2:=by simp![zv] at h
example ė3:=by cases rx;cases ry;let#[its,r1,p1,_]:=Ò7 ha;let#[its2,r2,p2,_]:=Ò7 hb
example ė4:=∃ (o:Obj) (its:zAV) (n:Nat),ë6 a=↑o/\o.cls=Á9/\Ł5/\à3
example ė5:=.bl true
example ė6:=by rcases jJ hv with ⟨j,u,rfl,rfl⟩ | ⟨y,u,rfl,rfl⟩
example ė7:=by ext Ĳ;let#[p,ys,rfl,hq,q]:=h;let#[u,rfl,rx]:=vals1 r
example ė9:=by exists e
example Ę0:=∀ b ps,H b=↑(.ya ps)->∃ more,H' b=↑(.ya (ps++more))
example Ę2:=#[rfl,rfl]
example Ę3:=λ i j=>.bl (Ď (j<i))
example Ę4:=Ø3 K ċ4 "__init__"=↑↑ à2
example Ę5:=((yf n 0 lo:Nat):Int)
example Ę6:=IsTup.new È
example Ę9:=g2.length
example ę1:=(yk S' λ a=>Z a\/a=p)
example ę2:=R S S' Z y d
example ę3:=(xO is J)
example ę5:=xs.take p
example Š6:=(nu w)
example ę6:=(è Š6).objs.size
example ę7:=v1::v2::rest
example ę9{Q:Unit->ŉ}:=0
example Ě0(st:Stmt):=0
example Ě1{tg:Expr}:=0
example Ě2(E:XK):=0
example Ŧ5:=L2.yD
example Ě4(e2:Ŧ5 ds i=↑d) (h:Q d S):=0
example Ě5(hf:yU f te):=0
example Ě6(k1 k2:Bool):=0
example Ě7 _:=x F.slot_tuple_mul hT F.entry_tuple_mul (F.args_tuple_mul_2 È)
example Ě8:=pU.go hb.mo (Ō) p1 z λ y S2 H2 h2 e2 p2=>h2 H2 (Ä9) p2
example Ě9:=(À4 (Ĕ o "replace" apos) [È5 Š8 j1 p1,ò1] û7)
example ě1:=by .simpa only [Sn] using h
example ě3:=.free
example ě4:=env.cells.lookup
example ě5:=wpAny_Name (wpAny_loadName_cell Ā7 hk hc hcell fin) hd
example ě7:=(zI h4 λ _ s5 #[x,H5,I5,r5,y5,st5,fr5]=>?_)
example Ĝ0:=Binds K fd ps []
example Ĝ1:=(own++cl).lookup
example Ĝ4:=t::ts
example Ĝ5:=î Î (call (õ2) [Ä l]) Í6
example Ĝ6:=zeS (zf3 S.get rfl S.fits ?_)
example Ĝ7:=À4 (Ĝ "set" p2) [e] [] pos2
example Ĝ9:=vh hr (wZ F.k hr ho (vm ha vk hst) hk () hst hpl ht) wY
example ĝ1:=by have hp:((comes X.w l es ep).toList.map ſ).Perm us:=by rw[<- eu];show (au X.w l es ep).map _
example ĝ2:=by .simp![Sn] at q;obtain⟨_,⟨q,_⟩ | ⟨_,q,_⟩,_⟩:=q <;> cases q
example ĝ3:=if Ç0+Ë2<=Ê then ↑(.nx (Àp i ↑(Ŏ1 (ú (ts++us))))) else none
example ĝ4:=by exists h
example ĝ5:=(zO true)
example ĝ6:=kat_nil (by simpa [Ô9] using h)
example ĝ7(gV:zLA) Çs:=0
example ĝ9(P:É7):=0
example Ğ0(r1:ß6) (r2:Ó0) (h:t L S R):=0
example Ğ2 _:=x keys values
example Ğ3(ho:PD X o td) (hi:PD X i ty):=0
example Ğ4:=by rw[Array.toList_filterMap,List.map_filterMap];congr 1;funext k
example Ğ5:=by ext Ĳ;let#[p,ys,rows,rfl,hq,hr,pL,q]:=h;ext À6
example Ğ7(a:Ô0 K Ţ "Desk"=↑↑ ċ4):=0
example Ğ8{Z Z':ŝ}(hz:∀ a o,yk S Z' a=↑o->Z a->∃ m,o=.zF m):=0
example Ğ9:=(ħ x)
example ğ1:=(Ñ5 name qual params body Î7 dV kV doc pm an cdv ct)
example ğ2:=(cl.lookup x).isSome
example ğ3:=compEnvC Î7 cl C Ë
example ğ4:=(yM i)
example ğ5:=runEnd
example ÀD:=Ô0 K Ţ x
example ğ7:=ÀD=↑↑ Ā9
example ğ8:=(yj st).names.lookup
example ğ9:=by rcases jJ hb with ⟨j,u,rfl,e⟩ | ⟨y,u,rfl,e⟩
example Ġ1:=p.1=q.1/\H q.2.1=↑(ŀ (p.1.map kV))/\RelV p.2 q.2.2
example Ġ2:=(Ŵ7).Nodup
example Ű1:=fs.lookup
example Ġ3:=∀ f,oP (Ű1 f) (mA f)
example Ġ4:=wpAny_Name (wpAny_loadName_local Ā7 hk hn hm fin) hd
example Ġ7:=Str×NameKind
example Ġ8:=(!ds.isEmpty)
example Ġ9:=λ gV s σ H v w Q I r q=>h Ü v w Q I r (hi v Ņ8 q)
example ġ0:=o.refl _
example ġ1:=(ù9 (ğ)).zd
example ġ3:=PySem.W.mg_of
example ġ4:=[ß a,ß b]
example ġ5:=(retS (zu 1))
example ġ6 _:=x P w H h a
example ġ7 _:=x q loose XP YP l.row.toRowW d [] (λ f vs=>PySem.call f vs)
example ġ8:=by split at e
example ġ9 _:=x È ŭ5 (lN.ext e1) z
example Ģ1{kvs:Ņ}:=0
example Ào:=h.er.ow
example Ģ3:=by let#[p',ds,h1,h2,h3,h4]:=Ào i ts e;rw[ed] at h1
example ū7(hf:vy f) (hg:vy g):=0
example Ģ4(hr:ve X.K f r) (hr':ve X.K g r') ū7:=0
example Ģ5 _:=x X (ş5 es kk pos')
example Ģ6(ÂV:À5 o "split" û3=ĸ):=0
example Ģ7:=by .let#[es,ep,t,St,e]:=id hSO;show#[hSO,#[_,St.get],λ h1 h2 S1 k=>S1.jv k]
example Ģ8:=List Û5
example Ģ9:=#[Ď7,rfl,rfl,Á5,λ j hj=>(by cases hj),λ i g j hg=>(by cases hg)]
example ģ0:=by simp![zA5,zc6,ŵ9,not_or] at hc
example Àa:=vs.toArray.zip ń
example ģ1:=(arrOf (SortSt.mk' general' (Àa) ø 7 none)).map ſ
example ĵ2:=ß "ok"
example ģ2:=(oh (yX (pP true) (oj sp to (mv te kB)) (dC (ĵ2))))
example ģ3:=by let#[h1,h2]:=X7 I1 r1 ty;exact ñ8;have hA:=ha cpos ã5;ext ą
example ģ4:=by simpa only [zc4,zv] using h
example ģ5:=λ b hb=>?_
example ģ8:=#[ä Í1,H,Û9,#[Œ+1,by rw[zA0,hlen]],q]
example ģ9:=zj Ñ8 d x
example Ĥ0:=∃ bs:Ą1,Ų0=↑(bs.map D.bl)/\Q (.bl (g bs)) S
example ÆF:=è (mO k l)
example š1:=Ć "enumerate"
example Ĥ2:=(ÆF).push { cls:=š1,data:=ç7 }
example Ĥ3:=(za Ũ ze)
example Ĥ4:=(za Ŵ ze)
example Ĥ5{xs ys:Ą}:=0
example Ĥ7 _:=x he c1 c2 I2 T st2 f2 rd λ C D oC H' s' hC J' ho hn q=>?_
example Ĥ8:=by constructor
example Ĥ9(rows:Ê3):=0
example ĥ0(neg:Bool):=0
example ĥ1 _:=x σ _ (((ÅY).ext e3).ext e4) ((ê6 e3).trans e4)
example ĥ2:=by let#[it1,rv1,q1]:=g1.of I;let#[it2,rv2,q2]:=g2.of I
example ĥ3:=xs.drop
example ĥ5:=St->Ĭ
example ĥ6:=Ì4 op b=Ç
example ĥ7:=ForInStep.yield
example ĥ8:=Á2->h1.get? b=↑o
example ĥ9:=he.mo
example Ħ0:=λ _=>True
example Ħ1:=(l5 pick L)
example ÁL:=h1.objs.size
example Ħ2:=À<=ÁL->Q' vs { s with heap:=h1,toks:=tk }
example Ħ4:=(ts.getD j .zJ)
example Ħ5:=λ z=>e (h1.trans z)
example Ħ6:=λ S3 Z3 L3 F3=>P S3 Z3 L3 ((F3.xO is).back b1 F.z0)
example Ś3:=way Ř h k
example Ħ7:=∃ k,(Ś3).j=j/\∀ k'<k,(way Ř h k').j∈ ś
example Ħ8:=î Î (É1 ċ2) Í6
example Ħ9:=(ė Ë6 xs).flatten
example ħ0:=ú7 x y 0 ñ0 (limitOf x k)
example ħ1:=(za Ä4 ze)
example ħ2:=(za Á4 ze)
example ħ3(i j:Nat):=0
example ħ6(i j:Int):=0
example ħ7(e:H a=↑ è8) (c:l_ X.K C):=0
example ħ9(e:Ø5):=0
example Ĩ0 _:=x kvs k
example Ĩ1:=by let#[Z,ys,y,hz,r,e,hq]:=hs;unfold z_ at e;ext ġ8
example Ĩ2(ps:Ŝ):=0
example ź0{tab:ø1}:=0
example Ĩ4 ź0(hk:Xd X.K X.w X.mg x tab) (hi:PD X i ti):=0
example Ĩ5:=(Ó5 ī Ë).map ſ=assign e Ë::(Ó5 es Ë).map ſ
example Ĩ6:=(Builtin.«int.__rmul__» #[[ä i t,Ä l],[]])
example Ĩ7:=by let#[o',es',ep',ho',r']:=hm;rw[ho] at ho';cases ho';show#[_,es',ep',hL,r']
example Ĩ8:=List (Int×Tok)
example Ĩ9:=by simp![zB5,zC4,æ0]
example ĩ0:=H l=none
example ĩ1 _:=x (T:="StopIteration") (b:=true) #[o,ho,hc] isSubtype_stop
example Äu:=by let#[b,e1,e2]:=Ċ
example ż9 _:=x e1 λ S1 s1=>?_
example ĩ2:=by ext Äu;exact h ö b _ hE ż9;ext đ1
example ĩ3{P:É7}{base:Heap}{ys:Ģ8}:=0
example ĩ4{neg:Bool}:=0
example ĩ5:=λ b hb=>(hf Ãv).1
example ĩ6:=#[y,by simpa using e1,e2]
example ĩ7:=ys.zip rows
example ĩ8:=by have q:=h1.flat r1;subst q
example ĩ9{ss:Ö}:=0
example Ī0:=ŭ (Ĕ (Ĝ "self" p1) "kept" p2) (Ĝ "name" p3) p4
example Ī1:=by rcases h with h | ⟨o,its,n,hk,hc,hs,hz,r⟩
example Ī2 _:=x Ü x y v u Q I rx ry
example Ī3(hi:Ö6 items.toList ns) (hj:Ö6 items2.toList ms):=0
example ÄV:=Ò7 hq
example Ī4:=by let#[its,r',pl,hz]:=ÄV
example Ī5:=by let#[_,_,_,_,o,_,_,e,ex,_]:=I.zM p _ hk
example Ī6 _:=x (jC he.pe jB hs) ã3
example Ī7:=Builtin.Tuple.tupleItemsOf
example Ī8:=∀ ę8 (u:Ñ),BindsTo s fd #[[u],[]] [(x,u)]
example Ī9:=#[p,zc1,zC6 _,zC6 _]
example ī0:=zeS (zf3 ho rfl X.fits ?_)
example ī1:=(.bl (Txt.startswith a b))
example Áf _:=x N f1 f2 c ga c2 ga2
example ī2:=hZ Û "say" ě9 ă6 (pJ (ki Áf))
example š6:=(zu 2)
example ī3:=(za (zu 1) (za š6 ze))
example ī4{v:V}:=0
example ī5(ha:PA X ð6 ta) (hs:Ì0:=by rfl) (hs2:ö5:=by rfl):=0
example ī6 _:=x ho hc hd (λ h' c' kp e=>fin its r' hz h' c' kp e) Ė3
example ī7{es:ŧ DictEntry}{ep:Nat}:=0
example ī8 _:=x _ ĉ4 λ i H2 S2 x1 x2 hk=>?_
example ÁH:=(Ext.refl H)
example ī9:=by .rename_i d e;let#[v,h1,h2]:=r1.2 i d e;show#[v,h1,h v H h2 ÁH r2]
example Ĭ0:=by cases h;rfl
example Ĭ1:=by simp![zj] at h1
example Ĭ2:=List Ñ
example ÀX(hg:Gl X "range"):=0
example ľ3:=X.mg "range"=none
example Ĭ3{ta:TA}{p pos:Pos}ÀX (hm:ľ3):=0
example Ĭ5:=by have hT:=hk.typeIs;let#[o,ā1,n,ho,_,hd,hi]:=hk
example Ĭ6:=(show Ń from r).elim
example Ĭ7:=List (κ × β)
example Ĭ8:=by subst hj;rw[hi] at e1;cases e1;rw[List.getElem?_set_self hiσ] at e2;cases e2
example Ĭ9:=by simp![Sn] at h
example ĭ0:=S p=none
example ĭ1(hm:X.mg x=↑ à2) (hk:ş8 X.K à2=true):=0
example ĭ5:=Calls.Constant_str
example ĭ6:=-(2 ^ 62)<=j/\j<2 ^ 62
example ĭ8:=(λ b u q=>Åe)
example ĭ9:=codeAny_mono
example Į0:=PySem.W.callWith_K
example Į1:=(start N vs)
example Į3:=hr.units
example Į4:=pick[i]?
example Į5:=zj.ext
example Į7:=#[z.1,hq È z.2]
example Į8:=(Ÿ).2
example Į9:=probe.go
example į1:=is.filterMap
example į2:=Â PySem.Fin×Unit
example į3:=partsBetween
example į4:=(.Dict [] [] pos')
example į7:=by intro wh gV s σ H Q I h
example į8(k:Bool):=0
example į9(hdb:Ý:=by decide):=0
example İ0{f:Ñ}{r r':ÄY}(h:xT X f r) (h':xT X f r'):=0
example İ1:=by let#[ds,rfl,h2]:=hx.tup;let#[es,rfl,h4]:=hy.tup
example İ2(hf:vD f te):=0
example İ4:=by simp[xs1,ze6,zcZ]
example İ5(h':Heap) (tk:Nat):=0
example İ6:=by ext Í;exact wW.go à8 á6 λ ds S1 vs H1 h1 q1 e1 p1=>?_
example İ7(hpl:zEB X pos []):=0
example İ8:=by simp![ù4,HT.yf,Option.getD_none,show ž5>0 by decide,ċ6];by_cases h:i<0
example İ9:=List (Ö × ı)
example ı0:=λ z=>c1 (by subst z;cases ds with | nil=>rfl | cons _ _=>simp at hl)
example ı1:=[none,↑1]
example ı3{b:Bool}:=0
example ı4(hdb:Ý):=0
example ı5:=by intro gV s σ H Q tk I h
example ı6:=λ p hp=>ŗ (show p∈([]:zLA) from hp) #[]
example ı7:=by simp![zo] at r;let#[c,cs,rfl,r1,r2]:=r;let#[J1,e1,e2]:=Ċ
example ı8:=List (Â Expr)
example ı9:=by rw[q] at h;cases h
example Ĳ0:=(.Slice none none ↑st p2)
example Ĳ3:=Sum.inr
example Ĳ4:=(I.base.keep ý3 n hb hx)
example Ĳ5:=Ã->t D Ň->î Å (execs st Ë) (SP X gV D) ē9
example Ĳ6:=λ _ _ z=>í0 z
example Ĳ8:=[x,y]
example ĳ0:=Turn Ĉ X.K tg J fp it tn
example ĳ1:=.bl (Ď (i<j))
example ĳ3:=Builtin.Slice.sliceAdjust
example ĳ4:=((i:Int)+(m:Int)*1).toNat
example ĳ5:=typeLookup (Ć T) "__getitem__"=pure ↑(ū id)
example ĳ6:=Ó+zs.length<=Ê/\Q .zJ (upd H l (ú (xs++zs)))
example ĳ7:=s₁.heap.get?
example ĳ8:=.refl _
example ĳ9:=xJ.mono
example Ĵ0:=Le lt (Ç7 a 0) (Ç7 b 0)
example Ĵ1:=J[i]?
example Ĵ2:=(r.getD 0 0,r.getD 1 0)
example Ĵ3:=(way Ř h K).j
example Ĵ4:=λ u hu=>hall u (zc2 _ hu)
example Ĵ5:=this.trans (List.perm_append_singleton È).symm
example Ĵ6:=ť λ e=>(V.ref e.2,e.1)
example Ĵ8:=λ S3 Z3 L3 F3=>#[m,zE2 m,Z3,J2,F3,e']
example Ĵ9:=è { cls:=À1,data:=Ġ0 [ä i tk,u].toArray }
example ĵ1:=λ us s2 #[vs,H2,I2,r,q2]=>#[I2.vo,?_]
example ĵ3:=(zc zk ĭ À2)
example Âh:=(zu 3)
example ĵ4:=(za Âh ze)
example ĵ5(i:Int):=0
example ĵ6(ha:PT X a tA):=0
example ĵ7(ha:PA X ī t):=0
example ĵ8{j:Nat}:=0
example ĵ9(hr:ve X.K f r) (hf:vy f):=0
example Àk:=putK Ĩ0 v
example Ķ0:=by have hl:(Àk).length<=Ê:=by have:=WT Ĩ0 v;lia
example Ķ1 _:=x hf hg Ì9 hc.mo
example Ķ2 _:=x Ų (F.args_str_split_3 Þ6)
example ÆJ:=strValues l
example Ķ3 _:=x (Ü0) İ #[by rw[zA7];show h4,ÆJ,0,by rw[<- e];show X3 l,Á1]
example Ķ4:=by simp![Sn]
example Ķ5:=List (V× Ï)
example Ķ6:=by ext ě2;exact hf å5 È F1.er e2 λ d S2 s2 r2=>?_;cases Vw.int r2
example Ķ7:=[none]
example Ķ8:=λ us s1 #[vs,H1,I1,r,q]=>#[I1.vo,?_]
example Ķ9:=λ d S3 s3 r3=>P d S3 (b1.trans s3) (lo Þ6 r3)
example ķ0:=g5.push { cls:=À1,data:=Ġ0 [x,y].toArray }
example ķ1:=λ _=>ħ #[o,its,n,h2,hc,hs,hz,r]
example ķ2:=callWith pos f first (ğ0 pos (Ū [e] Ë)) ä0
example ķ3:=by rcases l with ⟨hk,hm⟩ | ⟨hk,c,hc,hcell⟩
example ķ4:=by rename_i q;ext Ë1;ext û4;let#[x',e1,e2]:=r2.yD q
example ķ5:=by let#[d,h1,h2]:=hE.im i _ h
example ķ6:=by generalize hT:(Ć4)=P at *;let#[t1,p]:=P;dsimp only at *
example ķ7:=by have:=(au w a es ep).length_eq
example ķ8:=by rw[yA (ko q hn)];show q
example ĸ2:=Vals vs us
example ĸ3:=yC Ö9
example ĸ5:=[u1,u2].toArray
example ĸ6:=[λ v=>bindName Ë y v,λ v=>bindName Ë x v]
example ĸ8:=xs.isEmpty
example ĸ9:=PySem.W.makesIn K C=true
example Ĺ0:=(è Ö5).push (ì7 C À)
example Ĺ1:=λ _=>none
example Ĺ2:=Calls.spliced_nil
example Ĺ4:=q _ (Ã7)
example Ĺ5:=slot_list_getitem.lookup
example Ĺ6:=Option.some.injEq
example Ĺ7:=Ext H (upd H p o)
example Ĺ8:=t L S Q->t L S Q'
example Ĺ9:=yv K H' S'
example ĺ1:=(kas_rev p i j).getD k 0
example ĺ3:=yg (Yo Ò4) ha hb
example ĺ4:=L.length=J.length
example ĺ5:=ou Û xD ě9 f fd ps (nq K (zR R (z_ N n g)))
example ĺ6:=(Ć4).1={ t with place:=insertAt Ð7 (Ć4).2 j }
example ĺ7:=(ð e.1,ķ e.2)
example ĺ8:=Obj.putSet
example ĺ9:=sb.extBut
example Ļ1:=ss.idxOf k
example Ļ2:=xs=x::rest
example Ļ4:=(ß (Txt.replace a y z))
example Ļ5:=callWith pos f first (ğ0 pos (Ū ī Ë)) ä0
example Ļ6:=key Þ6 (Ī Æ9 (Ī Æ9 (Ī Æ9 Á5))) #[] hq
example Ļ7:=(.bl (Txt.contains v u))
example Ļ8:=(wc 3 (y8 (zC 5) (y8 (zC 6) (y8 (zC 7) wK))))
example Ļ9:=(zb 4)
example ļ0 _:=x (g':=s.gens) (d':=s.drawn)
example ļ1{op:CmpOp}:=0
example ļ2:=by let#[t,rfl]:=r
example ļ3{env:Env}:=0
example ļ4 _:=x (h₀:=Áu) I.ok.mod.e_
example ÂB:=(by exists h1)
example ļ5 _:=x (i:=i) (zcB.mp nd).2 ÂB (by exists h2) hk
example ļ6{pos p:Pos}:=0
example ļ8:=by have q:=h.flat r;subst q
example ļ9 _:=x È Č
example Ľ1:=by let#[p,o,h1,h2,h3,h4]:=hE.ow i _ h;ext ě2
example ÀY(k:Key):=0
example Ľ4(kvs:ç6) ÀY:=0
example Ľ5:=by let#[z,e1,e]:=Ċ;let#[x,e2,e3]:=Ċ;split at e3
example Ľ6(hr:kH xs.toList):=0
example Ľ7{its:zAV}:=0
example Ľ8:=by rw[yA (ko q h)];show q
example ľ1:=by let#[a',xs',ds',q,k1,k2,k3]:=h2.iu p r2;cases q
example ľ2:=X.fn y=true\/Ğ y=↑ ø8
example ľ4:=by rcases ã7 hx with q | q
example ľ5:=by exact hv ö z _ F.er e1 λ dz S1 s1 r1=>?_;have F1:=Ă0
example ľ6(es:Ù6) (ep:Nat):=0
example ľ7(hit:s.heap.IsTupleIter it l i) (hl:ò9 l xs):=0
example ľ8 _:=x È hc.2.2.2.2 (up c o hc.1 hc.2.2.2.1 hc.2.2.1 q)
example Ŀ0 _:=x Ų (F.args_str_split_2 È)
example Ŀ1 _:=x X (À4 (Ĕ o "split" apos) [e] û7) (nW lH to tA)
example Ŀ2(hk:k<=k'):=0
example Ŀ3(hb:À5 o "kept" û3=ĸ):=0
example Ŀ4:=(à4 É4 (by rw[hs,hs2]) (by rw[hs2];rfl))
example Ŀ5:=(hg _ s5 σ3 H5 x u _ I5' r5 (step x H5 y5))
example Ŀ6 _:=x vE λ i j=>ä (i/j)
example Ū5{lo hi:Ì2}:=0
example Ŀ7{t sl:Addr}{ā1:zAV}{vl vu:Ñ}Ū5:=0
example Š5:=zB0.mp
example Ŀ9:=by let#[e,he,rfl]:=Š5 hx
example ŀ0:=by intro xs n h;ext ė2;let#[y,ys,rfl,h1,h2]:=h
example ŀ2:=by let#[z,e1,e2]:=Ċ;ext đ1
example ŀ3(Sc:Ù2:=by show dD) (hn:n=Î6:=by rfl):=0
example ŀ4:=List (TE×TE)
example ŀ5:=by simp![Sn] at r;let#[ds,rfl,r]:=r;simp![wc] at e;ext ġ8
example ŀ6:=by let#[a',xs',ds',q,k1,k2,k3]:=h2.ia r2;cases q
example ŀ8:=by ext Í;exact Ø6 Ħ3 á6 λ x S1 w H1 h1 q1 e1 p1=>?_
example ŀ9:=í (by rw[show (ì6 "tuple" == ì6 "tuple")=true from rfl];simp)
example Ł1:=by let#[c,rfl,q1]:=q1;cases r1
example Ł2:=by simp![zC4,æ0]
example Ł3:=RelV x u
example Ł4:=(upd H a o)
example Ł6:=X.s₀.heap.get? b=↑o
example Ł9:=σ.set i ↑v
example ł1:=swapsWithSole
example ł2:=swappedStores
example ł4:=∀ name,PySem.W.lookIn name od=↑(mA name)
example ł5:=codeAny
example ł7:=(zfH È (Ë9 hb)).trans
example ł8:=λ _ _ _=>Ń
example ł9:=hfp Ãv
example Ń0:=(ą3 [Ĝ y py] ã spos)
example Ń1:=ŀ ds
example Ń4:=Ç7 i 0
example Ń5:=(ū "sorted")
example Ń6:=l.length
example Ń7:=(rows.map mh)
example Ń8:=s.heap.IsList
example Ń9:=Ut I a3 t u' (A:=X.A) Á7 a4 a5 a1 a2 rx ry
example ń1:=zo.cons
example ń2:=Vw.grow r1 s2
example ń3:=ç->Â (ç)
example ń4:=b.length
example ń5:=#[h.1,h.2.1,λ r hr=>hq È (h.2.2 r hr)]
example ń7:=(Ö7 đ).toArray.toList
example ń8:=SetTable.fill
example ń9:=t.relaid (Æn) wanted=↑(t',order)
example Ņ0:=#[es,ep,t,ho,X,hled,hpl,hfew]
example Ņ1:=(dq Ñ1).get?
example Ņ2:=items.isEmpty
example Ņ3:=[a,b,c]
example Ņ5:=["self"]
example Ņ6:=ã6 (λ(q:Str× Ö) (r:Str× Ñ)=>á2) tab ya
example Ņ7:=jk K w x ya
example Ņ9{c:Expr}:=0
example ņ0(hs:ţ:=by intro _;rfl):=0
example ņ1{pl:Sem Bool}:=0
example ņ4(F:m7 K x qual st f fd):=0
example ņ5(ts:ç):=0
example ņ6 _:=x S' (Û4 s) (Cl.cl (ğ) r)
example ņ7(enc:α->T):=0
example ņ9:=by exact#[#[o,e,ex.1],λ a e2=>?_];cases e2;show#[o,e,ex.2.1]
example Ň0:=by simp![zj] at w2 y2;subst w2 y2
example Ň1:=È0=true
example Ň2:=[none,none]
example Ň3{xs:Ü3}:=0
example Ň7:=#[_,Á1,rfl]
example Ň8:=s.heap.FunFrames
example ÄW:=s1.toks
example Ň9:=I1.laid (t':=ÄW) (λ b u e=>ĳ2) İ ?_
example ň0:=(upd (upd H dx (Ŏ1 x)) x (.ins C dx []))
example ň1:=Ñ5 x qual Ę ct
example ň2:=beq_self_eq_true
example ň3:=λ x S1 v H1 h1 q1 e1 p1=>h1 Ĉ9 (Ō) e1 p1
example ň4:=λ i j hij hj=>?_
example ň5:=(ē k)
example ň6:=Sn (yk S' Z) y d
example ň7:=m7 K x x st f fd
example ň8:=t.place.getD i 0
example ň9:=wpAny_isInstance
example ŉ0:=è (ÅF "list" (ÆJ).toArray 0)
example ŉ4:=(tupS (za (tupS (za À3 (za À3 ze))) ze))
example ŉ5(hm:X.mg x=↑u):=0
example ŉ6 _:=x entry_tuple_getitem ?_ (args_tuple_getitem È)
example ŉ8(t:y9):=0
example ŉ9:=by rename_i e;let#[a,ys,rfl,q,r]:=yI.sq ħ5 e
example Ŋ1:=by ext ö6;let#[z,e2,e]:=Ċ
example Ŋ3:=by unfold ğ5;split <;> lia
example Ŋ4{es:Ù6}{t:õ1}:=0
example Ŋ5 _:=x (A:=A.in1.in1.in1) (by simp[hh]) _ l hneI its
example Ŋ7:=Ñ2=↑ ø8\/Ñ2=↑ Đ9
example Ŋ8:=by change 2<=Ê;decide
example Ŋ9:=PySem.W.plainGet_of hg
example ŋ0:=x=Ú6
example ű9:=yC.of yO
example ŋ1:=#[l,xs,rfl,ű9,í4 à9 _ r2]
example ŋ2:=.tuple_list ‹_› Č
example ŋ3:=H b=↑(ŀ (k.map kV))
example ŋ4:=λ kv=>(kV kv.1,kv.2)
example ŋ5:=by simpa only [zo] using q
example ŋ6:=Ĵ=Ç->slot=slotAt t i
example ŋ7:=λ l hl=>hq È à9 (ly hz hl (eF.mpr rfl))
example ŋ8:=∃ c d,x=.bl c/\y=.bl d/\Q (.bl (c == d)) H
example ŋ9:=(ß (Txt.slice z ß7))
example Ō0:=λ gV s σ H Q I hu=>?_
example Ō1:=Ò6/\ë6 a=↑ ï8/\ã6 (h_ w) ya ĉ9/\ē7
example Ō2 _:=x I3 (stat fr3) st3
example Ō3 _:=x (Ó6) λ h' tk k=>#[_,H,I.kept k,?_,q]
example Ō5 _:=x f fd ps (nq K sp)
example Ō7 _:=x pP.fits pP.mo ã2
example Ō8:=by rcases we e with ⟨rfl,hl',e⟩ | ⟨n,e⟩
example Ō9:=by have ex:x'=x:=by have:=f1 _ m1;rw[hx'] at this;show (zD5 this).symm
example ō0:=by rename_i q;cases e;ext ø7;let#[xs,h1,h2]:=p È q
example ō1:=x.cps.all (· < 128)=true
example ō2:=X.A.handled=none
example ō3:=by simp![zj] at h ⊢;let#[a,xs,h1,h2,h3]:=h
example ō4:=by ext ã4;exact hf ö y _ hE ĉ
example ō5:=by unfold SetTable.relaid;rw[hw,Nat.add_sub_cancel]
example ō6:=.list_tuple ‹_› Č
example ō7:=by ext Ë1;ext û9;let#[b,ys,rfl,g3,g4]:=h2
example ō8(hw:sizeAbove wanted=M+1) (hfew:Ó*5<M*3):=0
example ō9 _:=x È n4 (Æz È n2 (e2.extBut È n3 hz1))
example Ŏ0 _:=x x rest H Q
example Ŏ3:=λ i h h' st k=>st.at λ o e=>k it #[] o e
example Ŏ4:=λ v s1 #[x,H1,I1,r1,ty,q1]=>?_
example Ŏ5:=I1.kept (t':=ÄW) λ b o eo=>zeT _ eo
example Ŏ6:=Um I p hz ħ5 h3 u (j:=j) (by simp[hj])
example Ŏ7:=(ő n).map λ(k:Nat)=>T.int (lo+(k:Int))
example Ŏ8:=ē #[_,_,h1,h2,h.1,h.2 Ï1 h3]
example Ŏ9:=(Ď (ñ0<ĕ1)||Ď (strKind x<strKind y))
example ŏ0:=(Ì5 ò2 [.NotEq] [È5 (ĵ2) n cp2] cp3)
example ŏ1:=Ď (y.2=ø8)||Ď (y.2=ě3)||Ď (y.2=Đ9)
example ŏ2:=by let#[m,#[o,es,ep,ho,r],_]:=id I.loc
example ŏ3:=by rw[à hj,à hj]
example ŏ4:=by let#[ù2,ho2,hc2,n2,hd2]:=id hb;ext ï9
example ŏ5:=by rw[zC7,zD0,zD0];ext Ĥ8
example ŏ6 _:=x (t':=Œ) (λ _ _ q=>Åe) İ (Oo ó I.big)
example ŏ7:=by split at ef
example ŏ8:=by replace h3:æ6:=h3
example ŏ9:=Sum.inl
example Ő0:=ß x
example Ő1:=ž a=↑o
example Ő3:=I.cell
example Ő4:=k b o (λ z=>hc ö1) e
example Ő5:=I.mod.glob.keeps I.bk
example Ő6:=.NotIn
example Ő7:=(((hi-lo).toNat:Nat):Int)-((0:Nat):Int)
example Ő9:=λ i j=>ä (i-j)
example ő1:=(vs++dvs)
example ő2:=zfD (eX I Ď4 ?_ hdb)
example ő3:=wpAny_loadPart'
example ő4:=(Ä b)
example ő5:=getItem
example ő6:=ht.typeIs
example ő7:=#[⋯,⋯]
example ő8:=jf xs ß7
example ő9:=.bl (Ô9 ns ms)
example Œ0:=(.dT kvs)
example Œ1:=λ _ e=>nomatch e
example Œ2:=its2.toArray
example Œ3:=(l4 pick σ)
example Œ4:=(x,æ3)∈ Ý3
example Œ5:=(assign (Ĝ y py) Ë)
example Œ6:=Bool->Ë8
example Œ7:=λ gV s σ H Q I q=>h ũ6 (hi Q Ň q)
example Œ8:=λ _ _ _ _ _ hq z=>ą6
example Œ9:=by have e2:(op == CmpOp.NotIn)=Ç:=by cases op <;> first | rfl | show ŗ rfl h2
example œ0(hm:X.mg x=none):=0
example œ1:=by rename_i ts h;ext ã4;ext đ1
example œ2:=by let#[u,h1,h2]:=r.get h;simp![zcH,h,h1]
example œ3:=by simp[hi]
example œ4:=get?_update_seq
example œ5:=listItems_at
example œ6:=#[_,rfl,?_]
example œ7:=ã9 ſ
example œ9:=(kvs.find? Ŷ).map ſ
example Ŕ0:=h1.symm.trans e
example Ŕ1:=let #[q,_,_,hq,_]:=dd';#[q,hq]
example Ŕ3:=ç->Ç1
example Ŕ4:=pO is g b ys J2
example Ŕ5:=(way Ř h k1).j
example Ŕ6:=t.fits È7=true
example Ŕ8:=(jS f g Ù9 tc)
example Ŕ9:=SQ ó k l xs
example ŕ0:=e5.extBut
example ŕ1:=u _ (p1 È rfl)
example ŕ2:=λ b hb=>I1.bO (nw Ãv) (đ8 (nw Ãv))
example ŕ3:=List.zipWith
example ŕ4:=(ť λ e=>ì4 e.1 e.2)
example ŕ6:=(ä (ns.idxOf k:Nat))
example ŕ7:=ú7 x y 0 ñ0 (ñ0+1)
example ŕ8:=List (Str×Tok)
example Ŗ0:=(zc zk Ù8 À3)
example Ŗ2 _:=x x c e
example Ŗ3{Q:VK}:=0
example Ŗ5{ns:Ï}:=0
example Ŗ6:=by rcases hq with hq | hq
example Ŗ7{y:Str}{py spos:Pos}:=0
example Ŗ8(J:Ev):=0
example Ŗ9{Z:ŝ}{y:T}:=0
example ŗ2 _:=x n e1 e2 e3 e4
example ŗ3 _:=x ö y _ F.er
example ŗ4 _:=x ö È hE
example ŗ6(l1 l2:Addr):=0
example ŗ8:=by let#[a,es,ep,h1,h0,h2,h3,h4]:=hk
example ŗ9 _:=x ["thing"] 1
example Ř0:=Ġ0 ĕ n
example Ř4:=t { nx:=λ _ H'=>Q .zJ H',rt:=Q } Į1 H
example Ř5:=PyProof.Rows.slot_tuple_getitem.lookup
example Ř7:=xT X f (λ xs H Q=>r xs H Q\/r' xs H Q)
example Ř8:=own.lookup
example Ř9:=by simp![zc5,hx];show ih h
example ř0:=by rename_i hl;cases e2
example ř1:=λ zs=>if xR zs=true then pZ ks ts zs else none
example ř3:=es.toList.findIdx? (λ e=>(ë).is n e.2)
example ř4:=by rcases hx with hx | hx
example ř5(val:κ->β->Ñ) (its:zAV) (ks:List κ):=0
example ř6:=zB6.mp q
example ř7:=(lO to te)
example ř8:=(iM sp tA)
example ř9:=out.toList
example Ś0:=xK S a b
example Ś2:=hq #[ds,_] S1 s1 h2 λ S'' s=>s È h1
example Ś4:=owner.size
example Ś5:=(mO k1 l1)
example Ś6(ok:å0):=0
example Ś9 _:=x X (ì9 .And Ă6)
example ś0(hi:ć0) (hj:X.N[j]?=↑y) (hij:i≠j):=0
example ś1{fp:â2}:=0
example ś2:=by ext Ĥ;let#[i,j,rfl,rfl,q]:=h;ext ä6
example ś3 _:=x #[] T.isinstance
example ś4(h:yU f t):=0
example ś5:=by have hsz:(Æn).size=Ó:=by rw[zdG,hlen]
example ś7:=by ext Í;exact Ø6 Ħ3 á6 õ
example ś8 _:=x "say" "Desk.say"
example ś9:=by have e1:(op == CmpOp.In)=Ç:=by cases op <;> first | rfl | show ŗ rfl h
example Ŝ0:=H À=none
example Ŝ1:=by simp![zc5,hx] at h
example Ŝ3:=by rcases X.tab.mask with e | e | e <;> lia
example Ŝ4 _:=x X (ì9 .And ê8)
example Ŝ5(C:Addr):=0
example Ŝ6{to te:zA}:=0
example Ŝ7:=∃ t,u=Value.str x t
example Ŝ8:=yA (hm b _ q λ z=>z)
example Ŝ9:=Þ b=↑u->Ŗ b=↑u
example ŝ0:=(hs.2 b (ô6)).trans
example ŝ1:=#[v,H,I,r,h]
example ŝ3:=Value.notImplemented
example ŝ4:=(if v<0 then max (v+ċ3) 0 else min v ċ3)
example ŝ6:=H q=↑(.dS a vs)->H' q=↑(.dS a vs)
example ŝ7:=(∀ r∈rows,r≠[])
example ŝ8:=(.bl (cond neg (!eqT t u) (eqT t u)))
example ŝ9:=Good2
example Ş0:=#[Z',J',F',e']
example Ş2:=rI nL (λ i j=>ä (i*j)) á4\/We K á4
example Ş3:=#[c1,c2,c3,c4]
example Ş4:=(ym (va (xF (instS "str" Ù))) l6 yw)
example Ş5:=["self","row","words","things"]
example Ş6(hi:PI X tg iter wi):=0
example Ş7 _:=x [Ú6] H (λ v _=>v=ė5)
example Ş8:=by ext č4;exact Ø6 ha Ý7 h õ;exact Ø6 hb Â8
example Ş9(hashes:ŧ Int) (hl:hashes.size<=M+1):=0
example ş0:=by let#[a1,us,rfl,g1,g2]:=yI.k d1 p1 s1
example ş1:=∃ t,u=ì4 i t
example ş2:=by rw[q];simp
example ş4:=yB Ö9
example ş7:=(Ĝ "range" p)
example ş9:=(L.set i ↑d)
example Š0:=λ v H2 r x q=>h v H2 r (e.trans x) q
example Š1:=PS.imp
example Š2:=rows.getD i []
example Š3:=List (Key× Ñ)
example Š4:=∃ ds,ob=ú ds
example Š7:=wpAny_runValue
example Š9:=h.IsTuple l xs
example š0:=λ q=>hc.1 (by subst q;exists hl.symm)
example š3:=Fk K m qual st
example š4:=oy N (Â1::es)
example š5:=Vx hz ts (by simpa only [nF] using h) q2
example š7:=(za (zu 6) ze)
example š8:=(zc zk ĭ ï3)
example š9:=by exact zeS (wpAny_handled ?_);rw[show A.in1.handled=none from hh]
example Ţ0:=by have hpl:p≠l:=λ z=>by subst z;rw[yO] at hp;cases hp
example Ţ2:=by rw[q2] at h;simp![Option.join_some] at h;rw[h]
example Ţ3{k:Bool}{it l:Addr}:=0
example Ţ5:=(sb.2 c (λ z=>hc (z▸zc1))).trans e
example Ţ6:=(za (zu 1) Ź)
example Ţ9:=(yd (zc Ì8 á3 (cS (ß "mirror"))))
example ţ0(k:∀ b u,Þ1):=0
example ţ1{N:Ö}:=0
example ţ2(ho:PE X o to):=0
example ţ3{op op':CmpOp}:=0
example ţ4:=by let#[od,J,hl]:=I.look
example ţ5:=by rw[zcN,zcN,zcR,zcR]
example ţ6{ti:oo}{g:vb}:=0
example ţ7:=by let#[#[f,fd,h1,h2,h3,h4],hm]:=F
example ţ8:=by by_cases e:p.1=k
example ţ9(hu:Ü1+1<ð7):=0
example Ť0:=by let#[y,e1,rfl]:=Þ3 e
example Ť1(_:Ht N' pick) (_:è7=esc) (_:X.N=N):=0
example Ť2:=(by rw[e];show ó0)
example Ť3:=by have npq:p≠q:=λ z=>by subst z;rw[g2] at hq;cases hq
example Ť4 _:=x ↑ À2 none
example Ť5:=by rw[h1];exact#[#[ds,h2],hf ö È F.er ĉ]
example Ť6:=k=true
example Ť7:=(Û4 s3).trans
example Ť8:=∀ o,h1.get? a=↑o->h2.get? a=↑o
example Ť9:=I.ok.bs ý3
example ť0:=λ x c e=>?_
example ť1:=Ù0 a ó h'
example ť3:=yC Ñ8 a xs
example ť4:=ě6 [v,ov,iv] (setItem ov iv v)
example ť5:=(Ó5 [tg] Ë).map ſ=[assign tg Ë]
example ť6:=λ v s1 #[y,H1,I1,r1,q1]=>?_
example ť7:=I5.pinned (stat fr5) (T.obj È st5)
example ť8:=sizeLine_eq
example ť9:=Inv ď H s'
example Ŧ0:=(đ6 (lexLt ns ms))
example Ŧ1:=items2.size
example Ŧ3:=ds[i]?=↑d
example Ŧ4:=(Ę7 D.int)
example Ŧ6:=(∃ ds,S1 p=↑ Þ9)
example Ŧ7:=λ _ _ h=>nV.ext e h
example Ŧ8:=I.items[i]?
example ŧ0:=m.map đ=ks
example ŧ1:=valueAt
example ŧ2:=(À4 (Ĕ o "get" apos) [e,f] û7)
example ŧ3:=(k,d)
example ŧ4:=Sn.sx
example ŧ5:=h3.elim
example ŧ6:=(∀ c S',í5->R S S' Z z c->Q c S')
example ŧ7:=Sn (yk S λ a=>Z a/\a≠p) Ãc ó9
example ŧ8:=#[ds,rfl]
example ŧ9:=λ S3 Z3 L3 F3=>#[Z3,J2,F3,e']
example Ũ0:=below.go xs j f ß7
example Ũ1:=(ż).toList
example Ũ2:=by unfold turns;lia
example Ũ4:=λ z=>hb ö1
example Ũ5:=(Ù7).toList.map ſ
example Ũ6:=Builtin.Str
example Ũ7:=λ l hl=>hq È à9 (ly hz hl (eG _))
example Ũ8:=tab.map
example ũ0:=(zm xy å4)
example ũ1:=(tupS (za À3 Č9))
example ũ2:=(yd (zc Ì8 á3 (cS (ß "floor"))))
example ũ4{k:Key}:=0
example ũ7 _:=x X (ì9 .Or Ă6)
example ũ8 _:=x X (ì9 .Or ê8)
example ũ9 _:=x X (å8 .Add)
example Ū1(ps:Ö):=0
example Ū2:=by rw[zA7] at p1;have hpt:(Ć4).1.plain=true:=by rw[p2];show hpl
example Ū3:=by .rw[zdB (by exists q),zd3] at h;split at h <;> cases h
example Ū4:=(.Slice ß7 none p2)
example Ū6 _:=x x ß7 H Q
example Ū7{i:Int}:=0
example Ū8(ns:Ï):=0
example Ū9 _:=x hN hv hd hcd
example ū0(te:zA):=0
example ū1 _:=x ds S Q
example ū2 _:=x S2 È (fun L4 S4 z4 σ4 H4 a1 a2 a3=>?_)
example ū3 _:=x (Ō) p1 h1 λ y S2 w2 H2 h2 q2 e2 p2=>?_
example ū4:=by infer_instance
example ū5(h:yU f te):=0
example ū8 _:=x I1 kk λ b hb=>#[hf' Ãv,(hf Ãv).2]
example ū9:=by exact#[Æb,x2.new hp,?_];ext ķ9
example Ŭ0 _:=x _ S2 È (λ d S' q=>og.ext (ĭ4 a2) q) z
example Ŭ1:=by rename_i hp;obtain rfl:y'=y:=by injection e3
example Ŭ2 _:=x (Qa.or (Qb Į3)) k7.fits k7.mo ha hb hm
example Ŭ3 _:=x (by simp![zA0];lia) #[H,Û9,by rw[QT r];show q]
example Ŭ4:=by have q:=h2.flat r2;cases q;rfl
example Ŭ5:=(∀ i:Nat,Į4=↑none->B[i]?=↑none)
example Ŭ6:=ĳ7 a=↑{ cls:=Á9,data:=Ġ0 ń }
example Ŭ8:=by rcases T.mask with e | e | e <;> lia
example Ŭ9:=î Î (å8 .Mult Ø1 (ä k t)) Í6
example ŭ0:=(ups S l (ú ((nM ns).map D.int)))
example ŭ1:=(À4 (Ĕ o "extend" apos) [e] û7)
example ŭ2 _:=x È2 (nP i)
example ŭ3 _:=x ļ Q I1 q1
example ŭ4 _:=x (C,oC) (zB4 _ (zB4 _ (zB6.mpr rfl)))
example ŭ6:=by dsimp only at h ⊢;ext ď7
example ŭ7:=by ext Í;exact Ø6 h á6 õ
example ŭ8(hi:∀ v σ H Q,t' v Ņ8->t v Ņ8):=0
example ŭ9:=by rename_i h
example Ů0(D:Xe Ò0) (S:At ó Ō6 Ò0 Ą3 n):=0
example Ů1:=by have q':Á2:=by rw[Heap.get?_push_ne Þ6 hbs] at q;show q
example Ů2:=by rw[q] at e;cases e
example Ů3:=ù4 none none ↑k n
example Ů4:=h _ H (by simp![zj,cond]) Ĺ h3
example Ů5:=Ù0 it ó h'->Q x { s with heap:=h' }
example Ů6:=by ext Í;exact wW.go hm Ï2
example Ů7:=Ó<=Ê
example Ů8:=fs.length
example Ů9:=ž a=↑{ cls:=Ą3,data:=Ċ0 ps }
example ů0:=λ _ _=>Ń
example ů2:=assignInOrder_cons
example ů3:=wpAny_standAt
example ů6:=by rw[rangeSize_one];split <;> lia
example ů7:=Nat->Nat->ĥ5
example ů8:=Int->Int->Int
example ů9:=∃ kvs,H p=↑ Þ2/\k=!kvs.isEmpty
example Ű0:=getMethod
example Ű3:=r2.length
example Ű4:=N.length
example Ű5:=cellsFrom
example Ű7:=subscriptTail
example Ű8:=Ø4=0/\ó1=Ó
example ű0:=∃ z,xs=[ß z]/\ï0/\Q (ä Ř6) H
example ű1:=∀ l,ĩ0->Q Ø1 (upd H l (ú ys))
example ű2:=∀ l,ĩ0->Q Ø1 (upd H l (ŀ ys))
example ű3:=Ö6 vs ns
example ű4:=w.params
example ű5:=(Į5 e2 x q1)
example ű6:=z.elim
example ű7:=some Þ9
example ű8:=h H Ĺ p
example Ų1:=h Ï1 h2
example Ų2:=(ups S p Þ9)
example Ų3:=wpAny_pyIter_tuple
example Ų4:=(bs.map V.bl)
example Ų6:=(collect Ā9)
example Ų7:=(ã9 đ)
example Ų8:=(mP ty T)
example Ų9:=by simp[eqT]
example ų0:=rel.val k
example ų1:=(putK kvs p.1 p.2)
example ų2:=(cS .zJ)
example ų3:=Vw.int r1
example ų4:=Vw.str r1
example ų5:=Ĵ1=↑↑(Ŏ1 ts)
example ų6:=(zR R F)
example ų7:=(ã9 mE)
example ų8:=xn.mpr #[q,zc1,zC6 _,zC6 _]
example ų9:=∀ ts,d≠ ā9
example Ŵ0:=ğ5 M i-i
example Ŵ1 _:=x ht (λ z=>hne (r.bo.mp z)) h1 (by rw[<- hl];show hz)
example Ŵ2:=λ v z=>by cases z
example Ŵ3:=[none,↑0,↑2]
example Ŵ4:=(by have:=(ø9 hj).1;rw[zA0];lia)
example Ŵ5:=ğ5 M ú0
example Ŵ6:=L.size
example Ŵ8:=setSearchFrom
example Ŵ9:=maxHeartbeats
example ŵ0:=plainId_quiet
example ŵ1:=(zD1 À7)
example ŵ2:=(((Ð8 ..).extBut.push _).push _)
example ŵ3:=.new hf _
example ŵ4:=(x1.trans x2)
example ŵ5:=hq È h3
example ŵ6:=h.IsList l xs
example ŵ8:=(Yk Ñ1).objs.size
example Ŷ0:=(λ x y=>D.tup Ĳ8)
example Ŷ1:=Â (Ev->Â T)
example Ŷ2:=(À4 (Ĕ o "index" apos) [e] û7)
example Ŷ3:=(ups S p (.zF []))
example Ŷ4:=#[rfl,rfl,rfl]
example Ŷ6:=wM N (.zF ô5::ys)
example Ŷ7:=(upd H l (ŀ ((gI a b).map ŕ5)))
example Ŷ9:=(zm xB (za ò ze))
example ŷ0:=(cI 4)
example ŷ1:=(retS (xM kY (cS (ß "; ")) Ö8))
example ŷ2:=(yd (zc Ì8 Ù (cS (ß "none"))))
example ŷ3:=["borders","joined","border"]
example ŷ4:=(cS (ß "second"))
example ŷ5(a b:Str):=0
example ŷ6{x:V}:=0
example ŷ7{h':Heap}:=0
example ŷ8(hx:Ğ x=↑ ø8) (hy:Ğ y=↑ ø8):=0
example ŷ9(lo:Int):=0
example Ÿ0{C:Addr}:=0
example Ÿ3{names:List (Ġ7)}:=0
example Ÿ4{σ':St}{H':Hp}{s':û}{oC:Obj}:=0
example Ÿ5(ds:ĝ0):=0
example Ÿ7{f:xQ}{r:R2}:=0
example Ÿ8(hf:pM f):=0
example Ÿ9:=by ext Ü4;let#[a,xs,rfl,g1,g2]:=q1
example Ź0{Q:DK}:=0
example Ź1{g:ĥ}{u:y9}:=0
example Ź2(h:i<Ć2):=0
example Ź3(Í2:é1):=0
example Ź4{Q:Â Ñ->ŉ}:=0
example Ź5 _:=x x y d e H S Q ħ5 h3
example Ź6 _:=x y d e H S Q ħ5 h3 h
example Ź8(hg:Gl X x:=by rfl):=0
example ź1:=by have:i=j:=⋯;ext ě0;show ġ0
example ź2:=by ext Æ6;let#[a,xs,rfl,g1,_]:=r;cases h
example ź3:=å7 e none Ô6=ó7
example ź4{x y:Str}:=0
example ź5{Í2:é1}:=0
example ź6(tab:Ģ8):=0
example ź7 _:=x st k hs λ X=>∃ t,xl X (wF st) t/\Ś1
example Çm _:=x b pos
example ź8:=PS X (.If c a Çm) (TV tc t u)
example ź9:=λ _ s6 #[σ6,H6,I6,q6]=>?_
example Ż1:=λ v hv=>(zcB.mp nd).1 (zd8 hv).1
example Ż2:=if x=y then lexLt xs ys else Ď (x<y)
example Ż3:=PySem.F.slot_dict_getitem.lookup
example Ż4:=h' å5 y Í8 λ S2 s2=>hq S2 (ğ)
example Ż5:=(∀ L',FR Ľ2 S Z L' J'->Q L' S)
example Ż6:=pO is g b (ť enc) J=↑(.nx J')
example Ż7:=ē #[_,_,h1,h2,h Ï1 h3]
example Ż8:=#[λ e he=>?_,λ j r hj hrj=>?_]
example Ż9:=Ĩ l'=↑(.ext (ST.wo w l' us'))
example ż0:=fun L' S'=>∃ m',m'<m/\W m' L' S'
example ż1:=(À4 (Ĝ "enumerate" p) [a] Ò2)
example ż2:=(.done (.ret (ä (Ļ1:Nat) Œ)))
example ż3(zM:xS Ĉ H' h') (hg:AllBare g'):=0
example ż4(ha:PA X [a] ta) (hs:ô7:=by rfl):=0
example ż6:=by ext č;exact zfD (gS I Ď4 hv ?_ hn hdb)
example Ž0:=by rcases hb with e | e | e | e | e <;> subst e
example Ž1:=Value.isInt_shape
example Ž2:=Value.bool
example Ž3:=PySem.W.methodObj
example Ž5:=zC1.mpr
example Ž6:=(Ç,Ā6)
example Ž8:=λ v s1 Ė=>#[σ,H1,I1,q1]
example ž0:=(ho ł)
example ž1:=I1.bO İ (đ8 İ)
example ž3:=y.size<=Ê/\k=((y.size:Int) != 0)
example ž6:=intsAre_of
example ž7:=s3.heap.objs.size
example ž8:=H l=↑ ą2
example ſ1:=#[cl,?_,λ x d hx=>?_,ü9]
example ſ2:=decide_eq_true_eq
example ſ3:=Inv X (gV++[(C,oC)]) σ H' s'
example ſ4:=(yX f Ù9)
example ſ5:=λ l hl=>h È ?_ à9 (h2.new hl)
example ſ6:=#[L,S1,Ō,p1,h'.mo ġ9]
example ſ7:=λ v σ H Q hu=>?_
example ſ8:=λ d hd=>?_
example ſ9:=S p=↑ Þ9
example Àb:=by .subst q;unfold lL;ext ų;rw[h1,h3];show key
example Àc:=by cases e;ext Ö1;cases h2.str
example Àd:=by have:its=its':=by exists å6 Array.toList d1
example Àe:=pure none
example Àf{y z:Str}{j1 j2:Nat}{p1 p2:Pos}:=0
example Àg:=by ext Æ6;let#[a,xs,rfl,r1,r2]:=r
example Àh:=∃ sl,Ŗ b=↑{ o with slots:=sl }
example Ài:=H a=↑ Þ2
example Àj:=(.bl (cond neg (!(Ć1)) (Ć1)))
example Àl:=Sn Ç5 y d
example Àm:=ER ö
example Àn:=Vw S Z y d
example Àq:=λ j k us vs q n e1 e2 e3 e4=>?_
example Àr:=λ a z=>z.1
example Àt:=#[t,h1,λ ds S Q h=>Nz h2 h]
example Àu:=λ _=>Ń
example Àv:=owner.getD
example Àw:=∃ (e:Nat),e<=M/\Í2[e]?=↑ è9
example Ày:=#[[õ2,a],[]]
example Àz:=U.own e he
example ÀA:=#[o,f o ho,r]
example ÀB:=(Shared.heap Ò8)
example ÀC:=ē (Pf S Z _ z ds Q hz hv e hq)
example ÀE:=List.idxOf_lt_length_iff.mpr hk
example ÀG:=L[j]?=↑↑(Ő0)
example ÀH:=(vz m Ğ9).isSome
example ÀI:=ã6 (aG K) tab ya
example ÀK:=(retS (cS (ė5)))
example ÀL _:=x c o (I.f6 Ŗ2) hc nch ho (I.ja Ŗ2)
example ÀM(s':û):=0
example ÀO{te:TE}:=0
example ÀP{body:ï5}:=0
example ÀQ{sp:Sp}{dvs:Ą}{ds:zLV}{E:XK}:=0
example ÀS _:=x S (og ŋ Q)
example ÀT _:=x X.K t
example ÀU:=by ext Ü4;exact#[k,q1,p_ à7 à7 h1]
example ÀV{P:PySem.Fin->ŉ}:=0
example ÀW:=by simp![bne_self_eq_false,zC4,æ0]
example ÀZ{F:zLO}:=0
example Áa(h:Ð6):=0
example Áb _:=x a ő4 ë9 true fuel
example Ác{led:Bool}:=0
example Ád(ho:Þ I=↑(iw a slot i n ep)):=0
example Áe _:=x Ō6 h l1 l2
example Ág(he:wF st=s1::s2::s3::s4::rest):=0
example Áh:=λ S Z L J y Q hE e hq=>by cases e;show hq ę
example Ái:=by have hl1:xs1.length=Ó+1:=by rw[ú4];simp
example Áj:=S l=none
example Ák:=by ext Æ6;let#[a,xs,rfl,g1,g2]:=r
example Ál:=by intro xs n h;ext ė2;subst h;exists zv.nil
example Ám(j:Nat):=0
example Án _:=x F Sc (λ ds S Q h=>by rw[h.len,hn])
example Áo:=by rw[hf'];simp![zB2,zcV,zC4,æ0]
example Áp:=(show ty=_ from hx)
example Ár:=by have kk:∀ b o,Ł8:=λ b o e=>k b o (Ŋ6) e
example Ás:=by simp![Sn] at k2;subst k2
example Át _:=x (x:=u) (by exists hu) λ h' st' sb=>?_
example Áv:=I.free
example Áw:=(neC ý3 hx)
example Áx:=î Å (eval (Ĝ x pos) Ë) Í6
example Áy:=(λ _ s'=>∃ σ' H',Ú8/\Q ÿ7)
example Áz:=(ŭ o i pos)
example ÁB:=.BinOp
example ÁC:=concat_meets
example ÁD:=î Î (ő5 (Ä t) (Ä sl)) Í6
example ÁE:=Þ p=↑{ cls:=Á9,data:=Ř0 }
example ÁF:=.pK ds
example ÁG:=SS->DK->Prop
example ÁI:=#[L,S1,Ō,p1,h.mo ġ9]
example ÁJ:=λ x H' q=>?_
example ÁK:=(((ĭ4 x2).trans x3).trans a2)
example ÁM:=Ĝ "tuple" q
example ÁN:=by simp[vq]
example ÁO:=(a,b)::kvs
example ÁP:=#[d,h1,ŧ4 (dr s hp) t h2]
example ÁQ:=((Ù5).i*5+1+(Ù5).perturb/32)
example ÁR:=Classical.em
example ÁS:=∃ k c,v=Ä c/\ó3 (ë) ó k c
example ÁT:=t.led=led/\Ũ3=true/\Ó*5<Ř*3
example ÁU:=setAddHashed
example ÁV:=by rw[<- zD2,hes1,zA7,hl1]
example ÁW:=nJ w h a Ĩ3
example ÁX:=slotAt t ü8
example ÁY:=fits_of (n:=Ó) hlen T #[] ⋯
example ÁZ:=(.bl (cond neg (c != d) (c == d)))
example Âa:=(ė Ë6 ā1).foldl (·++·) ø
example Âc:=ŀ [ö7,x]
example Âd:=Ē9/\Q .zJ (ups S2 p (ú Ń2))
example Âe:=(hq [(x,t)] Œ (í h1).symm)
example Âf:=λ xs H Q=>∃ x rest,Ļ2/\r Ŏ0
example Âg:=(hr.mono hk)
example Âi{v:Ñ}:=0
example Âj:=by rcases q with q | q
example Âk(hu:Ü1<ð7):=0
example Âl{x qual:Str}:=0
example Âm(hi:∀ D σ H,t' D Ň->t D Ň):=0
example Ân:=by ext ų;rw[à zc7]
example Âo(m:M2 X o "get" apos e f cpos):=0
example Âp(R:Rk):=0
example Âq(hc:vd c tc):=0
example Âr(hf:yU f ty):=0
example Âs:=by ext Æ6;let#[a,xs,rfl,_]:=r;rfl
example Ât:=by ext ĉ5;let#[m,t,rfl]:=hall v zc1
example Âu:=by rw[zA3] at hg;let#[e,e1,e2]:=Þ3 hg
example Âw:=(show 0<M+1 by lia)
example Âx:=by rename_i e;cases h;let#[xs,g1,_]:=p È e
example Ây:=by have e:b=it:=ć1
example Âz:=Þ l=↑{ cls:=Á9,data:=Ř0 }
example ÂA:=#[v,hv,by simp[pz];lia]
example ÂC:=by let#[t,rfl]:=r1
example ÂD:=by rcases e2 x d hx with q | ⟨q1,q2⟩
example ÂE:=by exact zeS (zf3 ho hd X.fits ?_);ext ų
example ÂF:=by rw[yA npq];show g2
example ÂG:=by rename_i hc;cases e2
example ÂH:=by have hd:Ŧ8=↑I.items[i]:=by simp[hl]
example ÂI _:=x t b ń ws.toArray Ĕ4 (by exists hv)
example ÂJ:=by rcases ã7 hm with q | q
example ÂK:=X.env.scope.kind
example ÂL:=(zB9.mp hp).elim
example ÂM:=î M A (storeName Ë x u) Í6
example ÂN:=(ö7)
example ÂO:=wpAny_execs_cons
example ÂP:=#[ä ó8,H,Û9,Æ9,q]
example ÂQ:=y=.zJ/\Q (.bl (Ď (x=.zJ))) H
example ÂR:=beq_iff_eq.mpr h
example ÂU:=(r.drop (Ø4)).take (ó1-Ø4)
example ÂW:=Inv Ò [] ÿ7 s'
example ÂX:=Ø5->Ĺ9->Q v H'
example ÂY:=by rw[r2.isEmpty]
example Ãa:=L4.iU ŋ ys rows
example Ãd:=is'.toArray.size
example Ãe:=.bool_tuple _ Č
example Ãf:=h.fr i ts p e ed
example Ãg:=(.nx (xO is J2))
example Ãh:=List.drop_eq_getElem_cons hlt
example Ãi:=∀ q'<q,iV Í2 (way M h q').j
example Ãj:=gh Ú2 h es t xs
example Ãl:=(ť λ e=>ķ e.2)
example Ãm:=è { cls:=À1,data:=Ġ0 ĸ5 }
example Ão:=∀ H,yC ŋ a é3
example Ãq:=(lx x).map D.str
example Ãr:=PySem.intText? a
example Ãs:=KTab K w mg x ya
example Ãt:=(dM ["a","b"])
example Ãu:=by let#[_,o,ho,_]:=I.ok.lC.mem hb
example Ãw _:=x (TP ď Q) ē9
example Ãx:=by let#[mA,O,r,_,_,_]:=dh ż5
example Ãz _:=x hs pl pu
example ÃA(hn:l.most=↑n):=0
example ÃB{tn:Nat->ä9}{J:It}{cl:þ2}:=0
example ÃC(lt:ß2) (p:Č0):=0
example ÃD(ha:yH X ð6 tA):=0
example ÃE(kvs:Ċ1) (k:κ):=0
example ÃF _:=x _ S2 (ğ)
example ÃG(h:T->Â (Â T)):=0
example ÃH(hit:SI ó k it l i) (hl:Ŕ9):=0
example ÃI:=by let#[zs,a4,g4]:=õ0 g4;split at g4
example ÃJ{s1 s2 s3 s4:Stmt}{rest:ï5}:=0
example ÃK:=by have hlt:(Ć4).1.led=led:=by rw[p2];show hled
example ÃL:=by ext ŭ9;cases ef
example ÃM:=by rename_i hb;ext ų
example ÃN:=by unfold ń8;rw[p3.iH,p3.len];simp;lia
example ÃO:=.tuple_bool _ Č
example ÃP:=#[z.1,ht È z.2.1,z.2.2]
example ÃQ:=λ z=>(hch c z).2.2.1 Ŗ2 rfl
example ÃR:=Ã->t Ņ8->î Å (Ā6) Ë3 s
example ÃS:=(zI (ha ũ6 h) λ c s1 e=>?_)
example ÃT:=(Ó5 es Ë).findIdx? đ=none
example ÃU:=å7 e ↑(Ĝ x pos') Ô6=ó7
example ÃW:=(λ v H2=>v=.zJ/\Q (Ä x) H2)
example ÃX:=_::_
example ÃY:=î È (if Â2 then _ else _) È s
example ÃZ:=zeS (m:=ä4) (zf1 Ú9 htake)
example Äa:=#[Ö4,hE.rt,hE.nx,Ö4]
example Äb:=λ y hy=>ý0 (zE4.mp h2 y hy)
example Äc:=m.length
example Äf:=by simpa only [zc4,zo] using h
example Äg:=hq _ ę (ĺ2 (n È) (h Þ6))
example Äh:=Vw.bl r1
example Äj:=(Û4 s3)
example Äk:=[e,it]
example Äl:=List ý2
example Äm:=by let#[u,hu,ru]:=rv.get hx;ext ş
example Än:=by rcases ã7 h with e | e
example Äo:=by let#[â9,ho,hc,n,hd]:=id ht
example Äq:=by rw[zA0,<- hl]
example Äs _:=x ds S1 È (λ d S' z=>z.ext e1) h1
example Ät:=by let#[ds,h1,h2]:=h
example Äw(is:Ė1):=0
example Äx(L:Lay M hs Í2 m) (hm:m<=M):=0
example Äy:=by rw[<- zD2,hes',zA7,ú4,hlen]
example Äz(ya:Õ2):=0
example ÄA:=by rw[Ya] at e;let#[F,e1,rfl]:=Þ3 e
example ÄB:=by cases e2;change Q Ġ8 S1;rw[h2.empty];show Č2
example ÄC:=by have:=zE4.mp h4 y hy;rw[zeV hf] at this
example ÄD:=à (by rw[T.iH];simp[has])
example ÄE:=by rcases q1 with q1 | ⟨a,q1,q3⟩
example ÄF:=by let#[d,d',rfl,h1,h2]:=gk r1
example ÄG:=DecidableEq
example ÄH:=h.push
example ÄI:=PySem.Within mA (fs.map đ)
example ÄJ:=Paired.ZY
example ÄK:=(zE1 _)
example ÄL:=(jM h H).get? b
example ÄN:=ŧ GenState
example ÄQ:=(zI (hc ł) λ d s1 ċ1=>?_)
example ÄT:=.Expr e pos
example ÄU:=(he ł)
example ÄX:=letOwnedTupleGo
example ÄZ:=.bl k
example Åb:=if j>i then j else i
example Åc:=PySem.W.takerIn
example Åd:=zB3 (zE2 _)
example Åi:=items2
example Åj:=zeW ⋯
example Åk:=subscripted
example Ål:=(upd H p (ú (xs.set j v)))
example Ån:=pushCells_keeps
example Åo:=Į4=↑↑j
example Åp:=(ú [])
example Ås:=(upd H p u)
example Åt:=h x' H e2 Ĺ h3
example Åu:=(wW X.K tA)
example Åx:=ß6/\Ó0/\t d L S (nV ŋ Q)
example Åy:=(vt te ù5)
example Åz:=xY X.K H' L σ'
example ÅB:=zcP.mp
example ÅC:=bs.any id
example ÅE:=xJ.bind
example ÅH:=(qs.map ſ)
example ÅJ:=by have:lo=hi:=⋯;ext ě0;show#[h3,h4,h5]
example ÅK:=by rw[e] at e';cases e'
example ÅL:=by simp at e;subst e
example ÅM:=if j<i then j else i
example ÅN:=Ĝ "bool" q
example ÅP:=#[c,rfl,h1]
example ÅQ:=is.toArray.size
example ÅR:=.bool_list _ Č
example ÅS:=wpAny_specialOf
example ÅU:=List (V×V)
example ÅV:=keys.length
example ÅW:=y=ä k
example ÅZ:=ts.drop
example Æa:=by ext Ķ4
example Æd:=Ą1->Bool
example Æe:=λ b o q=>?_
example Æf:=λ i t e=>?_
example Æg:=λ S3 s3=>?_
example Æh:=plainT
example Æi:=(wM N ys)
example Æj:=toList_insertAt
example Æk:=λ k=>hashes.toList.getD k 0
example Æl:=(Ö7 ſ).toArray.toList.map
example Æm:=unsupported
example Æp:=xs1.map
example Æq:=Up Ď2 i xs
example Ær:=by rw[zD6];rfl
example Æs:=Heap->Ĭ7->Prop
example Æt:=Builtin.List.listLengthHint
example Æu:=SQ h k l xs
example Æv:=Ċ0 [Ä l,ä 0 0].toArray
example Æy:=e4.extBut
example ÆC:=(ni ds ß7)
example ÆH:=L2.RelV t u
example ÆI:=#[ä _,H,Û9,Æ9,q]
example ÆK:=PySem.F.slot_str_startswith
example ÆL:=PySem.F.type_str_startswith
example ÆM:=(nW ky to (mv (dC Š8) kB))
example ÆN:=(putK vs Ğ9 t)
example ÆO:=gj st m qual ps
example ÆP:=Ĕ (Ĝ "self" sp) "kept" ap
example ÆR:=λ zs hz=>by rw[hz.inj I g1];show hx
example ÆS:=by have e:j=k:=⋯;subst e;by_cases hi:i=j
example ÆT:=by .cases e2
example ÆU:=.list_bool _ Č
example ÆW:=(Ũ8 λ q=>(q.1,zR R q.2))
example ÆX:=(zc zk Á4 À2)
example ÆY:=(zb 6)
example ÆZ:=(zm xy Ö8)
example Ça:=(zc zk Ù8 À2)
example Çb:=(za Ù8 ze)
example Çc:=(zc ye (zc qK ï3 Ļ9) À2)
example Çd:=(zc yQ (zc x9 Ù8 ï3) ï3)
example Çf{κ:Type}:=0
example Çg(es:Ģ):=0
example Çh:=by rcases I.ok.Zr with e | ⟨e,hf⟩
example Çi{M:Model}:=0
example Çj(Q:ĕ0):=0
example Çk _:=x X e t
example Çl(t:TA):=0
example Çn{tg e:Expr}:=0
example Çp(f:Str):=0
example Çq _:=x (ä a t) (ä c u)
example Çr{pos p2:Pos}:=0
example Çt{ds es:ĝ0}:=0
example Çu(kvs:Æ0):=0
example Çw(t:xx):=0
example Çx _:=x (zZ X.K to) (cC (zZ X.K te) f_)
example Çy(sp:pE):=0
example ÇA(T:Bt X.mg):=0
example ÇB(ÂV:À5 o "append" û3=ĸ):=0
example ÇC(hs:fL i):=0
example ÇD(f g:zEO):=0
example ÇE(F:zLO):=0
example ÇF(h:oQ g tA):=0
example ÇG(k j:Key) (d:T):=0
example ÇH(t:õ1):=0
example ÇI{M:Nat}:=0
example ÇJ(t:Â zA):=0
example ÇK(ÂV:À5 o "extend" û3=ĸ):=0
example ÇL _:=x Ý8 (λ ds S2 h=>hf ô1 hq h) h2
example ÇM:=by ext û8;let#[y',e4,e3]:=õ0 e2
example ÇN _:=x x y k t u v hk h1
example ÇP _:=x hi.pe I (Ø6 Ŧ9 Ò1) hg hs hdb
example ÇQ:=by have:þ0=Ë6*Ó:=#[];rw[this,ze2];show hz
example ÇR:=λ v z=>by rw[d1] at z;cases z
example ÇT{pos p pos':Pos}:=0
example ÇU(hk:KTab X.K X.w X.mg x ya):=0
example ÇV:=by have:l=r:=⋯;ext ě0;show#[h2,ha,hb]
example ÇW:=by rename_i t h;cases e;ext ķ5;ext ě2
example ÇX:=by rw[zA7];show hl
example ÇY:=by rintro⟨v,hv,hg⟩;have:=hl v hv
example ÇZ:=by let#[_,h,_]:=h;rw[h] at e;cases e
example Èa:=(λ b o hb q=>by rw[kQ hb];show q)
example Èb:=by have:=(ø9 e1).1;ext Ŋ0
example Èc:=by let#[_,h,_]:=hn;ext ü3;cases y
example Èd:=(show X.A.in1.handled=none from Ó6)
example Èe:=by ext ų;rw[e];show h
example Èf:=by cases e2;show Č2
example Èg:=by .subst ha;rw[kf] at h;cases h;show hn
example Èh:=by simp![zj] at a;show#[k,a,z H' b c]
example Èi:=by have hpH:Đ5:=by rw[yA hpl] at hp;show hp
example Èj:=ŗ (show b∈([]:â2) from z) #[]
example Èk:=(by rw[hk];show#[_,I',q])
example Èl:=by rw[h3.len,g4.len];show hl
example Èm:=by have:x≠n:=by rintro rfl;show h v zc1
example Èo:=by .subst q;show key
example Èp:=by subst z;rw[r] at mu;show mu
example Èq:=by rw[h2.len,h4.len];show h
example Èr:=by rw[ng (hn p zc1)];show h3
example Ès:=(by rw[I.ok.glob];show Ő5)
example Èt:=by rw[hl1,hmt];show hfull
namespace L2
open Ķ â É
abbrev Key:=Sum Int Str
def da:Key->Ñ->Bool
 | ē k,v=>Value.isInt k v
 | ħ x,v=>Value.isStrOf x v
def EY Ŀ:Key->Int
 | ē k=>hashInt k
 | ħ x=>hashStr w x
theorem jJ:∀ ũ4 Âi,da k v=true->(∃ i t,k=ŏ9 i/\v=ì4 i t)\/(∃ x t,k=Ĳ3 x/\v=Value.str x t)
 | ē i,v,h=>by
  let#[t,e]:=Ž1 (k:=i) (v:=v) h;show ē #[i,t,rfl,e]
 | ħ x,v,h=>by
  let#[t,e]:=Value.isStrOf_shape (x:=x) (v:=v) h;show ħ #[x,t,rfl,e]
def EX ĵ5 ũ5:da (ē i) (ä i t)=true:=by simp[da,Value.isInt]
def bz Ô5 ũ5:da Ğ9 (ß x t)=true:=by simp[da,Value.isStrOf]
def EW (a b:Int):Ď ((ŏ9 a:Key)=ŏ9 b)=(a == b):=by
 by_cases e:a=b
 .subst e;simp
 .have h:¬ (ŏ9 a:Key)=ŏ9 b:=λ q=>e (Sum.inl.inj q);rw[zeW h];show (Ò5 e).symm
def ET ŷ5:Ď ((Ĳ3 a:Key)=Ĳ3 b)=Ď (a=b):=by
 by_cases e:a=b
 .subst e;simp
 .have h:¬ (Ĳ3 a:Key)=Ĳ3 b:=λ q=>e (Sum.inr.inj q);rw[zeW h,zeW e]
def EV (a:Int) (b:Str):Ď ((ŏ9 a:Key)=Ĳ3 b)=Ç:=zeW (λ q=>nomatch q)
def EU (a:Str) (b:Int):Ď ((Ĳ3 a:Key)=ŏ9 b)=Ç:=zeW (λ q=>nomatch q)
def vn Ĉ4 Ŀ:PySem.KeyKind Í3 Key where
 is:=da
 hash:=EY w
 inj:=λ v a b ha hb=>by
  rcases jJ ha with ⟨i,t,rfl,rfl⟩ | ⟨x,t,rfl,rfl⟩
  .ext ğ9
   .injection e with e1 _;rw[e1]
   .show nomatch e
  .ext ğ9
   .show nomatch e
   .injection e with e1 _;rw[e1]
 byValue:=λ k v h=>by
  rcases jJ h with ⟨i,t,rfl,rfl⟩ | ⟨x,t,rfl,rfl⟩ <;> rfl
 pyHash:=λ hv h=>by
  rcases jJ hv with ⟨i,t,rfl,rfl⟩ | ⟨x,t,rfl,rfl⟩
  .show wpAny_pyHash_int h
  .show wpAny_pyHash_str h
 eqBool:=λ hu hv h=>by
  rcases jJ hu with ⟨i,t,rfl,rfl⟩ | ⟨x,t,rfl,rfl⟩
  .ext ė6
   .rw[EW] at h;show wpAny_eqBool_int h
   .rw[EV] at h;show SeqAt.EqAt.int_str i t y u ô1 h
  .ext ė6
   .rw[EU] at h;show SeqAt.EqAt.str_int x t j u ô1 h
   .rw[ET] at h;show wpAny_eqBool_str h
 «strs»:=λ k x t v h=>by
  rcases jJ h with ⟨i,u,rfl,e⟩ | ⟨y,u,rfl,e⟩
  .show nomatch e
  .injection e with e1 _
   subst e1;cases v <;> rfl
def Ee Ĉ4 Ŀ ĵ5 ũ5:(vn Í3).is (ē i) (ä i t)=true:=EX i t
def Ed Ĉ4 Ŀ Ô5 ũ5:(vn Í3).is Ğ9 (ß x t)=true:=bz x t
inductive V where
 | zJ | bl (b:Bool) | int ĵ5 | str Ô5 | ay (b:ŧ UInt8) | Vu (b:UInt64) | ref Í9 | ty (n:ý5)
 deriving ÄG
def RelV:V->Ñ->Prop
 | .zJ,u=>u=ì5
 | đ2,u=>u=Ž2 b
 | ö7,u=>ş1
 | Ő0,u=>Ŝ7
 | .ay b,u=>∃ t,u=Value.bytes b t
 | .Vu b,u=>∃ t,u=Value.float b t
 | Ú6,u=>u=ķ a
 | .ty n,u=>u=ì6 n
abbrev Vals:Ą->Ĭ2->Prop:=ã6 RelV
theorem Vals.length Å5 Ð3(r:Ú7):Ó=Ë2:=ð4 r
theorem Vals.get:∀ Å5 Ð3 È1 ŷ6,Ú7->à1->∃ u,us[i]?=↑u/\Ł3
 | _,_,_,_,Á5,e=>by simp at e
 | _,_,0,_,Ī r _,e=>by ext ÅL;show#[_,rfl,r]
 | _,_,i+1,x,Ī _ t,e=>by
  let#[u,h1,h2]:=Vals.get (i:=i) (x:=x) t (ė9);show#[u,by simpa using h1,h2]
theorem Vals.set ŷ6 Ĉ5(r:Ł3):∀ Å5 Ð3 ċ,Ú7->Vals (xs.set i x) (us.set i u)
 | _,_,_,Á5=>Á5
 | _,_,0,Ī _ t=>Ī r t
 | _,_,i+1,Ī q t=>Ī q (Vals.set r i t)
theorem Vals.append:∀ Ĥ5{us ws:zLV},Ú7->Vals ys ws->Vals (xs++ys) (us++ws)
 | _,_,_,_,Á5,s=>s
 | _,_,_,_,Ī r t,s=>Ī r (Vals.append t s)
theorem Vals.take:∀ Å5 Ð3 Ï7,Ú7->Vals (xs.take n) (us.take n)
 | _,_,0,_=>Á5
 | _,_,_+1,Á5=>Á5
 | _,_,n+1,Ī r t=>Ī r (Vals.take n t)
theorem Vals.drop:∀ Å5 Ð3 Ï7,Ú7->Vals (ĥ3 n) (us.drop n)
 | _,_,0,r=>r
 | _,_,_+1,Á5=>Á5
 | _,_,n+1,Ī _ t=>Vals.drop n t
def Vals.none_of:∀ Å5 Ð3 È1,Ú7->Ň6=none->us[i]?=none:=λ{xs us i} r e=>by
 have h1:=á8;have h2:Ó<=i:=zdV.mp e;show zdV.mpr ⋯
def oP:Â V->Â Ñ->Prop
 | some v,↑u=>ü7
 | none,none=>True
 | _,_=>Ń
def KV Çf:Ċ1->List (κ × Ñ)->Prop:=ã6 λ(p:κ × V) (q:κ × Ñ)=>p.1=q.1/\RelV p.2 q.2
def kV:Key->V
 | ē i=>ö7
 | ħ x=>Ő0
inductive HO where
 /-- a list -/
 | lst Ŗ1
 /-- a tuple (never changes) -/
 | tup Ŗ1
 /-- a dict whose keys are ints and texts;one whose keys are tuples of ints and texts (the empty one is both) -/
 | dK (kvs:Ņ) | dT (kvs:ľ0)
 /-- a dict that the instance at x alone holds -/
 | dS (x:Addr) (kvs:Ņ)
 /-- a set of ints: its members,its size -/
 | set (S:Int->Bool) Ï7
 /-- an instance of the class at C,its dict at dx,its attributes -/
 | ins (C dx:Addr) (fs:Đ0)
 /-- the dict of the instance at x -/
 | own (x:Addr)
 /-- the dict of an exception -/
 | xd (fs:Đ0)
 /-- a bound method,f of x -/
 | met (f x:Addr)
 /-- a range object lo,lo+1,.. below hi -/
 | X_ (lo hi:Int)
 /-- a thing that is known to the object (the script;a dict while a loop walks it): read,never written while it is so -/
 | oH (o:Obj) (u:HO)
 /-- a code object's table -/
 | ya (ps:zAV)
 /-- any other thing,by what is true of its one object (a def of one's own: wo a S n:=HO.ext λ h=>..) -/
 | ext (φ:ä9)
abbrev Hp:=Addr->Â HO
def upd É5 Í9 (o:HO):Hp:=λ b=>if b=a then ↑o else H b
def yO ĺ Ħ{o:HO}:upd H a o a=↑o:=by unfold upd;rw[Ā4]
def yA ĺ{a b:Addr}{o:HO}(h:b≠a):upd H a o b=H b:=by unfold upd;rw[à h]
def T3 ĺ Ħ{o u:HO}:upd Ł4 a u=upd H a u:=by
 funext b;unfold upd;split <;> rfl
def nC ĺ{a b:Addr}{o u:HO}(h:H a=↑o) (h':H b=↑u) (d:o≠u):a≠b:=by
 intro e;subst e;rw[h] at h';show d (zD5 h')
def ko ĺ{a b:Addr}{o:HO}(h:H a=↑o) (h':þ4):a≠b:=by
 intro e;subst e;rw[h] at h';cases h'
def U3 Î0 Í9:Prop:=∃ o,Ő1/\Ł5
def U3.new Î0 {d:zAV}Ë0:U3 (ÄH { cls:=À1,data:=Ġ0 d n }) É8:=Ň7
section
variable {ĝ9}{Ŀ}
def wu É5 Î0 Í9:HO->Prop
 | ú xs=>Ů7/\∃ (its:zLV) (n:Nat),ą0/\ž a=↑{ cls:=Á9,data:=Ř0 }
 | ŀ xs=>(Ů7/\U3 h a)/\∃ its:Ĭ2,ą0/\IsTup h a ĕ
 | .dK kvs=>ľ
 | .dT kvs=>Å9<=Ê/\Ò6/\∃ xs:ĸ0,
   ã6 (λ(p:õ5 ×V) (q:õ5 ×Addr× Ñ)=>Ġ1) kvs xs/\
   ∃ o es ep,Ő1/\o.ExactDict/\Ő2=.dict es ep/\ĉ9=ť (entryOfKey (ĭ2))/\Ġ2
 | .dS _ kvs=>ľ
 | .set S n=>h.SetOf (intKind P w) a S n
 | .ins C dx fs=>H dx=↑(Ŏ1 a)/\Ů8<=1000/\dx≠a/\ž a=↑(ì7 C dx)/\
   ∃ mA,h.Ns1 dx mA/\(Ġ3)/\ÄI
 | Ŏ1 _=>∃ o,Ő1
 | .xd fs=>∃ mA,h.Ns1 a mA/\Ġ3
 | .X_ ß7=>∃ t u v,ž a=↑{ cls:=Ć "range",data:=Ŏ2 }
 | .oH o u=>Ő1/\wu H h a u
 | .ya ps=>Ů9
 | .met f x=>ž a=↑(Ž3 à2 (Ä x))
 | .ext φ=>φ h/\(∃ o,Ő1)/\∀ h1 h2:Heap,φ h1->(Ť8)->φ h2
def xS É5 Î0:Prop:=∀ a o,H a=↑o->wu ġ6 o
end
section
variable {æ}{ò6}{Ĕ9}{Ħ}{o:HO}
theorem wu.lt (x:wu ġ6 o):a<É8:=by
 cases o with
 | lst xs=>let#[_,_,_,_,e]:=x;show Ŋ6
 | tup xs=>let#[_,_,_,p]:=x;show p.lt
 | dK kvs=>ext Þ4;show Ŋ6
 | dT kvs=>ext Þ4;show Ŋ6
 | dS _ kvs=>ext Þ4;show Ŋ6
 | set S n=>let#[o,_,_,_,e,_]:=x;show Ŋ6
 | ins C dx fs=>let#[_,_,_,e,_]:=x;show Ŋ6
 | own y=>let#[_,e]:=x;show Ŋ6
 | xd fs=>let#[_,#[_,_,_,e,_],_]:=x;show Ŋ6
 | X_ lo hi=>let#[_,_,_,e]:=x;show Ŋ6
 | oH ob u=>let#[e,_]:=x;show Ŋ6
 | ya ps=>show zA8 (show ž a=↑_ from x)
 | met f y=>show zA8 (show ž a=↑_ from x)
 | ext φ=>let#[_,#[_,e],_]:=x;show Ŋ6
theorem ÄJ į5{F G:α->β->Prop}:∀ {l₁:Ü3}{l₂:List β},ã6 F l₁ l₂->(∀ a b,F a b->G a b)->ã6 G l₁ l₂
 | _,_,Á5,_=>Á5
 | _,_,Ī r t,f=>Ī (f È r) (ÄJ t f)
def wu.jv (x:wu ġ6 o) (k:∀ b u,(b=a\/H b=↑(Ŏ1 a))->Þ1)
  (ho:∀ b,H b=↑(Ŏ1 a)->H' b=↑(Ŏ1 a)) (ht:Ø8):wu P w H' h' a o:=by
 induction o with
 | lst xs=>let#[z,its,n,r,e]:=x;show#[z,its,n,r,Î3]
 | tup xs=>let#[#[z,y,u,v],its,r,ob,e,c]:=x;show#[#[z,y,k È (Ď7) u,v],its,r,ob,Î3,c]
 | dK kvs=>ext ė1
 | dT kvs=>
  let#[z,y,xs,r,ob,es,ep,e,c]:=x;show#[z,y,xs,ÄJ r λ p q z=>ÃP,ob,es,ep,Î3,c]
 | dS _ kvs=>ext ė1
 | set S n=>let#[ob,es,ep,t,e,c]:=x;show#[ob,es,ep,t,Î3,c]
 | ins C dx fs=>
  let#[d,z,ne,e,mA,#[od,es,ep,e2,c],r]:=x;show#[ho _ d,z,ne,Î3,mA,#[od,es,ep,k È (ħ d) e2,c],r]
 | own y=>let#[ob,e]:=x;show#[ob,Î3]
 | xd fs=>let#[mA,#[od,es,ep,e,c],r]:=x;show#[mA,#[od,es,ep,Î3,c],r]
 | X_ lo hi=>let#[t,u,v,e]:=x;show#[t,u,v,Î3]
 | oH ob u ih=>let#[e,q]:=x;show#[Î3,ih q]
 | ya ps=>
  have e:Ů9:=x;change Ŗ a=↑{ cls:=Ą3,data:=Ċ0 ps };show k a _ (Ď7) e
 | met f y=>
  have e:ž a=↑(Ž3 à2 (Ä y)):=x;change Ŗ a=↑(Ž3 à2 (Ä y));show k a _ (Ď7) e
 | ext φ=>let#[p,#[o,e],st]:=x;show#[st È p λ o q=>k È (Ď7) q,#[o,Î3],st]
theorem xS.lt (x:å0) (e:H a=↑o):a<É8:=(x a o e).lt
def xS.fresh (x:å0) (e:É8<=a):H a=none:=by
 cases q:H a with
 | none=>rfl
 | some u=>show ŗ (zC3 (x.lt q) e) ÄK
def xS.kept (x:å0) ţ0:xS P w H h':=λ a o e=>
 (x a o e).jv (λ b u _ q=>k b u q) (λ _ q=>q) Ö4
def xS.laid (x:å0) ţ0 (hp:É8<=a) (new:wu P w Ł4 h' a o):xS P w Ł4 h':=λ b u e=>by
 have hn:=x.fresh hp;by_cases hb:b=a
 .subst hb;rw[yO] at e;cases e;show new
 .rw[yA hb] at e;show (x b u e).jv (λ c v _ q=>k c v q) (λ c q=>ķ8) λ c xs q=>ķ8
end
def Rd É5 Í9 (u:HO):Prop:=H a=↑u\/∃ o,H a=↑(.oH o u)
def Rd.ok æ ĺ Ï8 Ħ{u:HO}(r:Rd H a u) (x:å0):wu ġ6 u:=by
 rcases r with r | ⟨o,r⟩
 .show x a u r
 .let#[_,q]:=x a _ r;show q
def dZ:Â HO->Prop
 | some (ú _)=>True
 | some (.dK _)=>True
 | some (.dT _)=>True
 | some (.dS È)=>True
 | some (.set È)=>True
 | some (.ins Þ6)=>True
 | some (.ext _)=>True
 | _=>Ń
section
variable {æ}{ĺ}{Ĕ9}{x e:Addr}{o':HO}
def xS.write Ś6 ñ7
  (new:wu P w (upd H x o') h' x o'):xS P w (upd H x o') h':=λ b u q=>by
 have nown:∀ c y,H c=↑(Ŏ1 y)->c≠x:=λ c y r z=>Èp
 have ntup:∀ c xs,H c=↑ Ž4->c≠x:=λ c xs r z=>Èp
 by_cases hb:b=x
 .subst hb;rw[yO] at q;cases q;show new
 .rw[yA hb] at q;by_cases hbe:b=e
  .have q':H b=↑(Ŏ1 x):=by
    rcases he with z | z
    .show ŗ (hbe.trans z) hb
    .rw[hbe];show z
   rw[q] at q';cases q';let#[v,hv]:=heo;show#[v,by rw[hbe];show hv]
  .exact (ok b u q).jv (λ c v hc r=>k c v ?_ r) (λ c r=>by rw[yA (nown c b r)];show r) λ c xs r=>by rw[yA (ntup c xs r)];show r
   rcases hc with rfl | hc
   .show hbe
   .rintro rfl;rcases he with z | z
    .show nown c b hc z
    .rw[hc] at z;cases z;show hb rfl
end
structure Un (fs ex:â2) (H H':Hp) (h h':Heap):Prop where
 keep:∀ b o,è2->þ4->b∉fs->b∉ex->ê5
 slot:∀ b o,è2->þ4->b∈fs->b∉ex->Àh
 free:∀ b o,è2->þ4->b∉ex->H' b=none
 there:∀ b o,è2->b∉ex->∃ o',Ŗ b=↑o'
 kR:Ø8
 jO:î7
 ib:Ę0
section
variable {fs ex:â2}{H H1:Hp}{h h1 h':Heap}{a x e:Addr}{o:HO}
def Un.any (u:Un fs ex H H1 h h1) Ś7{ob:Obj}(q:ž b=↑ob) (n:þ4) (hx:b∉ex):∃ sl,h1.get? b=↑{ ob with slots:=sl }:=by
 by_cases hb:b∈fs
 .show u.slot b ob q n hb hx
 .show#[ob.slots,u.keep b ob q n hb hx]
def Un.kept ţ0:Un fs ex H H h h':=
 #[λ b ob q _ _ _=>k b ob q,λ b ob q _ _ _=>#[ob.slots,k b ob q],λ _ _ _ n _=>n,λ b ob q _=>#[ob,k b ob q],Ö4,λ _ _ _ q=>q,λ _ ps q=>#[ø,ş2]]
def Un.refl:Un fs ex H H h h:=Un.kept Ö4
def Un.laid ţ0 (hp:É8<=a) (hn:H a=none):Un fs ex H Ł4 h h' where
 keep:=λ b u q _ _ _=>k b u q
 slot:=λ b u q _ _ _=>#[u.slots,k b u q]
 free:=λ b u q n _=>by rw[yA (zB3 (zC3 (zA8 q) hp))];show n
 there:=λ b u q _=>#[u,k b u q]
 kR:=λ b xs q=>ķ8
 jO:=λ b u xs q=>ķ8
 ib:=λ b ps q=>#[ø,by rw[yA (ko q hn),q];simp]
def Un.write ñ7:Un fs ex H (upd H x o) h h':=by
 have hx:∀ b,þ4->b≠x:=λ b n z=>by subst z;rw[n] at mu;show mu
 have hb:∀ b,þ4->b≠e:=λ b n z=>by
  subst z;rcases he with r | r
  .show hx b n r
  .rw[n] at r;cases r
 have hm:∀ b u,H b=↑u->¬ dZ ↑u->b≠x:=λ b u q nm z=>by subst z;rw[q] at mu;show nm mu
 exact#[λ b u q n _ _=>k b u (hb b n) q,λ b u q n _ _=>#[u.slots,k b u (hb b n) q],λ b u q n _=>by rw[yA (hx b n)];show n,λ b u q _=>?_,
  λ b xs q=>by rw[Ŝ8];show q,λ b u xs q=>by rw[Ŝ8];show q,λ b ps q=>#[ø,by rw[Ŝ8,q];simp]]
 by_cases hbe:b=e
 .subst hbe;show heo
 .show#[u,k b u hbe q]
end
def Zj Î0 É5:â2:=(ő É8).filter λ a=>(H a).isSome
def jM Î0 É5:Heap:=PySem.W.hideAll h (Zj h H)
def DH Î0 É5:(jM h H).objs.size=É8:=PySem.W.hideAll_size È
def DI Ï8 ĺ ò3(e:è2) (n:þ4):ÄL=↑o:=
 PySem.W.hideAll_get _ e λ hm=>by
  have q:(H b).isSome=true:=(zC8.mp hm).2;rw[n] at q;simp at q
def F0 Ï8 ĺ ò3(e:ÄL=↑o):è2/\þ4:=by
 have e':è2:=PySem.W.of_hideAll (Zj h H) e;exact#[e',?_];cases q:H b with
 | none=>rfl
 | some x=>
  have hm:b∈Zj h H:=zC8.mpr #[Ž5 (zA8 e'),by simp[q]];have z:ÄL=none:=PySem.W.hideAll_none (Zj h H) hm;rw[z] at e;cases e
structure Mod ñ Å8:Prop where
 e_:K.In base
 glob:base.Ns Ţ mg
 blt:∃ mb,base.Ns builtinsNs mb/\∀ x:Str,ş3->mb x=Ā5
 nolimit:base.NoLimit
structure Cx where
 prog:É7
 w:World
 K:zFr
 mg:Str->Â Ñ
 base:Heap
 A:Around
 N:Ö
 s₀:û
 H₀:Hp
 env:Env
 ð5:Ł0
 stack:Ł0
 ex:â2
 fn:Str->Bool
 calm:Bool
 pn:zLA
 xe:zVP
def mS (l:Ł0):â2:=l.filterMap (·.frame)
abbrev zEE Ű ă7 Çg:Prop:=Ū ī Ë=Ž6::Ū es Ë
abbrev zEB Ű (p:Pos) Çg:Prop:=(ğ0 p (Ū es Ë)).any đ=Ç
abbrev Cx.fs Ű:â2:=mS X.outer
def fC (sc:Ž7) Ô5:Prop:=Ñ2=↑ ø8\/Ñ2=↑ Đ9\/Ñ2=↑ ě3
def Loc (sc:Ž7) Ô5:Prop:=Ŋ7
def Look (env:Env) Î0 (m:zSV) Ô5 (u:Ñ):Prop:=
 (Ř1 x=↑ ø8/\m x=↑u)\/((Ř1 x=↑ Đ9\/Ř1 x=↑ ě3)/\∃ c,ě4 x=↑c/\h.IsCell c ↑u)
structure Cx.Ok Ű:Prop where
 mod:Mod X.K X.mg Áu
 kind:ÂK=Ę1
 glob:X.env.globals=Ţ
 blt:X.env.builtins=builtinsNs
 above:Ø9<=Å6
 inj:∀ x y c,ĩ->ĭ3 y=↑c->x=y
 has:∀ x,(X.env.kindOf x=↑ Đ9\/X.env.kindOf x=↑ ě3)->∃ c,ĩ
 av:∀ x c,X.fn x=true->ĩ->Ø9<=c
 hd:ÄM->ō2
 frames:X.A.frames=↑ ą1
 Zr:ą1=X.outer\/(ą1=Ë::X.outer/\X.env.frame=↑ Å6)
 Vz:∀ b∈X.ex,b≠ Å6/\∀ x c,ĩ->c≠b
 bs:∀ b o,ċ0->Ł6/\X.H₀ b=none
 iP:X.base.objs.size<=Ø9
 bj:∀ b o,ċ0->b∉X.ex
 bX:∀ b∈X.ex,b∉X.fs
 lC:X.s₀.heap.FunFrames Áu X.outer
 fg:∀ b∈X.fs,X.H₀ b=none
structure Inv Ű (gV:zLA) (σ:List (Â V)) É5 ę8:Prop where
 ok:X.Ok
 os:s.os=X.s₀.os
 bare:AllBare s.gens
 base:Un X.fs X.ex X.H₀ H X.s₀.heap ó
 loc:∃ m,s.heap.Ns Å6 m/\∀ ċ Ô5 (v:V),ć0->σ[i]?=↑↑v->fC è7 x->∃ u,ü7/\Look Ë ó m x u
 cell:∀ x c,ĩ->∃ v,s.heap.IsCell c v
 free:H Å6=none
 ja:∀ x c,ĩ->H c=none
 pin:∀ p∈X.pn++gV,Ċ6
 zM:xS Ĉ H ó
 len:σ.length=X.N.length
section
variable {þ}{į6}{σ:List (Â V)}{ò6}{ď5}{ŷ7}
def Cx.Ok.FE (ok:X.Ok) ò3(e:ċ0):b∉X.fs:=λ hb=>by
 have:=(ok.lC.mem hb).1;rw[e] at this;cases this
theorem Inv.bs į:∀ b o,ċ0->Á2/\þ4:=λ b o e=>
 #[I.base.keep b o (Ť9).1 (Ť9).2 (I.ok.FE e) (I.ok.bj ý3),Ł7 b o (Ť9).1 (Ť9).2 (I.ok.bj ý3)]
def Inv.bk į:∀ b o,ċ0->Á2:=λ b o e=>(I.bs ý3).1
theorem Inv.mod į:Mod X.K X.mg Áu:=I.ok.mod
def Inv.vo į:X.K.In ó:=I.ok.mod.e_.keeps I.bk
theorem Inv.lt į:Å6<À:=let #[_,hn,_]:=I.loc;hn.lt
def Inv.sz į:Ø9<=À:=zE0 I.ok.above (zE3 I.lt)
def Inv.Qh į Ħ(h:À<=a):a∉X.fs:=λ hb=>by
 ext Ãu;show ŗ (zC3 (zA8 ho) (zE0 I.sz h)) ÄK
def Inv.f6 į:∀ x c,ĩ->c≠ Å6:=λ x c e z=>by
 let#[v,o,ho,hd]:=Ő3 Ŗ2;let#[m,#[o',es,ep,ho',hd',_],_]:=I.loc;rw[z,ho'] at ho;cases ho;rw[hd'] at hd;cases hd
theorem Inv.lC į:Ň8 Áu X.outer:=by
 have all:∀ (l:Ł0),(∀ b∈mS l,b∈X.fs)->X.s₀.heap.FunFrames Áu l->Ň8 Áu l:=by
  intro l
  induction l with
  | nil=>intro _ _;trivial
  | cons env r ih=>
   intro hs hl;let#[hk,#[L,o,hf,hn,ho,hd],hr]:=hl;have hL:L∈X.fs:=hs L (by unfold mS;rw[zcH,hf];show zc1);let#[sl,e]:=I.base.slot L o ho (I.ok.fg L hL) hL λ z=>I.ok.bX L z hL;show#[hk,#[L,_,hf,hn,e,hd],ih (λ b hb=>hs b (by unfold mS;rw[zcH,hf];show zc2 _ hb)) hr]
 show all X.outer (λ _ hb=>hb) I.ok.lC
theorem Inv.stack į:Ň8 Áu ą1:=by
 ext Çh
 .rw[e];show I.lC
 .rw[e];let#[m,hn,_]:=I.loc;exact Ī (by rw[Ā7];decide) hf hn ?_ I.lC;show Heap.get?_none_of_le (zE0 I.ok.iP I.ok.above)
def Inv.XI į:∀ b∈mS ą1,b∈ Å6::X.fs:=λ b hb=>by
 ext Çh
 .rw[e] at hb;show zc2 _ hb
 .rw[e] at hb;unfold mS at hb;rw[zcH,hf] at hb;show hb
def Inv.Sb į:∀ b∈mS ą1,þ4:=λ b hb=>by
 rcases ã7 (I.XI Ãv) with e | hb
 .rw[e];show Áv
 .ext Ãu;show Ł7 b o ho (I.ok.fg Ãv) λ z=>I.ok.bX b z hb
def Inv.step {g':ÄN}ĕ6{d':Drawn}{ch:â2}į
  Á0
  (keep:∀ b o,b≠ Å6->b∉X.fs->b∉ch->Á2->þ4->ê5)
  (slot:∀ b o,b≠ Å6->b∈X.fs->b∉ch->Á2->þ4->Àh) (free:∀ b o,b∉ch->Á2->þ4->H' b=none)
  (there:∀ b o,b∉ch->Á2->∃ o',Ŗ b=↑o')
  (kR:Ø8) (jO:î7) (ib:Ę0)
  (ns:∀ m,s.heap.Ns Å6 m->h'.Ns Å6 m) ż3:
  Ď8:=by
 have neL:∀ b o,Ł6->b≠ Å6:=λ b o e=>ô6;have neC:∀ b o,Ł6->b∉X.ex->b∉ch:=λ b o e hx hb=>by
  rcases (hch Ãv).1 with z | z
  .show hx z
  .show ŗ (zC3 (Ŋ6) z) ÄK
 have cellK:∀ x c,ĩ->∀ v,s.heap.IsCell c v->h'.IsCell c v:=λ x c e v #[o,ho,hd]=>by
  have nch:c∉ch:=ÃQ;by_cases hc:c∈X.fs
  .let#[sl,q]:=slot ÀL;show#[_,q,hd]
  .show#[o,keep ÀL,hd]
 exact#[I.ok,I.os,hg,#[ĥ4,ĥ4,λ b o e n hx=>?_,λ b o e hx=>?_,λ b xs e=>kR b xs (I.base.kR b xs e),λ b o xs e=>jO b o xs (I.base.jO b o xs e),λ b ps e=>?_],?_,ť0,?_,ť0,đ3,zM,I.len]
 .show keep b o (neL ý3) hb Áw Ĳ4 (Ł7 ý3 n hx)
 .ext č9;let#[sl',e2]:=slot b _ (neL ý3) hb Áw e1 (Ł7 ý3 n hx);show#[sl',e2]
 .ext í9;show free b o' Áw e1 (Ł7 ý3 n hx)
 .ext í9;show there b o' Áw e1
 .let#[m1,e1]:=I.base.ib b ps e;let#[m2,e2]:=ib b _ e1;show#[m1++m2,by rw[e2,Array.append_assoc]]
 .let#[m,hn,hl]:=I.loc;exact#[m,ns m hn,λ i x v e1 e2 e3=>?_];let#[u,r,l]:=hl i x v e1 e2 e3;exact#[u,r,?_];rcases l with l | ⟨k,c,e,z⟩
  .show ē l
  .show ħ #[k,c,e,cellK Ŗ2 _ z]
 .let#[v,z]:=Ő3 Ŗ2;show#[v,cellK Ŗ2 v z]
 .let#[m,#[o,_,_,ho,_],_]:=I.loc;show free _ o (λ z=>(hch _ z).2.1 rfl) ho Áv
 .let#[v,o,ho,hd]:=Ő3 Ŗ2;show free c o (ÃQ) ho (I.ja Ŗ2)
 .ext ď4;have nch:p.1∉ch:=λ z=>(hch p.1 z).2.2.2 p hp rfl;show#[keep p.1 p.2 ne nf nch e n,free p.1 p.2 nch e n,ne,nf,d]
theorem Inv.un ĕ6 į (u:Un X.fs [] H H' ó h') (zM:xS Ĉ H' h'):Inv ď H' { s with heap:=h',toks:=t' }:=by
 ext ŏ2;let#[sl,hL]:=u.any ho Áv #[];show I.step ļ0 (ch:=[]) (λ _ z=>nomatch z) (λ b o _ hb _ e n=>u.keep ý3 n hb #[]) (λ b o _ hb _ e n=>u.slot ý3 n hb #[]) (λ b o _ e n=>u.free ý3 n #[]) (λ b o _ e=>u.there ý3 #[]) u.kR u.jO u.ib (λ m' hm=>by
  ext Ĩ7) zM ÄO
def Inv.call {g':ÄN}ĕ6{d':Drawn}{ch:â2}į (u:Un (mS ą1) ch H H' ó h') ż3
  Á0:
  Ď8:=by
 ext ŏ2;let#[sl,hL]:=u.any ho Áv λ z=>(hch _ z).2.1 rfl;show I.step (ch:=ch) hch (λ b o hL hb hc e n=>u.keep ý3 n (λ z=>(ã7 (I.XI b z)).elim hL hb) hc) (λ b o _ _ hc e n=>u.any e n hc) (λ b o hc e n=>u.free ý3 n hc) (λ b o hc e=>u.there ý3 hc) u.kR u.jO u.ib (λ m' hm=>by
  ext Ĩ7) zM hg
def Inv.turned ĕ6{it:Addr}į (k:∀ b o,b≠it->Ł8) (hn:H it=none) (hL:it≠ Å6)
  (h1:it∈X.ex\/Ø9<=it) (h2:∀ x c,ĩ->c≠it) (h3:∀ p∈X.pn++gV,p.1≠it):Ā8:=by
 have nit:∀ b u,H b=↑u->b≠it:=λ b u e z=>by rw[z,hn] at e;cases e
 exact I.step ļ0 (ch:=[it]) (ģ5) (λ b o _ _ hc e _=>Ő4) (λ b o _ _ hc e _=>#[o.slots,Ő4]) (λ _ _ _ _ n=>n)
  (λ b o hc e=>#[o,Ő4]) ç4
 .ext Ây
  subst e;show#[h1,hL,h2,h3]
 .let#[o,es,ep,ho,r]:=hm;show#[o,es,ep,k _ o (Ë9 hL) ho,r]
 .ext Đ7
  .rw[z];show nit b u e
  .show nit c _ z
def Inv.tok į (t:Nat):Inv ď H { s with toks:=t }:=I.un (h':=ó) (t':=t) Un.refl I.zM
theorem Inv.kept ĕ6 į (k:∀ b u,Ŝ9):Ā8:=I.un (Un.kept k) (I.zM.kept k)
theorem Inv.laid Ħ{o:HO}ĕ6 į (k:∀ b u,Ŝ9) (hp:À<=a) (new:wu Ĉ Ł4 h' a o):
  Inv ď Ł4 { s with heap:=h',toks:=t' }:=I.un (Un.laid k hp (ģ6 hp)) (I.zM.laid k hp new)
theorem Inv.write {x e:Addr}{o:HO}ĕ6 į Ś8 (k:∀ b u,b≠e->Ŝ9) (heo:∃ u,Ŗ e=↑u)
  (new:wu Ĉ (upd H x o) h' x o):Inv ď (upd H x o) { s with heap:=h',toks:=t' }:=I.un (Un.write mu he k heo) (I.zM.write mu he k heo new)
def Inv.Wl {pins':zLA}į (h:∀ p∈pins',Ċ6):Inv X pins' Ň s:=
 #[I.ok,I.os,ÄO,I.base,I.loc,Ő3,Áv,I.ja,λ p hp=>ÂL (λ z=>I.pin p (zcK _ z)) (h p),I.zM,I.len]
def Qj ţ1(hN:N.Nodup) ò4 ũ(a:N[i]?=↑x) (b:N[j]?=↑x):i=j:=by
 let#[h1,e1]:=ø9 a;let#[h2,e2]:=ø9 b;show (List.getElem_inj hN).mp (ĭ4 e2.symm)
def K6 Çi Ä5 û0 È1 ũ ī4 Ĉ5 ę9 į Â7 (r:ü7)
  (h:∀ s',Inv X gV (Ł9) H s'->(∃ a,Ù0 a ó ł0/\(a=Å6\/ĭ3 x=↑a))->Q ì8 s') Æ1:ÂM:=by
 let#[m,hn,hl]:=id I.loc;have hcls:(ÂK == .class||(ÂK == .module&&Å6 != X.env.globals))=Ç:=by rw[Ā7];rfl
 have hiσ:i < σ.length:=by rw[I.len];show (ø9 hi).1
 have f6:=I.f6;have tracked:∀ Ħ ŷ7,(∃ o,Þ a=↑o/\H a=none)->ť1->xS Ĉ H h':=λ{a h'} ha hs b ob e=>by
  let#[_,_,hfree]:=ha;exact (I.zM b ob e).jv (λ c w' hc q=>(hs.2 c ?_).trans q) (λ _ q=>q) Ö4;rintro rfl;rcases hc with rfl | hc
  .rw[hfree] at e;cases e
  .rw[hfree] at hc;cases hc
 rcases hx with hk | hk
 .exact wpAny_storeName_local hk hn (λ h' hn' hs=>?_) hcls;let#[oL,_,_,hoL,_]:=id hn;exact h _ #[I.ok,I.os,ÄO,Ù1,#[_,hn',λ j y v' e1 e2 e3=>?_],λ y c e=>?_,Áv,I.ja,đ3,tracked #[oL,hoL,Áv] hs,by exists I.len] #[_,hs,Ď7]
  .show ŝ0 Ĳ4
  .ext č9;show#[sl,ŝ0 e1]
  .ext í9;show#[o',ŝ0 e1]
  .by_cases hj:j=i
   .ext Ĭ8;show#[u,r,ē #[hk,#[]]]
   .ext ă8;exact#[u',r',?_];rcases q with ⟨k,e⟩ | ⟨k,c,e,z⟩
    .exact ē #[k,?_];have:y≠x:=λ e=>hj (Qj hN e1 (e▸hi));simp[this,e]
    .show ħ #[k,c,e,z.sameBut hs (f6 y c e)]
  .let#[w',z]:=Ő3 y c e;show#[w',z.sameBut hs (f6 y c e)]
  .ext ď4;show#[(hs.2 p.1 ne).trans e,n,ne,nf,d]
 .have hfn:X.fn x=true:=by
   rcases hf with z | z
   .show z
   .rw[z] at hk;cases hk
  let#[c,hc]:=I.ok.has x (ē hk);let#[w',z]:=Ő3 x c hc;exact wpAny_storeName_cell Ā7 hk hc z (λ h' hc' hs=>?_);let#[oc,hoc,hocd]:=id z;exact h { s with heap:=h' } #[I.ok,I.os,ÄO,Ù1,#[m,hn.sameBut hs (Ë9 (f6 x c hc)),λ j y v' e1 e2 e3=>?_],λ y c' e=>?_,Áv,I.ja,đ3,tracked #[oc,hoc,I.ja x c hc] hs,by exists I.len] #[c,hs,ħ hc]
  .show â8 Ĳ4
  .ext č9;show#[sl,â8 e1]
  .ext í9;show#[o',â8 e1]
  .by_cases hj:j=i
   .ext Ĭ8;show#[u,r,ħ #[ē hk,c,hc,hc']]
   .ext ă8;exact#[u',r',?_];rcases q with q | ⟨k,c',e,z'⟩
    .show ē q
    .exact ħ #[k,c',e,z'.sameBut hs ?_];rintro rfl;show hj (Qj hN e1 (I.ok.inj Þ6 e hc▸hi))
  .by_cases hcc:c'=c
   .subst hcc;show#[_,hc']
   .let#[w2,z2]:=Ő3 y c' e;show#[w2,z2.sameBut hs hcc]
  .ext ď4;exact#[(hs.2 p.1 ?_).trans e,n,ne,nf,d];intro q;rw[q,hoc] at e;have q':oc=p.2:=zD5 e;show d w' (by rw[<- q'];show hocd)
def cG Çi Ä5 û0 È1 ũ ī4 Ĉ5 ę9 į Â7 (r:ü7)
  (h:∀ s',Inv X gV (Ł9) H s'->Q ì8 s') Æ1:ÂM:=
 K6 I hN hi hx r (λ s' I' _=>h s' I') hf
def Inv.zaa {s':û}{ch:â2}į (ho:s'.os=s.os) (u:Un (mS ą1) ch H H' ó ł0) (zM:xS Ĉ H' ł0) (hg:ÄP)
  Á0:ù0:=by
 let#[h',g',d',t',o']:=s';have e:o'=s.os:=ho;subst e;show I.call (g':=g') (t':=t') (d':=d') u zM hg hch
end
abbrev XK:=Ñ->đ4->Ĭ
abbrev St:=List (Â V)
abbrev VK:=V->Ĭ
abbrev TE:=St->Ě
abbrev TT:=St->Hp->(ĕ0)->Prop
abbrev TA:=St->Hp->(Ą->Ĭ)->Prop
structure Ends where
 nx:ĥ5
 rt:VK
 bk:ĥ5:=ů0
 ct:ĥ5:=ů0
abbrev TS:=Ends->ĥ5
def EP Ű ĝ7 č0 (u:Ñ) ÀM:Prop:=∃ v H',ù0/\ü7/\Q v H'
def TP Ű ĝ7 Çj (b:Bool) ÀM:Prop:=∃ H',ù0/\Q b H'
def AP Ű ĝ7 (Q:Ą->Ĭ) ý4 ÀM:Prop:=∃ vs H',ù0/\ĸ2/\Q vs H'
def SP Ű (gV:zLA) (D:Ends) (f:Flow) ÀM:Prop:=
 match f with
 | .next=>∃ σ' H',Ú8/\D.nx ÿ7
 | .brk=>∃ σ' H',Ú8/\D.bk ÿ7
 | .cont=>∃ σ' H',Ú8/\D.ct ÿ7
 | .ret u=>∃ v σ' H',Ú8/\ü7/\D.rt v H'
def PE Ű ă7 (t:TE):Prop:=
 ∀ Ì č0,ÃR
def PT Ű ă7 (t:TT):Prop:=
 ∀ Ì Çj,Ã->t Ņ8->î Å (isTrue e Ë (Ā6)) Ãw
def PW Ű ă7 (t:TT):Prop:=
 ∀ (whole:Sem Ñ) Ì Çj,Ã->t Ņ8->î Å (isTrue e Ë whole) Ãw
def PW.pt þ Ç6{t:TT}(h:PW Çk):PT Çk:=h _
def PA Ű Çg Çl:Prop:=
 ∀ (pos:Pos) Ì (Q:Ą->Ĭ),Ą9
def PS Ű Ě0 (t:TS):Prop:=
 ∀ Ì (D:Ends),Ã->t D Ň->î Å (exec st Ë) (SP X gV D) ē9
def pR Ű (st:ï5) (t:TS):Prop:=
 ∀ Ì (D:Ends),Ĳ5
def zI Å2{t:Sem α}{Q Q':α->ŉ}Çi Ä5 û0 ď5(h:î M A t Í6) (hQ:∀ a s,Q a s->Q' a s):î M A t Q' E s:=zeY h hQ λ _ _ x=>x
section
variable {þ}
def nP ċ:TE:=fun σ H Q=>∃ v,σ[i]?=↑↑v/\Q v H
def tC (v:V):TE:=λ _ H Q=>Q v H
def Ws È1 ũ ŏ(hN:ć0) (hv:fC è7 x) Ñ7 Â6:PE ŭ2:=by
 ext ö9;have fin:EP ď Q u s:=ŝ1;ext ķ3
 .show Ġ4
 .rcases hk with hk | hk
  .show ě5
  .show đ5
def HC {i j pos}:PE X (È5 ÂN j pos) (tC ÂN):=λ _ _ _ H _ I h=>wpAny_Constant_int #[ö7,H,Û9,Æ9,h]
def HM {b j pos}:PE X (È5 (đ6 b) j pos) (tC (đ2)):=λ _ _ _ H _ I h=>Constant_bool #[đ2,H,I,rfl,h]
def Hx {j pos}:PE X (È5 Ą3 j pos) (tC .zJ):=λ _ _ _ H _ I h=>Constant_none #[.zJ,H,I,rfl,h]
def Wt {x j pos}:PE X (È5 (Ő0) j pos) (tC (Ő0)):=λ _ _ _ H _ I h=>ĭ5 #[Ő0,H,Û9,Æ9,h]
def Gl Ű Ô5:Prop:=X.env.kindOf x=↑.globalImplicit
def eX û0 į6 ď5 é6 ĺ ũ Ĉ5 ŏ Ð9 į É9 ŉ5 (h:Q u s)
  Ñ7:Áx:=
 Calls.Name_function_global Ā7 hg (Calls.loadGlobal_global Ès hm h) hd
def gS û0 į6 ď5 é6 ĺ ũ Ĉ5 ŏ Ð9 į É9 œ0 (hv:Ā5=↑u) (h:Q u s)
  ò5 Ñ7:Áx:=by
 let#[mb,h1,h2]:=I.mod.blt;show Calls.Name_function_global Ā7 hg (Calls.loadGlobal_builtin Ès hm (by rw[I.ok.blt];show h1.keeps I.bk) ((h2 x hn).trans hv) h) hd
def Wu ũ ī4 Ĉ5 ŏ É9 ŉ5 (r:ü7) Ñ7:PE È2 (tC v):=
 λ _ _ _ H _ I h=>eX I Ď4 ŝ1 hd
def HL ũ ī4 Ĉ5 ŏ É9 œ0 (hv:Ā5=↑u) (r:ü7) ò5 Ñ7:PE È2 (tC v):=
 λ _ _ _ H _ I h=>gS I Ď4 hv ŝ1 hn hd
variable {ß8}{ta tb:TE}{ŏ}
def PC Ű (op:CmpOp) (a b:Expr) (t:TE):Prop:=
 ∀ Ì č0,Ã->t Ņ8->
  î Å (eval a Ë) (λ v s₁=>î Å (eval b Ë) (λ u s₂=>î Å (Î4 op v u) Ë3 s₂) X.xe s₁) ē9
def FF (b:Expr) ļ1(h:op≠.In) (h2:op≠ Ő6):ĥ6:=by
 ext ś9
 ext Œ9
 cases b <;> simp[Ì4,e1,e2]
def tB (t:TE):TT:=fun σ H Q=>t Ň λ x H1=>∃ c,x=.bl c/\Q c H1
theorem R7 ļ1{t:TE}(h:PC X op a b t) (h1:ĥ6:=by first | show FF _ () () | rfl):PT û2 (tB t):=by
 intro gV s σ H Q I hw;exact wpAny_isTrue_Compare1 (zI (h Ü _ I hw) λ v s1 h1=>zI h1 λ u s2 h2=>zI h2 λ c s3 Ė=>?_) h1;let#[d,rfl,q]:=q1;cases r1;show zf2 #[H1,I1,q]
variable {tA tB':TT}{rest:Ģ}
def K2 (t u:TT):TT:=fun σ H Q=>t Ň λ c H1=>if c=true then u Ĉ9 Q else Q Ç H1
def Kl (t u:TT):TT:=fun σ H Q=>t Ň λ c H1=>if c=true then Q true H1 else u Ĉ9 Q
def Kn (t:TT):TT:=fun σ H Q=>t Ň λ c H1=>Q (!c) H1
def JS ĵ6:PW X (ì9 .And [a] pos) tA:=by
 ext į7;exact isTrue_and ÃS;cases c with
 | true=>show isTrue_and_nil e
 | Ç=>show e
def JQ ĵ6:PW X (ì9 .Or [a] pos) tA:=by
 ext į7;exact isTrue_or ÃS;cases c with
 | Ç=>show isTrue_or_nil e
 | true=>show e
def JT ĵ6 (hb:PW Ś9 tB'):PW Ŝ4 (K2 tA tB'):=by
 ext į7;exact isTrue_and (zI ť2 λ c s1 ċ1=>?_);cases c with
 | true=>show hb wh ŭ3
 | Ç=>show ċ1
def JR ĵ6 (hb:PW ũ7 tB'):PW ũ8 (Kl tA tB'):=by
 ext į7;exact isTrue_or (zI ť2 λ c s1 ċ1=>?_);cases c with
 | true=>show ċ1
 | Ç=>show hb wh ŭ3
def Ia ĵ6:PT Ĕ0 (Kn tA):=by
 ext č;show isTrue_not (ha Ü (λ c H1=>Q (!c) H1) I h)
def K1 (ta tb:TE):TE:=fun σ H Q=>ta Ň λ x H1=>∃ c,x=.bl c/\if c=true then tb Ĉ9 Q else Q ů1 H1
def Kk (ta tb:TE):TE:=fun σ H Q=>ta Ň λ x H1=>∃ c,x=.bl c/\if c=true then Q (ė5) H1 else tb Ĉ9 Q
def Km (ta:TE):TE:=fun σ H Q=>ta Ň λ x H1=>∃ c,x=.bl c/\Q (.bl (!c)) H1
def Hv {op} {t:TE}(h:PE X a t):PE X (ì9 op [a] pos) t:=λ gV s σ H Q I hw=>BoolOp_one (h ũ6 hw)
def HN ĕ7 (hb:PE Ś9 tb):PE Ŝ4 (K1 Ù9):=by
 ext č;exact BoolOp_and (ć2);ext Ł1;exact zf2 ?_;cases c with
 | true=>show hb ŭ3
 | Ç=>show#[.bl Ç,H1,I1,rfl,q1]
def Hr ĕ7 (hb:PE ũ7 tb):PE ũ8 (Kk Ù9):=by
 ext č;exact BoolOp_or (ć2);ext Ł1;exact zf2 ?_;cases c with
 | Ç=>show hb ŭ3
 | true=>show#[ė5,H1,I1,rfl,q1]
def Hw ĕ7:PE Ĕ0 (Km ta):=by
 ext č;exact UnaryOp_ (ć2);ext Ł1;show not_of (zf2 #[.bl (!c),H1,I1,rfl,q1])
def Ks (t:TT) (ta tb:TE):TE:=fun σ H Q=>t Ň λ c H1=>if c=true then ta Ĉ9 Q else tb Ĉ9 Q
def HE Ņ9(hc:PT X c tA) Ä6:PE X (.IfExp c a Çm) (Ks tA Ù9):=by
 ext č;exact wpAny_IfExp ÄQ;cases d with
 | true=>show ha ŭ3
 | Ç=>show hb ŭ3
end
def yB ñ É5 Í9 Ŗ1:Prop:=
 Rd H a ą2\/
  ė4
def yC ñ É5 Í9 Ŗ1:Prop:=
 Rd H a Ž4\/
  ∃ (o:Obj) (its:zAV) (n:Nat),ë6 a=↑o/\(ÄR/\Ł5)/\à3
def zaN:Ñ->Â V
 | Ą3=>↑.zJ
 | đ6 b=>↑(đ2)
 | ä i _=>↑ ÂN
 | ß x _=>↑(Ő0)
 | .bytes b _=>↑(.ay b)
 | .float b _=>↑(.Vu b)
 | Ú6=>↑ Ā9
 | Ć n=>↑(.ty n)
 | _=>none
def RelV.abs ŷ6 Ĉ5(r:Ł3):zaN u=↑x:=by
 cases x with
 | zJ=>cases r;rfl
 | bl _=>cases r;rfl
 | ref _=>cases r;rfl
 | ty _=>cases r;rfl
 | _=>ext ļ2;rfl
theorem RelV.inj {x y:V}Ĉ5(r:Ł3) (q:RelV y u):x=y:=zD5 (r.abs.symm.trans q.abs)
theorem Vals.inj:∀ Ĥ5 Ð3,Ú7->Vals ys us->xs=ys
 | _,_,_,Á5,Á5=>rfl
 | _,_,_,Ī r t,Ī r' t'=>by rw[r.inj r',Vals.inj t t']
section
variable {þ}{Ð}{Ħ}{Ĥ5}
def ÄS ģ(h:H a=↑ ą2):ş4:=ē (ē h)
def yC.of ģ(h:H a=↑ Ž4):ĸ3:=ē (ē h)
def Inv.list į (h:yB Ñ8 a xs):∃ its:Ĭ2,ą0/\PlainL ó a ĕ/\Ů7:=by
 rcases h with h | ⟨o,its,n,hk,hc,hd,hs,hz,r⟩
 .let#[z,its,n,r,e]:=h.ok I.zM;show#[its,r,#[_,n,e,rfl,rfl,rfl],z]
 .exact#[Ř2,r,#[o,n,I.vo a o hk,hc,hd,by exists hs],?_];have e:=á8;simp![zD2] at e;lia
def Inv.tuple į (h:ť3):∃ its:Ĭ2,ą0/\IsTup ó a ĕ/\Ů7:=by
 ext Ī1
 .let#[z,its,r,p]:=h.ok I.zM;show#[its,r,p,z.1]
 .exact#[Ř2,r,#[o,I.vo a o hk,hc.1,n,by exists hs],?_];have e:=á8;simp![zD2] at e;lia
def Inv.WQ į (h:yB Ñ8 a xs) (h':yB Ñ8 a ys):xs=ys:=by
 let#[its,r,#[o,n,e,_,_,d],_]:=ā0 h;let#[its',r',#[o',n',e',_,_,d'],_]:=ā0 h';ext ÅK;rw[d] at d'
 injection d' with d1 _
 ext Àd
 ext ě0;show r.inj r'
def Inv.X8 į (h:ť3) (h':yC Ñ8 a ys):xs=ys:=by
 let#[its,r,#[o,e,_,n,d],_]:=Ò7 h;let#[its',r',#[o',e',_,n',d'],_]:=Ò7 h';ext ÅK;rw[d] at d'
 injection d' with d1 _
 ext Àd
 ext ě0;show r.inj r'
end
abbrev Cx.kP Ű ÀN:Cx:={ X with xe:=E }
abbrev Cx.wJ Ű:Cx:=X.kP ů0
theorem Cx.Ok.kP þ(ok:X.Ok) ÀN:(X.kP E).Ok:=
 È6
def Cx.Ok.fZ þ û0(ok:(X.kP E).Ok):X.Ok:=
 È6
section
variable {þ}{Ð}{û0}
theorem Inv.kP į ÀN:Inv (X.kP E) gV Ň s:=#[I.ok.kP E,I.os,ÄO,I.base,I.loc,Ő3,Áv,I.ja,I.pin,I.zM,I.len]
theorem Inv.fZ (I:Inv (X.kP E) gV Ň s):Ã:=#[I.ok.fZ,I.os,ÄO,I.base,I.loc,Ő3,Áv,I.ja,I.pin,I.zM,I.len]
theorem SP.fZ {D:Ends}{f:Flow}{s':û}(h:SP (X.kP E) gV D f s'):SP X gV D f s':=by
 cases f with
 | ret u=>let#[v,σ',H',I,r,q]:=h;show#[v,σ',H',I.fZ,r,q]
 | _=>let#[σ',H',I,q]:=h;show#[σ',H',I.fZ,q]
theorem pR.wJ {st:ï5}{t:TS}(h:pR X.wJ st t):pR X st t:=λ gV s σ H D I hw=>
 zeY (h Ü D (I.kP _) hw) (λ _ _ q=>q.fZ) Ĳ6
end
section
variable {þ}{ç0}{rest:ï5}{t u:TS}{Ç6}{ÀO}{ŏ}
def Kp:TS:=λ D σ H=>D.nx Ň
def Kf (t u:TS):TS:=λ D σ H=>t { D with nx:=u D } Ň
def Ig:pR X [] Kp:=λ _ _ σ H _ I h=>zfC #[σ,H,I,h]
def Ih (h1:PS X st t) (h2:pR X rest u):pR X (st::rest) (Kf t u):=by
 ext É6;exact ÂO (zI (h1 Ü { D with nx:=u D } I h) λ f s1 q=>?_);cases f with
 | next=>
  let#[σ',H',I',q]:=q;show h2 gV s1 ÿ7 D I' q
 | ret v=>show q
 | _=>show q
def Ie (h1:PS X st t):pR X [st] t:=by
 ext É6;exact ÂO (zI (h1 Ü D I h) λ f s1 q=>?_);cases f with
 | next=>show zfC q
 | ret v=>show q
 | _=>show q
def Inv.quiet Ð į:interactive Ë=Ç:=by simp[interactive,Ā7]
def TX (te:TE):TS:=λ D σ H=>te Ň λ _ H1=>D.nx Ĉ9
def Iv ĕ8 (hs:ź3:=by rfl):PS X (ÄT) (TX te):=by
 ext É6;show wpAny_Expr_any (zI ÄU Ž8) I.quiet hs
def Kg (te:TE):TS:=λ D σ H=>te Ň D.rt
def Im ĕ8:PS X (.Return ↑e pos) (Kg te):=by
 ext É6;show wpAny_Return_some (zI ÄU λ v s1 Ė=>#[x,σ,H1,I1,r1,q1])
def TV (c:TT) (t u:TS):TS:=λ D σ H=>c Ň λ b H1=>if Ţ4 then t D Ĉ9 else u D Ĉ9
def Iq Ņ9{a b:ï5}{tc:TT}(hc:PT X c tc) (ha:pR X a t) (hb:pR X b u):ź8:=by
 ext É6;exact wpAny_If ÄQ;cases d with
 | true=>show ha ļ D I1 q1
 | Ç=>show hb ļ D I1 q1
end
abbrev TG:=V->St->Hp->(ĥ5)->Prop
abbrev jT:=Ą->St->Hp->(ĥ5)->Prop
def PG Ű (target:Expr) (t:TG):Prop:=
 ∀ Ì (v:V) (u:Ñ) (Q:ĥ5),Ã->ü7->t v Ņ8->
  î Å (assign target Ë u) Áy ē9
def jj Ű (ts:Ģ) (t:jT):Prop:=
 ∀ Ì (vs:Ą) ý4 (Q:ĥ5),Ã->ĸ2->t vs Ņ8->
  î Å (assignInOrder ((Ó5 ts Ë).map ſ) us) Áy ē9
abbrev Uy:=V->V->V->Hp->(Ĭ)->Prop
def Mb Ű (t:Uy):Prop:=
 ∀ Ì (o i v:V) (ov iv u:Ñ) (Q:Ĭ),Ã->RelV o ov->RelV i iv->ü7->t o i v H Q->
  î Å (setItem ov iv u) (λ _ s'=>∃ H',ù0/\Q H') ē9
section
variable {þ}{ŏ}
def dA ċ:TG:=λ v σ H Q=>Q (Ł9) H
def Hc È1 ũ Â7 Æ1:PG È2 (dA i):=by
 intro gV s σ H v u Q I r h;show wpAny_assign_Name (cG I hN hi hx r (λ s' I'=>#[_,H,I',h]) hf)
def Bg:jT:=λ vs σ H Q=>vs=[]/\Q Ň
def Bj (t:TG) (u:jT):jT:=λ vs σ H Q=>∃ v r,vs=v::r/\t v Ň fun σ' H'=>u r ÿ7 Q
def IZ:jj X [] Bg:=by
 intro gV s σ H vs us Q I r h;let#[e,h]:=h;subst e;cases r;show assignInOrder_nil #[σ,H,I,h]
def I_ Ç6 Ô7{t:TG}{u:jT}(h1:PG Çk) (h2:jj X es u)
  (hs:Ĩ5:=by rfl):jj X ī (Bj t u):=by
 intro gV s σ H vs us Q I r h;let#[v,vr,e1,h]:=h;subst e1;cases r with
 | cons r rr=>
  rw[hs];exact ů2 (zI (h1 Ü Þ6 I r h) λ _ s1 #[σ1,H1,I1,q1]=>?_);show h2 gV s1 σ1 H1 È Q I1 rr q1
def Pm ñ Ï7 (t:jT):TG:=λ v σ H Q=>∃ a xs,v=Ú6/\ĸ3/\Ó=n/\t xs Ņ8
def Ha Ô7 Õ7{t:jT}Ë0 ă (h:jj X es t)
  (hn:(Ó5 es Ë).length=n:=by rfl) (hst:ÃT:=by rfl):PG X (ş5 es k pos) (Pm X.K n t):=by
 intro gV s σ H v u Q I r hw;let#[a,xs,e1,hq,hl,hw]:=hw;subst e1;cases r;let#[its,rv,ht,hz]:=ÄV;exact assign_Tuple_tuple (Ó6) ht (by simp[hn,<- hl,ĸ4]) hst λ h' hx=>?_;have I1:Ĳ7:=I.kept (t':=Œ) λ b o e=>hx b o (zB3 (Ŋ6)) e;show h gV _ Ň xs _ Q I1 (by exists rv) hw
def Bf (to ti:TE) (t:Uy):TG:=λ v σ H Q=>to Ň λ o H1=>ti Ĉ9 λ i H2=>t o i v H2 λ H3=>Q σ H3
def Hb {o i:Expr}{to ti:TE}{t:Uy}ţ2 (hi:PE X i ti) (hs:Mb X t)
  (ha:∀ v,assign Áz Ë v=(do
   let ov <- ě6 [v] (ĸ)
   let iv <- ě6 [v,ov] (eval i Ë)
   Ž9 pos
   ť4
   release [v,ov,iv] []):=by intro _;rfl):PG X Áz (Bf to ti t):=by
 intro gV s σ H v u Q I r h;rw[ha];exact zeS (zeZ (zI ž0 λ ov s1 Ė=>?_));exact zeS (zeZ (zI (hi ã5) λ iv s2 í1=>?_));exact zeS (ů3 (zeS (zeZ (zI (hs î0 x y v ov iv u _ I2 Ý7 r q2) λ _ s3 #[H3,I3,q3]=>?_))));show wpAny_release #[σ,H3,I3,q3]
def cD (te:TE) (g:TG):TS:=λ D σ H=>te Ň λ x H1=>g x Ĉ9 D.nx
def R9 Çn ÀO{g:TG}ĕ8 (hg:PG X tg g) (hs:ł1 [tg] e Ô6=ó7:=by rfl) (hw:ł2 [tg] e Ë=Àe:=by rfl)
  (h1:ť5:=by rfl):PS X (ą3 [tg] e pos) (cD te g):=by
 ext É6;exact wpAny_Assign_stores (zI ÄU λ v s1 Ė=>?_) hs hw;rw[h1];show zI (hg ļ x v _ I1 r1 q1) λ _ s2 q=>q
def Il È1 ũ Ç6 ÀO{pos':Pos}Â7 ĕ8 (hs:ÃU:=by rfl) Æ1:
  PS X (ą3 [Ĝ x pos'] e pos) (cD te (dA i)):=by
 ext É6;exact wpAny_Assign_Name (zI ÄU ť6) hs;show cG I1 hN hi hx r1 (λ s2 I2=>#[_,H1,I2,q1]) hf
def Kj ħ3 (ta:TA):TS:=λ D σ H=>ta Ň λ vs H1=>∃ v w,vs=[v,w]/\D.nx ((Ł9).set j ↑w) H1
def Io ò4 ź4 ß8{ta:TA}{px py pt:Pos}{kt k2 pt2} ă ĕ9 ś0
  ŷ8 (ha:PA X ð6 ta)
  (hw:ł2 Ŋ Ë=pure ↑ Ĳ8)
  (hs:ł1 Ŋ Ô6=ó7:=by rfl):
  PS X (ą3 Ŋ pos) (Kj i j ta):=by
 ext É6;rw[exec_Assign_arm];exact zeS (ů3 ?_);rw[hs];ext ĝ8;rw[à ()];exact zeS (Tuple_ (zI (ha _ ł) λ us s1 Ĳ9=>?_));let#[v,w,e1,q1]:=q1;subst e1;obtain⟨u1,u2,rfl,rv,rw'⟩:∃ u1 u2,us=[u1,u2]/\RelV v u1/\RelV w u2:=by
  cases r1 with
  | cons p q=>
   cases q with
   | cons p' q'=>
    cases q';show#[_,_,rfl,p,p']
 exact zf1 ?_ (Ŋ8);have I2:Inv ď H1 { s1 with heap:=s1.heap.push { cls:=À1,data:=Ġ0 ĸ5 } }:=I1.kept (t':=ÄW) Ü0;rw[hw];ext ĝ8;change î Å (do rule "assign.swapped-stores";let ā1 <- unpackItems (Ä ŵ) 2 none;assignInOrder ĸ6 items.reverse;pure Flow.next) Þ6;exact zeS (zf6 (zeS (unpackItems_tuple (ā1:=ĸ5) (Ó6) (IsTup.new s1.heap _) λ h' hx'=>?_)));have I3:=I2.kept (h':=h') (t':=ÄW) λ b o e=>hx' b o (zB3 (Ŋ6)) e;change î È (assignInOrder ĸ6 [u2,u1] >>= λ _=>pure Flow.next) Þ6;exact zeS (ů2 (wpAny_bindName (cG I3 hN hj (ē hy) rw' (λ s2 I4=>?_) (ħ hy))));exact ů2 (wpAny_bindName (cG I4 hN hi (ē hx) rv (λ s3 I5=>assignInOrder_nil À7) (ħ hx)));rw[List.set_comm È (Ë9 hij)] at I5;show#[_,H1,I5,q1]
def L_ (c:TT) (tb:TS):TS:=λ D σ H=>∃ W:Nat->ĥ5,(∃ m,W m Ň)/\∀ m σ H,W m Ň->
 c Ň λ b H1=>if Ţ4 then ∃ N:ĥ5,(∀ σ' H',N ÿ7->∃ m',m'<m/\W m' ÿ7)/\tb { D with nx:=N,ct:=N,bk:=D.nx } Ĉ9 else D.nx Ĉ9
def Ij Ņ9 ÀP{tc:TT}{tb:TS}Ă7 (hc:PT X c tc) (hb:pR X body tb):PS X (.While c body Ò2) (L_ tc tb):=by
 ext É6;let#[W,#[m0,w0],turn]:=h;exact wpAny_While (codeAny_whileLoop (λ n s'=>∃ σ' H',Ú8/\W n ÿ7) ?_ m0 #[σ,H,I,w0]);rintro n s1 ⟨σ1,H1,I1,w1⟩;exact zf8 hp (zI (hc gV s1 σ1 H1 _ I1 (turn n σ1 H1 w1)) λ b s2 #[H2,I2,q2]=>?_);cases b with
 | true=>
  let#[N,hN,q2]:=q2;rw[Ā4];exact zf8 hp (zI (hb gV s2 σ1 H2 _ I2 q2) λ f s3 q3=>?_);cases f with
  | next=>
   ext Ą4
  | cont=>
   ext Ą4
  | brk=>show q3
  | ret v=>show q3
 | Ç=>
  rw[à zc7];show zfC #[σ1,H2,I2,q2]
end
structure It where
 go:Nat->Ĭ
 fV:Nat->Hp->V->Ĭ
 stop:Nat->Ĭ
def lh Ű (gV:zLA) É5 (b:Addr):Prop:=
 þ4/\b≠ Å6/\b∉X.fs/\(b∈X.ex\/Ø9<=b)/\ł3
theorem Inv.bO þ į6 é6 ò6 ď5 Ś7 į (hb:À<=b) (hn:H' b=none):lh X gV H' b:=by
 exact#[hn,zcF (zC3 I.lt hb),I.Qh hb,ħ (zE0 I.sz hb),λ x c e z=>?_,λ p hp z=>?_]
 .let#[v,q]:=Ő3 Ŗ2;show ŗ (zC3 q.lt (by rw[z];show hb)) ÄK
 .show ŗ (zC3 (zA8 (I.pin p hp).1) (by rw[z];show hb)) ÄK
structure Turn ĝ9 Ŀ ñ (tg:Expr) (J:It) (fp:â2) (it:Addr) (tn:Nat->ä9):Prop where
 mem:it∈fp
 obj:∀ i h,tn i h->∀ b∈fp,∃ o,è2/\∀ v,Ő2 ≠ Đ9 v
 keep:∀ i h h',tn i h->(∀ b∈fp,∀ o,è2->ê5)->tn i h'
 item:∀ Ű,X.prog=P->X.w=w->X.K=K->ÄM->∀ ċ Ì ÀN,Ã->(Ñ3)->tn i ó->J.go i H->
  î đ7 X.A (ů4 ċ2) (λ r s1=>∃ u,r=↑u/\
   î đ7 X.A (ÄX tg ċ2 u) (λ _ s2=>∃ x H',Inv ď H' s2/\Ł3/\ů5/\tn ü8 s2.heap/\ø4) E s1) E s
 done:∀ Ű,X.prog=P->X.w=w->X.K=K->ÄM->∀ ċ Ì ÀN,Ã->(Ñ3)->tn i ó->J.stop i H->
  î đ7 X.A (ů4 ċ2) (λ r s1=>r=none/\Inv ď H s1) E s
 self:∀ Ĥ6 ċ ô2,tn i ó->Q ċ2 s->î đ7 A (pyIter ċ2) Í6
abbrev TI:=St->Hp->(It->Ĭ)->Prop
def Mc Ű ĝ7 (tg:Expr) (R:It->Ĭ) (itv:Ñ) (s2:û):Prop:=
 ∃ (it:Addr) (fp:â2) (tn:Nat->ä9) (J:It) (H':Hp),itv=Ä it/\Inv ď H' s2/\ĳ0/\tn 0 s2.heap/\(∀ b∈fp,lh X gV H' b)/\R J H'
def PI Ű (tg iter:Expr) (wi:TI):Prop:=
 ∀ Ì (R:It->Ĭ),Ã->wi Ň R->
  î Å (eval iter Ë) (λ v s1=>î Å (pyIter v) (Mc ď tg R) X.xe s1) ē9
def Yp Çi Ä5 û0 ď5 Ě1{it:Addr}Ĉ5 Ço{n:ý5}{vs:zAV}ę9(ho:Þ it=↑o) (hc:o.cls=Ć n) (hd:Ő2=Ċ0 vs)
  (hn:Ë5=Ç) (hQ:Q ì8 s):î M A (ÄX tg ċ2 u) Í6:=by
 unfold ÄX;cases tg <;> first
  | show zD1 hQ
  | (cases u <;> first
    | show zD1 hQ
    | (exact zeS (wpAny_load ho ?_)
       rw[hc,hd];change î M A (if (Ë5&&vs[0]? == ↑(ş6 _))=true then _ else _) Í6;rw[à (by intro h;rw[hn,Bool.false_and] at h;cases h)];show zD1 hQ))
def Mi ñ Í9:It:=
 #[λ i H=>∃ xs x,ş4/\à1,λ i H x H'=>H'=H/\∀ xs,ş4->à1,λ i H=>∃ xs,ş4/\Ó<=i]
def Mh ñ Í9:It:=
 #[λ i H=>∃ xs x,ĸ3/\à1,λ i H x H'=>H'=H/\∀ xs,ĸ3->à1,λ i H=>∃ xs,ĸ3/\Ó<=i]
def aM ŷ9 Ï7:It:=#[λ i _=>i<n,λ i H x H'=>H'=H/\x=ä (lo+i),λ i _=>n<=i]
def LG æ ģ Ě1(a it:Addr):Turn P w K tg (Mi K a) [it] it (λ i h=>h.IsListIter it a i) where
 mem:=#[]
 obj:=λ i h st b hb=>by
  ext Ây
  ext â6
 keep:=Ŏ3
 item:=by
  ext ê;let#[xs,x,hq,hx]:=hg;let#[its,rv,p,hz]:=ÁA;ext Äm;exact wpAny_pyNext_list_item st p.isList Át;ext è0;show#[u,rfl,Yp (s:={ s with heap:=h' }) e c d () #[x,H,I1,ru,#[rfl,λ ys hy=>by rw[I.WQ hy hq];show hx],st',ĩ5]]
 done:=by
  ext ê;let#[xs,hq,hx]:=hg;let#[its,rv,p,hz]:=ÁA;ext ş;have hl:=ĸ4;show wpAny_pyNext_list_end (Ó6) st p.isList Ø2 Á6
 self:=λ _ _ _ _ _ st h=>wpAny_pyIter_listiter st h
def LC æ ģ Ě1(a it:Addr):Turn P w K tg (Mh K a) [it] it (λ i h=>h.IsTupleIter it a i) where
 mem:=#[]
 obj:=λ i h st b hb=>by
  ext Ây
  ext â6
 keep:=Ŏ3
 item:=by
  ext ê;let#[xs,x,hq,hx]:=hg;let#[its,rv,p,hz]:=ÄV;ext Äm;exact wpAny_pyNext_tuple_item st (show ò9 a ĕ from p) Át;ext è0;show#[u,rfl,Yp (s:={ s with heap:=h' }) e c d () #[x,H,I1,ru,#[rfl,λ ys hy=>by rw[I.X8 hy hq];show hx],st',ĩ5]]
 done:=by
  ext ê;let#[xs,hq,hx]:=hg;let#[its,rv,p,hz]:=ÄV;ext ş;have hl:=ĸ4;show wpAny_pyNext_tuple_end (Ó6) st (show ò9 a ĕ from p) Ø2 Á6
 self:=λ _ _ _ _ _ st h=>wpAny_pyIter_tupleiter st h
def LF æ ģ Ě1(it:Addr) ŷ9 Ï7:Turn P w K tg (aM lo n) [it] it (λ i h=>IsRangeIter h it (lo+(i:Nat)*1) (ċ3-(i:Nat)) 1) where
 mem:=#[]
 obj:=λ i h st b hb=>by
  ext Ây
  subst e;show#[_,st,λ v z=>by
   have z':Data.fields _=Data.cell v:=z;cases z']
 keep:=λ i h h' st k=>k it #[] _ st
 item:=by
  ext ê;ext ş;have W:=Walks.range (prog:=X.prog) (w:=X.w) (Ó6) it lo 1 n;exact W.item i s È hg st λ v h' tk hv st' kk=>?_;let#[t,rfl]:=hv;have I1:Inv ď H { s with heap:=h',toks:=tk }:=I.turned (λ b o hb e=>kk b o (ć1) e) f0 f1 f3 f4 f5;exact#[_,rfl,Yp (s:={ s with heap:=h',toks:=tk }) (n:="range_iterator") st' ħ4 () #[ä (lo+i),H,I1,#[t,?_],Ę2,st',ĩ5]];rw[Int.mul_one]
 done:=by
  ext ê;ext ş;show wpAny_pyNext_range_end (Ó6) st (by have:n<=i:=hg;lia) Á6
 self:=λ _ _ _ _ _ st h=>wpAny_pyIter_rangeiter st h
section
variable {þ}{Ě1}
def Rh Ð{R:It->Ĭ}û0{lo hi:Int}{t u v:Tok}{tk:Nat}į (h1:-(2 ^ 62)<=lo) (h2:lo<2 ^ 62) (h3:-(2 ^ 62)<=hi) (h4:hi<2 ^ 62)
  (q:R (aM lo (hi-lo).toNat) H):î Å (pyIter ä3) (Mc ď tg R) E { s with heap:=Ł,toks:=tk }:=by
 exact wpAny_pyIter_range (IsRange.new ..) (small_one ħ5 h3 h4) ?_;have I1:Inv ď H { s with heap:=Ł,toks:=tk }:=I.kept Ü0;exact#[(Ł).objs.size,[(Ł).objs.size],_,_,H,rfl,
  I1.kept (t':=tk) Ü0,LF _ lo (hi-lo).toNat,?_,ģ5,q]
 .have e1:lo+((0:Nat):Int)*1=lo:=#[];have e2:Ő7=Builtin.Range.rangeSize ß7 1:=ů6
  change IsRangeIter È (lo+((0:Nat):Int)*1) (Ő7) 1;rw[e1,e2];show Á1
 .have e:b=(Ł).objs.size:=ć1
  subst e;show ž1
def Pd (ta:TA):TI:=fun σ H R=>ta Ň λ vs H1=>∃ j:Int,vs=[ä j]/\-(2 ^ 62)<=j/\j<2 ^ 62/\R (aM 0 Ő8) H1
def Pc (ta:TA):TI:=fun σ H R=>ta Ň λ vs H1=>∃ i j:Int,vs=ć3/\(-(2 ^ 62)<=i/\i<2 ^ 62/\ĭ6)/\R (aM i (j-i).toNat) H1
theorem IX {a:Expr}Ĭ3 ż4:PI X tg (À4 ş7 [a] Ò2) (Pd ta):=by
 ext ĉ0;exact Call_ (gS I Ď4 boot_range (à4 É4 hs rfl));let#[j,e,q1,q2,q]:=q1;subst e;cases r1 with
 | cons r rr=>
  cases rr;ext ļ2;show call_range_1 (Rh I1 Á7 q1 q2 (by exists q))
theorem IW ß8 Ĭ3 ī5:
  PI X tg (À4 ş7 ð6 Ò2) (Pc ta):=by
 ext ĉ0;exact Call_ (gS I Ď4 boot_range Ŀ4);let#[i,j,e,#[q1,q2,q3,q4],q]:=q1;subst e;cases r1 with
 | cons r rr=>
  cases rr with
  | cons r' rr=>
   cases rr;ext ļ2;let#[t',rfl]:=r';show call_range_2 (Rh I1 q1 q2 q3 q4 q)
def Ku (wi:TI) (g:TG) (tb:TS):TS:=λ D σ H=>wi Ň λ J H1=>∃ W:ů7,(∃ m,W 0 m Ĉ9)/\∀ i m σ H,W i m Ň->
 (J.stop i H/\D.nx Ň)\/(J.go i H/\∃ N:ĥ5,(∀ σ' H',N ÿ7->∃ m',m'<m/\W ü8 m' ÿ7)/\∀ x H',ů5->g x σ H' fun σ2 H2=>tb { D with nx:=N,ct:=N,bk:=D.nx } σ2 H2)
def cW (fp:â2) Î0:zLA:=fp.filterMap λ b=>(ž b).map λ o=>(b,o)
def ZW ś1 Ï8 ò3(hb:b∈fp) (e:è2):(b,o)∈cW fp h:=zeD.mpr #[b,hb,by rw[e];rfl]
def Fz ś1 Ï8{p:Addr×Obj}(hp:p∈cW fp h):p.1∈fp/\ž p.1=↑p.2:=by
 let#[b,hb,e]:=zeD.mp hp;cases q:ž b with
 | none=>ext Ů2
 | some o=>
  rw[q] at e;have e':(b,o)=p:=zD5 e;subst e';show#[hb,q]
def Inv.pinned Ð ś1 į (hf:Ñ3) (ho:∀ b∈fp,∃ o,Á2/\∀ v,Ő2 ≠ Đ9 v):Inv X (gV++cW fp ó) Ň s:=
 I.Wl λ p hp=>ÂL (λ z=>I.pin p (zB4 _ z)) λ z=>by
  let#[hb,e]:=Fz z;let#[f0,f1,f2,_]:=hf p.1 hb;let#[o,e',d]:=ho p.1 hb;ext ÅK;show#[e,f0,f1,f2,d]
def Inv.cy {gV pl:zLA}é6 ĺ ď5(I:Inv X (gV++pl) Ň s):Ã:=I.Wl λ p hp=>I.pin p (zB4 _ (zcK _ hp))
def Ir {iter:Expr}ÀP{wi:TI}{g:TG}{tb:TS}ŏ Ă7 ă Ş6 (hg:PG X tg g) (hb:pR X body tb)
  ņ0:PS X (.For tg iter body Ò2) (Ku wi g tb):=by
 ext É6;exact wpAny_For ĸ7 hs;let#[it,fp,tn,J,H2,e,I2,T,st2,f2,W,#[m0,w0],turn]:=h2;subst e;have stat:∀ {H':Hp},(ø4)->∀ b∈fp,lh X gV H' b:=λ hn b hb=>#[hn Ãv,(f2 Ãv).2];exact codeAny_forLoop_any (λ n s'=>∃ i σ' H',Ú8/\tn i ł0/\(ø4)/\W i n ÿ7) ?_ m0 #[0,σ,H2,I2,st2,λ b hb=>(f2 Ãv).1,w0];rintro n s3 ⟨i,σ3,H3,I3,st3,fr3,w3⟩;rcases turn i n σ3 H3 w3 with ⟨stop,qn⟩ | ⟨go,N,hN,step⟩
 .exact zf8 hp (zI (T.done X ħ4 rfl hc i gV s3 σ3 H3 X.xe Ō2 stop) λ r s4 #[hr,I4]=>?_);subst hr;show zfC #[σ3,H3,I4,qn]
 .exact zf8 hp (zI (T.item X ħ4 rfl hc i gV s3 σ3 H3 X.xe Ō2 go) λ r s4 #[u,hr,h4]=>?_);subst hr;exact zf8 hp ě7;have I5':=ť7;exact zf8 hp (zI Ŀ5 ź9);exact zf8 hp (zI (hb _ s6 σ6 H6 _ I6 q6) λ f s7 q7=>?_);have again:∀ {σ7:St}{H7:Hp},Inv X (gV++cW fp s5.heap) σ7 H7 s7->N σ7 H7->∃ m,m<n/\∃ i σ' H',Inv X gV ÿ7 s7/\tn i s7.heap/\(ø4)/\W i m ÿ7:=λ{σ7 H7} I7 n7=>by
   let#[m',hm,w7]:=hN σ7 H7 n7;exact#[m',hm,i+1,σ7,H7,I7.cy,T.keep Þ6 st5 λ b hb o e=>(I7.pin ë1).1,ģ5,w7];let#[o,e,d]:=T.obj È st5 Ãv;show (I7.pin ë1).2.1
  cases f with
  | brk=>let#[σ7,H7,I7,q7]:=q7;show#[σ7,H7,I7.cy,q7]
  | ret v=>let#[x7,σ7,H7,I7,r7,q7]:=q7;show#[x7,σ7,H7,I7.cy,r7,q7]
  | _=>let#[σ7,H7,I7,n7]:=q7;show again I7 n7
end
abbrev R2:=V->V->Ě
def yT Ű (f:Ñ->Ñ->Sem Ñ) (r:R2):Prop:=
 ∀ Ì (x y:V) (v u:Ñ) č0,Ã->ĭ7->RelV y u->r á4->
  î Å (f v u) Ë3 s
def Uw Ű (f:Ñ->Sem Ñ) (r:V->Ě):Prop:=
 ∀ Ì (x:V) (v:Ñ) č0,Ã->ĭ7->r x H Q->
  î Å (f v) Ë3 s
def xT Ű (f:Ñ) (r:ÄY):Prop:=
 ∀ Ì Ŗ1 ý4 č0,Ã->Ú7->r xs H Q->
  î Å (call f us) Ë3 s
def zaQ Ű (r:V->Hp->(ĕ0)->Prop):Prop:=
 ∀ Ì (x:V) (v:Ñ) Çj,Ã->ĭ7->r x H Q->
  î Å (truthy v) Ãw
def cA (r:R2) (ta tb:TE):TE:=fun σ H Q=>ta Ň λ x H1=>tb Ĉ9 λ y H2=>r x y H2 Q
def Ka (r:V->Ě) (ta:TE):TE:=fun σ H Q=>ta Ň λ x H1=>r x H1 Q
def rI (C:ā2) (g:Int->Int->V):R2:=λ x y H Q=>∃ i j,x=ö7/\y=ä j/\C i j/\Q ó8 H
def nA (g:Int->Int->V):R2:=λ x y H Q=>∃ i j,x=ö7/\y=ä j/\Q ó8 H
def rU (g:Int->V):V->Ě:=λ x H Q=>∃ i,x=ö7/\Q (g i) H
section
variable {þ}{ß8}{ta tb:TE}{ŏ}
def V_ Ä6 į6 ď5 é6 ĺ{R:V->V->Ĭ}į
  (h:ta Ň λ x H1=>tb Ĉ9 λ y H2=>R x y H2) Ð9 č1
  (hf:∀ v u s2 x y H2,Inv ď H2 s2->ĭ7->RelV y u->R x y H2->î Å (f v u) Q X.xe s2):
  î Å (eval a Ë) (λ v s₁=>î Å (eval b Ë) (λ u s₂=>î Å (f v u) Q X.xe s₂) X.xe s₁) ē9:=by
 exact ć2;exact zI (hb ã5) λ u s2 í1=>?_;show hf v u s2 x y H2 I2 Ý7 q2
def Hu {op:Operator}{r:R2}(ho:yT X (å8 op) r) Ä6:PE X (ÁB a op Çm) (cA r Ù9):=by
 ext č;show wpAny_BinOp Ā0
def Hl {op:UnaryOp}{r:V->Ě}(ho:Uw X (unaryOp op) r) ĕ7:PE X (.UnaryOp op a pos) (Ka r ta):=by
 ext č;show UnaryOp_ (zI ť2 λ v s1 Ė=>ho ļ x v Q I1 r1 q1)
def bf č1{C:ā2}{g:ů8}
  (rule:∀ ħ6 (t u:Tok) ô2,C i j->Ĉ7):
  yT X f (rI C λ i j=>ä ó8):=by
 ext Ĥ;let#[i,j,rfl,rfl,hc,q]:=h;ext ä6;show rule i j t t' s È hc ÂP
def W3 č1{g:ů8}
  (rule:∀ ħ6 (t u:Tok) ô2,Ĉ7):
  yT X f (nA λ i j=>ä ó8):=by
 ext ś2;show rule i j t t' s È ÂP
def ZQ č1{g:Int->Int->Bool}
  (rule:∀ ħ6 (t u:Tok) ô2,Q (đ6 ó8) s->ž2):
  yT X f (nA λ i j=>.bl ó8):=by
 ext ś2;show rule i j t t' s È #[.bl ó8,H,I,rfl,q]
def vE ħ6:Prop:=0<j/\j<1073741824
def gi ħ6:Prop:=0<=j/\j<=1000000/\i.natAbs<2 ^ 64
def nL ħ6:Prop:=(-(2 ^ 64)<i/\i<2 ^ 64)\/(-(2 ^ 64)<j/\j<2 ^ 64)
def nL.ok {i j:Int}(h:nL i j):IntMulOk i j:=by
 rcases h with ⟨h1,h2⟩ | ⟨h1,h2⟩
 .show .of_left (intBits_le_64 ħ5)
 .show .of_right (intBits_le_64 ħ5)
def L9 ã0:(0:Int)<=2 ^ k:=by
 rw[two_pow_cast];show Int.natCast_nonneg _
def GQ:yT ũ9 (nA λ i j=>ä (i+j)):=W3 λ _ _ _ _ _ _ _ q=>add_int q
def G5:yT X (å8 .Sub) (nA Ő9):=W3 λ _ _ _ _ _ _ _ q=>sub_int q
def GB:yT X (å8 .Mult) (rI nL λ i j=>ä (i*j)):=bf λ _ _ _ _ _ _ _ hc q=>mul_int q hc.ok
def GJ:yT X (å8 .FloorDiv) (rI Ŀ6):=bf λ i j _ _ _ _ _ hc q=>by
 have h1:(0:Int)<j:=hc.1;have h2:j<1073741824:=hc.2;show floordiv_int ⋯ (by rw[Int.fdiv_eq_ediv_of_nonneg i ⋯];show q) (ē (PyProof.noPylong_small ⋯))
def GC:yT X (å8 .Mod) (rI ü4):=bf λ i j _ _ _ _ _ hc q=>by
 have h1:(0:Int)<j:=hc;show mod_int' ⋯ (by rw[Int.fmod_eq_emod_of_nonneg i ⋯];show q)
def G7:yT X (å8 .Pow) (rI Ď0):=bf λ _ _ _ _ _ _ _ hc q=>pow_int_small hc.1 hc.2.1 hc.2.2 q
def G6:yT X (å8 .RShift) (rI ß9):=bf λ i j _ _ _ _ _ hc q=>
 rshift_int hc (by rw[Int.fdiv_eq_ediv_of_nonneg i (L9 _)];show q)
def GO:yT X (å8 .BitAnd) (nA î9):=W3 λ _ _ _ _ _ _ _ q=>and_int q
def L6 {f:Ñ->Sem Ñ}{g:Int->Int}
  (rule:∀ ĵ5 ũ5 ô2,Q (ä (g i) Œ) { s with toks:=Œ+1 }->î Å (f (ä i t)) Í6):
  Uw X f (rU λ i=>ä (g i)):=by
 intro gV s σ H x v Q I rx h;let#[i,rfl,q]:=h;ext È3;show rule i t s È #[ä (g i),H,Û9,Æ9,q]
def Lz:Uw X (unaryOp .USub) (rU λ i=>ä (-i)):=L6 λ _ _ _ _ _ q=>neg_int q
end
section
variable {þ}{a b c:Expr}{ta tb tc:TE}{ŏ}
def B5 Ð Ŗ3{k k':Bool}į (q:Q (ÄZ) H) (e:k=k'):EP ď Q (đ6 k') s:=by
 subst e;show#[ÄZ,H,I,rfl,q]
def GF:yT X (Î4 .Lt) (nA λ i j=>ĳ1):=ZQ λ _ _ _ _ _ _ _ q=>lt_int q
def zS:yT X (Î4 .LtE) (nA Ď9):=ZQ λ _ _ _ _ _ _ _ q=>le_int q
def GI:yT X (Î4 .Gt) (nA Ę3):=ZQ λ _ _ _ _ _ _ _ q=>gt_int q
def Qc:yT X (Î4 .GtE) (nA ď0):=ZQ λ _ _ _ _ _ _ _ q=>ge_int q
def GG:yT X (Î4 .Is) (λ x y H Q=>ÂQ):=by
 ext Ĥ;let#[rfl,q]:=h;cases ry;exact is_none_gen (B5 I q ?_);cases x <;> first
  | (cases rx;rfl)
  | (ext È3;rfl)
def yT.or č1{r r':R2}(h:yT X f r) (h':yT X f r'):yT X f (λ x y H Q=>r á4\/r' á4):=by
 intro gV s σ H x y v u Q I rx ry q;ext Âj
 .show h Ī2 q
 .show h' Ī2 q
def l9 (b:Expr) ļ1(h:op≠.In:=by decide) (h2:op≠ Ő6:=by decide):ĥ6:=by
 ext ś9
 ext Œ9
 cases b <;> simp[Ì4,e1,e2]
def HI ļ1{r:R2}ÿ8 Ä6 (hm:ĥ6):PE û2 (cA r Ù9):=by
 ext č;show wpAny_Compare1 Ā0 hm
def TU (t:TE):TT:=fun σ H Q=>t Ň λ x H'=>∃ k,x=ÄZ/\Q k H'
def Ib ļ1{r:R2}ÿ8 Ä6 (hm:ĥ6):PT û2 (TU (cA r Ù9)):=by
 ext č;exact wpAny_isTrue_Compare1 (zI ť2 λ v s1 Ė=>zI (hb ã5) λ u s2 í1=>
  zI ÃV λ c s3 Ż0=>?_) hm
 subst e;cases r3;show zf2 #[H3,I3,q3]
def XF (r r':R2) (ta tb tc:TE):TE:=fun σ H Q=>ta Ň λ x H1=>tb Ĉ9 λ y H2=>r x y H2 λ z H3=>∃ k,z=ÄZ/\
 (if Ť6 then tc σ H3 λ w' H4=>r' y w' H4 Q else Q ů1 H3)
def HJ ţ3 Ã8 Ä6 (hc:PE X c tc)
  Å3:PE î3 (XF r r' Ù9 tc):=by
 ext č;exact Compare_chain (zI ť2 λ v s1 Ė=>chain_link Í4) hm
 subst e;cases r3;exact zf2 ?_;cases k with
 | Ç=>show ite_ff #[.bl Ç,H3,I3,rfl,q3]
 | true=>show ite_tt (chain_last (zI (hc gV s3 σ H3 _ I3 q3) λ w' s4 #[z',H4,I4,r4,q4]=>ho' gV s4 σ H4 y z' u w' Q I4 r2 r4 q4))
def Ic ţ3 Ã8 Ä6 (hc:PE X c tc)
  Å3:PT î3 (TU (XF r r' Ù9 tc)):=by
 ext č;exact isTrue_chain (zI ť2 λ v s1 Ė=>test_link Í4) hm
 subst e;cases r3;exact zf2 ?_;cases k with
 | Ç=>
  let#[k',e',q']:=q3;cases e';show ite_ff #[H3,I3,q']
 | true=>
  exact ite_tt (test_last (zI (hc gV s3 σ H3 _ I3 q3) λ w' s4 #[z',H4,I4,r4,q4]=>zI (ho' gV s4 σ H4 y z' u w' _ I4 r2 r4 q4) λ d' s5 #[z2,H5,I5,r5,k2,e2,q5]=>?_));subst e2;cases r5;show zf2 #[H5,I5,q5]
def Ux ñ (x:V) É5 į8:Prop:=
 match x with
 | .zJ=>k=Ç
 | đ2=>k=b
 | ö7=>k=(i != 0)
 | ß y=>ĕ1<=Ê/\k=((ĕ1:Int) != 0)
 | .ay y=>ž3
 | Â1=>(∃ xs,yB ŋ p xs/\k=! ĸ8)\/(∃ xs,yC ŋ p xs/\k=! ĸ8)\/ů9
 | _=>Ń
def Dp Çf Â4:(!vs.isEmpty)=!kvs.isEmpty:=by
 cases r <;> rfl
def QT Å5 Ŗ4(r:ą0):(! ą4)=! ĸ8:=by
 cases r <;> simp
def gP:(Ê:Nat)<2 ^ 63:=by rw[ť8];decide
theorem LN:zaQ X (λ x H Q=>∃ k,Ux X.K x H k/\Q k H):=by
 intro gV s σ H x v Q I rx h;let#[k,e,q]:=h;have hl:=gP;have hs:ù1:=ť8;cases x with
 | zJ=>
  cases rx;have e':k=Ç:=e;subst e';show truthy_none #[H,I,q]
 | bl b=>
  cases rx;have e':k=b:=e;subst e';show zf2 #[H,I,q]
 | int i=>
  ext È3;have e':k=(i != 0):=e;subst e';show PySem.P.truthy_int #[H,I,q]
 | str y=>
  ext È3;obtain⟨hy,e'⟩:ĕ1<=Ê/\k=((ĕ1:Int) != 0):=e;subst e';show PySem.P.truthy_str ⋯ #[H,Û9,q]
 | ay y=>
  ext È3;obtain⟨hy,e'⟩:ž3:=e;subst e';show PySem.W.truthy_bytes ⋯ #[H,Û9,q]
 | ref p=>
  cases rx;have e':(∃ xs,yB Ñ8 p xs/\k=! ĸ8)\/(∃ xs,yC Ñ8 p xs/\k=! ĸ8)\/ů9:=e;rcases e' with ⟨xs,hx,e'⟩ | ⟨xs,hx,e'⟩ | ⟨kvs,hx,e'⟩
  .subst e';let#[its,r,pl,hz]:=ā0 hx;have hlen:=á8;show wpAny_truthy_list í2 Ŭ3
  .subst e';let#[its,r,pl,hz]:=Ò7 hx;have hlen:=á8;show truthy_tuple pl Ŭ3
  .subst e';obtain⟨hz,hS,vs,r,m⟩:Å9<=Ê/\(p == sysModules)=Ç/\∃ vs,Åa/\s.heap.DictOf (vn Ĉ) p vs:=I.zM p _ hx;have hlen:Å9=Ż:=ð4 r;show wpAny_truthy_dict hS m ⋯ #[H,Û9,by rw[Dp r];show q]
 | _=>show (show Ń from e).elim
def J_ ĕ7 î4:
  PT X a (fun σ H Q=>ta Ň λ x H'=>∃ k,Ux X.K x H' k/\Q k H'):=by
 ext č;show isTrue_plain (zI ť2 λ v s1 Ė=>LN ļ x v Q I1 r1 q1) (he _)
def GP:yT ũ9 (λ x y H Q=>Ď3):=by
 ext Ĥ;let#[i,j,rfl,rfl,hz,q]:=h;ext ä6;show add_str (λ t' tk=>#[ß (i++j),H,Û9,Æ9,q]) hz
def vals1 ŷ6 Ð3(r:Vals [x] us):∃ u,us=[u]/\Ł3:=by
 cases r with
 | cons r1 r2=>cases r2;show#[_,rfl,r1]
def vals2 {x y:V}Ð3(r:Vals Ĳ8 us):∃ u w',us=[u,w']/\Ł3/\RelV y w':=by
 cases r with
 | cons r1 r2=>
  cases r2 with
  | cons r3 r4=>cases r4;show#[_,_,rfl,r1,r3]
def AO ă:xT X (ū "max") (λ xs H Q=>∃ i j,xs=ć3/\Q (ä (Åb)) H):=by
 ext ô3;exact max_two_ints Ō3;by_cases hj:j>i
 .rw[í hj,í hj];show Æ9
 .ext ŏ3;show Æ9
def AN ă:xT X (ū "min") (λ xs H Q=>∃ i j,xs=ć3/\Q (ä (ÅM)) H):=by
 ext ô3;exact min_two_ints Ō3;by_cases hj:j<i
 .rw[í hj,í hj];show Æ9
 .ext ŏ3;show Æ9
end
structure fK Î0 (x dx C:Addr) (mA:zSV):Prop where
 obj:ž x=↑(ì7 C dx)
 ns:h.Ns1 dx mA
 ne:dx≠x
def Ey Ï8{dx:Addr}{mA:zSV}(n:h.Ns1 dx mA):∃ od,ž dx=↑od/\ł4:=by
 let#[o,es,ep,ho,hd,hk,_,hm]:=n;exact#[o,ho,λ name=>?_];have e:=hm name;unfold nsFind findBy at e;rw[<- Array.find?_toList] at e;unfold PySem.W.lookIn;rw[hd];ext ų;split
 .rename_i y q;rw[q] at e;show å6 some e
 .rename_i q;rw[q] at e;have a:es.toList.any (·.refKey)=Ç:=by
   rw[List.any_eq_false];intro y hy;let#[z,t,hkey]:=hk y (Array.mem_toList_iff.mp hy);simp[DictEntry.refKey,hkey]
  have a':¬ es.toList.any (·.refKey)=true:=by rw[a];show zc7
  rw[à a'];show å6 some e
def fK.look Ï8{x dx C:Addr}{mA:zSV}(I:fK h x dx C mA):∃ od,PySem.W.InstAt h x (ì7 C dx) C ↑od/\ł4:=
 let #[od,ho,hl]:=Ey I.ns
 #[od,#[I.obj,rfl,rfl,ho],hl]
section
variable {Æ}{ģ}{x dx C f:Addr}{mA:zSV}{name:Str}{Âi}
def get_map {expr:Bool}Ð9 Ĕ1 (hg:ě8 K C name=true) (hh:Ċ7)
  (ha:Ø3 K ċ4 name=↑none) (hv:mA name=↑v) (hv':PySem.W.handedIn v=true) (h:Q v { s with toks:=Œ+1 }):
  î Î (getAttr (Ä x) name expr) Í6:=by
 ext ţ4;show PySem.W.get_value X J (Ŋ9).1 (PySem.W.findObj_own hh ha rfl (by rw[hl,hv])) hv' h
def CN ņ1{Q:Ñ × Ĭ2->ŉ}Ĕ1 (hg:ě8 K C name=true)
  (hf:Ø3 K ċ4 name=↑↑ à2) (ht:ö2) (hv:mA name=none) (h:Q (Ä f,[Ä x]) s):
  î Î (Ű0 (Ä x) name pl) Í6:=by
 ext ţ4;show PySem.W.method_fn X J (Ŋ9).1 (Ŋ9).2 hf (beq_iff_eq.mp ht) (by change (PySem.W.lookIn name od).map (·.isSome)=↑ Ç;rw[hl,hv];rfl) h
def Jg {ns:Ö}ę9 Ĕ1
  (hs:Ã1) (hp:ı2) (ht:Åc K C name=↑none) (hh:Ċ7)
  (hw:PySem.Within mA ns) (hsz:à5<=Ê)
  (h:∀ h',fK h' x dx C (λ y=>if y=name then ↑v else mA y)->Ù0 dx ó h'->Q ì8 { s with heap:=h',toks:=Œ+2 }):
  î Î (setAttr (Ä x) name v) Í6:=by
 ext ţ4;exact PySem.W.set_plain X J hs (PySem.W.osa_open (s:={ s with toks:=Œ+1 }) (r:=none) X J hp ht λ b=>?_);let#[cd,hc,hd']:=PySem.W.any_some hh;have hx:Þ x=↑#[Ä C,↑dx,.plain,ø]:=I.obj;exact zeS (zD1 (zeS (zeS (wpAny_loadPart hx (zeS (PySem.W.Looks.here (s:={ s with toks:=Œ+1 }) (PySem.W.looks_clsIn X hc) ?_))))));rw[hd'];exact zD1 (a:=↑dx) (zeS (zD1 (ő0)));exact wpAny_nsSet1 (s:={ s with toks:=Œ+1 }) I.ns λ h' hn2 hs2=>?_;let#[oD,esD,epD,hoD,hdD,hcD]:=hn2.count (PySem.Within.cons name v hw);exact zeS (wpAny_lookBehind hoD (by rw[hdD];show pastItsLine_dict (zE0 hcD (by rw[zC0];lia))) ?_);show zD1 (h _ #[(hs2.2 _ (Ë9 I.ne)).trans I.obj,hn2,I.ne] hs2)
def Em {R:Result->ŉ}ñ1{kw:Õ2}(X:K.In ó) (hm:ĸ9)
  (hi:Ę4) (hf:PySem.W.typeIn K à2=↑(Ć "function"))
  (h:ł5 (model Í3) (A.under (ū "type.__call__" #[Ä C::vs,kw])) (.call à2 #[Ä ď1::vs,kw]) (PySem.W.InitBack ď1 R)
   { s with heap:=Ĺ0 }):
  ł5 Î (.call ċ4 #[vs,kw]) R s:=by
 let#[hh,g,d,t,os]:=s;show PySem.W.make_core (PySem.W.makes_of X hm) (PySem.W.looks_findIn X hi) (λ self=>PySem.W.bind_fn X self hf) (Ď7) h
end
def nB Çp (v:V):Đ0->Đ0
 | []=>[(f,v)]
 | (g,x)::r=>if g=f then (g,v)::r else (g,x)::nB f v r
theorem Qz (f g:Str) (v:V):∀ fs:Đ0,(nB f v fs).lookup g=if g=f then ↑v else Ű1 g
 | []=>by
  change đ9 g [(f,v)]=_;by_cases h:g=f
  .have hb:(g == f)=true:=ÂR;simp![đ9,hb,í h]
  .have hb:(g == f)=Ç:=Ò5 h;simp![đ9,hb,à h]
 | (k,x)::r=>by
  have ih:=Qz f g v r;ext Ï5
  .rw[í hk];by_cases h:g=k
   .have hb:(g == k)=true:=ÂR;simp![đ9,hb,í (h.trans hk)]
   .have hb:(g == k)=Ç:=Ò5 h;simp![đ9,hb,à (λ e:g=f=>h (e.trans hk.symm))]
  .rw[à hk];by_cases h:g=k
   .have hb:(g == k)=true:=ÂR;simp![đ9,hb,à (λ e:g=f=>hk (h.symm.trans e))]
   .have hb:(g == k)=Ç:=Ò5 h;simp![đ9,hb];show ih
theorem WX Çp (v:V):∀ fs:Đ0,f∈(nB f v fs).map đ/\∀ g,g∈fs.map đ->g∈(nB f v fs).map đ
 | []=>#[by simp[nB],λ g h=>ā3]
 | (k,x)::r=>by
  let#[i1,i2]:=WX f v r;ext Ï5
  .rw[í hk];subst hk;show#[#[],λ g h=>ĝ4]
  .rw[à hk];exact#[?_,λ g h=>?_]
   .rw[zA6];show zc2 _ i1
   .rw[zA6] at h ⊢;ext Än
    .show zA5.mpr (ē e)
    .show zc2 _ (i2 g e)
theorem Q4 Çp (v:V):∀ fs:Đ0,(nB f v fs).length<=Ů8+1
 | []=>by simp[nB]
 | (k,x)::r=>by
  have ih:=Q4 f v r;ext Ï5
  .rw[í hk,zC0,zC0];lia
  .rw[à hk,zC0,zC0];lia
def oP.some_of ī4{o:Â Ñ}(r:oP ↑v o):∃ u,o=↑u/\ü7:=by
 cases o with
 | none=>show Ĭ6
 | some u=>show#[u,rfl,r]
def oP.none_of {o:Â Ñ}(r:oP none o):o=none:=by
 cases o with
 | none=>rfl
 | some u=>show Ĭ6
def DM ī4 Ĉ5(r:ü7):PySem.W.handedIn u=true:=by
 cases v with
 | zJ=>cases (show u=ì5 from r);rfl
 | bl b=>cases (show u=Ž2 b from r);rfl
 | int i=>let#[t,e]:=(show ş1 from r);cases e;rfl
 | str x=>let#[t,e]:=(show Ŝ7 from r);cases e;rfl
 | ay b=>let#[t,e]:=(show ∃ t,u=Value.bytes b t from r);cases e;rfl
 | Vu b=>let#[t,e]:=(show ∃ t,u=Value.float b t from r);cases e;rfl
 | ref a=>cases (show u=ķ a from r);rfl
 | ty n=>cases (show u=ì6 n from r);rfl
section
variable {æ}{ĺ}{Ï8}{a C dx:Addr}{fs:Đ0}
def dh (zM:å0) (e:H a=↑ è8):∃ mA,fK h a dx C mA/\(Ġ3)/\ÄI/\Ů8<=1000/\H dx=↑(Ŏ1 a):=by
 let#[d,z,ne,ob,mA,n,r,q]:=(show wu ġ6 è8 from zM a _ e)
 show#[mA,#[ob,n,ne],r,q,z,d]
end
structure l_ ñ Ŝ5:Prop where
 pg:ě8 K C Str.empty=true
 hd:Ċ7
 po:ı2
 sa:Ã1
def l_.get ģ Ÿ0(c:l_ K C) Çp:ě8 K C f=true:=c.pg
def iW ñ Ŝ5 Çp:Prop:=Ø3 K ċ4 f=↑none
def iW.taker ģ Ÿ0{f:Str}(n:iW K C f):Åc K C f=↑none:=by
 unfold Åc;rw[show Ø3 K ċ4 f=↑none from n];rfl
structure Meth ñ Ŝ5 (m:Str) (f:Addr):Prop where
 at_:Ø3 K ċ4 m=↑↑ à2
 fn:ö2
 kp:Ň1
section
variable {þ}{Ð}{a C dx:Addr}{fs:Đ0}{f:Str}{ī4}{Ä5}{û0}
def CM ı3 Ð9 į ħ7 (n:iW X.K C f) (l:Ű1 f=↑v)
  (h:∀ u s',ť9->ü7->Q u s'):î ć4 A (getAttr Ā9 f b) Í6:=by
 ext Ãx;let#[u,hu,ru]:=oP.some_of (v:=v) (o:=mA f) (by rw[<- l];show r f);show get_map I.vo O (c.get f) c.hd n hu (DM ru) (h u _ (Û9) ru)
def CL {m:Str}{g:Addr}ņ1{Q:Ñ × Ĭ2->ŉ}į ħ7 (k:Meth X.K C m g) (l:Ű1 m=none)
  (h:Q (Ä g,[Ú6]) s):î ć4 A (Ű0 Ā9 m pl) Í6:=by
 ext Ãx;have hn:mA m=none:=oP.none_of (by rw[<- l];show r m);show CN I.vo O (c.get m) k.at_ k.fn hn h
def Jf {y:V}Ĉ5 ę9 į ħ7 (n:iW X.K C f) (hl:Ů8<1000) ñ2
  (h:∀ s',Inv ď (upd H a (.ins C dx (nB f y fs))) s'->Q ì8 s'):î ć4 A (setAttr Ā9 f u) Í6:=by
 let#[mA,O,r,wi,_,ho]:=dh ż5;have hz:(fs.map đ).length<=Ê:=by rw[zA7,ť8];lia
 exact Jg I.vo O c.sa c.po n.taker c.hd wi hz λ h' O' sb=>h _ ?_;have hd:∃ o,Ŗ dx=↑o:=let #[o,_,_,e',_]:=O'.ns;#[o,e']
 exact I.write (x:=a) (e:=dx) Ť2 (ħ ho) (λ b q hb z=>(sb.2 Ãv).trans z) hd ?_;exact#[by rw[yA O.ne];show ho,?_,O.ne,O'.obj,_,O'.ns,λ g=>?_,λ g hg=>?_]
 .have:=Q4 f y fs;lia
 .change oP ((nB f y fs).lookup g) (if g=f then ↑u else mA g);rw[Qz];by_cases q:g=f
  .rw[í q,í q];show ry
  .rw[à q,à q];show r g
 .by_cases q:g=f
  .rw[q];show (WX f y fs).1
  .exact (WX f y fs).2 g (wi g λ z=>hg ?_);change (if g=f then ↑u else mA g)=none;rw[à q];show z
def Inv.made į:Inv ď (upd (upd H À (Ŏ1 ď1)) ď1 (.ins C À []))
  { s with heap:=Ĺ0 }:=by
 have e1:(è Ö5).get? À=↑ Ö5:=zA9 ó rfl;have e2:(Ĺ0).get? ď1=↑(ì7 C À):=by
  have:=zA9 (è Ö5) (o:=ì7 C À) rfl
  rwa [Î5] at this
 have e3:(è Ö5).Ns À (Ĺ1):=#[Ö5,ø,_,e1,rfl,(λ e he=>ŗ he #[]),Ř3];have I1:=ċ5 (a:=À) (o:=Ŏ1 ď1) (h':=è Ö5) (t':=Œ) ĭ8 İ #[_,e1];exact I1.laid (a:=À+1) (o:=.ins C À []) (t':=Œ) ĭ8 (zdW (Î5 È)) ?_;have ne:À ≠ À+1:=Åd;exact#[by rw[yA ne,yO],zD4 _,ne,e2,Ĺ1,(Heap.Ns1.of_empty e3).at λ o q=>Åe,λ _=>ó0,λ y hy=>ŗ rfl hy]
def zax Ó7 ļ3 Ç6{f:Str}ŏ ď5 Ð9(hb:À5 e f env (eval e env)=eval e env)
  (h:î Î (eval e env) (λ o s₁=>î Î (getAttr o f true) Q E s₁) E s):î Î (eval (Ĕ e f pos) env) Í6:=
 Attribute_any_ h (by rw[arm_eval_Attribute,hb])
end
def Kv ñ (ta:TE) Çp:TE:=fun σ H Q=>ta Ň λ x H1=>∃ a C dx fs v,ŋ0/\H1 a=↑ è8/\l_ K C/\iW K C f/\Ű1 f=↑v/\Q v H1
def Jw ñ (ta tv:TE) Çp:TS:=λ D σ H=>tv Ň λ y H1=>ta Ĉ9 λ x H2=>∃ a C dx fs,ŋ0/\H2 a=↑ è8/\l_ K C/\iW K C f/\Ů8<1000/\
 D.nx σ (upd H2 a (.ins C dx (nB f y fs)))
section
variable {þ}{o e ŝ2:Expr}{f:Str}{pos pos':Pos}{ta tv:TE}
def Wv (he:PE X e ta) (hb:À5 e f Ë (Ā6)=Ā6):PE X (Ĕ e f pos) (Kv X.K ta f):=by
 ext č;exact zax hb (zI ÄU λ u s1 #[x,H1,I1,rx,a,C,dx,fs,v,ex,ea,c,n,l,q]=>?_);ext Ø0;show CM I1 ea c n l λ u' s2 I2 ru=>#[v,H1,I2,ru,q]
def Iu (ha:PE X o ta) (hv:PE X ŝ2 tv) (hs:å7 ŝ2 ↑(Ĕ o f pos') Ô6=ó7):PS X (ą3 [Ĕ o f pos'] ŝ2 pos) (Jw X.K ta tv f):=by
 ext É6;exact plainObj_wpAny_Assign_Attribute (zI (hv ł) λ u s1 #[y,H1,I1,ry,q]=>zI (ha ļ _ I1 q) λ ov s2 #[x,H2,I2,rx,a,C,dx,fs,ex,ea,c,n,l,q2]=>?_) hs;subst ex;obtain rfl:ov=ķ a:=rx;show Jf I2 ea c n l ry λ s3 I3=>#[σ,_,I3,q2]
end
structure y4 ã0 Ĥ6:Prop where
 hd:A.handled=none
 dp:A.depth+3*k+5<recursionLimit
 un:Ü1+16*k+200<ð7
def y4.mono {j k:Nat}Ä5(r:y4 k A) (h:j<=k):y4 j A:=#[r.hd,by have:=r.dp;lia,by have:=r.un;lia]
theorem y4.deeper Õ7 Ä5(r:y4 ě9 A) (env:Env):y4 k (Ű2 env):=
 #[r.hd,by have:=r.dp;change A.depth+1+3*k+5<_;lia,by have:=r.un;change Ü1+3+16*k+200<_;lia]
def En Ä5 Ÿ0 Ð3{kw:Õ2}:(Ñ4).depth=A.depth+1:=by
 first | rfl | simp[Around.under,Code.weight,Code.isCreation,Code.isGuard,Code.isCaller,Code.frames,Code.isFrame,guardIds]
def El Ä5 Ÿ0 Ð3{kw:Õ2}:(Ñ4).units=Ü1+1:=by
 first | rfl | simp[Around.under,Code.cUnits,Code.frames,Code.isFrame]
def y4.make Õ7 Ä5(r:y4 ě9 A) Ŝ5 ý4 (kw:Õ2):y4 k (Ñ4):=
 #[r.hd,by have:=r.dp;rw[En];lia,by have:=r.un;rw[El];lia]
theorem y4.depth Õ7 Ä5(r:y4 k A):A.depth<recursionLimit:=by have:=r.dp;lia
theorem y4.units Õ7 Ä5(r:y4 k A):Ü1+64<ð7:=by have:=r.un;lia
def f_:TA:=λ _ H Q=>Q [] H
def cC (ta:TE) (tr:TA):TA:=fun σ H Q=>ta Ň λ x H1=>tr Ĉ9 λ xs H2=>Q (Åf) H2
section
variable {þ}{Ç6}{Ô7}{ÀO}{t:TA}{ŏ}
def jB:PA X [] f_:=λ _ _ _ _ H Q I h=>Ĺ2 #[[],H,I,Á5,h]
def jC (ha:PE Ū0) (hr:PA X es t) (hs:Ē0:=by rfl):PA X ī (cC te t):=by
 intro pos gV s σ H Q I h;rw[hs];change î È (spliced (Ž6::ğ0 pos (Ū es Ë))) È s;exact å9 (zI ť2 λ u s1 Ė=>?_);show zI (hr pos ã5) ą5
def Kb Çl:TE:=fun σ H Q=>t Ň λ xs H1=>Ů7/\∀ p,H1 p=none->Q ó9 (upd H1 p Ž4)
def Kr Çl:TE:=fun σ H Q=>t Ň λ xs H1=>Ů7/\∀ p,H1 p=none->Q ó9 (upd H1 p ą2)
def Hm {x1} (h:PA X es t):PE X (ş5 es x1 pos) (Kb t):=by
 intro gV s σ H Q I hq;exact wpAny_Tuple_spliced Đ1;have hf:H1 ŵ=none:=đ8 İ;exact#[Ä ŵ,upd H1 ŵ Ž4,Ň9,rfl,q _ hf];show#[#[z,.new _],us,r,#[_,Á1,rfl,_,rfl]]
def Hz (h:PA X es t):PE X (.List es pos) (Kr t):=by
 intro gV s σ H Q I hq;exact wpAny_List_spliced Đ1;have hf:H1 ŵ=none:=đ8 İ;exact#[Ä ŵ,upd H1 ŵ ą2,Ň9,rfl,q _ hf];show#[z,us,0,r,Á1]
end
abbrev Sp:=Ą->Hp->VK->XK->Prop
abbrev ka:=Ł0->Hp->û->XK->Ñ->ŉ
structure fU ĝ9 Ŀ ñ Å8 á:Prop where
 frames:A.frames=↑ ð5
 mod:Mod K mg base
 bs:∀ b o,base.get? b=↑o->Á2/\þ4
 iP:base.objs.size<=À
 lC:Ň8 base ð5
 fg:∀ b∈mS ð5,þ4
 zM:xS P w H ó
 bare:AllBare s.gens
def CE (ð5:Ł0) ĝ9 Ŀ É5 ę8 č0 (u:Ñ) ÀM:Prop:=
 ∃ v H',s'.os=s.os/\ÄP/\Un (mS ð5) [] H H' ó ł0/\xS P w H' ł0/\ü7/\Q v H'
def CR (CX:ka) (ð5:Ł0) ĝ9 Ŀ É5 ę8 č0 Ě2 (r:Result) ÀM:Prop:=
 match r with
 | .ok (.ret u)=>CE ð5 P w H s Q u s'
 | .ok _=>Ń
 | .error e=>CX ð5 H s E e s'
structure ou ĝ9 Ŀ ñ Å8 (CX:ka) ã0 (f:Addr) (fd:á9) Ū1 (sp:Sp):Prop where
 len:Ē1
 run:∀ á (args:Args) ý4 (vs:Ą) č0 Ě2,y4 k A->fU Û Ō4->BindsTo s fd args Ē2->ĸ2->Åg->
  ł5 đ7 A (.call à2 args) (CR CX ð5 P w H s Q E) s
def fU.make æ ģ Þ5 Ä5{ð5:Ł0}ď5 ĺ(e:fU Û Ō4) Ŝ5 ý4 (kw:Õ2):
  fU Û (Ñ4) ð5 s H:=#[by first | show e.frames | (simpa [Around.under,Code.envs,Code.isFrame,pushEnvs] using e.frames),e.mod,e.bs,e.iP,e.lC,e.fg,e.zM,e.bare]
section
variable {þ}{į6}{é6}{ĺ}{s s':û}
def Inv.PX į:fU À0 X.A ą1 s H:=
 #[I.ok.frames,I.ok.mod,I.bs,zE0 I.ok.iP I.sz,I.stack,I.Sb,I.zM,ÄO]
theorem Inv.after Ŗ3 Ĉ5 į (h:CE ą1 Ĉ H s Q u s'):EP ď Q u s':=by
 let#[v,H',os,bare,un,zM,r,q]:=h;let#[hh,g,d,t,os']:=s';obtain rfl:os'=s.os:=os;show#[v,H',I.call (h':=hh) (g':=g) (d':=d) (t':=t) (ch:=[]) un zM bare (λ b z=>ŗ z #[]),r,q]
end
def Zp (sp:Sp) (dvs:Ą) Ě2 Çl:TE:=fun σ H Q=>t Ň λ vs H1=>sp ő1 H1 Q E
def Kq Ŝ5 (sp:Sp) (dvs:Ą) Ě2 Çl:TE:=fun σ H Q=>t Ň λ vs H1=>∀ x dx,H1 x=none->H1 dx=none->dx≠x->
 sp (Ä x::ő1) (upd (upd H1 dx (Ŏ1 x)) x (.ins C dx [])) ÃW E
def Binds ñ (fd:á9) Ū1 (ds:zLV):Prop:=
 ∀ ę8 ý4,K.In ó->(us++ds).length=Î6->BindsTo s fd Ĺ3 (ps.zip (us++ds))
def Binds.all ģ{fd:á9}ħ8(h:∀ us:Ĭ2,Ë2=Î6->bindArgs fd Ĺ3=pure Ē2):Ĝ0:=λ s us _ hl=>by
 rw[zcA] at hl ⊢;show .of_eq (h us hl)
def Passes (CX:ka) Ű Ě2:Prop:=∀ ĝ7 É5 ę8 (e:Ñ) ÀM,Ã->CX ą1 H s E e s'->X.xe e s'
section
variable {þ}{CX:ka}{Õ7}{f C:Addr}{fd:á9}{ħ8}{ÀQ}{ũ}{p pos:Pos}{Ç6}{Ô7}{t:TA}
def Z5 Ð Ŗ3 Ð3{vs:Ą}ä7 č2 À8
  į (r:ĸ2) (h:sp ő1 H Q E):î Å (call à2 us) Ë3 s:=by
 have r2:Vals ő1 (us++ds):=r.append hd;have hl:(us++ds).length=Î6:=by rw[<- Ű3];show F.len ô1 h
 exact wpAny_call (ĭ9 (F.run X.A ą1 s H Ĺ3 (us++ds) ő1 Q E hr I.PX (hb s us I.vo hl) r2 h) λ r s' hq=>?_);cases r with
 | error e=>show hx gV Ň s e s' I hq
 | ok fl=>
  cases fl with
  | ret u=>show I.after hq
  | _=>show í0 hq
def HK ä7 č2 É9 ĭ1 À8
  ĵ7 į9 æ9:
  PE È4 (Zp sp dvs E t):=by
 ext č;exact ő2;exact Į0 ļ4 hk (zI (ha pos ł) Ķ8) Ãy;show Z5 F hr hb hd hx I1 r q
structure Mk ñ (C f:Addr):Prop where
 makes:ĸ9
 init:Ę4
 fn:ö2
 kp:ş8 K ċ4=true
def Jy Ð Ŗ3 Ð3{vs:Ą}(M:Mk X.K C f) ä7 (hr:y4 ě9 X.A) À8 į (r:ĸ2)
  (h:∀ x dx,H x=none->H dx=none->dx≠x->sp (Ä x::ő1) ň0 ÃW E):
  î Å (call ċ4 us) Ë3 s:=by
 have hq:=h ď1 À (ģ6 (Nat.le_succ _)) (Ã7) (Åd);have I2:=Inv.made (C:=C) I;have r2:Vals (V.ref ď1::ő1) (ķ ď1::(us++ds)):=Ī rfl (r.append hd);have hl:(ķ ď1::us++ds).length=Î6:=by
  have e:=Ű3;rw[F.len ô1 hq] at e;show e.symm
 exact wpAny_call (Em (f:=f) I.vo M.makes M.init (beq_iff_eq.mp M.fn) (ĭ9 (F.run _ ą1 È #[ķ ď1::us,[]] (ķ ď1::(us++ds)) È E (hr.make C us [])
  (I2.PX.make C us []) (hb _ (ķ ď1::us) I2.vo hl) r2 hq) λ r s' hq'=>?_))
 cases r with
 | error e=>show hx gV σ È e s' I2 hq'
 | ok fl=>
  cases fl with
  | ret u=>
   let#[v,H',I3,rv,ev,q3]:=I2.after hq';subst ev;show#[rv,#[V.ref ď1,H',I3,rfl,q3]]
  | _=>show í0 hq'
def Hy (M:Mk X.K C f) ä7 (hr:y4 ě9 X.A) É9 (hm:X.mg x=↑ ċ4) À8
  į9:PE X (À4 (Ĝ x p) [] Ò2) (Kq C sp dvs E f_):=by
 ext č;exact ő2;show PySem.W.callWith_K0 I.vo M.kp (Jy (us:=[]) M F hr hb hd hx I Á5 h)
end
structure oU (N P:Ö) (sc:Ž7):Prop where
 kind:sc.kind=Ę1
 co:sc.isCoroutine=Ç
 gen:sc.isGenerator=Ç
 nd:N.Nodup
 pre:N.take P.length=P
 par:∀ x∈P,Ŋ7
 FC:∀ y∈sc.names,y.2≠ ě3
theorem N2 Ă8 ũ:∀ {binds:Õ2}{m:zSV},(∀ v,(x,v)∉binds)->bindL kindOf binds m x=m x
 | [],_,_=>rfl
 | (n,v)::r,m,h=>by
  unfold bindL;rw[N2 λ w hw=>h w (zc2 _ hw)];split
  .ext Èm
   simp[this]
  .rfl
theorem N4 Ă8 ũ:∀ {binds:Õ2}{m:zSV},(∀ v,(x,v)∉binds)->bindC kindOf binds m x=m x
 | [],_,_=>rfl
 | (n,v)::r,m,h=>by
  unfold bindC;rw[N4 λ w hw=>h w (zc2 _ hw)];split
  .rfl
  .ext Èm
   simp[this]
theorem N3 Ă8 ũ Âi:∀ {P:Ö}ñ1 È1{m:zSV},P.Nodup->P[i]?=↑x->vs[i]?=↑v->kindOf x=↑ ø8->
  bindL kindOf (P.zip vs) m x=↑v
 | [],_,_,_,_,h,_,_=>ā3
 | ÃX,[],_,_,_,_,h,_=>ā3
 | p::P,w::vs,0,m,nd,h1,h2,hk=>by
  simp at h1 h2;subst h1;subst h2;change bindL ü5 p=_;unfold bindL;rw[N2 Ż1,í hk];simp
 | p::P,w::vs,i+1,m,nd,h1,h2,hk=>by
  change bindL ü5 x=_;unfold bindL;show N3 ļ5
theorem N5 Ă8 ũ Âi:∀ {P:Ö}ñ1 È1{m:zSV},P.Nodup->P[i]?=↑x->vs[i]?=↑v->kindOf x≠↑ ø8->
  bindC kindOf (P.zip vs) m x=↑v
 | [],_,_,_,_,h,_,_=>ā3
 | ÃX,[],_,_,_,_,h,_=>ā3
 | p::P,w::vs,0,m,nd,h1,h2,hk=>by
  simp at h1 h2;subst h1;subst h2;change bindC ü5 p=_;unfold bindC;rw[N4 Ż1,à hk];simp
 | p::P,w::vs,i+1,m,nd,h1,h2,hk=>by
  change bindC ü5 x=_;unfold bindC;show N5 ļ5
def start (N:Ö) (vs:Ą):St:=vs.map some++ė (Ű4-Ż) none
def wj (CX:ka) ĝ9 Ŀ ñ Å8 (N:Ö) (qual:Str) (Î7:Ž7) (f:Addr) (cd:Ñ) á Ě2:Cx where
 prog:=P
 w:=w
 K:=K
 mg:=mg
 base:=base
 A:=Ű2 (Õ9)
 N:=N
 s₀:=s
 H₀:=H
 env:=Õ9
 ð5:=ð5
 stack:=Õ9::ð5
 ex:=[]
 calm:=true
 fn:=λ _=>true
 pn:=[]
 xe:=λ e s'=>î đ7 (Ű2 (Õ9)) (leaving (Õ9) e) (λ _ s''=>CX ð5 H s E e s'') (λ e' s''=>CX ð5 H s E e' s'') s'
def OW {sc:Ž7}Ë0 ũ(h:Ñ2=↑ Đ9):∃ c,(Ű5 n sc.names []).lookup x=↑c:=by
 have q:=PySem.W.cellsFrom_some sc.names n [] (ē h);show zd9.mp q
def Ds {CX:ka}æ ģ Þ5 Ÿ1{qual:Str}Ĕ2{f:Addr}{cd:Ñ}Ä5{ð5:Ł0}{s s1:û}ĺ{E:XK}Ð3{vs:Ą}
  (S:oU N ps Î7) (hd:A.handled=none) (e0:fU Û Ō4) (hl:Ż=Î6) (r:ĸ2)
  (x:InCallC s À (bindL (Õ9).kindOf Ē2 Ĺ1) (Ű5 ď1 Ý3 []) (bindC (Õ9).kindOf Ē2 Ĺ1) s1):
  Inv (wj Ĕ3 cd Ō4 E) [] Į1 H s1:=by
 have hpl:Î6<=Ű4:=by have:=å6 Åh S.pre;rw[zdA] at this;lia
 let#[h1,tk,rfl,hk]:=x.done;have noA:∀ b:Addr,b∉(wj Ĕ3 cd Ō4 E).ex:=λ b z=>Èj;exact#[#[e0.mod,S.kind,rfl,rfl,Ű6,λ y z c h1 h2=>?_,λ y hy=>?_,λ y c _ h=>?_,λ _=>hd,Around.frames_deeper e0.frames,ħ Ę2,λ b z=>ŗ z (noA b),e0.bs,e0.iP,λ b _ _=>noA b,λ b z=>ŗ z (noA b),e0.lC,e0.fg],
  rfl,e0.bare,Un.kept hk,#[_,x.toInCall.ns,λ i y v h1 h2 h3=>?_],λ y c h=>#[_,x.cell y c h],e0.zM.fresh İ,λ y c h=>?_,ı6,e0.zM.kept hk,?_]
 .show name_of_addr x.apart (Ì1 h1) (Ì1 h2)
 .have hy:Ç2 y=↑ Đ9\/Ç2 y=↑ ě3:=hy;rcases hy with hy | hy
  .show OW hy
  .show ŗ rfl (S.FC _ (Ì1 hy))
 .show zE3 (x.above y c (Ì1 h))
 .have hi:i<Ż:=by
   unfold start at h2;by_cases hi:i<Ż
   .show hi
   .rw[zdB Ċ8] at h2;rw[zd3] at h2;split at h2 <;> cases h2
  have ha:vs[i]?=↑v:=by
   unfold start at h2;rw[zcU Ċ8,zA3] at h2;cases e:vs[i]? with
   | none=>rw[e] at h2;cases h2
   | some a=>rw[e] at h2;cases h2;rfl
  let#[u,hu,rv]:=r.get ha;have hp:ps[i]?=↑y:=by
   rw[<- S.pre,List.getElem?_take_of_lt ⋯];show h1
  have ndP:ps.Nodup:=by rw[<- S.pre];show S.nd.sublist (List.take_sublist È)
  exact#[u,rv,?_];rcases S.par y (zB7 hp) with k | k
  .show ē #[k,N3 ndP hp hu k]
  .let#[c,e]:=OW (n:=À+1) k;exact ħ #[ē k,c,e,?_];have q:=x.cell y c e;rw[N5 ndP hp hu (by change Ç2 y≠_;rw[k];decide)] at q;show q
 .show e0.zM.fresh (zE3 (x.above y c (Ì1 h)))
 .unfold start;change _=Ű4;rw[zD7,zA7,List.length_replicate];lia
def Bs {CX:ka}æ ģ Þ5 Õ7{f:Addr}{name qual:Str}{params:Arguments}ÀP Ĕ2{dV kV doc pm cdv ct oc:Ñ}{an od:đ4}
  {osl:Ē3}Ÿ1{sp:Sp}(lk:ë6 f=↑#[oc,od,.func ğ1,osl]) (hcd:ð3) (S:oU N ps Î7)
  (len:Ē1)
  (Ġ5:∀ á (vs:Ą) č0 Ě2,y4 k (Ű2 (envOfC qual Î7 À f cdv))->Åg->
   ∃ t,pR (wj Ĕ3 Ä7) body t/\Ř4):
  ou Û CX ě9 f ğ1 ps sp:=by
 exact#[len,λ A ð5 s H args us vs Q E hr e0 hb r hsp=>?_];have hl:=len ô1 hsp;have KX:K.In ó:=e0.mod.e_.keeps λ b o e=>(e0.bs ý3).1;have lim:s.heap.NoLimit:=e0.mod.nolimit.keeps λ b o e=>(e0.bs ý3).1;have hkind:∀ y∈ps.zip us,Ç2 y.1=↑ ø8\/(Ç2 y.1=↑ Đ9/\((Ű5 ď1 Ý3 []).lookup y.1).isSome=true):=λ#[n,v] hy=>by
  rcases S.par n (zd8 hy).1 with q | q
  .show ē q
  .show ħ #[q,PySem.W.cellsFrom_some Þ6 (ē q)]
 exact codeAny_call_function hr.depth (KX È lk) rfl S.co S.gen rfl (PySem.W.codeRec_of KX hcd) (hb ô1 ?_);exact wpAny_newFunctionEnv_cells S.kind hkind λ env he s1 x=>?_;subst he;exact#[lim.keeps x.toInCall.keep,codeAny_func ?_];let#[t,ht,hq]:=Ġ5 Ō4 vs Q E (hr.deeper _) hsp;have I:Inv (wj Ĕ3 Ä7) [] Į1 H s1:=Ds S hr.hd e0 hl r x;exact zeY (ht [] s1 Į1 H _ I hq) (λ fl s' hs=>?_) λ e s' hs=>hs;have fin:∀ {σ':St}{H':Hp}ī4 Ĉ5,Inv (wj Ĕ3 Ä7) [] ÿ7 s'->ü7->Q v H'->CE ð5 P w H s Q u s':=
  λ{σ' H' v u} J rv q=>#[v,H',J.os,J.bare,J.base,J.zM,rv,q]
 cases fl with
 | ret u=>
  let#[v,σ',H',J,rv,q]:=hs;show fin J rv q
 | next=>
  let#[σ',H',J,q]:=hs;show fin (v:=V.zJ) (u:=ì5) J rfl q
 | brk=>
  let#[_,_,_,q]:=hs;show í0 q
 | cont=>
  let#[_,_,_,q]:=hs;show í0 q
section
variable {þ}{ũ}{p pos:Pos}{Ç6}{Ô7}{t:TA}{id T:ý5}{r:ÄY}
def Zq (r:ÄY) Çl:TE:=fun σ H Q=>t Ň λ vs H1=>r vs H1 Q
def j9 (hc:xT X (ū id) r) É9 œ0 (hv:Ā5=↑(ū id)) ĵ7 ò5 į9
  æ9:PE È4 (Zq r t):=by
 ext ż6;show PyProof.Rows.callWith_builtin1 ø0
def gD (hc:xT X (Ć T) r) É9 œ0 (hv:Ā5=↑(Ć T)) ĵ7 ò5 į9
  æ9:PE È4 (Zq r t):=by
 ext ż6;show à4 ø0
end
end L2
namespace HT
open Ķ É
def lexLt:Ï->Ï->Bool
 | [],[]=>Ç
 | [],ÃX=>true
 | ÃX,[]=>Ç
 | Åf,y::ys=>Ż2
def jH (x y:Int) (xs ys:Ï):lexLt (Åf) (y::ys)=Ż2:=rfl
def E7:lexLt [] []=Ç:=rfl
def E8 (y:Int) (ys:Ï):lexLt [] (y::ys)=true:=rfl
def E9 (x:Int) (xs:Ï):lexLt (Åf) []=Ç:=rfl
def BR Ĥ6 ę8 (a:Int) ũ5 (c:Int) (u:Tok):∃ e,SeqAt.EqAt A s Çq e/\(e=true↔a=c):=
 #[(a == c),SeqAt.EqAt.int_int a t c u,#[]]
def JJ Ĥ6 ę8 (a:Int) ũ5 (c:Int) (u:Tok) Ĉ4 Ŀ ÀN (Q:zVP) (h:Q (đ6 (Ď (a<c))) s):
  î Î (richCompare .Lt Çq) Í6:=
 (PyProof.Rows.lt_int h:î Î (Î4 .Lt Çq) Í6)
section
open PySem.SeqAt
open PySem.AutoSeq1 (ő3)
open PySem.MeetsSeq PySem.MeetsSeq2 PySem.MeetsSeq3
def LI (l b:Addr) (ā1 Åi:zAV) (n n2:Nat) (dd dd2:đ4) (sl sl2:Ē3) (ns ms:Ï) Ī3:
  Meets (Builtin.«tuple.__lt__» #[[Ä l,Ä b],[]])
   (λ _ R s=>Æ7/\Þ b=↑{ cls:=À1,dict:=dd2,data:=Ġ0 Åi n2,slots:=sl2 }/\
    R (.ok (.ret Ŧ0)) s):=
 .of_wp λ prog w A R s h=>by
  ext Ã3;let#[hl,hb,h]:=h
  have f2:=AutoSeq1.sub_tuple_tuple;have z1:ý=à5:=by rw[<- hi.length];simp
  have z2:Ŧ1=ms.length:=by rw[<- hj.length];simp
  wp_walk using ő3 hl,ő3 hb,ÂS _ (λ rest b s'=>b.1=none/\s'=Ò8/\∃ (vs ws:zLV) (ns' ms':Ï),rest=vs.zip ws/\
   Ö6 vs ns'/\Ö6 ws ms'/\ns'.length+Ŧ1=ms'.length+ý/\R (.ok (.ret (đ6 (lexLt ns' ms')))) Ò8) _
  case turn=>
   rintro⟨y,x⟩ rest b s' ⟨hb',rfl,vs,ws,ns',ms',hz,hvi,hwi,hlen,hR⟩;cases hvi with
   | nil=>rw[List.zip_nil_left] at hz;cases hz
   | cons a t hvi'=>
    cases hwi with
    | nil=>rw[List.zip_nil_right] at hz;cases hz
    | cons c u hwi'=>
     rw[zdX] at hz
     injection hz with hyx hrest
     injection hyx with hy hx
     subst hy hx;rw[jH] at hR;simp![zC0] at hlen;let#[e,he,hiff]:=BR ž4 Ò8 a t c u;exact zeS (he Í3 È ?_);cases e with
     | true=>
      rw[í (hiff.mp rfl)] at hR
      wp_walk
      show#[rfl,rfl,_,_,_,_,hrest,hvi',hwi',⋯,hR]
     | Ç=>
      rw[à (λ q=>ŗ (hiff.mpr q) zc7)] at hR;have hri:=JJ ž4 Ò8 a t c u Í3
      wp_walk using hri
      show#[_,rfl,by exists hR]
  case fin=>
   rintro⟨b1,b2⟩ s' ⟨hb',rfl,vs,ws,ns',ms',hz,hvi,hwi,hlen,hR⟩;simp only at hb';subst hb';have hv:lexLt ns' ms'=Ď (ý<Ŧ1):=by
    cases hvi with
    | nil=>
     cases hwi with
     | nil=>
      simp![zcL] at hlen;rw[E7];show (Åj).symm
     | cons c u hw=>
      simp![zcL,zC0] at hlen;rw[E8];show (zeV ⋯).symm
    | cons a t hv=>
     cases hwi with
     | nil=>
      simp![zcL,zC0] at hlen;rw[E9];show (Åj).symm
     | cons c u hw=>
      rw[zdX] at hz;cases hz
   rw[hv] at hR
   wp_walk
   show#[_,rfl,by simpa [Builtin.Tuple.tupleCompareSizes] using hR]
  case h=>
   show#[rfl,rfl,items.toList,items2.toList,ns,ms,rfl,hi,hj,⋯,h]
end
section
variable {Æ}
def Et {l b:Addr}{ā1 Åi:zAV}{ns ms:Ï}Ð9(hl:IsTup ó l ā1) (hb:IsTup ó b Åi) Ī3
  Âk (h:Q Ŧ0 s):î Î (Î4 .Lt Ø1 ő4) Í6:=by
 let#[â9,ho,hc,n,hd]:=id hl;ext ŏ4;show richCompare_meets_room (op:=.Lt) Ÿ2 PySem.F.slot_tuple_lt PySem.F.entry_tuple_lt (PySem.F.args_tuple_lt_2 È) (LI l b ā1 Åi Ĕ4 ns ms hi hj)
  #[ho,ho2,show Ž2 (lexLt ns ms)≠ ŝ3/\Q Ŧ0 s from #[(λ x=>nomatch x),h]] hu
def AB {t b:Addr}{vs ws:zLV}Ð9(ht:IsTup ó t ń) (hb:IsTup ó b ws.toArray) (hv:vs≠[])
  (h1:ws=[]->Q (Ä t) s) (h2:ws≠[]->Q ä3 { s with heap:=è { cls:=À1,data:=Ġ0 (vs++ws).toArray } })
  (hsz:Ż+ws.length<=Ê):î Î (å8 .Add (Ä t) ő4) Í6:=by
 ext Äo;ext ŏ4;have e:ń++ws.toArray=(vs++ws).toArray:=#[];by_cases hw:ws=[]
 .show ÁC Ŕ
   (tuple_addW1 ÂI (by simp[hw])) #[ho,ho2,h1 hw]
 .exact ÁC Ŕ
   (tuple_addW2 ÂI (by exists hw) (by rw[zA0,zA0];show hsz)) #[ho,ho2,?_]
  rw[e];show h2 hw
def yf (n d:Nat):Ì2->Nat
 | none=>d
 | some v=>ð8
def Jv (n d:Nat) (hd:d<=n) (o:Ì2):yf n d o<=n:=by
 cases o with
 | none=>show hd
 | some v=>
  change (ð8)<=n;by_cases hv:v<0
  .rw[í hv];lia
  .rw[à hv];show Nat.min_le_right È
def OM (v:Int) (n d:Nat):ŝ4=((yf n d ↑v:Nat):Int):=by
 change ŝ4=(((ð8):Nat):Int)
 by_cases hv:v<0
 .simp![í hv];lia
 .simp![à hv];lia
theorem zaL ñ3 Ï7:ĳ3 ß7 1 ċ3=(Ę5,((yf n n hi:Nat):Int)):=by
 have h1:¬ (ž5<0):=⋯;unfold ĳ3;simp![h1,æ0];exact Prod.ext ?_ ?_
 .cases lo with
  | none=>rfl
  | some v=>show OM v n 0
 .cases hi with
  | none=>rfl
  | some v=>show OM v n n
theorem IK ħ3:ā4 (i:Int) (j:Int) 1=j-i:=by
 unfold ā4;have h1:ž5>0:=⋯;simp![h1,ċ6,Int.ediv_one];split <;> lia
def Sz Âi{o:Ì2}{Q:Ì2->ŉ}(p:IsPart v o) (h:Q o s):î Î (Builtin.Slice.slicePartIndex v) Í6:=by
 cases p with
 | none=>show slicePart_none h
 | int i t=>show slicePart_int h
def S7 {sl:Addr}{vl vu:Ñ}Ū5 Ë0{Q:Int×Int×Nat->ŉ}â3
  (h:Q (Ę5,1,yf n n hi-yf n 0 lo) s):î Î (Builtin.Slice.sliceApplied (Ä sl) (pure ċ3)) Í6:=by
 let#[os,hos,hcs,hds]:=id hs;unfold Builtin.Slice.sliceApplied Builtin.Slice.sliceFields;exact zeS (zeS (zeX hos hds (x:=vl) rfl (zeS (zeX hos hds (x:=vu) rfl (zeS (zeX hos hds (x:=Ą3) rfl À7))))));exact zeS (slicePart_none ?_);change î È (if (ž5 == 0)=true then _ else _) È s;rw[à ()];exact zeS (Sz pl (zeS (Sz pu (zeS À7))));change î È (match ĳ3 ß7 1 ċ3 with | (lo,hi)=>pure (lo,ž5,ā4 ß7 1)) È s;rw[zaL ß7 n];change î È (pure (Ę5,ž5,ā4 Ę5 ((yf n n hi:Nat):Int) 1)) È s;rw[IK];show zD1 h
theorem IP (xs:zAV) (i k:Nat):((ő k).filterMap λ(m:Nat)=>xs[ĳ4]?).toArray=((xs.toList.drop i).take k).toArray:=by
 have e:(λ(m:Nat)=>xs[ĳ4]?)=λ m=>xs[i+m]?:=by
  funext m;have:ĳ4=i+m:=⋯;rw[this]
 rw[e];have:=pick_run xs i k;rw[List.filterMap_map] at this;have e2:((λ x=>xs[x]?) ∘ λ x=>i+x)=λ m=>xs[i+m]?:=rfl;rw[e2] at this;rw[this]
def CO Ŀ7 Ð9(ht:IsTup ó t ā1) â3
  (hw:¬ (ģ7=0/\ł6=ý))
  (h:Q ä3 { s with heap:=è { cls:=À1,data:=Ġ0 (Ó8).toArray } })
  (hsz:ý<=Ê):ÁD:=by
 have htake:sizeOk (Ġ0 (Ó8).toArray):=by
  change (Ó8).toArray.size<=Ê;rw[zA0,zdA,zcM,zD2];lia
 have hj:ł6<=ý:=Jv È İ hi;let#[os,hos,hcs,hds]:=id hs;have hTs:Ġ6 (Ä sl) "slice":=#[os,hos,hcs];unfold ő5
 try with_reducible exact zeZ ?_
 first | ext ĝ8 | skip
 exact zeS (wpAny_sequenceKey ő6 () ?_);exact zeS (zf5 (name:=Str.ofString "__getitem__") ő6 í3
  (zf0 í3 ő6 ŉ6))
 change î È (Ī7 (Ä t) >>= _) È s;exact zeS (tupleItemsOf_ ht ?_);exact zeS (zf7 hTs ?_);rw[í ()];exact zeS (S7 Ãz ?_);have hno:¬ (Â2):=by
  intro q;rw[zE5,zE5] at q;have q1:((ģ7:Nat):Int)=0:=eq_of_beq q.1.1;have q2:ł6-ģ7=ý:=eq_of_beq q.2;show hw ő7
 change ÃY;rw[à hno,IP]
 first
  | show ÃZ
  | show zeS (m:=ä4) (zf1 (zeS (zD1 Ú9)) htake)
  | show zeS (zeS (m:=ä4) (zf1 (zD1 Ú9) htake))
  | show zeS (ÃZ)
end
end HT
namespace L2
open Ķ â É
abbrev TO:=St->Hp->(Ì2->Ĭ)->Prop
def PO Ű (e:Â Expr) (t:TO):Prop:=
 ∀ Ì (Q:Ì2->Ĭ),Ã->t Ņ8->
  î Å (evalPart e Ë) (λ u s'=>∃ o H',ù0/\IsPart u o/\Q o H') ē9
def Ko:TO:=λ _ H Q=>Q none H
def Ki (t:TE):TO:=fun σ H Q=>t Ň λ x H1=>∃ i,x=ö7/\Q ↑i H1
def ž6 Ŗ5:∀ Ð3,Vals Ç3 us->Ö6 us ns:=by
 induction ns with
 | nil=>intro us r;rw[zc4] at r;cases r;show Á5
 | cons n ns ih=>
  intro us r;rw[zA6] at r;cases r with
  | cons r1 r2=>
   let#[t,e]:=r1;subst e;show Ī n t (ih r2)
section
variable {þ}{Ç6}{ÀO}{lo hi:Â Expr}{tl th:TO}{Çr}
def IG:PO X none Ko:=by
 ext č;rw[evalPart_none];show zD1 #[none,H,I,Ą3,h]
def IE (h:PE Ū0):PO X ↑e (Ki te):=by
 intro gV s σ H Q I hw;rw[evalPart_some];exact zI (h Ü _ I hw) λ u s1 Ė=>?_;let#[i,rfl,q]:=q1;ext ÂC;show#[↑i,H1,I1,ä i t,q]
def jU Ű (r:à6):Prop:=
 ∀ Ì (x:V) (v vl vu:Ñ) ñ3 (sl:Addr) č0,Ã->ĭ7->ÂT->IsPart vl lo->IsPart vu hi->r Ū6->
  ∃ T id,ĳ5/\Ġ6 v T/\î Å (ő5 v (Ä sl)) Ë3 s
def jU.or {r r':à6}(h:jU X r) (h':jU X r'):jU X (λ x lo hi H Q=>r Ū6\/r' Ū6):=by
 intro gV s σ H x v vl vu lo hi sl Q I rx hs pl pu q;ext Âj
 .show h Ü x v vl vu ß7 sl Q I rx Ãz q
 .show h' Ü x v vl vu ß7 sl Q I rx Ãz q
def Ke (r:à6) (te:TE) (tl th:TO):TE:=fun σ H Q=>te Ň λ x H1=>tl Ĉ9 λ l H2=>th σ H2 λ u H3=>r x l u H3 Q
theorem Ho {r:à6}(hr:jU X r) ĕ8 (hl:PO X lo tl) (hu:PO X hi th):PE X (ŭ e Ū4 pos) (Ke r te tl th):=by
 ext č;exact Subscript_ (zI ÄU λ v s1 Ė=>?_);exact wpAny_Slice (zI (hl ã5) λ vl s2 #[l,H2,I2,pl,q2]=>zI (hu î0 _ I2 q2) λ vu s3 #[u,H3,I3,pu,q3]=>?_);rw[evalPart_none];exact Į2;have I4:Inv ď H3 { s3 with heap:=Ü6 }:=I3.kept (t':=s3.toks) ß5;let#[T,id,hT,ht,hg]:=hr gV { s3 with heap:=Ü6 } σ H3 x v vl vu l u ž7 Q I4 r1 (Heap.IsSliceOf.new ..) pl pu q3;change î Å (Ű7 e Ū4 v (Ä ž7)) Ë3 { s3 with heap:=Ü6 };show tail_any (ops:=[Ä ž7,v]) ht hT hg (by ext Äp)
def jf Ŗ1 ñ3:Ą:=(ĥ3 (Ø4)).take (ó1-Ø4)
def OG Ŗ1 ñ3:(ő8).length<=Ó:=by
 unfold jf;rw[zdA,zcM];lia
def Ro ñ:à6:=λ x lo hi H Q=>∃ a xs,ŋ0/\ĸ3/\
 ¬ (Ű8)/\∀ p,Đ5->Q ó9 (upd H p (ŀ (ő8)))
theorem KZ:jU X (Ro X.K):=by
 ext Ê6
 exact#["tuple",_,Ř5,ő6,?_];exact HT.CO ht Ãz (by rw[hlen];show hw) ?_ (by rw[hlen];show hz);rw[hlen];exact#[ŝ5,_,ċ5 (t':=Œ) (o:=ŀ (ő8)) (ß5) İ ?_,rfl,Ĺ4];show#[#[zE0 (OG xs ß7) hz,.new _],_,ÂU,Ę6]
def Wg ñ:R2:=λ x y H Q=>∃ a b ns ms,ŋ0/\y=Ä b/\yC ŋ a Ç3/\yC ŋ b (ms.map V.int)/\Q (ő9) H
def GD (hu:Ű9<ð7):yT X (Î4 .Lt) (Wg X.K):=by
 ext Ĥ;let#[a,b,ns,ms,rfl,rfl,ha,hb,q]:=h;ext ė3;have i1:Ö6 its.toArray.toList ns:=ž6 r1;have i2:Ö6 its2.toArray.toList ms:=ž6 r2;show HT.Et p1 p2 i1 i2 hu #[ő9,H,I,rfl,q]
def R1 ñ:R2:=λ x y H Q=>∃ a b xs ys,ŋ0/\y=Ä b/\ĸ3/\yC ŋ b ys/\xs≠[]/\Ó+Í1<=Ê/\
 (ys=[]->Q Ā9 H)/\(ys≠[]->∀ p,Đ5->Q ó9 (upd H p (ŀ (xs++ys))))
def Vals.bo Å5 Ð3(r:Ú7):us=[]↔xs=[]:=by
 cases r with
 | _=>simp
theorem GL:yT ũ9 (R1 X.K):=by
 ext Ĥ;let#[a,b,xs,ys,rfl,rfl,ha,hb,hx,hz,q1,q2]:=h;ext ė3;exact HT.AB p1 p2 (λ z=>hx (r1.bo.mp z)) (λ z=>#[Ú6,H,I,rfl,q1 (r2.bo.mp z)]) à7 (by rw[<- r1.length,<- Ű3];show hz);exact#[ŝ5,_,ċ5 (t':=Œ) (o:=ŀ (xs++ys)) (ß5) İ ?_,rfl,q2 (λ w=>z (r2.bo.mpr w)) _ (Ã7)];show#[#[by rw[zD7];show hz,.new _],_,r1.append r2,Ę6]
end
def oE Ï7 ĵ5:Â Nat:=if 0<=i then (if i<n then ↑i.toNat else none) else if -ċ3<=i then ↑(i+n).toNat else none
def yD Å2 ņ2 ĵ5:Â α:=(oE Ó i).bind λ j=>xs[j]?
theorem QM Ë0 Ū7 ĵ8(h:oE n i=↑j):seqIndex? i n=↑j/\j<n/\-ċ3<=i/\i<n:=by
 unfold oE at h;by_cases h0:0<=i
 .rw[í h0] at h;by_cases h1:i<n
  .rw[í h1] at h;have e:i.toNat=j:=zD5 h;show#[by rw[seqIndex_of h0 h1,e],⋯,⋯,h1]
  .rw[à h1] at h;cases h
 .rw[à h0] at h;by_cases h1:-ċ3<=i
  .rw[í h1] at h;have e:(i+n).toNat=j:=zD5 h;show#[by rw[seqIndex_neg ⋯ h1,e],⋯,h1,⋯]
  .rw[à h1] at h;cases h
def Uh Å2 Ň3 Ū7{v:α}(h:yD xs i=↑v):∃ j,seqIndex? i Ó=↑j/\xs[j]?=↑v/\j<Ó/\-(Ó:Int)<=i/\i<Ó:=by
 unfold yD at h;cases e:oE Ó i with
 | none=>rw[e] at h;cases h
 | some j=>
  rw[e] at h;let#[h1,h2,h3,h4]:=QM e;show#[j,h1,h,h2,h3,h4]
def Ma (b:Expr):Prop:=∀ o i,Åk b Ç o i=operate [o,i] (ő5 o i)
def jW Ű (r:R2):Prop:=
 ∀ (ŝ2 slice:Expr) Ì (x y:V) (v u:Ñ) č0,Ã->ĭ7->RelV y u->r á4->
  Åk slice Ç v u=operate [v,u] (ő5 v u)->î Å (Ű7 ŝ2 slice v u) Ë3 s
def kJ Ű (id:ý5) (r:æ1):Prop:=
 Ý0
section
variable {þ}{ß8}{ta tb:TE}{ŏ}
def jW.or {r r':R2}(h:jW X r) (h':jW X r'):jW X (λ x y H Q=>r á4\/r' á4):=by
 intro ŝ2 slice gV s σ H x y v u Q I rx ry q hs;ext Âj
 .show h ŝ2 slice Ī2 q hs
 .show h' ŝ2 slice Ī2 q hs
def HB {r:R2}(hr:jW X r) Ä6 (hs:Ma b):PE X (ŭ a Çm) (cA r Ù9):=by
 ext č;show Subscript_ (V_ ha hb I h λ v u s2 x y H2 I2 rx ry q=>hr a b î0 x y v u Q I2 rx ry q (hs È))
def Rv ñ:R2:=λ x y H Q=>∃ p xs i v,x=Â1/\y=ö7/\yB ŋ p xs/\yD xs i=↑v/\Q v H
def Rt ñ:R2:=λ x y H Q=>∃ p xs i v,x=Â1/\y=ö7/\yC ŋ p xs/\yD xs i=↑v/\Q v H
def Ru:R2:=λ x y H Q=>∃ z i c,x=ß z/\y=ö7/\ï0/\yD z.cps.toList i=↑c/\Q (Ė8) H
theorem Di:jW X (Rv X.K):=by
 ext Ü9;let#[its,r,pl,hz]:=ÁA;ext Ð4;by_cases h0:0<=i
 .have hj:i.toNat=j:=by
   rw[seqIndex_of h0 h5] at h1;show zD5 h1
  show item_listR í2 h0 ⋯ (by rw[hj];exists ew) fin hs
 .have hj:(i+(Ð1:Int)).toNat=j:=by
   rw[seqIndex_neg ⋯ h4] at h1;ext Äq;show zD5 h1
  show subscriptTail_builtinR (x:=w) pl.isList.typeIs Ĺ5
   (wpAny_getItem_list_neg (Q:=λ r s'=>r=w/\EP ď Q r s') í2 ⋯ (by rw[zA0] <;> lia) ⋯ (by rw[hj];exists ew) #[rfl,fin]) hs
theorem Df:jW X (Rt X.K):=by
 ext Ü9;let#[its,r,pl,hz]:=ÄV;ext Ð4;show subscriptTail_builtinR (x:=w) pl.typeIs slot_tuple_getitem.lookup
  (getItem_tuple (j:=j) (Q:=λ r s'=>r=w/\EP ď Q r s') pl Á7 (by ext Äq;show h1) (by exists ew) #[rfl,fin]) hs
theorem Dg:jW X Ru:=by
 ext ŉ7;let#[z,i,c,rfl,rfl,hz,he,q]:=h;ext ä6;ext ż7;have hl:z.cps.toList.length=Ř6:=by simp[Str.length]
 rw[hl] at h1 h4 h5;have hn:=gP;show tail_any (typeIs_str s z t) slot_str_getitem.lookup (getItem_str (c:=c) (by
  have e1:Ď (i < -(2 ^ 63:Int))=Ç:=Åj;have e2:Ď (i≥2 ^ 63)=Ç:=Åj;rw[e1,e2,Bool.or_false]) (by rw[h1];exists h2) #[Ė8,H,Û9,Æ9,q]) hs
def Rw ñ:R2:=λ x y H Q=>Rv K á4\/Rt K á4\/Ru á4
def Dh:jW X (Rw X.K):=Di.or (Df.or Dg)
def Ek (its:zLV) (n j:Nat) (u:Ñ):Û0 (·.setIfInBounds j u) { cls:=Á9,data:=Ř0 }={ cls:=Á9,data:=Ġ0 (its.set j u).toArray n }:=by
 simp[Û0]
theorem Inv.lst Ð ß1 Å5 į (h:H p=↑ ą2):
  ∃ (its:zLV) (n:Nat),ą0/\ÁE/\Ů7:=by
 let#[z,its,n,r,e]:=I.zM p _ h;show#[its,n,r,e,z]
def Inv.Eu Ð ß1 Ĥ5{its its':zLV}{n n':Nat}{f:Obj->Obj}į (h:H p=↑ ą2)
  (ho:ÁE) (hf:f { cls:=Á9,data:=Ř0 }={ cls:=Á9,data:=Ġ0 its'.toArray n' }) (r:Vals ys its') (hz:Í1<=Ê) (t:Nat):
  Inv ď (upd H p (ú ys)) { s with heap:=ð9 p f,toks:=t }:=by
 have e:(ð9 p f).get? p=↑{ cls:=Á9,data:=Ġ0 its'.toArray n' }:=by
  rw[zf9 f ho (by rw[hf] <;> rfl),hf]
 exact I.write (x:=p) (e:=p) (by rw[h];trivial) (Ď7) (λ b u hb q=>ł7 q) #[_,e] ?_;show#[hz,its',n',r,e]
def JN:V->V->V->Hp->(Ĭ)->Prop:=λ o i v H Q=>∃ p xs k j,o=Â1/\i=ä k/\H p=↑ ą2/\oE Ó k=↑j/\Q Ål
theorem set_list:Mb X JN:=by
 intro gV s σ H o i v ov iv u Q I ro ri rv h;let#[p,xs,k,j,rfl,rfl,hp,hj,q]:=h;cases ro;let#[t,rfl]:=ri;let#[its,n,r,ho,hz]:=I.lst hp;let#[h1,h2,h3,h4]:=QM hj;have hl:=á8;have hn:=gP;have I':Inv ď Ål { s with heap:=ð9 p (Û0 (·.setIfInBounds j u)) }:=
  I.Eu hp ho (Ek its n j u) (r.set rv j) (by rw[zdC];show hz) Œ
 by_cases h0:0<=k
 .have hk:Ë6=j:=by
   rw[seqIndex_of h0 h4] at h1;show zD5 h1
  show PySem.W.ki_setAt ho h0 ⋯ (by ext Äq;show h4) Èk
 .have hk:(k+(Ð1:Int)).toNat=j:=by
   rw[seqIndex_neg ⋯ h3] at h1;ext Äq;show zD5 h1
  show PySem.W.ki_setBack ho ⋯ (by ext Äq;show h3) ⋯ Èk
def KU ñ3 Ï7:(ù4 ß7 none n).1=((HT.yf n 0 lo:Nat):Int)/\(ù4 ß7 none n).2.1=((HT.yf n n hi:Nat):Int)/\(ù4 ß7 none n).2.2=1:=by
 exact#[?_,?_,rfl]
 .cases lo with
  | none=>simp[ù4,HT.yf]
  | some i=>
   ext İ8
   .simp![h,ċ6] <;> lia
   .simp![h,æ0] <;> lia
 .cases hi with
  | none=>simp[ù4,HT.yf]
  | some i=>
   ext İ8
   .simp![h,ċ6] <;> lia
   .simp![h,æ0] <;> lia
def KW (its:zLV) ñ3:slicePick ĕ ß7 none=((its.drop (HT.yf å1 0 lo)).take (HT.yf å1 å1 hi-HT.yf å1 0 lo)).toArray:=by
 let#[h1,h2,h3]:=KU ß7 Ð1;unfold slicePick;rw[h1,h2,h3];simp![sliceRange_one,pick_run,zA0] <;> rfl
def Rq ñ:à6:=λ x lo hi H Q=>∃ a xs,ŋ0/\ş4/\∀ p,Đ5->Q ó9 (upd H p (ú (ő8)))
theorem Jb:jU X (Rq X.K):=by
 ext ì1;let#[a,xs,rfl,hx,q]:=h;cases rx;let#[its,r,ht,hz]:=ā0 hx;have hlen:=á8;exact#["list",_,Ĺ5,ht.isList.typeIs,?_];exact wpAny_getItem_list_slice ht.isList Ãz Ą3 #[] ?_ (by rw[zA0] <;> lia);rw[KW,<- hlen];exact#[ŝ5,_,ċ5 (t':=Œ) (o:=ú (ő8)) (ß5) İ ?_,rfl,Ĺ4];show#[zE0 (OG xs ß7) hz,_,0,ÂU,Á1]
theorem AV:xT X (ū "len") (λ xs H Q=>∃ p ys,ô8/\ý6/\Q (ä Í1) H):=by
 ext ė7;cases rx;have hn:=gP;ext Ŗ6
 .ext ð0;show Calls.call_len_list í2 Ė3 ģ8
 .ext Ī4;have hlen:=r'.length;show len_tuple pl Ė3 ģ8
theorem AU:xT X (ū "len") (λ xs H Q=>ű0):=by
 ext Ĳ;let#[z,rfl,hz,q]:=h;let#[u,rfl,t,rfl]:=vals1 r;have hn:=gP;show len_str ⋯ #[ä Ř6,H,Û9,Æ9,q]
def xT.or İ0:Ř7:=by
 intro gV s σ H xs us Q I rs q;ext Âj
 .show h Ü xs us Q I rs q
 .show h' Ü xs us Q I rs q
theorem AQ:xT X (Á9) (λ xs H Q=>∃ p ys,ô8/\ý6/\ű1):=by
 ext ė7;cases rx;have fin:∀ (its:zLV),Vals ys its->Í1<=Ê->∀ (h':Heap) (c':Nat),(∀ b o',Þ b=↑o'->Ŗ b=↑o')->
   Ŗ À=↑{ cls:=Á9,dict:=none,data:=Ġ0 ĕ c',slots:=ø }->EP ď Q ä3 { s with heap:=h' }:=λ its r' hz h' c' kp e=>
  #[ŝ5,_,ċ5 (t':=Œ) kp İ (show wu Ĉ _ h' _ (ú ys) from #[hz,its,c',r',e]),rfl,Ĺ4]
 ext Ŗ6
 .ext ð0;let#[o,ho,hc,n,hd]:=í2;show call_list_seq p (Ď7) ī6
 .ext Ī4;have hlen:=r'.length;let#[o,ho,hc,n,hd]:=pl;show call_list_seq p (ħ rfl) ī6
theorem AD:xT X (À1) (λ xs H Q=>∃ p ys,ô8/\((yB Ñ8 p ys/\ű2)\/(yC Ñ8 p ys/\Q ó9 H))):=by
 ext Ĳ;let#[p,ys,rfl,h]:=h;let#[u,rfl,rx]:=vals1 r;cases rx;rcases h with ⟨hq,q⟩ | ⟨hq,q⟩
 .ext ð0;exact call_tuple_list í2 (λ h' kp=>?_) Ė3;have I1:Ĳ7:=I.kept (t':=Œ) kp;have I2:Inv ď (upd H h'.objs.size (ŀ ys)) { s with heap:=h'.push { cls:=À1,data:=Ġ0 ĕ } }:=
   I1.laid (t':=Œ) (Ü0) İ (show wu Ĉ Þ6 (ŀ ys) from #[#[hz,.new _],its,r',Ę6])
  show#[Ä h'.objs.size,_,I2,rfl,q _ (đ8 İ)]
 .ext Ī4;show call_tuple_same pl #[Â1,H,I,rfl,q]
def TF ñ (T:ý5) (x:V) É5:Prop:=match x with
 | ß _=>T="str"
 | ä _=>T="int"
 | Â1=>(T="list"/\∃ xs,yB ŋ p xs)\/(T="tuple"/\∃ o,ë6 p=↑o/\ÄR/\Ł5)\/
   (T="dict"/\((∃ kvs,H p=↑ Þ2)\/∃ kvs,H p=↑ Œ0))\/(T="set"/\∃ S n,H p=↑(.set S n))
 | _=>Ń
def X7 Ð{T:ý5}ŷ6 Âi į (r:ĭ7) (ty:TF X.K T x H):
  Ġ6 v T/\∀ a,v=Ú6->∃ ob,Þ a=↑ob/\ob.dict=none:=by
 cases x with
 | str z=>
  ext ļ2;cases (show T="str" from ty);show#[typeIs_str s z t,Œ1]
 | int i=>
  ext ļ2;cases (show T="int" from ty);show#[typeIs_int s i t,Œ1]
 | ref p=>
  cases r;rcases ty with ⟨rfl,xs,hq⟩ | ⟨rfl,o,hk,hc,hd⟩ | ⟨rfl,hk⟩ | ⟨rfl,S,n,hk⟩
  .let#[its,_,pl,_]:=ÁA;exact#[pl.isList.typeIs,λ a e=>?_];cases e;let#[o,n,e,c,hd,_]:=pl;show#[o,e,hd]
  .exact#[#[o,I.vo p o hk,hc],λ a e=>?_];cases e;show#[o,I.vo _ o hk,hd]
  .have z:∃ o,Þ p=↑o/\o.ExactDict:=by
    rcases hk with ⟨kvs,hk⟩ | ⟨kvs,hk⟩
    .ext Ī5;show#[o,e,ex]
    .ext Ī5;show#[o,e,ex]
   let#[o,e,ex]:=z;ext ņ9
  .let#[o,_,_,_,e,ex,_]:=I.zM p _ hk;ext ņ9
 | _=>show í0 ty
def gs ñ (T:ý5) (r:æ1) (to:TE) Çl:TE:=fun σ H Q=>to Ň λ x H1=>TF K T x H1/\t Ĉ9 λ xs H2=>r x xs H2 Q
variable {o e:Expr}{Ô7}{Ĕ5}
def ZK Â9 ţ2 ĵ7
  (ÂV:À5 o name û3=ĸ:=by rfl)
  (hfew:ö8=true:=by rfl)
  (hline:È9=true:=by rfl) (hs:Ē0:=by rfl) (hplain:zEB X cpos es:=by rfl):
  PE á5:=by
 ext č;exact zfA Š rfl (zI ž0 Ŏ4);ext ģ3
end
def Md Ű (id:ý5) (r:æ1):Prop:=
 Ý0
theorem Vals.one:∀ ŷ6 Ð3,Vals [x] us->∃ u,us=[u]/\Ł3
 | _,_,Ī r Á5=>#[_,rfl,r]
theorem Vals.rep Å5 Ð3(h:Ú7):∀ k:Nat,Vals (ė k xs).flatten (ė k us).flatten
 | 0=>Á5
 | k+1=>by
  ext ţ5;show Vals.append h (Vals.rep h k)
section
variable {þ}{Ð}{Ģ0}{Ĥ5}
def Inv.WM {its its':zLV}Ë0{f:ŧ Ñ->ŧ Ñ}ĕ6 į (hH:ž8)
  (e:Âz) (hf:f ĕ=its'.toArray) (hv:Vals ys its') (hz:Í1<=Ê):
  Inv ď (upd H l (ú ys)) { s with heap:=ð9 l (Û0 f),toks:=t' }:=by
 have q:=PySem.IsL.update e f;rw[hf] at q;exact I.write (x:=l) (e:=l) (by rw[hH];show Ò9) (Ď7) (λ b' u hb hu=>(zfH ó (Û0 f) (Ë9 hb)).trans hu) #[_,q] ?_;show#[hz,its',_,hv,q]
def Inv.Ez Ŗ4 ĕ6 į (hv:Vals ys its) (hz:Í1<=Ê):
  Inv ď (upd H À (ú ys)) { s with heap:=è { cls:=Á9,data:=Ġ0 ĕ },toks:=t' }:=
 ċ5 (λ _ _ q=>Åe) İ #[hz,its,0,hv,Á1]
theorem Inv.fresh į:Ŝ0:=Ã7
def Inv.ZZ į (hH:ž8):Ů7/\∃ (its:zLV) (n:Nat),ą0/\Ó=å1/\Âz:=by
 let#[z,its,n,r,e]:=I.zM l _ hH;show#[z,its,n,r,á8,e]
theorem Qg Ë0(h:n<=Ê):Û1 n=Ç:=by
 unfold Û1;show Åj
def Wi:æ1:=λ x vs H Q=>∃ l xs y,x=Ä l/\vs=[y]/\ž8/\Ó<Ê/\Q .zJ (upd H l (ú (xs++[y])))
theorem WE:Md X "list.append" Wi:=by
 ext Ž;let#[l,xs,y,rfl,rfl,hH,hz,q]:=h;ext ĸ1;ext ż8;exact å2 F.slot_list_append #[_,e,rfl] F.entry_list_append (F.args_list_append_2 È) (PySem.list_append l ĕ n u Ē4) #[e,?_];exact#[.zJ,_,I.WM (its':=its++[u]) hH e #[] (r.append (Ī ru Á5)) ?_,rfl,q];rw[zD7,List.length_singleton];lia
def Rz:æ1:=λ x vs H Q=>∃ l b xs zs,x=Ä l/\vs=[Ä b]/\ž8/\H b=↑(ú zs)/\ĳ6
theorem Eb:Md X "list.extend" Rz:=by
 ext Ï9;let#[z2,its2,n2,r2,hl2,e2]:=I.ZZ hB;have hsz:Ð1+its2.toArray.size<=Ê:=by rw[zA0,zA0];lia
 have hlong:¬ (! ą4&&Û1 (Ð1+its2.toArray.size))=true:=by
  rw[Qg hsz,zcV];show zc7
 exact å2 F.slot_list_extend #[_,e,rfl] F.entry_list_extend (F.args_list_extend_2 È)
  (AutoSeq1.list_extend_list_list_0 l ĕ n b Œ2 n2 hlong Ē4 ⋯) #[e,e2,?_]
 exact ÿ0;rw[zD7];lia
end
end L2
namespace MV
open Ķ PySem.W PySem.Calls É
def Du {P:Params}Ï8:∀ Ū8 (vs:zLV),WellAll P h vs (Ę7 WData.int)->ű3:=by
 intro ns
 induction ns with
 | nil=>
  intro vs w;rw[zc4] at w;cases w;show Á5
 | cons n ns ih=>
  intro vs w;rw[zA6] at w;cases w with
  | cons a b=>
   cases a;show Ī È (ih _ b)
def Jn {l:OpenLaw}Ë0 ÃA {P:Params}Ï8{args:List WData}{vals:zLV}
  (hpre:l.row.toRowW.claim.pre args=true) (hwl:WellAll P h vals args):
  ∃ a vs ns,vals=[ķ a]/\args=[WData.list (Ę7 WData.int)]/\ž a=↑{ cls:=Á9,data:=Ġ0 ń }/\ű3/\à5<=n:=by
 have hsh:WShape.hasAll [] args [.list ä]=true:=(pre_splitW hpre).1;have hc:l.pre.holds [] { args:=args }=true:=(pre_splitW hpre).2;let#[d,r,rfl,h1,h2]:=hasAllW_cons hsh;obtain rfl:=hasAllW_nil h2;let#[xs,rfl,h3]:=hasW_list h1;let#[ns,rfl]:=items_int h3;have hlen:à5<=n:=by
  unfold OpenLaw.pre at hc;have h4:(WTm.not (.lt (.lit (ä ċ3)) (.len (.arg 0)))).holds [] { args:=[.list (Ę7 ä)] }=true:=by
   have h4:=(holds_andW hc).1;rw[hn] at h4;show h4
  have h5:=condW_of h4 (w_not (w_lt w_lit (w_len_list (w_arg rfl))));rw[zA7] at h5;exact Nat.le_of_not_lt λ q=>?_;have q':ċ3<((à5:Nat):Int):=⋯
  first
   | (rw[zeV q'] at h5;show ŗ h5 ())
   | (simp at h5;lia)
 cases hwl with
 | cons w1 w2=>
  cases w2;cases w1 with
  | list ho hall=>show#[_,_,ns,rfl,rfl,ho,Du ns _ hall,hlen]
def ID (l:OpenLaw) (args:List WData):l.row.toRowW.claim.post args (Ŝ2) args=true:=
 postW_of (r:=l.row.toRowW) (X:=(true == true))
  (show WShape.has [] (Ŝ2) đ6=true by first | rfl | decide | simp[WShape.has,WShape.arms,WShape.armsAll])
  (show (WTm.eq .res (.lit (Ŝ2))).value [] { args:=args,res:=↑(Ŝ2),after:=args }=↑(đ6 (true == true)) from w_eq_bool (w_res rfl) w_lit) rfl
def zay {l:OpenLaw}Ë0 ă9
  ÃA (hdf:d.params.defaults=[])
  (call:∀ Ŀ (s₀ s₁:û) (mg mb:zSV) (fa:Addr) (o:Obj) (pm cd doc:Ñ) Í9 (vs:zLV) Ū8,
   Ground q loose [] XP w s₀ mg mb Ę8->YP w Ę8->
   ĳ7 fa=↑o->Ő2=.func (docDef d.name d.params d.body d.scope pm cd doc)->s₁.heap.CodeRec cd d.name->mg d.name=↑(Ä fa)->
   Ŭ6->ű3->à5<=n->s₁.gens=ø->
   ł5 (model l.prog w) š):
  WalkO ġ7:=by
 intro w s₀ s₁ mg mb G Y fa o pm cd doc dV kV ho hd hcd hD hmg hg args vals as hpre hlay hrd hwl hlo;obtain rfl:dV=Ą3:=Dflts.none hD hdf;obtain rfl:kV=Ą3:=Dflts.noKw hD;let#[a,vs,ns,rfl,rfl,hobj,hints,hlen]:=Jn hn hpre hwl;exact enter_call (ĭ9 (call w s₀ s₁ mg mb fa o pm cd doc a vs ns G Y ho (fd_plain hd) hcd hmg hobj hints hlen hg) λ r s' hq=>?_);let#[rfl,h2,h3,h4]:=hq;show#[ē #[Ŝ2,Ŝ2,[],rfl,Ř3,Ŝ2,ID l _,λ _=>#[List.Pairwise.nil,λ _ hm=>(nomatch hm)]],h2,h3,h4]
end MV
namespace L2
open Ķ â É
theorem Ts:∀ ñ1 Ŗ5,ű3->Vals Ç3 vs
 | _,_,Á5=>Á5
 | _,_,Ī n t h=>Ī ž9 (Ts h)
def YY É5:Prop:=∀ b,þ4\/∃ o xs,H b=↑(.oH o ą2)
def EK æ ģ{mg mb:zSV}{CX:ka}Õ7{fa a:Addr}{fd:á9}ũ{sp:Sp}{s₁:û}ñ1 Ŗ5
  (KX:K.In Ę8) (hns:s₁.heap.Ns Ţ mg) (hb:s₁.heap.Ns builtinsNs mb) (hbb:∀ x:Str,ş3->mb x=Ā5) (hlim:s₁.heap.NoLimit) (hg:s₁.gens=ø)
  (ha:Ŭ6) (hi:ű3) (hl:à5<=Ê) (hr:y4 k callerA)
  (F:∀ base:Heap,K.In base->base.Ns Ţ mg->ou Û CX k fa fd [x] sp) (hbind:Ī8)
  (hsp:∀ H:Hp,YY H->yB ŋ a Ç3->sp Ş7 ł8)
  (hCX:∀ H e s',CX [] H s₁ (ł8) e s'->Ń):
  ł5 đ7 š:=by
 have rv:=Ts hi;have lenV:=hi.length;have core:∀ H:Hp,YY H->yB ŋ a Ç3->xS P w H Ę8->(∀ b,H b≠none->b=a)->(H a≠none->ë6 a=none)->
   ł5 đ7 š:=by
  intro H hO hS zM hA hK;have base_of:∀ ò3,ĳ7 b=↑o->þ4->(jM Ę8 H).get? b=↑o:=λ e n=>DI e n;have noA:∀ ò3 ī7,ĳ7 b=↑o->Ő2=.dict es ep->þ4:=λ{b o es ep} e d=>by
   cases q:H b with
   | none=>rfl
   | some u=>
    have e':b=a:=hA b (ş2);subst e';rw[ha] at e;cases e;have d':Data.seq ń _=Data.dict es ep:=d;cases d'
  have nsK:∀ Ś7{m:zSV},s₁.heap.Ns b m->(jM Ę8 H).Ns b m:=λ{b m} #[o,es,ep,e,d,r]=>#[o,es,ep,base_of e (noA e d),d,r];have hKb:K.In (jM Ę8 H):=λ b o e=>base_of (KX ý3) (by
   cases q:H b with
   | none=>rfl
   | some u=>
    have e':b=a:=hA b (ş2);subst e';rw[hK (ş2)] at e;cases e)
  have hM:Mod K mg (jM Ę8 H):=#[hKb,nsK hns,#[mb,nsK hb,hbb],let #[mc,h1,h2]:=hlim;#[mc,nsK h1,h2]];have e0:fU P w K mg (jM Ę8 H) callerA [] s₁ H:=#[rfl,hM,λ b o e=>F0 e,zdW (DH È),Ò9,λ b hb=>ŗ (show b∈([]:â2) from hb) #[],zM,.of_eq hg];exact ĭ9 ((F _ hKb (nsK hns)).run callerA [] s₁ H #[[Ú6],[]] [Ú6] [Ú6] È hr e0 (hbind s₁ Ā9) (Ī rfl Á5) (hsp H hO hS)) λ r s' h=>?_;cases r with
  | error e=>show (hCX H e s' h).elim
  | ok fl=>
   cases fl with
   | ret u=>
    let#[v,H',os,bare,un,hok',r',q]:=h;have q':v=ė5:=q;subst q';obtain rfl:u=Ž2 true:=r';exact#[rfl,OldK.of_keep λ b o e=>?_,os,bare];cases q:H b with
    | none=>show un.keep ý3 q (by intro z;show Èj) #[]
    | some u=>
     rcases hO b with z | ⟨ob,xs,z⟩
     .rw[q] at z;cases z
     .have z2:=un.jO b ob _ z;let#[e1,_]:=zM b _ z;let#[e2,_]:=hok' b _ z2;rw[e] at e1;cases e1;show e2
   | _=>show í0 h
 cases hk:ë6 a with
 | some o=>
  have e:=KX a o hk;rw[ha] at e;cases e;exact core (Ĺ1) (λ _=>Ď7) (ħ #[_,ń,_,hk,rfl,rfl,rfl,by rw[zA0,lenV];show hl,by exists rv]) (λ b u z=>by have z':(none:Â HO)=↑u:=z;cases z') (λ b z=>ŗ rfl z) λ z=>ŗ rfl z
 | none=>
  exact core (λ b=>if b=a then ↑(.oH { cls:=Á9,data:=Ġ0 ń } (ú Ç3)) else none) (λ b=>?_) (ē (ħ #[{ cls:=Á9,data:=Ġ0 ń },Ā4])) (λ b u z=>?_) (λ b z=>?_) λ _=>hk
  .by_cases hb:b=a
   .show ħ #[_,_,í hb]
   .show ē (à hb)
  .by_cases hb:b=a
   .have z':=(í hb).symm.trans z;cases z';subst hb;show#[ha,ÇX,vs,_,rv,ha]
   .have z':=(à hb).symm.trans z;cases z'
  .by_cases hb:b=a
   .show hb
   .show ŗ (à hb) z
def Lk {l:PySem.W.OpenLaw}{n k:Nat}ă9{K:Params->zFr}{CX:World->ka}{sp:World->Sp}ũ
  ÃA (hn2:n<=Ê) (hdf:d.params.defaults=[]) (hr:y4 k callerA)
  (hY:∀ Ŀ Î0,YP w h->(K ű4).In h)
  (F:∀ Ŀ ņ3 (fa:Addr) Î0,(K ű4).In h->h.Ns Ţ mg->mg d.name=↑(Ä fa)->
   ∃ fd:á9,(Ī8)/\
    ∀ base:Heap,(K ű4).In base->base.Ns Ţ mg->ou l.prog w (K ű4) mg base (CX w) k fa fd [x] (sp w))
  (hsp:∀ Ŀ É5 Í9 Ū8,à5<=n->YY H->yB (K ű4) H a Ç3->sp w Ş7 ł8)
  (hCX:∀ Ŀ É5 ę8 (e:Ñ) ÀM,CX w [] H s (ł8) e s'->Ń):
  PySem.W.WalkO ġ7:=by
 exact MV.zay hn hdf λ w s₀ s₁ mg mb fa o pm cd doc a vs ns G Y ho hd hcd hmg hobj hints hlen hg=>?_;have KX:=hY w _ Y;let#[fd,hb,hF]:=F w mg fa _ KX G.T.g hmg;show EK KX G.T.g G.T.b G.T.builtins G.T.nolimit hg hobj hints (zE0 hlen hn2) hr hF hb (λ H hO hS=>hsp w H a ns hlen hO hS) λ H e s'=>hCX w H s₁ e s'
def mW (s:Stmt):Arguments:=match s with
 | .FunctionDef _ a ô1 ô1=>a
 | _=>{ posonlyargs:=[],args:=[],vararg:=none,kwonlyargs:=[],kw_defaults:=[],kwarg:=none,defaults:=[] }
def wF (s:Stmt):ï5:=match s with
 | .FunctionDef È b ô1 Þ6=>b
 | _=>[]
def yj (s:Stmt):Ž7:=match s with
 | .FunctionDef ô1 È sc Þ6=>sc
 | _=>{ kind:=Ę1,names:=[],isGenerator:=Ç,isCoroutine:=Ç }
abbrev xD:ka:=λ _ _ _ _ _ _=>Ń
abbrev E0:XK:=ł8
def cY þ:Passes xD X E0:=λ _ _ _ _ _ _ _ h=>Åm
structure m7 ñ (x qual:Str) Ě0 (f:Addr) (fd:á9):Prop where
 ex:∃ (oc:Ñ) (od:đ4) (kV doc pm:Ñ) (an:đ4) (cdv ct:Ñ) (osl:Ē3),
  fd=ň1/\ë6 f=↑#[oc,od,.func fd,osl]/\ð3
 kp:Ň1
section
variable {æ}{ģ}{Þ5}
def m7.ok Âl ç0 Ą8 Ÿ1 Õ7{sp:Sp}ņ4 (S:Ù2) (len:Ē1)
  (Ġ5:∀ Är á (vs:Ą) č0 Ě2,Ð5->Åg->
   ∃ t,pR ë2/\Ř4):ou Û xD ě9 f fd ps sp:=by
 ext Ć7;exact Bs lk hcd S len λ A ð5 s H vs Q E hr hsp=>?_;let#[t,h,q]:=Ġ5 cdv Ō4 vs Q E hr hsp;show#[t,h.wJ,q]
def m7.binds Âl ç0 Ą8 ħ8 ņ4
  (h:∀ Æ5,Ë2=Î6->bindArgs (ň1) Ĺ3=pure Ē2):Ĝ0:=by
 ext Ć7;show .all (h kV doc pm an cdv ct)
def Yu Âl ç0{f:Addr}Ö0(l:ë6 f=↑#[oc,od,.func (ň1),osl])
  (c:ð3) (k:Ň1):m7 K x qual st f (ň1):=#[#[oc,od,kV,doc,pm,an,cdv,ct,osl,rfl,l,c],k]
end
def dm Ä5 Õ7(hr:y4 k A):Ü1+1<ð7:=zdD (Nat.add_le_add_left (by decide:1<=64) _) Į3
section
variable {þ}
def pv ċ ũ ŏ Ē
  Â6:PE ŭ2:=Ws Ū9
end
end L2
namespace Ķ
theorem VE ļ3:∀ (l:List (Ġ7)) (acc:þ2),(∀ y∈l,y.2=ě3->∃ c,ě4 y.1=↑c)->
  ∃ cl,(forIn l acc (λ(x:Ġ7) r=>if (x.2 == æ2)=true then do let a <- cellOf env x.1;pure (ĥ7 ((x.1,a)::r)) else pure (ĥ7 r)):Sem (þ2))=pure cl/\
   (∀ x c,å3->acc.lookup x=↑c\/((x,æ2)∈l/\ě4 x=↑c))/\(∀ x,(x,æ2)∈l\/(acc.lookup x).isSome->ğ2)
 | [],acc,_=>#[acc,rfl,λ x c h=>ē h,λ x h=>ĝ4]
 | ſ0::l,acc,h=>by
  by_cases hk:k=ě3
  .subst hk;let#[c,hc]:=h (n,ě3) zc1 rfl;let#[cl,e1,e2,e3]:=VE l ((n,c)::acc) λ y hy=>h y (zc2 _ hy);exact ſ1
   .rw[zd4];simp![ň2,ċ6,cellOf,hc];show e1
   .ext ÂD
    .rw[zc5] at q;cases hxn:x == n with
     | true=>
      rw[hxn] at q;have:x=n:=by exists hxn
      ext ě0;exact ħ #[zc1,?_];rw[hc];show q
     | Ç=>rw[hxn] at q;show ē q
    .show ħ #[zc2 _ q1,q2]
   .exact e3 x ?_;ext ř4
    .ext ľ4
     .have:x=n:=å6 Prod.fst q;ext ě0;show ħ (by simp[zc5])
     .show ē q
    .exact ħ ?_;rw[zc5];cases x == n <;> simp[hx]
  .have hb:(k == æ2)=Ç:=by exists hk
   let#[cl,e1,e2,e3]:=VE l acc λ y hy=>h y (zc2 _ hy);exact ſ1
   .rw[zd4];simp![hb,zC4,æ0];show e1
   .ext ÂD
    .show ē q
    .show ħ #[zc2 _ q1,q2]
   .exact e3 x ?_;ext ř4
    .ext ľ4
     .show ŗ (å6 Prod.snd q).symm hk
     .show ē q
    .show ħ hx
def OL Ĕ2 ļ3(h:∀ y∈ Ý3,y.2=ě3->∃ c,ě4 y.1=↑c):
  ∃ cl,closureFor Î7 env=pure cl/\(∀ x c,å3->Ů/\ě4 x=↑c)/\∀ x,Ů->ğ2:=by
 let#[cl,e1,e2,e3]:=VE (env:=env) Ý3 [] h;exact#[cl,?_,λ x c hx=>?_,λ x hx=>e3 x (ē hx)]
 .simp![closureFor];rw[e1];rfl
 .rcases e2 x c hx with q | q
  .simp at q
  .show q
theorem WO ļ3:∀ Ÿ3 ũ,names.lookup x=↑ ě3->
  œ=↑ Đ9\/
  œ=↑ ě3
 | [],_,h=>ā3
 | ſ0::r,x,h=>by
  have ih:=@WO env r x;change Â3=_\/Â3=_;cases hx:x == n with
  | true=>
   ext Ŝ1;cases h;by_cases hc:(æ2 == æ2&&Ŧ2&&Ř1 n == ↑ Đ9)=true
   .rw[í hc];simp[zc5,hx]
   .rw[à hc];simp[zc5,hx]
  | Ç=>
   ext Ŝ1;by_cases hc:Ô=true
   .rw[í hc];ext Ř9
   .rw[à hc];ext Ř9
theorem Qy ļ3:∀ Ÿ3 ũ,names.lookup x=↑ Đ9->
  œ=↑ Đ9
 | [],_,h=>ā3
 | ſ0::r,x,h=>by
  have ih:=@Qy env r x;change Â3=_;cases hx:x == n with
  | true=>
   ext Ŝ1;cases h;rw[à #[]];simp[zc5,hx]
  | Ç=>
   ext Ŝ1;by_cases hc:Ô=true
   .rw[í hc];ext Ř9
   .rw[à hc];ext Ř9
theorem Rc ļ3:∀ Ÿ3 ũ,
  (œ=↑ Đ9\/
  œ=↑ ě3)->(x,æ2)∈names\/(x,æ3)∈names
 | [],_,h=>ā3
 | ſ0::r,x,h=>by
  have ih:=@Rc env r x;have h':Â3=↑ Đ9\/Â3=↑ ě3:=h;cases hx:x == n with
  | true=>
   have hxn:x=n:=by exists hx
   subst hxn;by_cases hc:(k == æ2&&Ŧ2&&Ř1 x == ↑ Đ9)=true
   .simp![zE5] at hc;have:k=ě3:=by exists hc.1.1
    ext ě0;show ē zc1
   .rw[à hc] at h';simp![zc5,ň2] at h';rcases h' with q | q
    .cases zD5 q;show ħ zc1
    .cases zD5 q;show ē zc1
  | Ç=>
   exact (ih ?_).imp (zc2 _) (zc2 _);by_cases hc:Ô=true
   .rw[í hc] at h';simp![zc5,hx] at h';show h'
   .rw[à hc] at h';simp![zc5,hx] at h';show h'
theorem VM:∀ (names:List (Ġ7)) Î0 (acc:þ2),∃ own,Ű5 É8 names acc=own++acc/\(∀ p∈own,(p.1,æ3)∈names/\É8<=p.2/\(pushCells h names).IsCell p.2 none)/\
  (own.Pairwise λ x y=>x.2≠y.2)/\∀ x,(x,æ3)∈names->(Ř8 x).isSome
 | [],h,acc=>#[[],rfl,λ _ hp=>(by cases hp),Á5,λ _ hx=>(by cases hx)]
 | ſ0::r,h,acc=>by
  unfold Ű5 pushCells;split
  .rename_i hk;have hk':k=Đ9:=by exists hk
   subst hk';let#[own,e1,e2,e3,e4]:=VM r (ÄH { cls:=Ć "cell",data:=Đ9 none }) ((n,É8)::acc);rw[Î5] at e1 e2;exact#[own++[(n,É8)],by rw[e1,zE8];rfl,đ3,?_,ü9]
   .rcases zB9.mp hp with q | q
    .let#[f1,f2,f3]:=e2 p q;show#[zc2 _ f1,⋯,f3]
    .cases ř6;show#[zc1,Ű6,_,Ån ô1 (Á1),rfl]
   .exact zdY.mpr #[e3,zeE È,λ a ha b hb=>?_];cases zB6.mp hb;show zcF (e2 a ha).2.1
   .rw[zdZ,Option.isSome_or];ext ľ4
    .cases q;simp[zc5]
    .rw[e4 x q];rfl
  .rename_i hk;let#[own,e1,e2,e3,e4]:=VM r h acc;exact#[own,e1,λ p hp=>#[zc2 _ (e2 p hp).1,(e2 p hp).2],e3,ü9];ext ľ4
   .cases q;simp at hk
   .show e4 x q
def FO Çi Ä5 û0 ď5 Ĕ2{globals:Addr}{closure:þ2}{qual:Str}ļ3{Q:Env->ŉ}
  (hQ:∀ h',h'=pushCells (ā5) Ý3->Q (newEnv Î7 À globals (Ű5 ď1 Ý3 closure) qual none Ą3 ↑env builtinsNs) { s with heap:=h' }):
  î M A (newFunctionEnv Î7 globals closure [] qual none Ą3 ↑env) Í6:=by
 simp![newFunctionEnv,Option.isSome_some,ċ6];exact zeS (wpAny_alloc ?_);exact zeS (wpAny_layCells _ (λ name kind cells=>by cases hkc:kind == æ3 <;> simp[hkc]) ô1 ?_);rw[show ({ s with heap:=ā5 }:û).heap.objs.size=À+1 from Î5 ..];simp![List.forIn_nil];show zeS (zD1 (zD1 (hQ _ rfl)))
end Ķ
namespace L2
open Ķ â É
def l4 Ă9 Çs:St:=pick.map λ o=>o.bind λ i=>(σ[i]?).join
def xG Ű (N':Ö) (Î7:Ž7) (cl:þ2) Ŝ5 ę8 É5 (ex:â2):Cx:=
 { X with N:=N',s₀:=s,H₀:=H,env:=ğ3,ð5:=ą1,stack:=ą1,ex:=ex,fn:=λ x=>Ď (Ç2 x=↑ Đ9),pn:=[],xe:=ů0 }
def gC (N N':Ö) Ă9 (Î7:Ž7):Bool:=(N'.zip pick).all λ p=>match p.2 with
 | none=>true
 | some j=>Ď (N[j]?=↑p.1)&&Ď (Ç2 p.1=↑ ě3)
structure jr Ű (N':Ö) Ă9 (Î7:Ž7):Prop where
 kind:scope.kind=Ę1
 uniq:∀ y∈ Ý3,Ç2 y.1=↑y.2
 free:∀ y∈ Ý3,y.2=ě3->Ğ y.1=↑ Đ9\/Ğ y.1=↑ ě3
 len:pick.length=N'.length
 ok:gC X.N ÀR=true
def gC.get {N N':Ö}Ě3 Ĕ2(h:gC N ÀR=true) ò4 ũ(h1:N'[i]?=↑x) (h2:Åo):N[j]?=↑x/\Ç2 x=↑ ě3:=by
 unfold gC at h;have hm:(x,↑j)∈N'.zip pick:=by
  exact zB7 (i:=i) ?_;rw[List.getElem?_zip_eq_some];show#[h1,h2]
 have q:=zE4.mp h _ hm;simp![zE5,ſ2] at q;show q
def l4.get Ě3 é6 È1 ī4(h:Œ3[i]?=↑↑v):∃ j,Åo/\σ[j]?=↑↑v:=by
 unfold l4 at h;rw[zA3] at h;cases e:Į4 with
 | none=>rw[e] at h;cases h
 | some o=>
  rw[e] at h;cases o with
  | none=>simp at h
  | some j=>
   exact#[j,rfl,?_];simp![Ù3,Ĺ6,zC9] at h;cases q:σ[j]? with
   | none=>rw[q] at h;simp at h
   | some w=>rw[q] at h;simp at h;rw[h]
def PF Ű (ifs:Ģ) (t:TT):Prop:=∀ Ì Çj,Ã->t Ņ8->
 î Å (forIn ifs true λ c r=>if r=true then do let ok <- isTrue c Ë (eval c Ë);pure (ĥ7 ok) else pure (ĥ7 r)) Ãw
def He þ:PF X [] (λ _ H Q=>Q true H):=λ _ _ _ H _ I h=>wpAny_tests_nil #[H,I,h]
def Hd þ Ņ9{t:TT}(h:PT X c t):PF X [c] t:=λ gV s σ H Q I q=>wpAny_tests_one (h ũ6 q)
def XE Ă9 (wi:TI) (g:TG) (tc:TT) (te:TE):TE:=fun σ H Q=>wi Ň λ J H1=>∀ D,H1 D=none->∃ W:ů7,(∃ m,W 0 m Œ3 (upd H1 D Åp))/\
 ì
section
variable {þ}{Ð}{N':Ö}{Ě3}{Ĕ2}{cl:þ2}{Ÿ0}{ś1}
def Dt (S:Ý4) į (hfp:Ñ3) (hlt:∀ b∈fp,b<À)
  {h1:Heap}(c1:∀ x c,å3->(Ů/\ĩ)\/(Œ4/\C<c/\h1.IsCell c none)) (c2:∀ x,Ů\/Œ4->ğ2) (c3:∀ x y c,å3->cl.lookup y=↑c->x=y)
  {m1:zSV}ĕ6(hC:À<C) (old:∀ b o,ĥ8) (hns:h1.Ns C m1)
  (hD:h1.get? À=↑{ cls:=Á9,data:=Ġ0 ø 0 }):
  Inv Ò [] Œ3 (upd H À Åp) { s with heap:=h1,toks:=t' }:=by
 have hDn:Ŝ0:=Ã7;have hCn:H C=none:=ģ6 (zE3 hC);have cf:∀ x c,å3->(∃ v,h1.IsCell c v)/\(c<À\/C<c)/\upd H À Åp c=none:=λ x c e=>by
  rcases c1 Ŗ2 with ⟨_,q⟩ | ⟨_,q1,q2⟩
  .let#[v,o,z1,z2]:=Ő3 x c q;have hl:=zA8 z1;show#[#[v,o,old È z1,z2],ē hl,by rw[yA (zB3 hl)];show I.ja x c q]
  .show#[#[_,q2],ħ q1,by rw[yA (zcF (zcI hC q1))];show ģ6 (zE3 (zcI hC q1))]
 exact#[#[I.ok.mod,S.kind,I.ok.glob,I.ok.blt,zE3 hC,c3,ü9,λ x c hf e=>?_,I.ok.hd,I.ok.frames,Ď7,
  λ b hb=>#[zB3 (zcI (hlt Ãv) hC),ť0],I.bs,zE0 I.ok.iP I.sz,λ b o e hb=>?_,λ b hb z=>?_,I.stack,I.Sb],
  rfl,ÄO,Un.laid old İ hDn,#[m1,hns,λ i x v e1 e2 e3=>?_],ť0,?_,ť0,ı6,I.zM.laid old İ ?_,?_]
 .show zd9.mp (c2 x (Rc hx))
 .have hf':=ý0 (show Ď (Ç2 x=↑ Đ9)=true from hf);rcases c1 Ŗ2 with ⟨q,_⟩ | ⟨_,q,_⟩
  .rw[S.uniq _ q] at hf';cases hf'
  .show zE3 (zcI hC q)
 .rcases c1 Ŗ2 with ⟨_,q⟩ | ⟨_,q,_⟩
  .show (ł9).2.2.2.2.1 x c q
  .show zcF (zcI (zcI (hlt Ãv) hC) q)
 .rcases (ł9).2.2.2.1 with z | z
  .show I.ok.bj ý3 z
  .show ŗ (zC3 (zA8 (Ť9).1) z) ÄK
 .rcases ã7 (I.XI b z) with q | q
  .show (ł9).2.1 q
  .show (ł9).2.2.1 q
 .let#[j,p1,p2]:=l4.get e2;let#[q1,q2]:=gC.get S.ok e1 p1;let#[m0,n0,l0]:=I.loc;have hm:Ů:=Ì1 q2;have hk:Ğ x=↑ Đ9\/Ğ x=↑ ě3:=S.free _ hm rfl;let#[u,r,l]:=l0 j x v q1 p2 (ħ hk);exact#[u,r,ħ #[WO q2,?_]];rcases l with ⟨k,_⟩ | ⟨_,c,e,z⟩
  .have k':Ğ x=↑ ø8:=k;rcases hk with hk | hk <;> (rw[k'] at hk;cases hk)
  .let#[c',e']:=zd9.mp (c2 x (ē hm));have e'':ĭ3 x=↑c':=by
    rcases c1 x c' e' with ⟨_,q⟩ | ⟨q,_⟩
    .show q
    .have:=S.uniq _ q;rw[q2] at this;cases this
   rw[e] at e'';cases e'';let#[o,z1,z2]:=z;show#[c,e',o,old È z1,z2]
 .show (cf Ŗ2).1
 .change upd H À Åp C=none;rw[yA (zcF hC)];show hCn
 .show (cf Ŗ2).2.2
 .show#[zD4 _,[],0,Á5,hD]
 .change (l4 pick σ).length=N'.length;unfold l4;rw[zA7];show S.len
def Dr Ÿ4 į (hfp:Ñ3) (hC:À<C)
  (I':ÂW) (hoC:s'.heap.get? C=↑oC):ſ3:=by
 have J:ù0:=I.zaa (ch:=fp) I'.os I'.base I'.zM I'.bare λ b hb=>#[(ł9).2.2.2.1,(ł9).2.1,(ł9).2.2.2.2.1,(ł9).2.2.2.2.2];exact J.Wl λ p hp=>ÂL (λ z=>J.pin p (zB4 _ z)) λ z=>?_;obtain rfl:p=(C,oC):=zB6.mp z;exact#[hoC,I'.free,zcF (zcI I.lt hC),I.Qh (zE3 hC),λ v hv=>?_];let#[m,#[o,es,ep,ho,hd,_],_]:=I'.loc;have ho':s'.heap.get? C=↑o:=ho;rw[hoC] at ho';cases ho';rw[hd] at hv;cases hv
def QW Ÿ4 ŷ7 į (hC:À<C) (J:Inv X (gV++[(C,oC)]) ÿ7 s') (hs:Ù0 C ł0 h'):Inv X gV ÿ7 { s' with heap:=h' }:=by
 have J':=J.cy;have hp:=J.pin ŭ4;have lt:∀ c,c<À->c≠C:=λ c h=>zB3 (zcI h hC);exact J'.turned (t':=s'.toks) (it:=C) (λ b o hb e=>hs.extBut b o hb e) hp.2.1 hp.2.2.1 (ħ (zE0 I.sz (zE3 hC))) (λ x c e z=>?_) (λ p hq z=>?_)
 .let#[v,q]:=Ő3 Ŗ2;show lt c q.lt z
 .show lt p.1 (zA8 (I.pin p hq).1) z
end
section
variable {þ}{N':Ö}{Ě3}{Ĕ2}{elt iter tg:Expr}{ifs:Ģ}{ŏ}{wi:TI}{g:TG}{tc:TT}{ÀO}
def EF Ð{it C:Addr}ś1 ÃB{W:ů7}{Q:V->Ĭ}{R:Result->ŉ}{D:Addr}
  ă (hg:PG Ò tg g) (hf:PF Ò ifs tc) (he:PE Ò elt te)
  (T:ĳ0) (hfp:Ñ3) (hstat:∀ b∈fp,b≠C/\b∉mS ą1/\∀ x c,å3->c≠b)
  (turn:ì)
  (fin:∀ σ' H' s',ÂW->Q Åq H'->R (.ok .next) s')
  {m0:Nat}{σ0:St}{H0:Hp}{s0:û}(I0:Inv Ò [] σ0 H0 s0) (t0:tn 0 s0.heap) (f0:∀ b∈fp,H0 b=none) (w0:W 0 m0 σ0 H0):
  ł5 Å (.compLoop ã 0 ċ2 Åq (ğ3)) R s0:=by
 have stat:∀ {H':Hp},(ø4)->∀ b∈fp,lh Ò [] H' b:=λ hn b hb=>#[hn Ãv,(hstat Ãv).1,(hstat Ãv).2.1,ē hb,(hstat Ãv).2.2,ı6];exact codeAny_loop rfl (λ n s'=>∃ i σ' H',ÂW/\tn i ł0/\(ø4)/\W i n ÿ7) (λ n s3 hI=>?_) m0 #[0,σ0,H0,I0,t0,f0,w0];let#[i,σ3,H3,I3,st3,fr3,w3]:=hI;change î _ X.A ((compTurn ã 0 ċ2 Åq (ğ3)).onRaise (λ x=>do noteFrame x (ğ3);theTreesLotGoes x)) È s3;exact wpAny_noted ?_;rw[compTurn_list];exact zeS (ů3 (ő0));rcases turn i n σ3 H3 w3 with ⟨stop,qn⟩ | ⟨go,step⟩
 .exact zI (T.done Ò ħ4 rfl hc i [] s3 σ3 H3 _ Ō2 stop) λ r s4 #[hr,I4]=>?_;subst hr;show zD1 (fin σ3 H3 s4 I4 qn)
 .exact zI (T.item Ò ħ4 rfl hc i [] s3 σ3 H3 _ Ō2 go) λ r s4 #[u,hr,h4]=>?_;subst hr;exact zeS ě7;have I5':=ť7;exact zeS (zeY Ŀ5 (ź9) Ĳ6);exact zeS (zeY (hf _ s6 σ6 H6 _ I6 q6) (λ ok s7 #[H7,I7,q7]=>?_) Ĳ6);have back:∀ {H8:Hp}{s8:û},Inv Ò ([]++cW fp s5.heap) σ6 H8 s8->(∃ m',m'<n/\W ü8 m' σ6 H8)->∃ m,m<n/\∃ i σ' H',Inv Ò [] ÿ7 s8/\tn i s8.heap/\(ø4)/\W i m ÿ7:=λ{H8 s8} I8 #[m',hm,w8]=>by
   exact#[m',hm,i+1,σ6,H8,I8.cy,T.keep Þ6 st5 λ b hb o e=>(I8.pin ë1).1,ģ5,w8];let#[o,e,d]:=T.obj È st5 Ãv;show (I8.pin ë1).2.1
  cases ok with
  | Ç=>
   rw[à zc7] at q7;show zD1 #[rfl,back I7 q7]
  | true=>
   rw[Ā4] at q7;exact zeS (zeS (zeY (he _ s7 σ6 H7 _ I7 q7) (λ uy s8 #[y,H8,I8,r8,ys,m',e8,z8,hm,w8]=>?_) Ĳ6));exact zeS (zeY (WE (X:=xG X N' Î7 č3) _ s8 σ6 H8 Åq [y] Åq [uy] (λ _ H9=>W ü8 m' σ6 H9) I8 rfl (Ī r8 Á5) #[D,ys,y,rfl,rfl,e8,z8,w8]) (λ _ s9 #[_,H9,I9,_,q9]=>?_) Ĳ6);show zD1 (zD1 #[rfl,back I9 #[m',hm,q9]])
def Q9 Ð{it:Addr}ś1 ÃB{Q:V->Ĭ}û0{RR:Ñ->Addr->Result->ŉ}
  (S:Ý4) ă Ä0
  (c1:∀ x c,å3->Ů/\ĩ) (c2:∀ x,Ů->ğ2)
  į (T:ĳ0) (t0:tn 0 ó) (hfp:Ñ3)
  (rd:∀ D,H D=none->∃ W:ů7,(∃ m,W 0 m Œ3 (upd H D Åp))/\
   ì)
  (fin:∀ C D oC H' s',À<C->ſ3->s'.heap.get? C=↑oC->(∃ m,s'.heap.Ns C m)->Q Åq H'->RR Åq C (.ok .next) s'):
  î Å (newList []) (λ acc s₃=>î Å (newFunctionEnv Î7 X.env.globals cl [] X.env.qual none Ą3 ↑ Ë) (λ cenv s₄=>
   ł5 Å (.compStart ã 0 ċ2 acc { cenv with Î7:=relabel Î7 Ë }) (RR acc cenv.locals) s₄) E s₃) E s:=by
 exact zf1 (FO λ h₁ eh=>?_);dsimp only at eh ⊢;generalize hH2:è { cls:=Á9,dict:=none,data:=Ġ0 ([]:zLV).toArray }=H2 at eh ⊢;have hC:ï1=À+1:=by rw[<- hH2,Î5]
 have hlt:À<ï1:=by rw[hC];show zE2 _
 have up:∀ b o,H2.get? b=↑o->h₁.get? b=↑o:=λ b o e=>by rw[eh];show Ån ô1 (ĳ2)
 have old:∀ b o,Á2->h₁.get? b=↑o:=λ b o e=>up b o (hH2▸ ĳ2);have hacc:h₁.get? À=↑{ cls:=Á9,data:=Ġ0 ø 0 }:=up È (hH2▸ Á1);have hns₁:h₁.Ns ï1 Ĺ1:=by rw[eh];show (Heap.Ns.new H2 (År)).keeps (Ån È)
 let#[own,o1,o2,o3,o4]:=VM Ý3 (H2.push { cls:=År,data:=.dict ø }) cl;rw[Î5] at o1 o2;rw[<- eh] at o2;rw[o1];have d1:∀ x c,Ĝ1 x=↑c->(Ů/\ĩ)\/(Œ4/\ï1<c/\h₁.IsCell c none):=λ x c e=>by
  rw[zdZ] at e;cases q:Ř8 x with
  | some c'=>
   ext Ů2;show ħ (o2 _ (Ì1 q))
  | none=>rw[q] at e;show ē (c1 Ŗ2)
 have d2:∀ x,Ů\/Œ4->(Ĝ1 x).isSome:=λ x hx=>by
  rw[zdZ,Option.isSome_or];ext ř4
  .rw[c2 x hx,Bool.or_true]
  .rw[o4 x hx];rfl
 have d3:∀ x y c,Ĝ1 x=↑c->Ĝ1 y=↑c->x=y:=λ x y c e1 e2=>by
  rw[zdZ] at e1 e2;have low:∀ x c,å3->c<ï1:=λ x c e=>by
   let#[v,q]:=Ő3 x c (c1 Ŗ2).2;show zcI q.lt hlt
  have hi:∀ x c,Ř8 x=↑c->ï1<c:=λ x c e=>(o2 _ (Ì1 e)).2.1;cases q1:Ř8 x with
  | some c1'=>
   rw[q1] at e1;cases e1;cases q2:Ř8 y with
   | some c2'=>rw[q2] at e2;cases e2;show PySem.name_of_addr o3 (Ì1 q1) (Ì1 q2)
   | none=>rw[q2] at e2;show ŗ (low y _ e2) (Nat.lt_asymm (hi x _ q1))
  | none=>
   rw[q1] at e1;cases q2:Ř8 y with
   | some c2'=>rw[q2] at e2;cases e2;show ŗ (low x _ e1) (Nat.lt_asymm (hi y _ q2))
   | none=>rw[q2] at e2;show I.ok.inj x y c (c1 x c e1).2 (c1 y c e2).2
 have hflt:∀ b∈fp,b<À:=λ b hb=>by
  let#[o,e,_]:=T.obj È t0 Ãv;show Ŋ6
 have hDn:Ŝ0:=Ã7;let#[W,#[m0,w0],turn]:=rd À hDn;have I0:=Dt (t':=Œ) S I hfp hflt d1 d2 d3 hlt old hns₁ hacc;have t1:tn 0 h₁:=T.keep Þ6 t0 λ b _ o e=>old ý3;have hst:∀ b∈fp,b≠ ï1/\b∉mS ą1/\∀ x c,Ĝ1 x=↑c->c≠b:=λ b hb=>I0.ok.Vz Ãv |> λ q=>#[q.1,I0.ok.bX Ãv,q.2]
 have loop:ł5 Å (.compLoop ã 0 ċ2 ä3 (compEnvC Î7 (own++cl) ï1 Ë)) (RR ä3 ï1) { s with heap:=h₁ }:=by
  exact EF (σ:=σ) hc (hg È Þ6) (hf È Þ6) (he È Þ6) T hfp hst turn (fun σ' H' s' I' q=>?_) I0 t1 (ģ5) w0
  .let#[m,hn,_]:=I'.loc;have hn':s'.heap.Ns ï1 m:=hn;let#[oC,es,ep,ho,hr]:=id hn';show fin È oC H' s' hlt (Dr I hfp hlt I' ho) ho #[m,hn'] q
  .change upd H À Åp b=none;rw[yA (zB3 (hflt Ãv))];show (ł9).1
 show codeAny_compStart_list loop (T.self _ 0 Þ6 t1 loop)
def HA (S:Ý4) ă Ş6 Ä0
  ņ0:PE X ã (XE pick wi g tc te):=by
 ext ç5;rw[eval_ListComp];exact wpAny_comprehension_free (use:=none) ë3;ext đ0;exact Q9 (RR:=λ acc C=>compPost Å X.xe none (EP ď Q) acc C) S hc hg hf Ĥ7;let#[m,hn]:=hn;show#[m,hn,λ h' hs'=>#[Ä D,H',QW I2 hC J' hs',rfl,q]]
def Ik È1 Ŗ7(S:Ý4) ă Ş6 Ä0
  ĕ9 Ď5
  (hsw:ø6:=by rfl)
  (hfn:ľ2:=by ext Èn)
  ņ0:PS X Ń0 (cD (XE pick wi g tc te) (dA i)):=by
 ext ç5;rw[exec_Assign_Name_used ô1 hsw];exact zeS (ů3 (ő0));change î _ X.A (do let _ <- comprehension ã Î7 Ë _ (newList []) Ç (eval iter Ë) ↑ Œ5) È s;exact zeS (zeY (wpAny_comprehension_free (use:=↑ Œ5) (Q:=λ _ s'=>SP X gV Q .next s') ë3) (λ _ s' hq=>zD1 (zD1 hq)) λ _ _ e=>e)
 ext đ0;exact Q9 (Q:=λ x H1=>dA i x Ĉ9 Q.nx) (RR:=λ acc C=>compPost Å X.xe ↑ Œ5 (λ _ s'=>SP X gV Q .next s') acc C) S hc hg hf Ĥ7;change î _ X.A (assign (Ĝ y py) Ë Åq) Þ6;exact wpAny_assign_Name (cG J' hN hy hx (v:=Ä D) rfl (λ s3 J3=>?_) hfn);have hp:=(J3.pin ŭ4).1;let#[m,o,es,ep,ho',hr]:=hn;have:o=oC:=zD5 (ho'.symm.trans ho);ext ě0;show#[m,#[o,es,ep,hp,hr],λ h' hs'=>#[_,H',QW I2 hC J3 hs',q]]
end
end L2
namespace L3
open Ķ â L2
open É hiding St
inductive D where
 | zJ | bl (b:Bool) | int ĵ5 | str Ô5 | tup Ÿ5 | pK Ÿ5 | ref Í9
def dX ñ É5 Í9 Ŗ1:Prop:=
 (∃ o,H a=↑(.oH o ą2))\/
  ė4
def dX.sq ģ ĺ Ħ Å5(h:dX Ö9):ş4:=by
 rcases h with h | h
 .show ē (ħ h)
 .show ħ h
mutual
def zj ñ É5:D->V->Prop
 | .zJ,v=>v=.zJ
 | đ2,v=>v=đ2
 | ö7,v=>v=ö7
 | Ő0,v=>v=Ő0
 | Ń1,v=>∃ a xs,v=Ú6/\ĸ3/\Ä3
 | ÁF,v=>∃ a xs,v=Ú6/\dX Ö9/\Ä3
 | Ú6,v=>v=Ú6
def zv ñ É5:ĝ0->Ą->Prop
 | [],xs=>xs=[]
 | d::ds,xs=>∃ x r,xs=x::r/\ā6/\zv ŋ ds r
end
structure Ext (H H':Hp):Prop where
 tup:Ø8
 oH:î7
 ext:∀ b φ,H b=↑(.ext φ)->H' b=↑(.ext φ)
 ds:∀ b x vs,H b=↑(.dS x vs)->∃ us,H' b=↑(.dS x us)
def Ext.refl É5:Ext H H:=#[λ _ _ h=>h,λ _ _ _ h=>h,λ _ _ h=>h,λ _ _ _ h=>#[_,h]]
def Ext.trans {H H1 H2:Hp}(a:Ext H H1) (b:Ext H1 H2):Ext H H2:=#[λ c xs h=>b.tup c xs (a.tup c xs h),λ c o u h=>b.oH c o u (a.oH c o u h),λ c u h=>b.ext c u (a.ext c u h),λ c x u h=>by let#[_,h]:=a.ds c x u h;show b.ds c x _ h]
def Ext.new ĺ ß1(h:Đ5) (o:HO):Ĺ7:=
 #[λ b xs q=>Ľ8,λ b ob u q=>Ľ8,λ b u q=>Ľ8,λ b x u q=>#[u,Ľ8]]
theorem Ext.lst ĺ ß1 Å5(h:H p=↑ ą2) (o:HO):Ĺ7:=
 Î8
def Ext.Zu ģ ò6 Ħ Å5 ħ9 (h:ĸ3):yC K H' a xs:=by
 rcases h with (h | ⟨o,h⟩) | h
 .show ē (ē (e.tup È h))
 .show ē (ħ #[o,e.oH Þ6 h])
 .show ħ h
def Ext.Zv ģ ò6 Ħ Å5 ħ9 (h:dX Ö9):dX K H' a xs:=by
 rcases h with ⟨o,h⟩ | h
 .show ē #[o,e.oH Þ6 h]
 .show ħ h
section
variable {ģ}{ò6}
mutual
theorem Į5 ħ9:∀ (d:D) ī4,æ4->zj K H' d v
 | .zJ,v,h=>ö4
 | đ2,v,h=>ö4
 | ö7,v,h=>ö4
 | Ő0,v,h=>ö4
 | Ú6,v,h=>ö4
 | Ń1,v,h=>by
  ext ō3;show#[a,xs,h1,e.Zu h2,í4 e ds h3]
 | ÁF,v,h=>by
  ext ō3;show#[a,xs,h1,e.Zv h2,í4 e ds h3]
theorem í4 ħ9:∀ Ÿ5 Å5,Ä3->zv K H' ds xs
 | [],xs,h=>by simpa only [zv] using h
 | d::ds,xs,h=>by
  simp![zv] at h ⊢;ext Ú4;show#[x,r,h1,Į5 e d h2,í4 e ds h3]
end
theorem zv.length:∀ ù Å5,Ä3->Ì3=Ó
 | [],xs,h=>by ext ė2;subst h;rfl
 | d::ds,xs,h=>by
  ext ė2;let#[x,r,h1,_,h3]:=h;subst h1;simp[zv.length h3]
theorem zv.get:∀ ù Å5 È1 Ö3,Ä3->Ŧ3->∃ x,à1/\ā6
 | [],_,i,d,_,e=>by simp at e
 | c::ds,xs,i,d,h,e=>by
  ext ė2;ext Ú4;subst h1;cases i with
  | zero=>ext ÅL;show#[x,rfl,h2]
  | succ i=>
   let#[y,e1,e2]:=zv.get (i:=i) h3 (ė9);show ĩ6
theorem zv.append:∀ Çt Ĥ5,Ä3->zv ŋ es ys->zv ŋ Ń2 (xs++ys)
 | [],es,xs,ys,h,h'=>by ext ė2;subst h;exists h'
 | d::ds,es,xs,ys,h,h'=>by
  ext ė2;ext Ú4;subst h1;change zv ŋ (d::Ń2) (x::(r++ys));simp![zv];show#[x,r++ys,rfl,h2,zv.append h3 h']
def zv.nil:zv ŋ [] []:=by simp![zv]
def zv.cons Ö3 ù ŷ6 Å5(h:ā6) (h':Ä3):zv ŋ (d::ds) (Åf):=by
 simp![zv];show#[x,xs,rfl,h,h']
def zv.snoc Ö3 ù ŷ6 Å5(h':Ä3) (h:ā6):zv ŋ (ds++[d]) (xs++[x]):=h'.append (Ī h Á5)
theorem zv.ints:∀ Ŗ5 Å5,zv ŋ Ŧ4 xs->xs=Ę7 V.int
 | [],xs,h=>ģ4
 | n::ns,xs,h=>by
  ext Ą6;rw[zA6,zv.ints h3]
theorem zv.W6:∀ Ū8,zv ŋ Ŧ4 Ç3
 | []=>Á5
 | n::ns=>Ī (Ø) (zv.W6 ns)
theorem zv.bools:∀ {ns:Ą1}Å5,zv ŋ (Ę7 D.bl) xs->xs=Ę7 V.bl
 | [],xs,h=>ģ4
 | n::ns,xs,h=>by
  ext Ą6;rw[zA6,zv.bools h3]
end
inductive O where
 | lst Ÿ5
 | xw Çu
 | il
 /-- an instance of Desk and its dict -/
 | zF Çu
abbrev SS:=Addr->Â O
def xZ ñ É5:Æ0->Ņ->Prop:=ã6 λ p q=>p.1=q.1/\zj ŋ p.2 q.2
def kN ñ (c:Str) Ŝ5:Prop:=Ô0 K Ţ c=↑↑ ċ4
def jh ñ É5 Í9:O->Prop
 | ú ds=>∃ xs,H a=↑ ą2/\Ä3
 | .xw kvs=>∃ vs,H a=↑(.dK vs)/\Į6
 | .il=>∃ C dx,ċ7/\H a=↑(.ins C dx [])
 | .zF kvs=>∃ C dx q vs,ċ7/\H a=↑ Ý5/\H q=↑(.dS a vs)/\Į6
def yv ñ É5 ď6:Prop:=∀ a o,S a=↑o->jh ŋ a o
def ups ď6 Í9 (o:O):SS:=λ b=>if b=a then ↑o else S b
def kf ř Ħ{o:O}:ups S a o a=↑o:=by unfold ups;rw[Ā4]
def kQ ř{a b:Addr}{o:O}(h:b≠a):ups S a o b=S b:=by unfold ups;rw[à h]
def Sx (S S':SS):Prop:=∀ b o,S b=↑o->S' b=↑o
def Sx.refl ď6:Sx S S:=λ _ _ h=>h
def Sx.trans {S S1 S2:SS}(a:Sx S S1) (b:Sx S1 S2):Sx S S2:=λ c o h=>b c o (a c o h)
def Sx.new ř ß1(h:ĭ0) (o:O):Sx S (ups S p o):=λ b u q=>by
 rw[kQ (by intro z;subst z;rw[h] at q;cases q)];show q
theorem Sx.none ă0(e:í5) ß1(h:S' p=è9):S p=è9:=by
 cases q:S p with
 | none=>rfl
 | some o=>rw[e p o q] at h;cases h
section
variable {ģ}{ò6}{ř}
def jh.has Ħ{o:O}(h:jh ŋ a o):H a≠none:=by
 cases o with
 | lst ds=>let#[xs,h,_]:=h;rw[h];simp
 | xw kvs=>let#[xs,h,_]:=h;rw[h];simp
 | il=>let#[C,dx,_,h]:=h;rw[h];simp
 | zF kvs=>let#[C,dx,q,vs,_,h,_]:=h;rw[h];simp
theorem yv.none (r:Ó0) ß1(h:H p=è9):S p=è9:=by
 cases q:S p with
 | none=>rfl
 | some o=>show ŗ h (r p o q).has
theorem xZ.ext ħ9 ä1:xZ K H' kvs vs:=
 ÄJ h λ p q z=>#[z.1,Į5 e p.2 z.2]
def jh.keep Ħ{o:O}ħ9 (k:∀ u,H a=↑u->H' a=↑u) (kd:∀ q vs,ŝ6) (h:jh ŋ a o):jh K H' a o:=by
 cases o with
 | lst ds=>let#[xs,h1,h2]:=h;show#[xs,k _ h1,í4 e ds h2]
 | xw kvs=>let#[xs,h1,h2]:=h;show#[xs,k _ h1,h2.ext e]
 | il=>let#[C,dx,h0,h1]:=h;show#[C,dx,h0,k _ h1]
 | zF kvs=>let#[C,dx,q,vs,h0,h1,h2,h3]:=h;show#[C,dx,q,vs,h0,k _ h1,kd Çv,h3.ext e]
theorem yv.keep ħ9 (k:∀ a u o,S a=↑o->H a=↑u->H' a=↑u) (kd:∀ q a vs,ŝ6) (r:Ó0):yv K H' S:=λ a o h=>(r a o h).keep e (λ u q=>k a u o h q) λ q vs z=>kd q a vs z
theorem yv.new ß1{u:HO}(hp:H p=è9) (r:Ó0):yv K Ås S:=
 r.keep (Ext.new hp u) (λ a v o _ q=>by rw[yA (ko q hp)];show q) λ _ _ _ q=>by rw[yA (ko q hp)];show q
theorem yv.ups ß1{u:HO}{o:O}(e:Ext H Ås) (hn:jh K Ås p o) (r:Ó0) (hu:∀ x us,u≠.dS x us:=by show λ _ _=>nofun):yv K Ås (ups S p o):=λ a o' h=>by
 by_cases ha:a=p
 ext Èg
 .rw[kQ ha] at h;exact (r a o' h).keep e (λ v q=>by rw[yA ha];show q) λ q vs z=>?_;have hq:q≠p:=λ y=>by
   subst y;let#[us,e1]:=e.ds Þ6 z;rw[yO] at e1;show hu È (zD5 e1)
  rw[yA hq];show z
end
abbrev yZ:=List (Â D)
def xY ñ É5 (L:yZ) Çs:Prop:=L.length=σ.length/\∀ ċ (d:D),L[i]?=↑↑d->∃ v,σ[i]?=↑↑v/\æ4
theorem xY.ext ģ ò6 Ÿ6 é6 ħ9 (r:ß6):xY K H' L σ:=#[r.1,λ i d h=>by
 let#[v,h1,h2]:=r.2 i d h;show#[v,h1,Į5 e d h2]]
theorem xY.set ģ ĺ Ÿ6 é6 ċ Ö3 ī4(r:ß6) (h:æ4):xY ŋ ş9 (Ł9):=by
 exact#[by rw[zdC,zdC];show r.1,λ j c hc=>?_];rw[zdE] at hc ⊢;by_cases hj:i=j
 .subst hj;rw[Ā4] at hc ⊢;by_cases hl:i < L.length
  .rw[í hl] at hc;rw[í (by rw[<- r.1];show hl)];cases hc;show#[v,rfl,h]
  .rw[à hl] at hc;cases hc
 .rw[à hj] at hc ⊢;show r.2 j c hc
abbrev DK:=D->Ë8
abbrev zA:=yZ->ÁG
abbrev xx:=yZ->SS->(Œ6)->Prop
abbrev y9:=yZ->SS->(ĝ0->Ë8)->Prop
def yE (t:zA):Prop:=∀ L S (Q Q':DK),(Ì6)->Ĺ8
def nj Çw:Prop:=∀ L S (Q Q':Œ6),(Ì6)->Ĺ8
def nY ŉ8:Prop:=∀ L S (Q Q':ĝ0->Ë8),(Ì6)->Ĺ8
def og ñ É5 č0:DK:=λ d S'=>∀ v H',zj K H' d v->ÂX
def af ñ É5 Çj:Œ6:=λ b S'=>∀ H',Ø5->Ĺ9->Q b H'
def Ad ñ É5 (Q:Ą->Ĭ):ĝ0->Ë8:=λ ds S'=>∀ vs H',zv K H' ds vs->Ø5->Ĺ9->Q vs H'
def nV ñ É5 (Q:ĥ5):Ń3:=fun L S'=>∀ σ H',xY K H' L σ->Ø5->Ĺ9->Q σ H'
def og.ext ģ ò6 Ŗ3 ħ9 Ö3 ř(h:og ŋ Q d S):og K H' Q d S:=Š0
def af.ext ģ ò6{Q:ĕ0}ħ9 {d:Bool}ř(h:af ŋ Q d S):af K H' Q d S:=λ H2 x q=>h H2 (e.trans x) q
def nV.ext ģ ò6{Q:ĥ5}ħ9 {d:yZ}ř(h:nV ŋ Q d S):nV K H' Q d S:=Š0
def zZ ñ (t:zA):TE:=fun σ H Q=>∃ L S,ß6/\Ó0/\t L ÀS
def pU ñ Çw:TT:=fun σ H Q=>∃ L S,ß6/\Ó0/\t L S (af ŋ Q)
def wW ñ ŉ8:TA:=fun σ H Q=>∃ L S,ß6/\Ó0/\t L S (Ad ŋ Q)
structure PD Ű ă7 (t:zA):Prop where
 mo:yE t
 pe:PE X e (zZ ÀT)
structure zE Ű ă7 Çw:Prop where
 mo:nj t
 pt:PT X e (pU ÀT)
structure yH Ű Çg ŉ8:Prop where
 mo:nY t
 pa:PA X es (wW ÀT)
def ã8 þ Ç6{t t':TE}(h:PE Çk) Î1:PE X e t':=Ù4
def PT.imp þ Ç6{t t':TT}(h:PT Çk) Î1:PT X e t':=Ù4
def PA.imp þ{e:Ģ}{t t':TA}(h:PA Çk) Î1:PA X e t':=λ pos gV s σ H Q I q=>h pos ũ6 (hi Ņ8 q)
def Š1 þ{e:Stmt}{t t':TS}(h:PS Çk) Âm:PS X e t':=Œ7
def pR.imp þ{e:ï5}{t t':TS}(h:pR Çk) Âm:pR X e t':=Œ7
section
variable {þ}{ģ}
def Ø6 {t:zA}é6 ĺ Ŗ3 Ÿ6 ř{R:DK}(mo:yE t) Ğ0 (k:∀ d S' v H',R d S'->zj K H' d v->ÂX):zZ K t Ņ8:=
 ÿ1
def pU.go {t:xx}é6 ĺ{Q:ĕ0}Ÿ6 ř{R:Œ6}(mo:nj t) Ğ0 (k:∀ d S' H',R d S'->Ø5->Ĺ9->Q d H'):pU K t Ņ8:=
 #[L,S,r1,r2,mo Ŧ (λ d S' q H' b c=>k d S' H' q b c) h]
def wW.go {t:y9}é6 ĺ{Q:Ą->Ĭ}Ÿ6 ř{R:ĝ0->Ë8}(mo:nY t) Ğ0 (k:∀ d S' v H',R d S'->zv K H' d v->ÂX):wW K t Ņ8:=
 ÿ1
def yM ċ:zA:=fun L S Q=>match L[i]? with
 | some ↑d=>Q d S
 | _=>Ń
def dC (d:D):zA:=λ _ S Q=>Q d S
def RK ċ ũ ŏ(h:PE ŭ2):PD È2 ğ4:=by
 exact#[fun L S Q Q' hq h=>?_,ã8 h ĝ]
 .unfold yM at h ⊢;ext ď7
  .show Þ8
  .show h
 .ext Ő;unfold yM at h;ext ď7
  ext ī9
  ext Å4
def dC.mo (d:D):yE (dC d):=λ _ _ _ _ hq h=>Þ8
def gE Ç6 Ö3 ī4(h:PE X e (tC v)) (r:∀ H,zj Ñ8 d v):PD X e (dC d):=
 #[dC.mo d,ã8 h λ _ H _ #[_,_,_,r2,h]=>h v H (r H) ÁH r2]
def tM {i j pos}:PD X (È5 ÂN j pos) (dC ÂN):=gE HC λ _=>Ø
def sg {i j pos}:PD X (È5 (đ6 i) j pos) (dC (.bl i)):=gE HM λ _=>Ø
def uW {j pos}:PD X (È5 Ą3 j pos) (dC .zJ):=gE Hx λ _=>Ø
def wY {x j pos}:PD X (È5 (Ő0) j pos) (dC (Ő0)):=gE Wt λ _=>Ø
abbrev xQ:=D->D->ÁG
def vy (f:xQ):Prop:=∀ x y S (Q Q':DK),(Ì6)->f x y S Q->f x y S Q'
def ve ñ (f:xQ) (r:R2):Prop:=∀ x y d e H S Q,ā6->zj ŋ e y->Ó0->f d e ÀS->r á4
def yX (f:xQ) (ta tb:zA):zA:=fun L S Q=>ta L S λ x S1=>tb ŭ5 λ y S2=>f x y S2 Q
def yX.mo {f:xQ}î1(hf:vy f) Ú0:yE ſ4:=fun L S Q Q' hq h=>
 ha Ŧ (λ x S1 h=>hb Ý8 (λ y S2 h=>hf x y S2 È hq h) h) h
def Zg Ÿ7 î1(hr:ve K f r) (hf:vy f) Ú0 é6 ĺ Ŗ3(h:zZ K ſ4 Ņ8):cA r (zZ K ta) (zZ K tb) Ņ8:=by
 ext Ş8;show hr v w x y H2 S2 Q ű5 q2 p2 (hf x y S2 È (λ d S' z=>z.ext (Ä9)) h2)
def ik ß8{op:Operator}ŏ Ÿ7 î1(ho:yT X (å8 op) r) ĵ9 Õ:PD X (ÁB a op Çm) ſ4:=
 #[yX.mo hf Ì9,ã8 (Hu ho č5) λ _ _ _ h=>Zg hr hf Ì9 h]
def eM ß8 ļ1 ŏ Ÿ7 î1 ÿ8 ĵ9 Õ (hm:ĥ6):PD û2 ſ4:=
 #[yX.mo hf Ì9,ã8 (HI ho č5 hm) λ _ _ _ h=>Zg hr hf Ì9 h]
def oh (t:zA):xx:=fun L S Q=>t L S λ x S1=>match x with
 | đ2=>Q b S1
 | _=>Ń
def oh.mo {t:zA}(h:yE t):nj (oh t):=fun L S Q Q' hq q=>h Ŧ (λ d S' z=>by
 cases d <;> first
  | show ą6
  | show z) q
def jA ß8 ļ1 ŏ Ÿ7 î1 ÿ8 ĵ9 Õ (hm:ĥ6):zE û2 (oh ſ4):=by
 exact#[oh.mo (yX.mo hf Ì9),PT.imp (Ib ho č5 hm) fun σ H Q h=>?_];ext č4;exact Zg hr hf Ì9 #[L,S,r1,r2,yX.mo hf Ì9 Ŧ (λ d S' z v H' a b c=>?_) h];cases d with
 | bl k=>ext Èh
 | _=>show ű6
def fI (C:ā2) (g:Ē5):xQ:=λ x y S Q=>match x,y with
 | ö7,ä j=>C i j/\Q ó8 S
 | _,_=>Ń
def fI.mo {C:ā2}{g:Ē5}:vy (fI C g):=λ x y S Q Q' hq h=>by
 unfold fI at h ⊢;ext ď7
 .show Û2
 ext Å4
def zK (g:Ē5):xQ:=λ x y S Q=>match x,y with
 | ö7,ä j=>Q ó8 S
 | _,_=>Ń
def zK.mo {g:Ē5}:vy (zK g):=λ x y S Q Q' hq h=>by
 unfold zK at h ⊢;ext ď7
 .show Þ8
 ext Å4
def fI.fits {C:ā2}Ï0:ve K (fI C g) (rI C g'):=λ x y d e H S Q h1 h2 h3 h=>by
 unfold fI at h;ext ď7
 .ext Ë1;show#[_,_,h1,h2,h.1,h.2 _ H (hg È H) ÁH h3]
 ext Å4
def zK.fits Ï0:ve K (zK g) (nA g'):=λ x y d e H S Q h1 h2 h3 h=>by
 unfold zK at h;ext ď7
 .ext Ë1;show#[_,_,h1,h2,h _ H (hg È H) ÁH h3]
 ext Å4
variable {ß8}{î1}{ŏ}
def uH Õ:PD X (ÁB a .Sub Çm) (yX (zK Ő9) Ù9):=ik G5 (ą7) zK.mo ha hb
def u_ Õ:PD X (ÁB a .Mod Çm) (yX (fI ü4) Ù9):=ik GC ë4
def tV Õ:PD X (ÁB a .FloorDiv Çm) (yX (fI Ŀ6) Ù9):=ik GJ ë4
def uR Õ:PD X (ÁB a .Pow Çm) (yX (fI Ď0) Ù9):=ik G7 ë4
def uQ Õ:PD X (ÁB a .RShift Çm) (yX (fI ß9) Ù9):=ik G6 ë4
def sj Õ:PD X (ÁB a .BitAnd Çm) (yX (zK î9) Ù9):=ik GO (ą7) zK.mo ha hb
abbrev Yy:xQ:=zK Ď9
abbrev Vy:xQ:=zK Ę3
abbrev Yz:xQ:=zK ď0
def fit_le:ve K Yy (nA Ď9):=ą7
def B2:ve K Vy (nA Ę3):=ą7
def Pz:ve K Yz (nA ď0):=ą7
def tD Õ:PD X (Ì5 a [.LtE] û1) (yX Yy Ù9):=eM zS fit_le zK.mo ã2
def tU Õ:PD X (Ì5 a [.GtE] û1) (yX Yz Ù9):=eM Qc Pz zK.mo ã2
def vQ Õ:zE X (Ì5 a [.LtE] û1) (oh (yX Yy Ù9)):=jA zS fit_le zK.mo ã2
def vU Õ:zE X (Ì5 a [.Gt] û1) (oh (yX Vy Ù9)):=jA GI B2 zK.mo ã2
def vV Õ:zE X (Ì5 a [.GtE] û1) (oh (yX Yz Ù9)):=jA Qc Pz zK.mo ã2
end
section
variable {þ}{ģ}{a b c:Expr}{î1}{ŏ}
def ar (ta tb:zA):zA:=fun L S Q=>ta L S λ x S1=>match x with
 | ÄZ=>if Ť6 then tb ŭ5 Q else Q ů1 S1
 | _=>Ń
def ai (ta tb:zA):zA:=fun L S Q=>ta L S λ x S1=>match x with
 | ÄZ=>if Ť6 then Q (ė5) S1 else tb ŭ5 Q
 | _=>Ń
def aj (ta:zA):zA:=fun L S Q=>ta L S λ x S1=>match x with
 | ÄZ=>Q (.bl (!k)) S1
 | _=>Ń
def p_ {c:Prop} [ċ8 c] {A B A' B':Prop}(h1:A->A') (h2:B->B') (h:if c then A else B):if c then A' else B':=by
 by_cases q:c
 .rw[í q] at h ⊢;show h1 h
 .rw[à q] at h ⊢;show h2 h
def ar.mo Ú0:yE (ar Ù9):=fun L S Q Q' hq h=>ha Ŧ (λ x S1 z=>by
 cases x <;> first
  | show p_ (hb Ý8 hq) (hq È) z
  | show z) h
def ai.mo Ú0:yE (ai Ù9):=fun L S Q Q' hq h=>ha Ŧ (λ x S1 z=>by
 cases x <;> first
  | show p_ (hq È) (hb Ý8 hq) z
  | show z) h
def aj.mo (ha:yE ta):yE (aj ta):=fun L S Q Q' hq h=>ha Ŧ (λ x S1 z=>by
 cases x <;> first
  | show ą6
  | show z) h
def uU {op} {t:zA}(h:PD X a t):PD X (ì9 op [a] pos) t:=#[h.mo,Hv h.pe]
variable {rest:Ģ}
theorem sv ė8 (hb:PD Ś9 tb):PD Ŝ4 (ar Ù9):=by
 exact#[ar.mo Ì9,ã8 (HN č5) ĝ];ext ê3;cases x with
 | bl k=>
  ext ÀU
  .show Ø6 hb.mo Ë4
  .show z Ė9
 | _=>show ą8
theorem uT ė8 (hb:PD ũ7 tb):PD ũ8 (ai Ù9):=by
 exact#[ai.mo Ì9,ã8 (Hr č5) ĝ];ext ê3;cases x with
 | bl k=>
  ext ÀU
  .show z Ė9
  .show Ø6 hb.mo Ë4
 | _=>show ą8
theorem uV ė8:PD Ĕ0 (aj ta):=by
 exact#[aj.mo à8,ã8 (Hw ha.pe) ĝ];ext ê3;cases x with
 | bl k=>
  ext Ü4;show#[k,q1,h1 Ė9]
 | _=>show ą8
def aa (t u:xx):xx:=fun L S Q=>t L S λ k S1=>if Ť6 then u ŭ5 Q else Q Ç S1
def fj (t u:xx):xx:=fun L S Q=>t L S λ k S1=>if Ť6 then Q true S1 else u ŭ5 Q
def b_ Çw:xx:=fun L S Q=>t L S λ k S1=>Q (!k) S1
variable {t u:xx}
def aa.mo (h:nj t) (h':nj u):nj (aa t u):=fun L S _ _ hq z=>h Ŧ (λ k S1 z=>p_ (h' Ý8 hq) (hq È) z) z
def fj.mo (h:nj t) (h':nj u):nj (fj t u):=fun L S _ _ hq z=>h Ŧ (λ k S1 z=>p_ (hq È) (h' Ý8 hq) z) z
def b_.mo (h:nj t):nj (b_ t):=fun L S _ _ hq z=>h Ŧ (λ k S1 z=>ą6) z
structure yN Ű ă7 Çw:Prop where
 mo:nj t
 pw:PW X e (pU ÀT)
def PW.imp Ç6{t t':TT}(h:PW Çk) Î1:PW X e t':=λ whole gV s σ H Q I q=>h whole ũ6 (hi Ņ8 q)
theorem yN.pt Ç6{t:xx}(h:yN Çk):zE Çk:=#[h.mo,PW.pt h.pw]
def vJ (h:zE X a t):yN X (ì9 .And [a] pos) t:=#[h.mo,JS h.pt]
def y_ (h:zE X a t):yN X (ì9 .Or [a] pos) t:=#[h.mo,JQ h.pt]
def xa (ha:zE X a t) (hb:yN Ś9 u):yN Ŝ4 (aa t u):=by
 exact#[aa.mo Ì9,PW.imp (JT ha.pt hb.pw) ĝ];ext Ő;exact pU.go à8 Ý7 h λ k S1 H1 h1 e1 p1=>p_ à7 (λ z=>z ĉ4) h1;show Ě8
def zV (ha:zE X a t) (hb:yN ũ7 u):yN ũ8 (fj t u):=by
 exact#[fj.mo Ì9,PW.imp (JR ha.pt hb.pw) ĝ];ext Ő;exact pU.go à8 Ý7 h λ k S1 H1 h1 e1 p1=>p_ (λ z=>z ĉ4) à7 h1;show Ě8
def vO (ha:zE X a t):zE Ĕ0 (b_ t):=by
 exact#[b_.mo à8,PT.imp (Ia ha.pt) ĝ];ext Ő;show pU.go à8 Ý7 h λ k S1 H1 h1 e1 p1=>h1 ĉ4
def ao Çw (ta tb:zA):zA:=fun L S Q=>t L S λ k S1=>if Ť6 then ta ŭ5 Q else tb ŭ5 Q
def ao.mo (h:nj t) Ú0:yE (ao t Ù9):=fun L S _ _ hq z=>h Ŧ (λ k S1 z=>p_ (ha Ý8 hq) (hb Ý8 hq) z) z
def tQ (hc:zE X c t) Õ:PD X (.IfExp c a Çm) (ao t Ù9):=by
 exact#[ao.mo hc.mo Ì9,ã8 (HE hc.pt č5) ĝ];ext Ő;exact pU.go hc.mo Ý7 h ċ9
 .show Ø6 à8 Ë4
 .show Ø6 hb.mo Ë4
def ma (d:D) ď6 (Q:Œ6):Prop:=match d with
 | .zJ=>Q Ç S
 | ÄZ=>Q k S
 | ö7=>Q (i != 0) S
 | Ő0=>ñ0<=Ê/\Q ((ñ0:Int) != 0) S
 | Ń1=>Q Ġ8 S
 | ÁF=>Q Ġ8 S
 | Â1=>match S p with
  | ű7=>Q Ġ8 S
  | some ĺ0=>Q (!kvs.isEmpty) S
  | _=>Ń
def V4 (ta:zA):xx:=fun L S Q=>ta L S λ x S1=>ma x S1 Q
def ma.mo Ö3 ř{Q Q':Œ6}(hq:∀ k S',Q k S'->Q' k S') (h:ma d S Q):ma d S Q':=by
 cases d with
 | str x=>show Û2
 | ref p=>
  unfold ma at h ⊢;ext ŭ6
  .show Þ8
  .show Þ8
  .show h
 | _=>show Þ8
theorem zv.isEmpty ĺ ù Å5(h:Ä3):ds.isEmpty=ĸ8:=by
 have:=h.length;cases ds <;> cases xs <;> simp_all
def zaS ò7 Ň3{ys:List β}(h:ã6 F xs ys):ĸ8=ys.isEmpty:=by cases h <;> rfl
def ma.fits ĺ Ö3 ī4 ř{Q:ĕ0}č6 (h:ma d S (af ŋ Q)):∃ k,Ux K v H k/\Q k H:=by
 cases d with
 | zJ=>ext ø7;show#[Ç,rfl,ű8]
 | bl k=>ext ø7;show#[k,rfl,ű8]
 | int i=>ext ø7;show#[_,rfl,ű8]
 | str x=>ext ø7;show#[_,#[h.1,rfl],h.2 H Ĺ p]
 | tup ds=>
  ext Àg;show#[_,ħ (ē #[xs,r1,ÂY]),ű8]
 | pK ds=>
  ext Àg;show#[_,ē #[xs,r1.sq,ÂY],ű8]
 | ref a=>
  ext ø7;unfold ma at h;dsimp only at h;ext ď7
  .rename_i ds e;let#[xs,e1,r2]:=p a _ e;show#[_,ē #[xs,ÄS e1,ÂY],ű8]
  .rename_i kvs e;let#[xs,e1,r2]:=p a _ e;show#[_,ħ (ħ #[xs,e1,by rw[zaS r2]]),ű8]
  ext Å4
def vL ė8 î4:zE X a (V4 ta):=by
 exact#[fun L S Q Q' hq h=>à8 Ŧ (λ x S1 z=>ma.mo hq z) h,PT.imp (J_ ha.pe he) ĝ];ext ê3;show ma.fits q1 p1 (ma.mo (λ k S' z=>z.ext e1) h1)
def kB:y9:=λ _ S Q=>Q [] S
def mv ū0 (tr:y9):y9:=fun L S Q=>te L S λ x S1=>tr ŭ5 λ xs S2=>Q (Åf) S2
variable {Ç6}{Ô7}{ŗ7}{é7}
def mv.mo (h:yE te) (h':nY tA):nY (mv te tA):=fun L S _ _ hq z=>h Ŧ (λ x S1 z=>h' Ý8 (λ xs S2 z=>ą6) z) z
def vk:yH X [] kB:=#[λ _ _ _ _ hq h=>Þ8,PA.imp jB fun σ H Q #[_,_,_,r2,h]=>h [] H Á5 Ĺ r2]
def vm (ha:PD Ū0) (hr:yH X es tA) (hs:Ē0):yH X ī (mv te tA):=by
 exact#[mv.mo à8 hr.mo,PA.imp (jC ha.pe hr.pa hs) ĝ];ext ê3;exact wW.go hr.mo (Ō) p1 h1 λ xs S2 w H2 h2 q2 e2 p2=>?_;show h2 (v::w) H2 (Ī ű5 q2) (Ä9) p2
def V9 ŉ8:zA:=fun L S Q=>t L S λ ds S1=>Ì3<=Ê/\Q (Ń1) S1
def O1 ŉ8:zA:=fun L S Q=>t L S λ ds S1=>Ì3<=Ê/\∀ p,S1 p=none->Q ó9 (ups S1 p Þ9)
def v5 {k} (h:yH X es tA):PD X (ş5 es k pos) (V9 tA):=by
 exact#[fun L S _ _ hq z=>h.mo Ŧ (λ ds S1 z=>Į7) z,ã8 (Hm h.pa) ĝ];ext õ7;exact h1.2 È ?_ (ĭ4 Ļ) (p1.new hp);ext ķ9;show#[p,xs,rfl,ű9,í4 Ļ ds q1]
theorem t5 (h:yH X es tA):PD X (.List es pos) (O1 tA):=by
 exact#[fun L S _ _ hq z=>h.mo Ŧ (λ ds S1 z=>#[z.1,λ p hp=>hq È (z.2 p hp)]) z,ã8 (Hz h.pa) ĝ];ext õ7;exact h1.2 p (p1.none hp) Ğ1 (ĭ4 Ļ) ?_;show p1.ups Ļ #[xs,yO,í4 Ļ ds q1]
def oI:xQ:=λ x y S Q=>match x,y with
 | Ń1,ö7=>match yD ds i with
  | some d=>Q d S
  | none=>Ń
 | ÁF,ö7=>match yD ds i with
  | some d=>Q d S
  | none=>Ń
 | Â1,ö7=>match S p with
  | ű7=>match yD ds i with
   | some d=>Q d S
   | none=>Ń
  | _=>Ń
 | ß z,ö7=>ï0/\match yD z.cps.toList i with
  | some c=>Q (Ė8) S
  | none=>Ń
 | _,_=>Ń
def oI.mo:vy oI:=λ x y S Q Q' hq h=>by
 unfold oI at h ⊢;ext ď7
 .skip
  ext ď7
  .show Þ8
  .show h
 .skip
  ext ď7
  .show Þ8
  .show h
 .skip
  ext ď7
  .skip
   ext ď7
   .show Þ8
   .show h
  ext Å4
 .let#[h0,h]:=h;exact#[h0,?_];ext ď7
  .show Þ8
  .show h
 ext Å4
theorem zv.yD ĺ ù Å5 Ū7 Ö3(h:Ä3) (e:Ŧ5 ds i=↑d):∃ x,Ŧ5 xs i=↑x/\ā6:=by
 unfold Ŧ5 at e ⊢;rw[h.length] at e;cases q:oE Ó i with
 | none=>ext Ů2
 | some j=>
  rw[q] at e;show h.get e
def oI.fits:ve K oI (Rw K):=λ x y d e H S Q h1 h2 h3 h=>by
 unfold oI at h;ext ď7
 .ext ď7
  .ext ķ4;show ħ (ē #[a,xs,_,x',rfl,h2,r1,e1,Åt])
  ext Å4
 .ext ď7
  .ext ķ4;show ē #[a,xs,_,x',rfl,h2,r1.sq,e1,Åt]
  ext Å4
 .ext ď7
  .rename_i q0;ext ď7
   .rename_i q;ext Ë1;subst h1;let#[xs,r1,r2]:=h3 È q0;let#[x',e1,e2]:=r2.yD q;show ē #[_,xs,_,x',rfl,h2,ÄS r1,e1,Åt]
   ext Å4
  ext Å4
 .let#[h0,h]:=h;ext ď7
  .rename_i q;ext Ë1;show ħ (ħ #[_,_,_,h1,h2,h0,q,h Ï1 h3])
  ext Å4
 ext Å4
def tG Õ (hs:Ma b):PD X (ŭ a Çm) (yX oI Ù9):=
 #[yX.mo oI.mo Ì9,ã8 (HB Dh č5 hs) λ _ _ _ h=>Zg oI.fits oI.mo Ì9 h]
abbrev xP:=ĝ0->ÁG
def pM (f:xP):Prop:=∀ ds S (Q Q':DK),(Ì6)->f ū1->f ds S Q'
def oV ñ (f:xP) (r:ÄY):Prop:=∀ xs ds H S Q,Ä3->Ó0->f ds ÀS->r xs H Q
def p9 (f:xP) ŉ8:zA:=fun L S Q=>t L S λ ds S1=>f ds S1 Q
def p9.mo {f:xP}Ÿ8 (h:nY tA):yE (p9 f tA):=fun L S _ _ hq z=>h Ŧ (λ ds S1 z=>hf ds S1 È hq z) z
def TC {f:xP}{r:ÄY}Ÿ8 (hr:oV K f r) (h:nY tA) é6 ĺ Ŗ3(hu:zZ K (p9 f tA) Ņ8):Zq r (wW K tA) Ņ8:=by
 let#[L,S,r1,r2,h']:=hu;exact wW.go h Ý7 h' ÂZ;show hr xs ds H1 S1 Q q1 p1 (hf Äs)
def kl {f:xP}{r:ÄY}Ç6(h:PE X e (Zq r Åu)) Ÿ8 (hr:oV X.K f r) (ha:nY tA):PD X e (p9 f tA):=
 #[p9.mo hf ha,ã8 h λ _ _ _ hu=>TC hf hr ha hu]
def yI (d:D) ď6:Â (ĝ0):=match d with
 | Ń1=>↑ds
 | ÁF=>↑ds
 | Â1=>match S p with
  | ű7=>↑ds
  | _=>none
 | _=>none
theorem yI.sq ĺ ř Ö3 ī4 ù č6 (e:ć5):∃ a xs,v=Ú6/\(ş4\/ĸ3)/\Ä3:=by
 unfold yI at e;ext ġ8
 .cases e;ext ç1;show#[a,xs,h1,ħ h2,h3]
 .cases e;ext ç1;show#[a,xs,h1,ē h2.sq,h3]
 .ext ġ8
  .ext ō0;show#[_,xs,rfl,ē (ÄS h1),h2]
  .cases e
 .cases e
def zv.one ĺ Ö3 Å5(h:zv ŋ [d] xs):∃ x,xs=[x]/\ā6:=by
 ext ė2;let#[x,r,rfl,h2,rfl]:=h;show#[x,rfl,h2]
def zv.two ĺ{d d':D}Å5(h:zv ŋ [d,d'] xs):∃ x y,xs=Ĳ8/\ā6/\zj ŋ d' y:=by
 ext ė2;let#[x,r,rfl,h2,y,r',rfl,h3,rfl]:=h;show#[x,y,rfl,h2,h3]
def lK:xP:=λ ds S Q=>match ds with
 | [d]=>match Ų0 with
  | some ds=>Q (ä Ì3) S
  | none=>match d with
   | ß z=>ï0/\Q (ä Ř6) S
   | _=>Ń
 | _=>Ń
def lK.mo:pM lK:=λ ds S Q Q' hq h=>by
 unfold lK at h ⊢;ext ď7
 .skip
  ext ď7
  .show Þ8
  .ext ď7
   .show Û2
   ext Å4
 ext Å4
abbrev JO ñ:ÄY:=λ xs H Q=>(∃ p ys,ô8/\ć6/\Q (ä Í1) H)\/(ű0)
def lK.fits:oV K lK (JO K):=λ xs ds H S Q h0 h2 h=>by
 unfold lK at h;ext ď7
 .ext ź;ext ď7
  .ext ŉ9;exact ē #[a,ys,rfl,q,?_];rw[<- á8];show Ų1
  .ext ď7
   .ext Ĭ1;subst h1;show ħ #[_,rfl,h.1,h.2 Ï1 h2]
   ext Å4
 ext Å4
def lJ:xP:=λ ds S Q=>match ds with
 | [d]=>match Ų0 with
  | some ds=>∀ p,ĭ0->Q ó9 Ų2
  | none=>Ń
 | _=>Ń
def lJ.mo:pM lJ:=λ ds S Q Q' hq h=>by
 unfold lJ at h ⊢;ext ď7
 .skip
  ext ď7
  .show λ p hp=>hq È (h p hp)
  ext Å4
 ext Å4
def lJ.fits:oV K lJ (λ xs H Q=>∃ p ys,ô8/\ć6/\ű1):=λ xs ds H S Q h0 h2 h=>by
 unfold lJ at h;ext ď7
 .ext ź;ext ď7
  .ext ŉ9;exact#[a,ys,rfl,q,λ l hl=>?_];show h l (Åv hl) Ğ1 à9 (h2.ups à9 #[ys,yO,í4 à9 _ r])
  ext Å4
 ext Å4
def lE:xP:=λ ds S Q=>match ds with
 | [Ń1]=>Q (Ń1) S
 | [ÁF]=>Q (Ń1) S
 | [Â1]=>match S p with
  | ű7=>Q (Ń1) S
  | _=>Ń
 | _=>Ń
def lE.mo:pM lE:=λ ds S Q Q' hq h=>by
 unfold lE at h ⊢;ext ď7
 .show Þ8
 .show Þ8
 .skip
  ext ď7
  .show Þ8
  ext Å4
 ext Å4
def lE.fits:oV K lE (λ xs H Q=>∃ p ys,ô8/\((yB ŋ p ys/\ű2)\/(yC ŋ p ys/\Q ó9 H))):=λ xs ds H S Q h0 h2 h=>by
 unfold lE at h;ext ď7
 .ext ź;have h1':=h1;ext Ĭ1;ext û4;show#[a,xs,rfl,ħ #[r1,h _ H h1' Ĺ h2]]
 .ext ź;ext Ĭ1;ext û4;exact#[a,xs,rfl,ē #[r1.sq,ſ5]];ext ķ9;show ŋ1
 .ext ź;ext ď7
  .rename_i e;ext Ĭ1;subst h1;let#[xs,r1,r2]:=h2 È e;exact#[_,xs,rfl,ē #[ÄS r1,ſ5]];ext ķ9;show ŋ1
  ext Å4
 ext Å4
def mU (g:Ē5):xP:=λ ds S Q=>match ds with
 | ć3=>Q ó8 S
 | _=>Ń
def mU.mo {g:Ē5}:pM (mU g):=λ ds S Q Q' hq h=>by
 unfold mU at h ⊢;ext ď7
 .show Þ8
 ext Å4
def mU.fits Ï0:oV K (mU g) (λ xs H Q=>∃ i j,xs=ć3/\Q (g' i j) H):=λ xs ds H S Q h0 h2 h=>by
 unfold mU at h;ext ď7
 .let#[x,y,hx,h1,h3]:=h0.two;subst hx;simp![zj] at h1 h3;subst h1 h3;show#[_,_,rfl,h _ H (hg È H) Ĺ h2]
 ext Å4
def zcq:xQ:=λ x y S Q=>match x,y with
 | Â1,Ä q=>match S p,S q with
  | ű7,↑(ú es)=>ê0
  | _,_=>Ń
 | _,_=>Ń
def lO (to te:zA):zA:=fun L S Q=>to L S λ x S1=>match x with
 | Â1=>Ŧ6/\te ŭ5 λ y S2=>match S2 p with
  | ű7=>Ì3<Ê/\Q .zJ (ups S2 p (ú (ds++[y])))
  | _=>Ń
 | _=>Ń
def lO.mo Ŝ6 ì2:yE ř7:=fun L S Q Q' hq z=>h Ŧ (λ x S1 z=>by
 cases x with
 | ref p=>
  exact#[z.1,h' Ý8 (λ y S2 w=>?_) z.2];split at w
  .show#[w.1,hq È w.2]
  .show w.elim
 | _=>show z) z
theorem NN Ŝ6 ì2 Çs É5 č0 (hu:zZ K ř7 Ņ8):gs K "list" Wi (zZ K to) (cC (zZ K te) f_) Ņ8:=by
 ext ŭ7;cases x with
 | ref p=>
  ext Â5;exact Ø6 h' Â8;split at h2
  .rename_i ds' e3;let#[xs',g3,g4]:=p2 È e3;exact#[p,xs',w,rfl,rfl,g3,by rw[<- Åw];show h2.1,?_];have e4:Ext H2 (upd H2 p (ú (xs'++[w]))):=ú g3 _;show h2.2 Ğ1 (ê6 e4) (p2.ups e4 #[_,yO,í4 e4 _ (g4.snoc q2)])
  .show h2.elim
 | _=>show ą8
def Gk {o e:Expr}Ŝ6{e0:Expr}(hpe:PE X e0 (gs X.K "list" Wi Çx)) ì2:PD X e0 ř7:=#[lO.mo h h',ã8 hpe (NN h h')]
end
structure gf where
 nx:Ń3
 rt:DK
 bk:Ń3:=ů0
 ct:Ń3:=ů0
abbrev xA:=gf->Ń3
structure gf.Le (E E':gf):Prop where
 nx:∀ L S,E.nx L S->E'.nx L S
 rt:∀ d S,E.rt d S->E'.rt d S
 bk:∀ L S,E.bk L S->E'.bk L S
 ct:∀ L S,E.ct L S->E'.ct L S
def kK (t:xA):Prop:=∀ E E' L S,gf.Le E E'->t E L S->t E' L S
def lN ñ É5 (D:Ends):gf:=#[nV ŋ D.nx,og ŋ D.rt,nV ŋ D.bk,nV ŋ D.ct]
theorem lN.ext ģ ò6{D:Ends}ħ9:(lN ŋ D).Le (lN K H' D):=#[Ŧ7,λ _ _ h=>og.ext e h,Ŧ7,Ŧ7]
def Zf ñ (t:xA):TS:=λ D σ H=>∃ L S,ß6/\Ó0/\t (lN ŋ D) L S
structure zr Ű Ě0 (t:xA):Prop where
 mo:kK t
 ps:PS X st (Zf ÀT)
structure xl Ű (st:ï5) (t:xA):Prop where
 mo:kK t
 ps:pR X st (Zf ÀT)
section
variable {þ}{ģ}{ç0}{rest:ï5}{t u:xA}{ŏ}{Ç6}{ŗ7}
def ak:xA:=λ E L S=>E.nx L S
def je (t u:xA):xA:=λ E L S=>t { E with nx:=u E } L S
def je.mo (h:kK t) (h':kK u):kK (je t u):=λ E E' L S hE z=>h { E with nx:=u E } { E' with nx:=u E' } L S #[fun L S q=>h' E E' L S hE q,hE.rt,hE.bk,hE.ct] z
def vZ:xl X [] ak:=#[λ _ _ _ _ hE h=>hE.nx È h,pR.imp Ig λ D σ H #[L,S,r1,r2,h]=>h Ň r1 Ĺ r2]
def vi (h:zr X st t):xl X [st] t:=#[h.mo,Ie h.ps]
def wI (h:zr X st t) (h':xl X rest u):xl X (st::rest) (je t u):=by
 exact#[je.mo h.mo h'.mo,pR.imp (Ih h.ps h'.ps) Ó1];ext Í;exact#[L,S,r1,r2,h.mo { lN Ñ8 D with nx:=u (lN Ñ8 D) } _ L S #[fun L' S' q σ' H' q1 q2 q3=>?_,Ö4,Ö4,Ö4] z];show#[L',S',q1,q3,h'.mo È L' S' (lN.ext q2) q]
def dJ ū0:xA:=λ E L S=>te L S λ _ S1=>E.nx ŭ5
def uo É2 (hs:ź3):zr X (ÄT) (dJ te):=by
 exact#[λ E E' L S hE z=>ĥ9 Ŧ (λ _ _ q=>hE.nx È q) z,Š1 (Iv he.pe hs) Ó1];ext Í;show Ø6 ĥ9 á6 ň3
def kA ū0:xA:=λ E L S=>te L S E.rt
def vj É2:zr X (.Return ↑e pos) (kA te):=by
 exact#[λ E E' L S hE z=>ĥ9 Ŧ (λ _ _ q=>hE.rt È q) z,Š1 (Im he.pe) Ó1];ext Í;show Ø6 ĥ9 á6 λ x S1 v H1 h1 q1 e1 p1=>h1 v H1 q1 e1 p1
def mZ (c:xx) (t u:xA):xA:=λ E L S=>c L S λ k S1=>if Ť6 then t E ŭ5 else u E ŭ5
def yV Ņ9{p q:ï5}{tc:xx}(hc:zE X c tc) (h:xl X p t) (h':xl X q u):zr X (.If c p q pos) (mZ tc t u):=by
 exact#[ñ9,Š1 (Iq hc.pt h.ps h'.ps) Ó1];ext Í;exact pU.go hc.mo á6 ċ9
 .show ÁI
 .show ſ6
abbrev vb:=D->yZ->SS->(Ń3)->Prop
abbrev oq:=ĝ0->yZ->SS->(Ń3)->Prop
def aL (t:vb):Prop:=Ā1
def Mf (t:oq):Prop:=Ā1
def cx ñ (t:vb):TG:=λ v σ H Q=>∃ d L S,æ4/\Åx
def T9 ñ (t:oq):jT:=λ v σ H Q=>∃ d L S,zv ŋ d v/\Åx
structure mz Ű ă7 (t:vb):Prop where
 mo:aL t
 pg:PG X e (cx ÀT)
structure fH Ű Çg (t:oq):Prop where
 mo:Mf t
 pg:jj X es (T9 ÀT)
def PG.imp Ç6{t t':TG}(h:PG Çk) ŭ8:PG X e t':=Ġ9
def jj.imp {e:Ģ}{t t':jT}(h:jj Çk) ŭ8:jj X e t':=Ġ9
def hName ċ:vb:=λ d L S Q=>Q ş9 S
def Ga Ç6 È1(h:PG X e (dA i)):mz X e ù5:=
 #[Œ8,PG.imp h λ v σ H Q #[d,L,S,r1,r2,r3,z]=>z _ H (r2.set i r1) Ĺ r3]
def Ym:oq:=λ ds L S Q=>ds=[]/\Q L S
def bH (t:vb) (u:oq):oq:=λ ds L S Q=>match ds with
 | d::r=>t d L S fun L' S'=>u r L' S' Q
 | []=>Ń
def u9:fH X [] Ym:=by
 exact#[λ _ _ _ _ _ hq z=>Į7,jj.imp IZ ſ7];let#[d,L,S,r1,r2,r3,z1,z2]:=hu;subst z1;simp![zv] at r1;show#[r1,z2 Ň r2 Ĺ r3]
def uA Ç6 Ô7{t:vb}{u:oq}(h:mz Çk) (h':fH X es u) (hs:Ĩ5):fH X ī (bH t u):=by
 exact#[λ ds L S Q Q' hq z=>?_,jj.imp (I_ h.pg h'.pg hs) ſ7]
 .cases ds with
  | nil=>show z
  | cons d r=>show h.mo d Ŧ (fun L' S' z=>h'.mo r L' S' È hq z) z
 .let#[ds,L,S,r1,r2,r3,z]:=hu;cases ds with
  | nil=>show ű6
  | cons d r=>
   simp![zv] at r1;let#[x,xs,rfl,q1,q2]:=r1;exact#[x,xs,rfl,d,L,S,q1,r2,r3,h.mo d Ŧ (fun L' S' z σ' H' g1 g2 g3=>?_) z];show#[r,L',S',í4 g2 r q2,g1,g3,h'.mo r L' S' È (fun L2 S2 z2=>nV.ext g2 z2) z]
def i4 Ï7 (t:oq):vb:=λ d L S Q=>match d with
 | Ń1=>Ì3=n/\t ds L S Q
 | _=>Ń
def H_ Ç6 Ë0{t:oq}(h:PG X e (Pm X.K n (T9 ÀT))) (hm:Mf t):mz X e (i4 n t):=by
 exact#[λ d L S Q Q' hq z=>?_,PG.imp h ſ7]
 .cases d with
  | tup ds=>show#[z.1,hm ds Ŧ hq z.2]
  | _=>show z
 .let#[d,L,S,r1,r2,r3,z]:=hu;cases d with
  | tup ds=>
   simp![zj] at r1;let#[a,xs,rfl,q1,q2]:=r1;show#[a,xs,rfl,q1,by rw[<- q2.length];show z.1,ds,L,S,q2,r2,r3,z.2]
  | _=>show ű6
def vt ū0 (g:vb):xA:=λ E L S=>te L S λ x S1=>g x ŭ5 E.nx
def vt.mo {g:vb}(h:yE te) (h':aL g):kK (vt te g):=λ E E' L S hE z=>h Ŧ (λ x S1 q=>h' x Ý8 (fun L S q=>hE.nx È q) q) z
def Lx {g:vb}(h:yE te) (h':aL g) {D:Ends}é6 ĺ(hu:Zf K (vt te g) D Ň):cD (zZ K te) (cx K g) D Ň:=by
 ext ŭ7;show#[x,L,S1,q1,Ō,p1,h' x Ý8 (fun L S q=>nV.ext e1 q) h1]
def ur Çn{g:vb}É2 (hg:mz X tg g) (hs:ł1 [tg] e Ô6=ó7) (hw:ł2 [tg] e Ë=Àe)
  (h1:ť5):zr X (ą3 [tg] e pos) (vt te g):=
 #[vt.mo ĥ9 hg.mo,Š1 (R9 he.pe hg.pg hs hw h1) λ _ _ _ hu=>Lx ĥ9 hg.mo hu]
def HS {e0:Stmt}È1(h:PS X e0 (cD (zZ X.K te) (dA i))) (hm:yE te):zr X e0 Åy:=by
 exact#[vt.mo hm Œ8,Š1 h Ó1];ext Í;exact Ø6 hm á6 õ;show h1 _ H1 ((Ō).set i q1) e1 p1
end
structure aY where
 ā1:ĝ0
 keep:Ë8
abbrev oo:=yZ->SS->(aY->Ë8)->Prop
def Xc (t:oo):Prop:=∀ L S (Q Q':aY->Ë8),(∀ I S',Q I S'->Q' I S')->Ĺ8
def aN ñ (H1:Hp) (J:It) (I:aY):Prop:=∀ ċ É5 ď6,Ext H1 H->Ó0->I.keep S->
 (∀ d,Ŧ8=↑d->J.go i H/\∀ x H',ů5->Ø5/\yv K H' S/\zj K H' d x)/\(Ç4<=i->J.stop i H)
def Ae ñ É5 (R:It->Ĭ):aY->Ë8:=λ I S1=>∀ J H1,Ext H H1->yv K H1 S1->aN K H1 J I->R J H1
def nM ñ (t:oo):TI:=fun σ H R=>∃ L S,ß6/\Ó0/\t L S (Ae ŋ R)
structure yG Ű (tg iter:Expr) (t:oo):Prop where
 mo:Xc t
 pi:PI X tg iter (nM ÀT)
def PI.imp þ Çn{t t':TI}(h:PI X tg e t) Î1:PI X tg e t':=Ù4
section
variable {þ}{ģ}{Çn}{ŏ}
theorem zv.at ĺ ù Å5 È1 Ö3 ŷ6(r:Ä3) (h1:Ŧ3) (h2:à1):ā6:=by
 let#[y,e1,e2]:=r.get h1;rw[h2] at e1;cases e1;show e2
def mj ŷ9 Ï7:ĝ0:=(ő n).map λ(k:Nat)=>D.int (lo+(k:Int))
def JM {lo:Int}{n i:Nat}Ö3(h:(mj lo n)[i]?=↑d):i<n/\d=ä (lo+(i:Int)):=by
 unfold mj at h;rw[zA3] at h;cases q:(ő n)[i]? with
 | none=>ext ı9
 | some j=>
  rw[q] at h;let#[h1,h2]:=ø9 q;rw[zC5] at h1;rw[zeF] at h2;subst h2;cases h;show#[h1,rfl]
def JL ŷ9 Ï7:(mj lo n).length=n:=by unfold mj;rw[zA7,zC5]
def aN.range {H1:Hp}{lo:Int}Ë0:aN K H1 (aM lo n) #[mj lo n,Ħ0]:=λ i H S _ x2 _=>by
 exact#[ſ8,λ hl=>by rw[show (aY.mk (mj lo n) Ħ0).items=mj lo n from rfl,JL] at hl;show hl];let#[h1,rfl]:=JM hd;exact#[h1,ÁJ];let#[rfl,rfl]:=q;show#[ĳ8,x2,Ø]
def W_ ŉ8:oo:=fun L S R=>t L S λ ds S1=>match ds with
 | [ä j]=>(ĭ6)/\R #[mj 0 Ő8,Ħ0] S1
 | _=>Ń
def WZ ŉ8:oo:=fun L S R=>t L S λ ds S1=>match ds with
 | ć3=>(-(2 ^ 62)<=i/\i<2 ^ 62/\ĭ6)/\R #[mj i (j-i).toNat,Ħ0] S1
 | _=>Ń
variable {é7}
def HZ (h:PI X tg e (Pd Åu)) (hm:nY tA):yG X tg e (W_ tA):=by
 exact ý7
 .split at z
  .show Į7
  .show ű6
 .ext Ů6;split at h1
  .let#[x,rfl,q]:=q1.one;simp![zj] at q;subst q;show#[_,rfl,h1.1.1,h1.1.2,h1.2 _ ĉ4 .range]
  .show ą8
def HY (h:PI X tg e (Pc Åu)) (hm:nY tA):yG X tg e (WZ tA):=by
 exact ý7
 .split at z
  .show Į7
  .show ű6
 .ext Ů6;split at h1
  .let#[x,y,rfl,q,q']:=q1.two;simp![zj] at q q';subst q q';show#[_,_,rfl,h1.1,h1.2 _ ĉ4 .range]
  .show ą8
def aq (ti:oo) (g:vb) (tb:xA):xA:=λ E L S=>ti L S λ I S1=>∃ W:Nat->Ń3,W 0 ŭ5/\(∀ i L S,W i L S->I.keep S)/\
 (∀ i d L S,Ŧ8=↑d->W i L S->g d L S fun L2 S2=>tb { E with nx:=W ü8,ct:=W ü8,bk:=E.nx } L2 S2)/\∀ L S,W Ç4 L S->E.nx L S
def aq.mo ţ6{tb:xA}(hi:Xc ti) (hg:aL g) (hb:kK tb):kK (aq ti g tb):=λ E E' L S hE z=>hi Ŧ (λ I S1 #[W,w0,wk,ws,wd]=>by
 exact#[W,w0,wk,λ i d L S hd hw=>hg d Ŧ (fun L2 S2 z=>hb { E with nx:=W ü8,ct:=W ü8,bk:=E.nx } { E' with nx:=W ü8,ct:=W ü8,bk:=E'.nx } L2 S2 Äa z) (ws i d L S hd hw),fun L S q=>hE.nx È (wd L S q)]) z
def um {iter:Expr}ÀP ţ6{tb:xA}Ă7 ă Ţ1 (hg:mz X tg g) (hb:xl X body tb)
  (hs:ţ):zr X (.For tg iter body Ò2) (aq ti g tb):=by
 exact#[aq.mo Ŧ9 hg.mo hb.mo,Š1 (Ir hp hc hi.pi hg.pg hb.ps hs) Ó1];ext Í;exact#[L,S,r1,r2,Ŧ9 Ŧ (λ I S1 hW J H1 e1 p1 rep=>?_) z];let#[W,w0,wk,ws,wd]:=hW;exact#[λ i m σ H2=>m=Ç4-i/\i<=Ç4/\Ext H1 H2/\∃ L S,xY X.K H2 L σ/\yv X.K H2 S/\W i L S,#[_,rfl,zD4 _,ĳ8,L,S1,Ō,p1,w0],?_];rintro i m σ2 H2 ⟨rfl,hi',x2,L2,S2,q1,q2,w2⟩;let#[g1,g2]:=rep i H2 S2 x2 q2 (wk i L2 S2 w2);by_cases hl:i<Ç4
 .ext ÂH
  let#[go,yl]:=g1 _ hd;exact ħ #[go,fun σ' H'=>Ext H1 H'/\∃ L S,Åz/\yv X.K H' S/\W ü8 L S,fun σ' H' q=>#[_,⋯,rfl,hl,q],λ x H3 hy=>?_];let#[x3,p3,d3]:=yl x H3 hy;exact#[_,L2,S2,d3,q1.ext x3,p3,hg.mo _ L2 ū2 (ws i _ L2 S2 hd w2)];exact#[L4,S4,a1,a3,hb.mo È L4 S4 #[ð1,λ _ _ q=>og.ext ÁK q,λ _ _ q=>nV.ext ÁK q,ð1] z4]
 .have e:i=Ç4:=⋯;subst e;show ē #[g2 İ,wd L2 S2 w2 σ2 H2 q1 (ĭ4 x2) q2]
abbrev pE:=ĝ0->ÁG
def iX Çy:Prop:=∀ ds S (Q Q':DK),(Ì6)->sp ū1->sp ds S Q'
def nq ñ Çy:Sp:=λ vs H Q _=>∃ ds S,zv ŋ ds vs/\Ó0/\sp ds ÀS
def iM Çy ŉ8:zA:=fun L S Q=>t L S λ ds S1=>sp ds S1 Q
def OY ÇS{E:XK}(hs:iX sp) (hm:nY tA) Çs É5 č0 (hu:zZ K ř8 Ņ8):Zp (nq K sp) [] E (wW K tA) Ņ8:=by
 ext Ů6;rw[zcA];show#[ds,S1,q1,p1,hs ds S1 È (λ d S' q=>og.ext e1 q) h1]
def Gj ÇS{E:XK}Ç6(h:PE X e (Zp (nq X.K sp) [] E Åu)) (hs:iX sp) (hm:nY tA):PD X e ř8:=
 #[fun L S Q Q' hq z=>hm Ŧ (λ ds S1 z=>hs ds S1 È hq z) z,ã8 h (OY hs hm)]
def oy (N:Ö) Ÿ5:yZ:=ds.map some++ė (Ű4-Ì3) none
theorem xY.init ĺ ţ1 ù{vs:Ą}(r:zv ŋ ds vs):xY ŋ (oy N ds) Į1:=by
 have hl:=á8;exact#[by unfold oy L2.start;simp[hl],λ i d h=>?_];unfold oy at h;have hi:i<Ì3:=by
  rcases zcC i Ì3 with q | q
  .show q
  ext Ū3
 rw[zcU Ċ8,zA3] at h;cases q:ds[i]? with
 | none=>ext ı9
 | some d'=>
  ext ı9;let#[x,e1,e2]:=r.get q;exact#[x,?_,e2];unfold L2.start;rw[zcU (by exists by lia),zA3,e1];rfl
def Yt æ ģ Þ5 Âl ç0 Ą8 Ÿ1 Õ7 ÇS ņ4 (Sc:Ù2)
  (len:∀ ds S Q,sp ū1->Ì3=Î6)
  (Ġ5:∀ Är á Ě2,Ð5->
   ∃ t,xl ë2/\∀ ds S Q,sp ū1->t Ê0):ou Û xD ě9 Ō5:=by
 exact F.ok Sc (λ vs H Q E h=>?_) λ cdv A ð5 s H vs Q E hr h=>?_
 .let#[ds,S,r1,_,z]:=h;rw[<- r1.length];show len Þ6 z
 .let#[ds,S,r1,r2,z]:=h;let#[t,ht,hq]:=Ġ5 Ä7 hr;exact#[_,ht.ps,oy N ds,S,.init r1,r2,ht.mo { nx:=λ _ S'=>og ŋ Q .zJ S',rt:=og ŋ Q } Þ6 #[fun L S' q σ' H' _ b c=>q .zJ H' (Ø) b c,Ö4,λ _ _ q=>í0 q,λ _ _ q=>í0 q] (hq ds S _ z)]
def l5 Ă9 (L:yZ):yZ:=pick.map λ o=>o.bind λ i=>(L[i]?).join
theorem xY.pick ĺ Ÿ6 é6(r:ß6) Ă9:xY ŋ Ħ1 Œ3:=by
 exact#[by unfold l5 l4;simp,λ i d h=>?_];unfold l5 at h;rw[zA3] at h;cases q:Į4 with
 | none=>ext ı9
 | some o=>
  rw[q] at h;cases o with
  | none=>simp at h
  | some j=>
   simp![Ù3,zC9,Ĺ6] at h;have hj:L[j]?=↑↑d:=by
    cases q2:L[j]? with
    | none=>rw[q2] at h;cases h
    | some o2=>ext Ţ2
   let#[v,e1,e2]:=r.2 j d hj;exact#[v,?_,e2];unfold l4;rw[zA3,q];simp[e1]
def fD (L L':yZ):Prop:=L.length=L'.length/\∀ ċ d,L[i]?=↑↑d->L'[i]?=↑↑d
def fD.rep ĺ{L L':yZ}é6(h:fD L L') (r:xY ŋ L' σ):ß6:=#[h.1.trans r.1,λ i d q=>r.2 i d (h.2 i d q)]
structure dY Ű (ifs:Ģ) Çw:Prop where
 mo:nj t
 pf:PF X ifs (pU ÀT)
def PF.imp {ifs:Ģ}{t t':TT}(h:PF X ifs t) Î1:PF X ifs t':=Ù4
def Oh:xx:=λ _ S Q=>Q true S
def uD:dY X [] Oh:=#[λ _ _ _ _ hq z=>ą6,PF.imp He λ _ H _ #[_,_,_,r2,z]=>z H Ĺ r2]
def uC Ņ9{t:xx}(h:zE X c t):dY X [c] t:=#[h.mo,Hd h.pt]
end
end L3
namespace L2
open Ķ â É
def DC ñ (tl:TE):TI:=fun σ H R=>tl Ň λ x H1=>∃ a,ŋ0/\(((∃ xs,yB K H1 a xs)/\R (Mi K a) H1)\/((∃ xs,yC K H1 a xs)/\R (Mh K a) H1))
def IV þ{tg l:Expr}{tl:TE}(hl:PE X l tl):PI X tg l (DC X.K tl):=by
 ext ĉ0;exact zI (hl ł) λ v s1 #[x,H1,I1,r1,a,hx,q1]=>?_;subst hx;cases r1;have new:∀ b∈[ŵ],lh X gV H1 b:=λ b hb=>by
  obtain rfl:b=ŵ:=zB6.mp hb;show ž1
 rcases q1 with ⟨⟨xs,hq⟩,q⟩ | ⟨⟨xs,hq⟩,q⟩
 .let#[its,_,pl,_]:=I1.list hq;show zfE í2 #[_,_,_,_,H1,rfl,Ŏ5,LG a _,â0,new,q]
 .let#[its,_,pt,_]:=I1.tuple hq;show Ų3 (show s1.heap.IsTuple a ĕ from pt) #[_,_,_,_,H1,rfl,Ŏ5,LC a _,â0,new,q]
def range_all (bs:Ą1):(ő bs.length).all (Ė6)=ÅA:=by
 rw[zC7,zE4,zE4];ext Ĥ8
 .intro h b hb;let#[i,hi,rfl]:=ÅB hb;have:=h i (Ž5 hi);simpa [hi] using this
 .intro h i hi;have hi':=zC1.mp hi;have:=h bs[i] (zD8 hi');simpa [hi'] using this
def range_any (bs:Ą1):(ő bs.length).any (Ė6)=ÅC:=by
 ext ŏ5
 .rintro⟨i,hi,h⟩;have hi':=zC1.mp hi;show#[bs[i],zD8 hi',by simpa [hi'] using h]
 .rintro⟨b,hb,h⟩;let#[i,hi,rfl]:=ÅB hb;show#[i,Ž5 hi,by simpa [hi] using h]
theorem Ny {bs:Ą1}Ŗ4(r:Vals Ų4 its) È1 Âi(h:ĕ[i]?=↑v):v=đ6 (bs.getD i true):=by
 have hl:=á8;rw[zA7] at hl;have h':ï2:=ĝ4
 have hi:i<bs.length:=by
  rw[hl];rcases zcC i å1 with q | q
  .show q
  .rw[zdF q] at h';cases h'
 let#[u,e1,e2]:=r.get (i:=i) (x:=.bl bs[i]) (œ3);rw[h'] at e1;cases e1;have:v=đ6 bs[i]:=e2;rw[this];simp[hi]
section
variable {þ}
theorem A_ ă:xT X (ū "all") (λ xs H Q=>∃ p,∃ bs:Ą1,ô8/\yB Ñ8 p Ų4/\Q (.bl (ÅA)) H):=by
 ext Ĳ;ext Ü5
 exact call_all_walk (zfE í2 ?_);exact Ê5
 .rw[Ny rv hv];show zf2 hq'
 .have e:(ő Ð1).all (Ė6)=ÅA:=by rw[zA0,<- hl,range_all]
  rw[e];show é0
theorem AZ ă:xT X (ū "any") (λ xs H Q=>∃ p,∃ bs:Ą1,ô8/\yB Ñ8 p Ų4/\Q (.bl (ÅC)) H):=by
 ext Ĳ;ext Ü5
 exact call_any_walk (zfE í2 ?_);exact Ê5
 .rw[Ny rv hv];show zf2 hq'
 .have e:(ő Ð1).any (Ė6)=ÅC:=by rw[zA0,<- hl,range_any]
  rw[e];show é0
end
end L2
namespace L3
open Ķ â L2
open É hiding St
structure Bt ņ3:Prop where
 len:mg "len"=none
 range:mg "range"=none
 any:mg "any"=none
 all:mg "all"=none
 sorted:mg "sorted"=none
 isinstance:mg "isinstance"=none
 bool:mg "bool"=none
 int:mg "int"=none
 str:mg "str"=none
 list:mg "list"=none
 tuple:mg "tuple"=none
 max:mg "max"=none
 min:mg "min"=none
section
variable {þ}{a e:Expr}{Ô7}{ŗ7}{ļ6}
def zx {N':Ö}Ě3{Î7 esc:Ž7}ţ1(hE:è7=esc:=by rfl) (hN:X.N=N:=by rfl) (h1:scope.kind=Ę1:=by rfl)
  Đ8
  (h4:ÅD (λ y=>! Ď (y.2=ě3)||(Ď (esc.names.lookup y.1=↑ Đ9)||Ď (esc.names.lookup y.1=↑ ě3)))=true:=by ext Ĳ1)
  Ą7:Ý4:=by
 exact#[h1,Äb,λ y hy hf=>?_,h5,by rw[hN];show h6];ext ÄC;rw[hE];ext Ŋ0
def zX {N' N:Ö}Ě3{Î7 sc0:Ž7}{cl:þ2}Ÿ0 ď5 ĺ ś1(h1:scope.kind=Ę1:=by rfl)
  Đ8
  (h4:ÅD (λ y=>! Ď (y.2=ě3)||(Ď (sc0.names.lookup y.1=↑ Đ9)||Ď (sc0.names.lookup y.1=↑ ě3)))=true:=by ext Ĳ1)
  Ą7:jr (xG X N sc0 č3) ÀR:=by
 exact#[h1,Äb,λ y hy hf=>?_,h5,h6];ext ÄC;simp![zB5,Bool.false_or,zE6,ſ2] at this;rcases this with q | q
 .show ē (Qy q)
 .show WO q
def uB ċ ũ Â7 (hf:ŀ7):mz È2 ù5:=
 Ga (Hc hN hi hx hf)
def Wx Õ7{t:oq}Ë0(h:fH X es t) ă (hn:(Ó5 es Ë).length=n) (hst:ÃT):mz X (ş5 es k pos) (i4 n t):=
 H_ (Ha hc h.pg hn hst) h.mo
def ue ċ ũ{pos':Pos}ĕ9 É2 (hi:ć0) (hx:Loc è7 x) (hs:ÃU)
  (hf:ŀ7):zr X (ą3 [Ĝ x pos'] e pos) Åy:=
 HS (Il hN hi hx he.pe hs hf) ĥ9
def WY ū0:oo:=fun L S R=>te L S λ x S1=>match x with
 | Ń1=>R #[ds,Ħ0] S1
 | ÁF=>R #[ds,Ħ0] S1
 | Â1=>match S1 p with
  | ű7=>R #[ds,λ S=>ſ9] S1
  | _=>Ń
 | _=>Ń
def u4 Ě1(h:PD Ū0):yG X tg e (WY te):=by
 exact#[fun L S Q Q' hq z=>h.mo Ŧ (λ x S1 z=>?_) z,?_]
 .cases x with
  | ref p=>
   dsimp only at z ⊢;split at z
   .show ą6
   .show ű6
  | pK ds=>show ą6
  | tup ds=>show ą6
  | _=>show z
 .exact PI.imp (IV h.pe) Ĝ2
  ext Í;exact Ø6 h.mo á6 õ;cases x with
  | tup ds=>
   ext Ÿ9;exact#[a,rfl,ħ #[#[xs,g1],h1 _ ĉ4 λ i H2 S2 x1 x2 _=>#[ſ8,λ hl=>#[xs,x1.Zu g1,by rw[<- Ę9];show hl]]]];let#[y,hy,_]:=g2.get hd;exact#[#[xs,y,x1.Zu g1,hy],ÁJ];let#[rfl,q]:=q;show#[ĳ8,x2,(í4 x1 ds g2).at hd (q xs (x1.Zu g1))]
  | ref p=>
   dsimp only at h1;split at h1
   .rename_i ds e2;ext Ĳ2;let#[xs0,g1,_]:=p1 È e2;exact#[p,rfl,ē #[#[xs0,ÄS g1],h1 ī8]];let#[xs,g3,g4]:=x2 È hk;exact#[ſ8,λ hl=>#[xs,ÄS g3,by rw[<- Åw];show hl]];let#[y,hy,_]:=g4.get hd;exact#[#[xs,y,ÄS g3,hy],ÁJ];let#[rfl,q]:=q;show#[ĳ8,x2,g4.at hd (q xs (ÄS g3))]
   .show ą8
  | pK ds=>
   ext Ÿ9;exact#[a,rfl,ē #[#[xs,g1.sq],h1 _ ĉ4 λ i H2 S2 x1 x2 _=>#[ſ8,λ hl=>#[xs,(x1.Zv g1).sq,by rw[<- Ę9];show hl]]]];let#[y,hy,_]:=g2.get hd;exact#[#[xs,y,(x1.Zv g1).sq,hy],ÁJ];let#[rfl,q]:=q;show#[ĳ8,x2,(í4 x1 ds g2).at hd (q xs (x1.Zv g1).sq)]
  | _=>show ą8
end
end L3
namespace L4
open Ķ PySem.W É
def xJ Å2 Ï7 (lt:ß2):KasT α->(α->Prop)->Prop
 | .ret a,Q=>Q a
 | .ask i j k,Q=>i<n/\j<n/\xJ n lt (k (lt i j)) Q
theorem ĳ9 Å2 Ë0{lt:ß2}{Q Q':α->Prop}(hq:∀ a,Q a->Q' a):∀ {t:KasT α},xJ n lt t Q->xJ n lt t Q'
 | .ret _,h=>hq _ h
 | .ask Þ6,h=>#[h.1,h.2.1,ĳ9 hq h.2.2]
theorem ÅE į5 Ë0{lt:ß2}{f:α->KasT β}{Q:β->Prop}:∀ {t:KasT α},xJ n lt t (λ a=>xJ n lt (f a) Q)->xJ n lt (t.bind f) Q
 | .ret _,h=>h
 | .ask Þ6,h=>#[h.1,h.2.1,ÅE h.2.2]
section
variable {Ë0}{lt:ß2}
def Le (lt:ß2) (a b:Nat):Prop:=lt b a=Ç
structure Ord (lt:ß2):Prop where
 tr:∀ a b c,Le lt a b->Le lt b c->Le lt a c
 as:∀ a b,lt a b=true->Le lt a b
def Ord.refl ļ7 (a:Nat):Le lt a a:=by
 cases h:lt a a with
 | Ç=>show h
 | true=>show o.as a a h
def vC Ï7 (p:Č0):Prop:=p.Perm (ő n).toArray
theorem vC.size Çz(h:vC n p):p.size=n:=by rw[Array.Perm.size_eq h];simp
theorem vC.below Çz(h:vC n p) È1(hi:i<n):Ń4<n:=by
 have hs:=h.size;have hm:Ń4 ∈p:=by
  rw[ze0,zB8 ⋯];show Array.getElem_mem ⋯
 have:Ń4 ∈(ő n).toArray:=(Array.Perm.mem_iff h).mp hm;ext Ŋ0
def bN {p q:Č0}ò4(h:p[i]?=q[j]?):Ń4=q.getD j 0:=by rw[ze0,ze0,h]
def my ÃC ã0:Prop:=∀ i j,i<=j->j<k->Le lt (Ń4) (Ç7 j 0)
def jq ÃC ã0:Prop:=∀ i j,i<=j->j<k->Le lt (Ç7 j 0) (Ń4)
def my.next Ú1 Õ7(h:my lt p k) (hk:1<=k) (hl:Le lt (Ç7 (k-1) 0) ā7):my lt p ě9:=λ i j hij hj=>by
 by_cases hjk:j<k
 .show h i j hij hjk
 .ext ÆS
  .subst hi;show ġ0
  .show o.tr Þ6 (h i (j-1) Á7) hl
def jq.next Ú1 Õ7(h:jq lt p k) (hk:1<=k) (hl:Le lt ā7 (Ç7 (k-1) 0)):jq lt p ě9:=λ i j hij hj=>by
 by_cases hjk:j<k
 .show h i j hij hjk
 .ext ÆS
  .subst hi;show ġ0
  .show o.tr Þ6 hl (h i (j-1) Á7)
theorem Ui Ú1 Ĕ6:∀ (f a:Nat),1<=a->a+f<=n->my lt p a->
  xJ n lt (kas_asc p f a) λ m=>a<=m/\m<=a+f/\my lt p m/\(m=a+f\/ý8=true)
 | 0,a,_,_,hs=>#[Ű6,Ű6,hs,Ď7]
 | f+1,a,h1,h2,hs=>by
  exact á0;cases c:lt (Ç7 a 0) (Ç7 (a-1) 0) with
  | true=>show#[Ű6,⋯,hs,ħ c]
  | Ç=>
   exact ĳ9 ?_ (Ui o hp f (a+1) Á7 (hs.next o h1 c));rintro m ⟨g1,g2,g3,g4⟩;show#[⋯,⋯,g3,g4.imp (λ e=>⋯) id]
def cP Çz Ĕ6 ħ3:vC n (kas_rev p i j):=Array.Perm.trans (mirror_perm ô1) hp
theorem cQ Çz Ĕ6 ò4(hj:j<=n) ã0:ĺ1=if i<=k/\k<j then Ç7 (i+j-1-k) 0 else Ç7 k 0:=by
 have e:=getElem?_mirror_all (xs:=p) (i:=i) (j:=j) (by rw[hp.size];show hj) k;split
 .ext ŭ9;rw[í h] at e;show bN e
 .ext ŭ9;rw[à h] at e;show bN e
def rev_eq Ú1 Ĕ6 ò4(hj:j<=n) (he:∀ a b,i<=a->a<j->i<=b->b<j->Ĵ0) ã0:
  Le lt (ĺ1) ā7/\Le lt ā7 (ĺ1):=by
 rw[cQ hp hj];split
 .ext ŭ9;show#[he È Á7 h.1 h.2,he È h.1 h.2 Á7]
 .show#[ġ0,ġ0]
def jq.of_eq ļ7 {p q:Č0}Õ7(h:jq lt p k) (e:∀ k,Le lt (q.getD k 0) ā7/\Le lt ā7 (q.getD k 0)):jq lt q k:=λ i j hij hj=>
 o.tr Þ6 (e j).1 (o.tr Þ6 (h i j hij hj) (e i).2)
def Tb ÃC (m q:Nat):Prop:=∀ a b,m-(q+1)<=a->a<m->m-(q+1)<=b->b<m->Ĵ0
theorem Y6 ļ7:∀ (f:Nat) (p:Č0) (m q:Nat),vC n p->1<=m->m+f<=n->jq lt p m->q+1<=m->Tb lt p m q->
  xJ n lt (kas_desc f p m q) λ r=>vC n r.1/\m<=r.2.1/\r.2.1<=m+f/\jq lt r.1 r.2.1/\r.2.2+1<=r.2.1/\Tb lt r.1 r.2.1 r.2.2
 | 0,p,m,q,hp,_,_,hd,hq,hb=>#[hp,Ű6,Ű6,hd,hq,hb]
 | f+1,p,m,q,hp,h1,h2,hd,hq,hb=>by
  have one:∀ p':Č0,Tb lt p' (m+1) 0:=λ p' a b a1 a2 b1 b2=>by
   have:a=b:=⋯;ext ě0;show ġ0
  exact á0;cases c:ý8 with
  | true=>
   ext ų;rw[Ā4];have hl:=o.as È c;by_cases h0:q>0
   .rw[í h0];have e:=rev_eq o hp (i:=m-(q+1)) (j:=m) ⋯ hb;have hp':=cP hp (m-(q+1)) m;exact ĳ9 ?_ (Y6 o f _ (m+1) 0 hp' Á7 ((hd.of_eq o e).next o h1 (o.tr Þ6 (e m).1 (o.tr Þ6 hl (e (m-1)).2))) ⋯ (one _));ext ø3
   .rw[à h0];exact ĳ9 ?_ (Y6 o f _ (m+1) 0 hp Á7 (hd.next o h1 hl) ⋯ (one _));ext ø3
  | Ç=>
   ext Ân;exact á0;cases d:lt (Ç7 (m-1) 0) (Ç7 m 0) with
   | true=>show#[hp,Ű6,(by change m<=m+(f+1);lia),hd,hq,hb]
   | Ç=>
    ext Ân;exact ĳ9 ?_ (Y6 o f _ (m+1) (q+1) hp Á7 (hd.next o h1 d) ⋯ λ a b a1 a2 b1 b2=>?_)
    .ext ø3
    .by_cases ha:a=m
     .by_cases hb':b=m
      .subst ha;subst hb';show ġ0
      .subst ha;show o.tr Þ6 d (hb (a-1) b Á7 Á7)
     .by_cases hb':b=m
      .subst hb';show o.tr Þ6 (hb a (b-1) Á7 Á7) c
      .show hb a b Á7 Á7
theorem TR Ú1{m:Nat}Ĕ6 (h1:1<=m) (h2:m<=n) (hd:jq lt p m):xJ n lt (kas_tail3 m n p) ā8:=by
 exact ÅE (ĳ9 ?_ (Ui o (cP hp 0 m) (n-m) m h1 ⋯ ň4))
 .rintro k ⟨a1,a2,a3,_⟩;show#[cP hp 0 m,⋯,a3]
 .rw[cQ hp h2,cQ hp h2,í #[zD4 _,⋯],í #[zD4 _,hj]];show hd È Á7
theorem Ot Ú1{m:Nat}Ĕ6 (h1:1<=m) (h2:m<n) (hd:jq lt p m) (hl:ý8=true):xJ n lt (kas_descPart m n p) ā8:=by
 exact ÅE (ĳ9 ?_ (Y6 o (n-(m+1)) p (m+1) 0 hp Á7 (hd.next o h1 (o.as È hl)) ⋯ λ a b a1 a2 b1 b2=>?_))
 .rintro⟨p',m',q'⟩ ⟨a1,a2,a3,a4,a5,a6⟩;dsimp only at a1 a2 a3 a4 a5 a6 ⊢;by_cases h0:q'>0
  .rw[í h0];show TR o (cP a1 È) Á7 (a4.of_eq o (rev_eq o a1 (i:=m'-(q' + 1)) (j:=m') ⋯ a6))
  .rw[à h0];show TR o a1 Á7 a4
 .have:a=b:=⋯;ext ě0;show ġ0
theorem Aw Ú1 Ĕ6 (h1:1<=n):xJ n lt (kas_count n p) ā8:=by
 exact ÅE (ĳ9 ?_ (Ui o hp (n-1) 1 İ ⋯ ň4))
 .rintro m ⟨a1,a2,a3,a4⟩;by_cases hm:m=n
  .rw[í (by simp[hm])];show#[hp,⋯,a3]
  .rw[à (by simp[hm])];have hl:ý8=true:=a4.resolve_left ⋯;by_cases h2:m>1
   .rw[í h2];exact á0;cases c:lt (Ç7 0 0) (Ç7 (m-1) 0) with
    | true=>show#[hp,⋯,a3]
    | Ç=>
     ext Ân;have all:∀ a b,0<=a->a<m->0<=b->b<m->Ĵ0:=λ a b _ ha _ hb=>
      o.tr Þ6 (a3 a (m-1) Á7) (o.tr Þ6 c (a3 0 b ⋯ hb))
     have e:=rev_eq o hp (i:=0) (j:=m) ⋯ all;exact Ot o (cP hp 0 m) Á7 (λ i j hij hj=>o.tr Þ6 (e j).1 (o.tr Þ6 (all È Ĝ3 hj Ĝ3 ⋯) (e i).2)) ?_;rw[cQ hp ⋯,cQ hp ⋯,à ⋯,í ⋯];cases q:lt (Ç7 m 0) (Ç7 (0+m-1-(m-1)) 0) with
     | true=>rfl
     | Ç=>
      have:=o.tr Þ6 (all (m-1) (0+m-1-(m-1)) Ĝ3 ⋯ Ĝ3 ⋯) q;unfold Le at this;rw[this] at hl;cases hl
   .rw[à h2];have e:m=1:=⋯;subst e;exact Ot o hp İ ⋯ (ň4) hl;ext ź1
 .ext ź1
theorem Wk Çz Õ7 Ĕ6 (hk:k<n) (hs:my lt p k) ļ7:∀ (f l r:Nat),r-l<=f->l<=r->r<=k->(∀ i,i<l->Le lt (Ń4) ā7)->(∀ i,r<=i->i<k->lt ā7 (Ń4)=true)->
  xJ n lt (kas_place p k f l r) λ m=>m<=k/\(∀ i,i<m->Le lt (Ń4) ā7)/\(∀ i,m<=i->i<k->lt ā7 (Ń4)=true)
 | 0,l,r,h0,h1,h2,ha,hb=>by
  ext ÇV
 | f+1,l,r,h0,h1,h2,ha,hb=>by
  unfold kas_place;by_cases hlr:l≥r
  .rw[í hlr];ext ÇV
  .rw[à hlr];exact#[hp.below hk,hp.below ⋯,?_];cases c:lt ā7 (Ç7 ((l+r)/2) 0) with
   | true=>
    ext ų;rw[Ā4];exact Wk hp hk hs o f l ((l+r)/2) Á7 ⋯ ha λ i hi hik=>?_;cases q:lt ā7 (Ń4) with
    | true=>rfl
    | Ç=>
     have:=o.tr Þ6 (hs ((l+r)/2) i hi hik) q;unfold Le at this;rw[this] at c;cases c
   | Ç=>
    ext Ân;exact Wk hp hk hs o f ((l+r)/2+1) r Á7 h2 (λ i hi=>?_) hb;show o.tr Þ6 (hs i ((l+r)/2) Á7) c
theorem N6 ļ7:∀ (f:Nat) (p:Č0) ã0,vC n p->k+f=n->my lt p k->xJ n lt (kas_bin f p k) λ r=>vC n r/\my lt r n
 | 0,p,k,hp,h1,hs=>by
  have:k=n:=⋯;ext ě0;show#[hp,hs]
 | f+1,p,k,hp,h1,hs=>by
  exact ÅE (ĳ9 ?_ (Wk hp ⋯ hs o k 0 k ⋯ Ĝ3 İ (λ i hi=>ŗ hi (Nat.not_lt_zero _)) λ i hi hik=>ŗ hik ⋯));rintro l ⟨a1,a2,a3⟩;exact N6 o f _ ě9 (Array.Perm.trans (bubble_perm Þ6) hp) ⋯ ň4;have ev:∀ x,(bubble p k (k-l)).getD x 0=if x=l then Ç7 k 0 else if l<x/\x<=k then Ç7 (x-1) 0 else Ç7 x 0:=λ x=>by
   have e:=getElem?_bubble (xs:=p) (src:=k) (by rw[hp.size];lia) (k-l) ⋯ x;rw[show k-(k-l)=l by lia] at e;split
   .ext ŭ9;rw[í h] at e;show bN e
   .ext ŭ9;rw[à h] at e;split
    .rename_i h';rw[í h'] at e;show bN e
    .rename_i h';rw[à h'] at e;show bN e
  rw[ev i,ev j];by_cases hi:i=l
  .rw[í hi];by_cases hj':j=l
   .rw[í hj'];show ġ0
   .rw[à hj',í ő7];show o.as È (a3 (j-1) Á7)
  .rw[à hi];by_cases hj':j=l
   .rw[í hj',à ⋯];show a2 i ⋯
   .rw[à hj'];by_cases hi2:l<i/\i<=k
    .rw[í hi2,í ő7];show hs È Á7
    .rw[à hi2];by_cases hj2:l<j/\j<=k
     .rw[í hj2];show hs È Á7
     .rw[à hj2];show hs È hij ⋯
theorem KQ ļ7 (h1:1<=n):xJ n lt (kas_sort n) λ r=>vC n r/\my lt r n:=by
 have hp:vC n (ő n).toArray:=Array.Perm.refl _;exact ÅE (ĳ9 ?_ (Aw o hp h1));rintro⟨m,p⟩ ⟨a1,a2,a3⟩;dsimp only at a1 a2 a3 ⊢;by_cases hm:m<n
 .rw[í hm];exact N6 o _ p (max m 1) a1 ⋯ ?_;by_cases h0:m=0
  .subst h0;intro i j hij hj;ext ź1
  .rw[show max m 1=m by lia];show a3
 .rw[à hm];have:m=n:=⋯;ext ě0;show#[a1,a3]
end
end L4
namespace L4
open Ķ PySem.W PySem.Calls É
section
variable {Æ}
def Core Ĉ4 Ŀ Ĥ6 ÀN (vs:zLV) (Out:ŧ Ñ->Prop) (s6:û):Prop:=
 î Î (keyKind' ń) (fun κ s'=>s'=s6/\î Î ((sortRuns').run (SortSt.mk' κ (Àa) ø 7 none))
  (λ r s''=>s''=s6/\failedOf r.2=none/\Out ((arrOf r.2).map ſ)/\(arrOf r.2).size=Ż) E s') E s6
def E5 Ħ ñ1 Ë0 ÀV{Out:ŧ Ñ->Prop}(ho:Þ a=↑(ÅF "list" ń n)) (hz:Ż<=Ê)
  (core:2<=Ż->∀ s6:û,(∀ b o,b≠a->Á2->s6.heap.get? b=↑o)->Core Í3 A E vs Out s6) (short:Ż<2->Out ń)
  (fin:∀ out:ŧ Ñ,Out out->out.size=Ż->P (.done (.ret Ą3)) { s with heap:=sortedHeap ó a vs out }):
  î Î (Builtin.«list.sort» #[[Ú6],[]]) P E s:=by
 have ha:a<À:=zA8 ho;obtain⟨e1,g1⟩:∃ e1,(ð9 a (Û0 λ _=>ø)).get? a=↑(ÅF "list" ø e1):=#[_,œ4 ho (λ _=>ø)];have hz':vs.toArray.size<=Ê:=by rw[zA0];show hz
 have g6:ć7 a=↑(ÅF "list" ø e1):=zeT _ (zeT _ g1);have keep:∀ b o,b≠a->Á2->ć7 b=↑o:=
  λ b o hb e=>zeT _ (zeT _ (by rw[zfI ô1 hb];show e))
 rw[list_sort_plain];exact zeS (œ5 ho rfl (zeS (Ų5 ho rfl (zeS (seqEpoch_at g1 rfl (zeS (wpAny_newTuple (zeS (wpAny_newList (zeZ ?_))) (by exists hz))))) hz' Ĝ3)));by_cases h2:vs.toArray.size<2
 .rw[í h2,í h2];have e2:ģ1=ń:=by
   change (Àa).map ſ=ń;apply Array.ext #[];intro i h1 h2;simp
  ext ĝ8;ext ų;rw[StateT.run_pure];ext ĝ8;ext ų;exact ą9
  .ext ÀW;have q:=fin _ (e2▸short (by exists h2)) (by rw[e2];simp);show zD1 q
  .change ((ģ1)).size<=Ê+1;rw[e2];lia
 .rw[à h2,à h2];have h2':2<=Ż:=by exists h2
  exact zeS (zeY (core h2' _ keep) (fun κ s7 #[hs,h7]=>?_) λ _ _ z=>z);subst hs;exact zeS (zeY h7 (λ r s8 #[hs,hf,hout,hsz]=>?_) λ _ _ z=>z);subst hs;obtain⟨⟨⟩,st⟩:=r;exact ą9
  .have hf':failedOf st=none:=hf;rw[hf'];ext ÀW;show zD1 (fin _ hout (by rw[zdG];show hsz))
  .change ((arrOf st).map ſ).size<=Ê+1;rw[zdG];have:(arrOf st).size=Ż:=hsz;lia
def KO Ï8 ñ1(out:zAV):∃ e,(sortedHeap (ÄH ë7) É8 vs out).get? É8=↑(ÅF "list" out e):=by
 have there:(ÄH ë7).get? É8=↑ ë7:=Á1;show#[_,œ4 (zeT _ (zeT _ (œ4 there λ _=>ø))) λ _=>out]
def Si Ħ ñ1 Ð9{Out:ŧ Ñ->Prop}{N:ŝ}
  (C:∀ Q':Ĭ2->ŉ,(∀ h1 tk,(∀ b o,¬ N b->ĥ8)->Ħ2)->î (model Í3) ž4 Ų6 Q' E s) (hz:Ż<=Ê)
  (core:2<=Ż->∀ s6:û,(∀ b o,¬ N b->Á2->s6.heap.get? b=↑o)->Core Í3 A.in1.in1 E vs Out s6) (short:Ż<2->Out ń)
  (fin:∀ (out:zAV) (h':Heap) (tk l:Nat),Out out->out.size=Ż->À<=l->(∀ b o,¬ N b->Ł8)->(∃ e,Ŗ l=↑(ÅF "list" out e))->Q Ø1 { s with heap:=h',toks:=tk }):
  î Î (call Ń5 [Ú6]) Í6:=by
 exact Calls.call_function_entry kind_sorted plain_sorted entry_sorted (args_sorted1 _) ?_;unfold Builtin.«sorted»;exact zeS (m:=checkCount "sorted" 1 1 _) (zD1 (zeS (C _ λ h1 tk k1 k2=>zeS (wpAny_newList ?_ hz))));have hoL:(h1.push ë7).get? ÁL=↑ ë7:=Á1;change î È Þ6 { s with heap:=h1.push ë7,toks:=tk };exact zeS (zeZ (zf0 slot_list_sort #[_,hoL,rfl] entry_list_sort (E5 hoL hz (λ h2 s6 k=>core h2 s6 λ b o n q=>k b o (zB3 (zA8 (k1 b o n q))) (zeT _ (k1 b o n q))) short λ out g1 g2=>œ6) (args_list_sort _)));exact zD1 #[_,rfl,fin out _ tk ÁL g1 g2 k2 (λ b o n q=>?_) (KO out)];have q1:=k1 b o n q;have hb:=zB3 (zA8 q1);unfold sortedHeap;rw[zfI ô1 hb];exact zeT _ (zeT _ ?_);rw[zfI ô1 hb];show zeT _ q1
end
end L4
namespace L4
open Ķ PySem.W PySem.Calls É L2
theorem Yd:∀ a b:Ï,Ô9 a b=true->ÅG=Ç
 | [],[],h=>è1
 | [],ÃX,_=>rfl
 | ÃX,[],h=>è1
 | x::a,y::b,h=>by
  rw[HT.jH] at h ⊢;by_cases e:x=y
  .subst e;rw[Ā4] at h ⊢;show Yd a b h
  .rw[à e] at h;rw[à (Ë9 e)];have:=ý0 h;show Åj
theorem WS:∀ a b:Ï,Ô9 a b=Ç->ÅG=Ç->a=b
 | [],[],_,_=>rfl
 | [],ÃX,h,_=>è1
 | ÃX,[],_,h=>è1
 | x::a,y::b,h,h'=>by
  rw[HT.jH] at h h';by_cases e:x=y
  .subst e;rw[Ā4] at h h';rw[WS a b h h']
  .rw[à e] at h;rw[à (Ë9 e)] at h';have h1:=ô9 h;have h2:=ô9 h';lia
theorem Yc:∀ a b c:Ï,ÅG=Ç->Ô9 c b=Ç->Ô9 c a=Ç
 | [],[],[],_,_=>rfl
 | [],[],ÃX,_,h=>h
 | [],ÃX,[],_,h=>è1
 | [],ÃX,ÃX,_,_=>rfl
 | ÃX,[],_,h,_=>è1
 | ÃX,ÃX,[],_,h=>è1
 | x::a,y::b,z::c,h,h'=>by
  rw[HT.jH] at h h' ⊢;by_cases e1:y=x
  .subst e1;rw[Ā4] at h;by_cases e2:z=y
   .subst e2;rw[Ā4] at h' ⊢;show Yc a b c h h'
   .rw[à e2] at h' ⊢;show h'
  .rw[à e1] at h;have h1:=ô9 h;by_cases e2:z=y
   .subst e2;rw[à e1];show h
   .rw[à e2] at h';have h2:=ô9 h';rw[à ⋯];show Åj
theorem Wr Å2{r:α->α->Prop}(an:∀ a b,r a b->r b a->a=b):∀ {l₁ l₂:Ü3},l₁.Perm l₂->l₁.Pairwise r->l₂.Pairwise r->l₁=l₂
 | [],l₂,h,_,_=>(List.nil_perm.mp h).symm
 | a::l₁,[],h,_,_=>ŗ (List.perm_nil.mp h) #[]
 | a::l₁,b::l₂,h,h1,h2=>by
  have hab:a=b:=by
   have ha:a∈b::l₂:=h.mem_iff.mp zc1;have hb:b∈a::l₁:=h.mem_iff.mpr zc1;rcases ã7 ha with e | ha
   .show e
   .rcases ã7 hb with e | hb
    .show e.symm
    .show an È (List.rel_of_pairwise_cons h1 hb) (List.rel_of_pairwise_cons h2 ha)
  subst hab;rw[Wr an (List.Perm.cons_inv h) (zc8.mp h1).2 (zc8.mp h2).2]
def xN Ĥ9:Ê3:=rows.mergeSort λ a b=>! ÅG
def lu Ĥ9:(xN rows).Perm rows:=List.mergeSort_perm È
def eD Ĥ9:(xN rows).Pairwise Ē6:=by
 have:=List.pairwise_mergeSort (le:=λ a b:Ï=>! ÅG) (λ a b c h1 h2=>by simp at h1 h2 ⊢;show Yc a b c ħ5)
  (λ a b=>by
   cases h:ÅG with
   | Ç=>simp
   | true=>simp[Yd b a h]) rows
 show this.imp λ h=>ĝ4
def XO {rows out:Ê3}(hp:out.Perm rows) (hs:out.Pairwise Ē6):out=xN rows:=
 Wr (λ a b h1 h2=>WS a b h2 h1) (hp.trans (lu rows).symm) hs (eD rows)
def cN Ĥ9 ħ3:Bool:=Ô9 (Š2) (rows.getD j [])
def J6 Ĥ9:Ord (cN rows):=#[λ _ _ _ h1 h2=>Yc Þ6 ħ5,λ _ _ h=>Yd È h]
section
variable {Æ}{ü0}
theorem QF ı3:∀ (ns ms:Ï) (us ws:zLV) ċ,Ö6 us ns->Ö6 ws ms->Q (Ô9 ns ms) s->KatLex Í3 A b (Ď (à5<ms.length)) Q (us.zip ws) i s
 | [],[],_,_,_,Á5,Á5,h=>ĝ6
 | [],ÃX,_,_,_,Á5,Ī Þ6,h=>ĝ6
 | ÃX,[],_,_,_,Ī Þ6,Á5,h=>ĝ6
 | n::ns,m::ms,_,_,i,Ī _ t hu,Ī _ u hw,h=>by
  rw[HT.jH] at h;exact kat_cons (SeqAt.EqAt.int_int n t m u Í3 È (kat_go (λ e=>kat_yes ?_) λ e=>kat_no ?_))
  .have e':n=m:=ė9
   rw[í e'] at h;rw[show Ď ((n::ns).length<(m::ms).length)=Ď (à5<ms.length) by simp];show QF ns ms È ü8 hu hw h
  .have e':¬ n=m:=ė9
   rw[à e'] at h;cases b&&i == 0 with
   | true=>show kat_lt_int h
   | Ç=>show kat_one È (lt_int h)
def fG Î0:Ĭ2->Ê3->Prop:=ã6 λ v r=>r≠[]/\∃ b o its n,v=Ä b/\è2/\ÄR/\Ő2=Ġ0 its n/\Ö6 Ř2 r
theorem fG.PB Ï8:∀ ñ1 Ĕ7,fG h vs rows->∃ fs,KatTups h vs fs/\Ů8=Ż/\∀ v∈fs,∃ n t,v=ì4 n t
 | _,_,Á5=>#[[],KatTups.nil,rfl,λ _ hv=>ŗ hv #[]]
 | _,_,Ī #[hne,b,o,its,n,hv,ho,hc,hd,hi] r=>by
  let#[fs,h1,h2,h3]:=fG.PB r;subst hv;let#[its]:=its;cases hi with
  | nil=>show ŗ rfl hne
  | cons k t _=>show#[ä k t::fs,KatTups.cons ho hc hd rfl h1,by simp[h2],λ v hv=>(ã7 hv).elim (λ e=>#[k,t,e]) (h3 v)]
theorem Paired.at' ò7:∀ {l₁:Ü3}{l₂:List β}È1,ã6 F l₁ l₂->i<l₁.length->∀ (d:α) (e:β),F (l₁.getD i d) (l₂.getD i e)
 | _,_,_,Á5,h,_,_=>ŗ h #[]
 | _,_,0,Ī r _,_,_,_=>r
 | _,_,i+1,Ī _ t,h,d,e=>by exists Paired.at' (i:=i) t (ĝ4) d e
def fG.ask ñ1 Ĕ7 ı3(r:fG ó vs rows) ò4(hi:i<Ż) (hj:j<Ż) {C:Bool->ŉ}(h:C (cN rows i j) s):kas_ask Í3 A (tuples' b) vs i j C s:=by
 let#[_,b1,o1,its1,n1,e1,g1,_,d1,q1]:=Paired.at' r hi ì5 [];let#[_,b2,o2,its2,n2,e2,g2,_,d2,q2]:=Paired.at' r hj ì5 [];unfold kas_ask;rw[e1,e2];exact kat_lt g1 d1 g2 d2 ?_;have l1:=q1.length;have l2:=q2.length;rw[zD2] at l1 l2;rw[l1,l2];show QF ô1 0 q1 q2 h
theorem Tf Å2 Ë0{lt:ß2}{cmp:Nat->Nat->(Bool->ŉ)->ŉ}{Q:α->ŉ}(hc:∀ i j C,i<n->j<n->C (lt i j) s->cmp i j C s):∀ {t:KasT α},xJ n lt t (λ a=>Q a s)->t.kasWp cmp Q s
 | .ret _,h=>h
 | .ask i j _,h=>hc i j _ h.1 h.2.1 (Tf hc h.2.2)
def U1 (vs:zLV) Ĥ9 (out:zAV):Prop:=
 ∃ ps:List (Ñ × Ï),ps.Perm (vs.zip rows)/\ř9=ã9 đ/\(œ7).Pairwise Ē6
theorem MW į5{l:Ü3}{m:List β}(h:Ń6=Äc) (a:α) (b:β):(ő Ń6).map (λ i=>(l.getD i a,m.getD i b))=l.zip m:=by
 exact zcW Ø2 λ i h1 h2=>?_;have h3:i<Ń6/\i<Äc:=by simp at h1;lia
 simp[h3.1,h3.2]
theorem KG Ĕ7 Çz Ë0(hn:p.size=n) (h:my (cN rows) p n):(p.toList.map λ i=>Š2).Pairwise Ē6:=by
 rw[zcD,zdH];intro i j hi hj hij;have:=h i j (zE3 hij) (by rw[<- hn];exists hj);simp![zD2] at hi hj;unfold Le cN at this;simpa [ze0,hi,hj] using this
theorem Ax ñ1 Ĕ7(r:fG ó vs rows) (h2:2<=Ż) (pL:Ż<64):Core Í3 A E vs (U1 vs rows) s:=by
 let#[fs,t,hl,hf]:=r.PB;unfold Core;exact kat_kind (T:=Ć "int") t ⋯ (λ v hv=>?_) rfl #[rfl,?_]
 .let#[n,t,rfl]:=hf v hv;show Looks.of_pure rfl
 .exact kat_run (ks:=vs) (Q:=λ st s''=>s''=s/\failedOf st=none/\U1 vs rows ((arrOf st).map ſ)/\(arrOf st).size=Ż) (G:=λ p s''=>s''=s/\vC Ż p/\my (cN rows) p Ż) rfl h2 pL (λ p st s' hs ha hfl hg=>?_) ?_
  .let#[h1,h3,h4]:=hg;exact#[h1,hfl,#[p.toList.map λ i=>(vs.getD i ì5,Š2),?_,?_,?_],by rw[ha,zdG];show hs]
   .rw[<- MW (ð4 r) ì5 []];have:=Array.Perm.toList h3;show List.Perm.map _ (by ext Ŋ0)
   .rw[kat_snds rfl ha,zD6];rfl
   .rw[zD6];show KG hs h4
  .show Tf (λ i j C hi hj hC=>r.ask hi hj hC) (ĳ9 (λ p hp=>#[rfl,hp]) (KQ (J6 rows) ⋯))
end
section
variable {þ}
def Paired.perm ò7{l l':Ü3}(p:l'.Perm l):∀ {m:List β},ã6 F l m->∃ m',m'.Perm m/\ã6 F l' m':=by
 induction p with
 | nil=>intro m h;show#[m,ĳ8,h]
 | cons x _ ih=>
  intro m h;cases h with
  | cons a h=>
   let#[m',h1,h2]:=ih h;show#[_,h1.cons _,Ī a h2]
 | swap x y l=>
  intro m h;cases h with
  | cons a h=>
   cases h with
   | cons b h=>show#[_,.swap Þ6,Ī b (Ī a h)]
 | trans _ _ ih1 ih2=>
  intro m h;let#[m1,h1,h2]:=ih2 h;let#[m2,h3,h4]:=ih1 h2;show#[m2,h3.trans h1,h4]
abbrev NY ñ É5 (v:V) (r:Ï):Prop:=r≠[]/\∃ b,v=V.ref b/\yC ŋ b (r.map V.int)
abbrev iU ñ É5 (ys:Ą) Ĥ9:Prop:=ã6 (NY ŋ) ys rows
abbrev VR ñ É5:Ĭ2->Ķ5->Prop:=ã6 λ u q=>RelV q.1 u/\NY ŋ q.1 q.2
theorem VR.of ģ ĺ:∀ {ys:Ą}ñ1 Ĕ7,Vals ys vs->iU ŋ ys rows->VR ŋ vs (ĩ7)
 | _,_,_,Á5,Á5=>Á5
 | _,_,_,Ī r t,Ī r' t'=>Ī #[r,r'] (VR.of t t')
abbrev aH (qs:Ķ5) É5 č0:Prop:=∀ p (ps:Ķ5),Đ5->ps.Perm qs->(œ7).Pairwise (Ē6)->Q ó9 (upd H p (ú Ų7))
def XN į6{σ:L2.St}ĺ ď5 Ħ ñ1{qs:Ķ5}Ŗ3 į
  (C:∀ Q':Ĭ2->ŉ,(∀ h1 tk,(∀ b o,¬ Ń->ĥ8)->Ħ2)->î ć4 X.A.in1 Ų6 Q' ē9)
  (hv:VR Ñ8 vs qs) (pL:qs.length<64) (q:aH qs H Q):î Å (call Ń5 [Ú6]) Ë3 s:=by
 have hl:Ż=qs.length:=ð4 hv;have hz:qs.length<=Ê:=zE0 (zE3 pL) ();have rows_at:∀ h6:Heap,(∀ b o,¬ Ń->Á2->h6.get? b=↑o)->fG h6 vs ÅH:=λ h6 k=>by
  clear q hl pL hz C
  induction hv with
  | nil=>show Á5
  | cons g t ih=>
   exact Ī ?_ ih;let#[r1,hne,b,e1,hb]:=g;rw[e1] at r1;cases r1;let#[its2,rv2,#[o,e,hc,n,hd],_]:=Ò7 hb;show#[hne,b,o,_,n,rfl,k È id e,hc,hd,by exists ž6 rv2]
 exact Si (Out:=U1 vs ÅH) C ⋯ (λ h2 s6 k=>Ax (rows_at _ k) h2 ⋯) (λ h1=>#[vs.zip ÅH,ĳ8,by rw[List.map_fst_zip Ø2],?_]) λ out h' tk p ho hs hp k hat=>?_
 .rw[List.map_snd_zip Ø2,zdH];intro i j hi hj hij;simp at hi hj;lia
 .let#[ps,g1,g2,g3]:=ho;let#[e,he]:=hat;have z:ã6 (λ p q=>RelV q.1 p.1/\p.2=q.2) (vs.zip ÅH) qs:=by
   clear g1 hs hl pL hz C rows_at q
   induction hv with
   | nil=>show Á5
   | cons a _ ih=>show Ī #[a.1,rfl] ih
  let#[qs',q1,q2]:=Paired.perm g1 z;have f:Vals (qs'.map đ) Ų7/\qs'.map ſ=œ7:=by
   clear q1 g1 g2 g3
   induction q2 with
   | nil=>show#[Á5,rfl]
   | cons a _ ih=>show#[Ī a.1 ih.1,by rw[zA6,zA6,ih.2,a.2]]
  exact#[Â1,_,ċ5 (t':=tk) (o:=ú (qs'.map đ)) (λ b o e=>k b o id e) hp #[?_,ř9,e,by rw[g2];show f.1,by exists he],rfl,q p qs' (ģ6 hp) q1 (by rw[f.2];show g3)];rw[zA7,q1.length_eq];show hz
end
end L4
namespace L2
open Ķ â É
def mP (ty T:ý5):Bool:=ty == T||(ty == "bool"&&T == "int")
def Zh (ty T:ý5):Bool:=PySem.W.kitMeta T&&Ď ((fastBuiltinMro ty).map (λ l=>l.contains (ì6 T))=↑ Ų8)
def L8:(["NoneType","bool","int","str","tuple","list","dict"].all λ ty=>["int","bool","tuple","list","str"].all λ T=>Zh ty T)=true:=by ext Ĳ1
def ES ģ{ty T:ý5}(h:Zh ty T=true):PySem.W.kitOne K (Ć ty) (Ć T)=↑ Ų8:=by
 unfold Zh at h;rw[zE5] at h;unfold PySem.W.kitOne;split
 .rename_i e;have e':ty=T:=by have:=eq_of_beq e;injection this
  subst e';simp[mP]
 .change (if PySem.W.kitMeta T=true then PySem.W.subIn K (Ć ty) (Ć T) else none)=_;rw[í h.1];show ý0 h.2
def NX ñ É5:V->ý5->Prop
 | .zJ,t=>t="NoneType"
 | .bl _,t=>t="bool"
 | ä _,t=>t="int"
 | ß _,t=>t="str"
 | Ú6,t=>(t="tuple"/\∃ xs,ĸ3)\/(t="list"/\∃ xs,ş4)\/(t="dict"/\∃ kvs,Ài)
 | _,_=>Ń
def AY þ:xT X (ū "isinstance") (λ xs H Q=>∃ x T ty,xs=[x,.ty T]/\NX Ñ8 x ty/\Zh ty T=true/\Q (.bl Ų8) H):=by
 ext Ĳ;let#[x,T,ty,rfl,hx,hT,q]:=h;let#[u,c,rfl,ru,rc]:=vals2 r;cases (show c=ì6 T from rc);have e:PySem.W.kitOne X.K (Ć ty) (Ć T)=↑ Ų8:=ES hT;have fin:∀ tk,EP ď Q (đ6 Ų8) { s with toks:=tk }:=λ tk=>#[.bl _,H,I.tok tk,rfl,q];cases x with
 | zJ=>cases (show u=ì5 from ru);cases Áp;show ù6 PySem.W.kitx_none I.vo ó0 Ý9
 | bl y=>cases (show u=Ž2 y from ru);cases Áp;show ù6 PySem.W.kitx_bool I.vo ó0 Ý9
 | int i=>let#[t,rfl]:=(show ş1 from ru);cases Áp;show ù6 PySem.W.kitx_int I.vo ó0 Ý9
 | str y=>let#[t,rfl]:=(show ∃ t,u=Value.str y t from ru);cases Áp;show ù6 PySem.W.kitx_str I.vo ó0 Ý9
 | ref a=>
  cases (show u=ķ a from ru);rcases hx with ⟨rfl,ys,hq⟩ | ⟨rfl,ys,hq⟩ | ⟨rfl,kvs,hq⟩
  .let#[its,_,#[o,h1,h2,_],_]:=ÄV;show ù6 PySem.W.kitx_tuple I.vo #[o,h1,h2] Ý9
  .let#[its,_,#[o,n,h1,h2,_],_]:=ÁA;show ù6 PySem.W.kitx_list I.vo #[o,h1,h2] Ý9
  .let#[_,_,vs,_,p]:=(show wu Ĉ H ó a Þ2 from I.zM a _ hq)
   let#[o,es,ep,h1,h2,_]:=p;show ù6 PySem.W.kitx_dict I.vo #[o,h1,h2.1] Ý9
 | _=>show hx.elim
end L2
namespace L3
open Ķ â L2
open É hiding St
section
variable {þ}{ģ}{a b e:Expr}{Ô7}{ŗ7}{é7}{pos p q:Pos}
def t9 (hm:X.mg "len"=none) Ã5 (hg:Gl X "len") ô:PD X (À4 (Ĝ "len" p) Ŀ8) (p9 lK tA):=
 kl (j9 (AV.or AU) Ď4 PySem.boot_len Ë7) lK.mo lK.fits à8
def t8 (hm:X.mg "list"=none) Ã5 (hg:Gl X "list") ô:PD X (À4 (Ĝ "list" p) Ŀ8) (p9 lJ tA):=
 kl (gD AQ Ď4 PyProof.Rows.boot_list Ë7) lJ.mo lJ.fits à8
def uF (hm:X.mg "tuple"=none) Ã5 (hg:Gl X "tuple") ô:PD X (À4 (Ĝ "tuple" p) Ŀ8) (p9 lE tA):=
 kl (gD AD Ď4 PyProof.Rows.boot_tuple Ë7) lE.mo lE.fits à8
abbrev PK:xP:=mU λ i j=>ä (Åb)
abbrev PJ:xP:=mU λ i j=>ä (ÅM)
def tj (hm:X.mg "max"=none) Ã5 ă (hg:Gl X "max") ô:PD X (À4 (Ĝ "max" p) Ŀ8) (p9 PK tA):=
 kl (j9 (AO hc) Ď4 boot_max Ë7) mU.mo (mU.fits ÅI) à8
def tf (hm:X.mg "min"=none) Ã5 ă (hg:Gl X "min") ô:PD X (À4 (Ĝ "min" p) Ŀ8) (p9 PJ tA):=
 kl (j9 (AN hc) Ď4 boot_min Ë7) mU.mo (mU.fits ÅI) à8
def mh (r:Ï):D:=ŀ (r.map D.int)
theorem zv.ZG ĺ:∀ {ps:Ķ5},(∀ q∈ps,zj ŋ (mh q.2) q.1)->zv ŋ ((œ7).map mh) Ų7
 | [],_=>Á5
 | q::ps,h=>Ī (h q zc1) (zv.ZG λ q hq=>h q (zc2 _ hq))
theorem zv.a_ ĺ:∀ Ĕ7{ys:Ą},zv ŋ Ń7 ys->∀ q∈ ĩ7,zj ŋ (mh q.2) q.1
 | [],ys,_,q,hq=>by simp at hq
 | r::rows,ys,h,q,hq=>by
  rw[zA6] at h;ext ė2;let#[x,ys',rfl,h1,h3]:=h;rcases ã7 hq with e | hq
  .subst e;show h1
  .show zv.a_ h3 q hq
theorem Z6 ĺ:∀ Ĕ7{ys:Ą},zv ŋ Ń7 ys->ŝ7->Ãa
 | [],ys,h,_=>by simp![zc4,zv] at h;subst h;show Á5
 | r::rows,ys,h,hn=>by
  rw[zA6] at h;simp![zv,mh,zj] at h;let#[x,ys',rfl,#[a,xs,rfl,g1,g2],h3]:=h;rw[g2.ints] at g1;show Ī #[hn r zc1,a,rfl,g1] (Z6 h3 λ r' hr=>hn r' (zc2 _ hr))
def u6 Ě1(hm:ľ3) (ha:yH X [a] tA) ÀX (hs:ô7):yG X tg (À4 ş7 [a] Ò2) (W_ tA):=HZ (IX Ď4 Ãb hs) à8
def u5 Ě1(hm:ľ3) ÃD ÀX (hs:Ì0) (hs2:ö5):yG X tg (À4 ş7 ð6 Ò2) (WZ tA):=HY (IW Ď4 Ãb hs hs2) à8
def gq (d:D) ď6:Â ý5:=match d with
 | .zJ=>↑"NoneType"
 | .bl _=>↑"bool"
 | ä _=>↑"int"
 | ß _=>↑"str"
 | ŀ _=>↑"tuple"
 | .pK _=>↑"list"
 | Â1=>match S p with
  | some (ú _)=>↑"list"
  | some (.xw _)=>↑"dict"
  | _=>none
def dI (T:ý5) ū0:zA:=fun L S Q=>te L S λ x S1=>match gq x S1 with
 | some ty=>Q (.bl Ų8) S1
 | _=>Ń
theorem gq.ok ĺ Ö3 ī4 ř{ty:ý5}č6 (h:gq d S=↑ty):NX ŋ v ty/\ty∈["NoneType","bool","int","str","tuple","list","dict"]:=by
 cases d with
 | tup ds=>
  ext ź2;show#[ē #[rfl,xs,g1],#[]]
 | pK ds=>
  ext ź2;show#[ħ (ē #[rfl,xs,g1.sq]),#[]]
 | ref a=>
  ext ø7;unfold gq at h;dsimp only at h;ext ď7
  .ext Âx;show#[ħ (ē #[rfl,xs,ÄS g1]),#[]]
  .ext Âx;show#[ħ (ħ #[rfl,xs,g1]),#[]]
  .cases h
 | _=>ext ø7;cases h;show#[rfl,#[]]
def ZL {T:ý5}ũ(hT:T∈["int","bool","tuple","list","str"]) (hm:X.mg "isinstance"=none) (hm2:X.mg x=none) (hv:Ā5=↑(Ć T)) (hg2:Gl X x) (hn:ş3) (hd:Ý) É2 ô4
  (h1:zEE X e [Ĝ x q]) (h2:zEB X pos [Ĝ x q]) (h3:zEE X (Ĝ x q) []):
  PD X (À4 Ć0 [e,Ĝ x q] Ò2) (dI T te):=by
 exact#[fun L S Q Q' hq z=>ĥ9 Ŧ (λ y S1 z=>?_) z,ã8 (j9 AY Ď4 boot_isinstance (jC he.pe (jC (HL (v:=.ty T) hg2 hm2 hv rfl hn hd) jB h3) h1) () () ħ5) ĝ]
 .split at z
  .show ą6
  .show z
 .ext Í;exact Ø6 ĥ9 á6 λ y S1 v H1 z1 q1 e1 p1=>?_;split at z1
  .rename_i ty ht;let#[g1,g2]:=gq.ok q1 p1 ht;exact#[v,T,ty,rfl,g1,?_,z1 Ė9];show zE4.mp (zE4.mp L8 ty g2) T hT
  .show z1.elim
def tK ÇA É2 ô4 (hg2:Gl X "bool") (h1:zEE X e [ÅN]) (h2:zEB X pos [ÅN]) (h3:zEE X (ÅN) []):
  PD X (À4 Ć0 [e,ÅN] Ò2) (dI "bool" te):=ZL ś3 T.bool PyProof.Rows.boot_bool Ď1
def tJ ÇA É2 ô4 (hg2:Gl X "int") (h1:zEE X e [Ĝ "int" q]) (h2:zEB X pos [Ĝ "int" q]) (h3:zEE X (Ĝ "int" q) []):
  PD X (À4 Ć0 [e,Ĝ "int" q] Ò2) (dI "int" te):=ZL ś3 T.int PyProof.Rows.boot_int Ď1
def tH ÇA É2 ô4 (hg2:Gl X "tuple") (h1:zEE X e [ÁM]) (h2:zEB X pos [ÁM]) (h3:zEE X (ÁM) []):
  PD X (À4 Ć0 [e,ÁM] Ò2) (dI "tuple" te):=ZL ś3 T.tuple PyProof.Rows.boot_tuple Ď1
def tq {o:Expr}{to:zA}Ė0 É3 É2
  ÇB
  Á:
  PD X Û3 ř7:=
 Gk (o:=o) (e:=e) (ZK õ4 Ī6) Ħ3 ĥ9
structure FD ĝ9 Ŀ ñ Å8 Ô5 ã0 Ū1 Çy:Prop where
 ex:∃ (f:Addr) (fd:á9),ou Û xD k Ō5/\mg x=↑ à2/\Ň1/\Ĝ0
 mo:iX sp
def Gi ũ Õ7 ß3 č2 Ã5 É9 ı4
  ô:PD È4 ř8:=by
 ext ţ7;show Gj (E:=E0) (HK h1 hr hg h2 h3 h4 Á5 cY Ãb hdb Ãy) hm à8
end
def BD ř ß1 ù Ź0(e:ſ9) (h:Q (Ń1) S):lE [Â1] S Q:=by
 unfold lE;ext Èe
def BE ř Ö3 ù Ź0(e:ć5) (h:∀ p,ĭ0->Q ó9 Ų2):lJ [d] S Q:=by
 unfold lJ;ext Èe
def BF ř Ö3 ù Ź0(e:ć5) (h:Q (ä Ì3) S):lK [d] S Q:=by
 unfold lK;ext Èe
def LM ř ß1 ù{Q:Œ6}(e:ſ9) (h:Q Ġ8 S):ma ó9 S Q:=by
 unfold ma;ext Èe
def BI ř ß1 ù Ū7 Ö3 Ź0(e:ſ9) Ě4:oI ó9 ÂN S Q:=by
 unfold oI;ext ų;rw[e];ext ų;rw[e2];show h
def BG ř ù Ū7 Ö3 Ź0 Ě4:oI (Ń1) ÂN S Q:=by
 unfold oI;ext ų;rw[e2];show h
def BH ř ù Ū7 Ö3 Ź0 Ě4:oI (ÁF) ÂN S Q:=by
 unfold oI;ext ų;rw[e2];show h
inductive T where
 | zJ | bl (b:Bool) | int ĵ5 | str Ô5 | tup ņ5 | lst ņ5 | zF (ks:õ5) ņ5
mutual
def eqT:T->T->Bool
 | .zJ,.zJ=>true
 | .bl a,đ2=>a == b
 | .bl a,ä b=>(if a then 1 else 0) == b
 | ä a,đ2=>a == (if b then 1 else 0)
 | ä a,ä b=>a == b
 | ß a,ß b=>a == b
 | ŀ a,ŀ b=>vq a b
 | ú a,ú b=>vq a b
 | .zF k a,.zF l b=>Ď (k=l)&&vq a b
 | _,_=>Ç
def vq:ç->ç->Bool
 | [],[]=>true
 | a::as,b::bs=>eqT a b&&vq as bs
 | _,_=>Ç
end
mutual
def dep:T->Nat
 | ā9=>1+ÅO
 | í6=>1+ÅO
 | .zF È=>ð7
 | _=>0
def xI:ç->Nat
 | []=>0
 | Ĝ4=>max (dep t) (ÅO)
end
def W4:ç->Bool
 | []=>true
 | ä _::ts=>W4 ts
 | _=>Ç
def GR Ū8:W4 (Ę7 T.int)=true:=by
 induction ns with
 | nil=>rfl
 | cons n ns ih=>show ih
mutual
def Sn ď6:T->D->Prop
 | .zJ,d=>d=.zJ
 | đ2,d=>d=đ2
 | ö7,d=>d=ö7
 | Ő0,d=>d=Ő0
 | ā9,d=>∃ ds,d=Ń1/\Ś
 | í6,d=>∃ ds,((d=ÁF/\W4 ts=true)\/∃ a,d=Ú6/\S a=↑ Þ9)/\Ś
 | á1,d=>∃ a m,(d=Ú6/\ŧ0)/\S a=↑(.zF m)/\zo S ă1
def zo ď6:ç->ĝ0->Prop
 | [],ds=>ds=[]
 | Ĝ4,ds=>∃ c cs,ds=c::cs/\Sn S t c/\zo S ts cs
end
mutual
theorem V1:∀ t:T,eqT t t=true
 | .zJ=>Ų9
 | đ2=>Ų9
 | ö7=>Ų9
 | Ő0=>Ų9
 | ā9=>by simp![eqT];show bZ ts
 | í6=>by simp![eqT];show bZ ts
 | .zF _ ts=>by simp[eqT,bZ ts]
theorem bZ:∀ ts:ç,vq ts ts=true
 | []=>ÁN
 | Ĝ4=>by simp![vq,V1 t,bZ ts,zdI]
end
theorem V0:∀ ts us:ç,vq ts us=((ő (min Ç0 Ë2)).all (λ j=>eqT Ħ4 (us.getD j .zJ))&&Ç0 == Ë2)
 | [],[]=>ÁN
 | [],ÃX=>ÁN
 | ÃX,[]=>ÁN
 | Ĝ4,u::us=>by
  simp![vq,V0 ts us,zC0];rw[show min (Ç0+1) (Ë2+1)=min Ç0 Ë2+1 by lia,List.range_succ_eq_map,zcQ,zcJ];have:(Ç0+1 == Ë2+1)=(Ç0 == Ë2):=by rw[zC7];simp
  rw[this,Bool.and_assoc];rfl
theorem zo.length ř:∀ Ê1 ù,Ś->Ç0=Ì3
 | [],ds,h=>by ext Ľ9;rfl
 | Ĝ4,ds,h=>by
  simp![zo] at h;let#[c,cs,rfl,_,h2]:=h;simp[zo.length h2]
section
variable {þ}{Ð}{ř}
theorem QV į Ħ Ĥ5(h1:ť3) (h2:yB Ñ8 a ys):Ń:=by
 let#[_,_,#[o,e,c,_],_]:=Ò7 h1;let#[_,_,#[o',n,e',c',_],_]:=ā0 h2;ext ÅK;rw[c] at c'
 injection c' with q
 show ŗ q ()
def Sn.iu û5 Ê1 Ö3 ŷ6(h:Sn S Ãc d) (r:ģ9):∃ a xs ds,ŋ0/\yB Ñ8 a xs/\œ8/\Ś:=by
 ext Ĭ9;obtain⟨ds,⟨h,_⟩ | ⟨a,h,e⟩,h2⟩:=h
 .subst h;ext Ák;show#[a,xs,ds,rfl,g1.sq,g2,h2]
 .subst h;ext Æ6;let#[xs,g1,g2]:=p È e;show#[a,xs,ds,r,ÄS g1,g2,h2]
def Sn.ia Ê1 Ö3 ŷ6(h:Sn S (ā9) d) (r:ģ9):∃ a xs ds,ŋ0/\ť3/\œ8/\Ś:=by
 ext Ĭ9;let#[ds,rfl,h2]:=h;ext Ák;show#[a,xs,ds,rfl,g1,g2,h2]
theorem Sn.flat {t:T}Ö3 ŷ6(h:æ5) (r:ģ9):match t with
  | .zJ=>x=.zJ
  | đ2=>x=đ2
  | ö7=>x=ö7
  | ß y=>x=ß y
  | _=>True:=by
 cases t <;> first
  | trivial
  | (ext Ĭ9;subst h;simpa only [zj] using r)
mutual
theorem X6 į û5:∀ (t u:T) {d e:D}ŷ6,dep t<ð7->dep u<ð7->æ5->Sn S u e->ģ9->zj Ñ8 e x->t=u
 | ā9,u,d,e,x,z,z',h1,h2,r1,r2=>by
  let#[a,xs,ds,rfl,g1,g2,g3]:=h1.ia r1;cases u with
  | zF _ _=>show ê1
  | tup us=>
   ext ŀ6;have:=I.X8 g1 k1;ext Ċ4
  | lst us=>
   ext ľ1;show (QV I g1 k1).elim
  | _=>show ý1
 | í6,u,d,e,x,z,z',h1,h2,r1,r2=>by
  let#[a,xs,ds,rfl,g1,g2,g3]:=h1.iu p r1;cases u with
  | zF _ _=>show ê1
  | lst us=>
   ext ľ1;have:=I.WQ g1 k1;ext Ċ4
  | tup us=>
   ext ŀ6;show (QV I k1 g1).elim
  | _=>show ý1
 | .zJ,u,d,e,x,z,z',h1,h2,r1,r2=>by
  ext ĩ8;cases u with
  | zF _ _=>show ê1
  | zJ=>rfl
  | tup us=>ext õ9
  | lst us=>ext ï4;cases q
  | _=>show ý1
 | đ2,u,d,e,x,z,z',h1,h2,r1,r2=>by
  ext ĩ8;cases u with
  | zF _ _=>show ê1
  | bl _=>ext Ŭ4
  | tup us=>ext õ9
  | lst us=>ext ï4;cases q
  | _=>show ý1
 | ä b,u,d,e,x,z,z',h1,h2,r1,r2=>by
  ext ĩ8;cases u with
  | zF _ _=>show ê1
  | int _=>ext Ŭ4
  | tup us=>ext õ9
  | lst us=>ext ï4;cases q
  | _=>show ý1
 | ß b,u,d,e,x,z,z',h1,h2,r1,r2=>by
  ext ĩ8;cases u with
  | zF _ _=>show ê1
  | str _=>ext Ŭ4
  | tup us=>ext õ9
  | lst us=>ext ï4;cases q
  | _=>show ý1
 | .zF È,u,d,e,x,z,z',h1,h2,r1,r2=>ŗ z (by simp![dep];lia)
theorem X5 į û5:∀ (ts us:ç) Çt Å5,ÅO<ð7->xI us<ð7->Ś->zo S us es->œ8->zv Ñ8 es xs->ts=us
 | [],us,ds,es,xs,z,z',h1,h2,r1,r2=>by
  have e:=ÿ2;cases us with
  | nil=>rfl
  | cons _ _=>simp at e
 | Ĝ4,[],ds,es,xs,z,z',h1,h2,r1,r2=>by
  have e:=ÿ2;simp at e
 | Ĝ4,u::us,ds,es,xs,z,z',h1,h2,r1,r2=>by
  simp![zo] at h1 h2;let#[c,cs,rfl,a1,a2]:=h1;let#[c',cs',rfl,b1,b2]:=h2;simp![zv] at r1 r2;let#[y,ys,rfl,g1,g2]:=r1;let#[y',ys',q,k1,k2]:=r2;cases q;simp![xI] at z z';rw[X6 I p t u Á7 a1 b1 g1 k1,X5 I p ts us Á7 a2 b2 g2 k2]
end
theorem zo.get Ê1 ù(h:Ś):∀ ĵ8,j<Ç0->∃ c,ds[j]?=↑c/\Sn S Ħ4 c:=by
 induction ts generalizing ds with
 | nil=>intro j hj;simp at hj
 | cons t ts ih=>
  intro j hj;ext ĵ;cases j with
  | zero=>show ÅP
  | succ j=>
   let#[c',e,h3]:=ih h2 (j:=j) (by exists hj);show#[c',by simpa using e,by exists h3]
theorem dH:∀ Ê1 ĵ8,j<Ç0->dep Ħ4<=ÅO
 | [],j,h=>ā3
 | Ĝ4,0,_=>by simp![xI,List.getD_cons_zero];lia
 | Ĝ4,j+1,h=>by
  have:=dH (ts:=ts) (j:=j) (ĝ4);simp![xI,List.getD_cons_succ];lia
inductive fE ñ É5 ď6 ę8:T->Ñ->Prop
 | zJ:fE ŋ S s .zJ Ą3
 | bl ı3:fE ŋ S s (đ2) (đ6 b)
 | int Ū7{k:Tok}:fE ŋ S s ÂN (ä i k)
 | str {i:Str}{k:Tok}:fE ŋ S s (ß i) (ß i k)
 | tup Ê1 ù Å5 Ð3 Ģ0(g:Ś) (r:Ä3) (v:Ú7) (h:ò9 l us.toArray):fE ŋ S s (ā9) Ø1
 | lst Ê1 ù Å5 Ð3 Ģ0(g:Ś) (r:Ä3) (v:Ú7) (h:Ń8 l us.toArray):fE ŋ S s Ãc Ø1
def SA į û5 {t:T}Ö3 ŷ6{a:Ñ}(h:æ5) (r:ģ9) (v:RelV x a) (z:dep t<ð7):fE Ñ8 S s t a:=by
 cases t with
 | zJ=>ext ļ8;cases v;show .zJ
 | bl _=>ext ļ8;cases v;show .bl
 | int _=>ext ļ8;let#[_,rfl]:=v;show ä
 | str _=>ext ļ8;let#[_,rfl]:=v;show ß
 | tup _=>let#[l,xs,ds,rfl,g,r,q]:=h.ia r;cases v;let#[_,w,i,_]:=Ò7 g;show ŀ q r w i
 | lst _=>let#[l,xs,ds,rfl,g,r,q]:=h.iu p r;cases v;let#[_,w,i,_]:=ā0 g;show ú q r w i.isList
 | _=>simp![dep] at z;lia
abbrev J3 Ĥ6 ę8 (a b:Ñ) į8:Prop:=SeqAt.EqAt A s a b k/\SeqAt.RcAt A s a b k/\SeqAt.RcNeAt A s a b (!k)
theorem zaH į û5:∀ Ï7 (t u:T) Ä5{d e:D}{x y:V}{a b:Ñ},dep t<n->Ü1+dep t<ð7->Ü1+dep u<ð7->æ5->Sn S u e->ģ9->zj Ñ8 e y->RelV x a->RelV y b->J3 A s a b (eqT t u):=by
 intro n
 induction n with
 | zero=>intros;lia
 | succ n ih=>
  intro t u A d e x y a b hn hu hu' h1 h2 r1 r2 v1 v2;have hq:a=b->t=u:=λ z=>by subst z;have:=v1.inj v2;ext ě0;show X6 I p t u Á7 ħ5 Ý7
  have c1:=SA I p h1 r1 v1 ⋯;have c2:=SA I p h2 r2 v2 ⋯;clear h1 h2 r1 r2 v1 v2;have hA:Ü1<ð7:=⋯;have el:∀ {ts us:ç}{ds ds':ĝ0}{xs xs':Ą}{is is':zLV},1+ÅO<n+1->Ü1+(1+ÅO)<ð7->Ü1+(1+xI us)<ð7->Ś->zo S us ds'->œ8->zv Ñ8 ds' xs'->Vals xs is->Vals xs' is'->ÅQ=Ç0/\Ãd=Ë2/\
    ∀ Ám (h1:j<ÅQ) (h2:j<Ãd),SeqAt.EqAt ž4 s is.toArray[j] is'.toArray[j] (eqT Ħ4 (us.getD j .zJ)):=by
   intro ts us ds ds' xs xs' is is' a1 a2 a3 g1 g2 r1 r2 v1 v2;have e1:ÅQ=Ç0:=by rw[zA0,<- v1.length,<- r1.length,<- g1.length]
   have e2:Ãd=Ë2:=by rw[zA0,<- v2.length,<- Ű3,<- Ę9]
   exact#[e1,e2,λ j h1 h2=>?_];let#[_,k1,s1]:=g1.get (e1▸h1);let#[_,k2,s2]:=g2.get (e2▸h2);let#[_,f1,q1]:=r1.get k1;let#[_,f2,q2]:=r2.get k2;let#[w1,o1,m1]:=v1.get f1;let#[w2,o2,m2]:=v2.get f2;have y1:=dH (e1▸h1);have y2:=dH (e2▸h2);let#[_,z1]:=ø9 o1;let#[_,z2]:=ø9 o2;rw[List.getElem_toArray,List.getElem_toArray,z1,z2];show (ih È (A:=ž4) ⋯ (by change Ü1+1+_<_;lia) (by change Ü1+1+_<_;lia) s1 s2 q1 q2 m1 m2).1
  have en:∀ {l l':Addr}{ts us:ç},(ķ l=Ä l'->ts=us)->SeqAt.RcAt A s Ø1 (Ä l') (vq ts us)/\SeqAt.RcNeAt A s Ø1 (Ä l') (!vq ts us)->J3 A s Ø1 (Ä l') (vq ts us):=λ{l l' ts us} h q=>by
   exact#[?_,q];by_cases z:l=l'
   .subst z;rw[h rfl,bZ];show .same _
   .show .of_refs z q.1
  cases c1 <;> cases c2 <;> simp![eqT,zB5,zB2]
  .show#[.same _,.none_none,.none_none]
  .show#[.none_bool _,.none_bool _,.none_bool _]
  .show#[.none_int È,.none_int È,.none_int È]
  .show#[.none_str È,.none_str È,.none_str È]
  .show#[.none_tuple Č,.none_tuple Č,.none_tuple Č]
  .show#[.none_list Č,.none_list Č,.none_list Č]
  .show#[.bool_none _,.bool_none _,.bool_none _]
  .show#[.bool_bool È,.bool_bool È,.bool_bool È]
  .show#[.bool_int Þ6,.bool_int Þ6,.bool_int Þ6]
  .show#[.bool_str Þ6,.bool_str Þ6,.bool_str Þ6]
  .show#[Ãe,Ãe,Ãe]
  .show#[ÅR,ÅR,ÅR]
  .show#[.int_none È,.int_none È,.int_none È]
  .show#[.int_bool Þ6,.int_bool Þ6,.int_bool Þ6]
  .show#[.int_int ô1,.int_int ô1,.int_int ô1]
  .show#[.int_str ô1,.int_str ô1,.int_str ô1]
  .show#[.int_tuple ļ9,.int_tuple ļ9,.int_tuple ļ9]
  .show#[.int_list ļ9,.int_list ļ9,.int_list ļ9]
  .show#[.str_none È,.str_none È,.str_none È]
  .show#[.str_bool Þ6,.str_bool Þ6,.str_bool Þ6]
  .show#[.str_int ô1,.str_int ô1,.str_int ô1]
  .show#[.str_str ô1,.str_str ô1,.str_str ô1]
  .show#[.str_tuple ļ9,.str_tuple ļ9,.str_tuple ļ9]
  .show#[.str_list ļ9,.str_list ļ9,.str_list ļ9]
  .show#[.tuple_none Č,.tuple_none Č,.tuple_none Č]
  .show#[ÃO,ÃO,ÃO]
  .show#[.tuple_int ļ9,.tuple_int ļ9,.tuple_int ļ9]
  .show#[.tuple_str ļ9,.tuple_str ļ9,.tuple_str ļ9]
  .rename_i g1 r1 v1 k1 _ _ _ _ _ g2 r2 v2 k2;ext ï6;show#[.tuples Ō6 hA q,.tuples Ō6 hA q]
  .show#[ŋ2,ŋ2,ŋ2]
  .show#[.list_none Č,.list_none Č,.list_none Č]
  .show#[ÆU,ÆU,ÆU]
  .show#[.list_int ļ9,.list_int ļ9,.list_int ļ9]
  .show#[.list_str ļ9,.list_str ļ9,.list_str ļ9]
  .show#[ō6,ō6,ō6]
  .rename_i i1 _ g1 r1 v1 k1 _ _ _ i2 _ g2 r2 v2 k2;ext ï6;by_cases z:i1.toArray.size=i2.toArray.size
   .rw[<- z,Nat.min_self,ň2,Bool.and_true];show#[.lists Ō6 z hA q,.lists Ō6 z hA q]
   .rw[Ò5 z,zcV];have z':=bne_iff_ne.mpr z;show#[.lists_lengths Ō6 z' hA,.lists_lengths Ō6 z' hA]
def Ut į û5 (t u:T) Ä5{d e:D}{x y:V}{a b:Ñ}(hu:Ü1+dep t<ð7) (hu':Ü1+dep u<ð7) (h1:æ5) (h2:Sn S u e) (r1:ģ9) (r2:zj Ñ8 e y) (v1:RelV x a) (v2:RelV y b):J3 A s a b (eqT t u):=zaH I p _ t u (zE2 _) hu hu' ħ5 Ý7 v1 v2
end
def Wh ñ ĥ0:R2:=λ x y H Q=>∃ S d e t u,ā6/\zj ŋ e y/\Ó0/\æ5/\Sn S u e/\dep t<=60/\dep u<=60/\Q ŝ8 H
def pP ĥ0:xQ:=λ x y S Q=>∃ t u,Sn S t x/\Sn S u y/\dep t<=60/\dep u<=60/\Q ŝ8 S
def pP.mo ĩ4:vy (pP neg):=λ _ _ _ _ _ hq #[t,u,a,b,c,d,h]=>#[t,u,a,b,c,d,Þ8]
def pP.fits ģ ĩ4:ve K (pP neg) (Wh K neg):=λ x y d e H S Q h1 h2 h3 #[t,u,a,b,c,c',h]=>#[S,d,e,t,u,h1,h2,h3,a,b,c,c',h Ï1 h3]
section
variable {þ}{ß8}{î1}{ŏ}
theorem Qd û6:yT X (Î4 .Eq) (Wh X.K Ç):=by
 ext Ĉ6;show (Ń9).2.1 Ĉ X.xe _ ä5
theorem RZ û6:yT X (Î4 .NotEq) (Wh X.K true):=by
 ext Ĉ6;show (Ń9).2.2 Ĉ X.xe _ ä5
def tW ű Õ:PD X (Ì5 a [.Eq] û1) (yX (pP Ç) Ù9):=eM (Qd Į3) Ō7
def uY ű Õ:PD X (Ì5 a [.NotEq] û1) (yX (pP true) Ù9):=eM (RZ Į3) Ō7
def vX ű Õ:zE X (Ì5 a [.Eq] û1) (oh (yX (pP Ç) Ù9)):=jA (Qd Į3) Ō7
def vh ű Õ:zE X (Ì5 a [.NotEq] û1) (oh (yX (pP true) Ù9)):=jA (RZ Į3) Ō7
def ZD ñ ĥ0:R2:=λ x y H Q=>∃ S d e u ts ds,ā6/\zj ŋ e y/\Ó0/\Sn S u d/\yI e S=↑ds/\Ś/\dep u<=60/\ÅO<=60/\Q Àj H
def k8 ĥ0:xQ:=λ x y S Q=>∃ u ts ds,Sn S u x/\yI y S=↑ds/\Ś/\dep u<=60/\ÅO<=60/\Q Àj S
def k8.mo ĩ4:vy (k8 neg):=λ _ _ _ _ _ hq #[u,ts,ds,a,b,c,d,e,h]=>#[u,ts,ds,a,b,c,d,e,Þ8]
def k8.fits ģ ĩ4:ve K (k8 neg) (ZD K neg):=λ x y d e H S Q h1 h2 h3 #[u,ts,ds,a,b,c,c',c2,h]=>#[S,d,e,u,ts,ds,h1,h2,h3,a,b,c,c',c2,h Ï1 h3]
open Classical in
def nI (its:zLV) ņ5 (u:T) (v:Ñ):Bool:=if h:∃ j,its[j]?=↑v then eqT (ts.getD (Classical.choose h) .zJ) u else Ç
def Um Ð ř į û5 Ê1 ù Å5 Í7 (u:T) ĵ8 Âi(hj:its[j]?=↑v):
  nI its ts u v=eqT Ħ4 u:=by
 have h:∃ j,its[j]?=↑v:=#[j,hj];unfold nI;rw[dif_pos h];have hc:=Classical.choose_spec h;have lt:∀ i,ï2->i<Ç0:=λ i hi=>by
  ext ď8;show (ø9 hi).1
 let#[c1,e1,s1]:=h1.get (lt _ hc);let#[c2,e2,s2]:=h1.get (lt _ hj);let#[x1,f1,r1]:=h2.get e1;let#[x2,f2,r2]:=h2.get e2;let#[v1,g1,q1]:=h3.get f1;let#[v2,g2,q2]:=h3.get f2;rw[hc] at g1;cases g1;rw[hj] at g2;cases g2;have hx:=q1.inj q2;subst hx;rw[X6 I p È (zdD (dH (lt _ hc)) hz) (zdD (dH (lt _ hj)) hz) s1 s2 Ý7]
theorem YV Ð ř į û5 Ê1 ù Å5 Í7 (u:T):its.any Č1=Ć1:=by
 have hl:Ç0=å1:=by ext ď8
 ext ŏ5
 .rintro⟨v,hv,h⟩;let#[j,hj,rfl]:=ÅB hv;rw[Ŏ6] at h;have hj':j<Ç0:=⋯;show#[ts[j],zD8 hj',by simpa [hj'] using h]
 .rintro⟨t,ht,h⟩;let#[j,hj,rfl]:=ÅB ht;have hj':j<å1:=⋯;show#[its[j],zD8 hj',by rw[Um I p hz ħ5 h3 u (j:=j) (by simp[hj'])];simpa [hj] using h]
def dR Ð ř į û5 Ê1 ù Å5 Í7 {u:T}Ö3 ŷ6 Âi(hu:Sn S u d) (hd:ģ9) (hx:ĭ7) Ä5(b1:Ü1+ÅO<ð7) (b2:Ü1+dep u<ð7) {y:Ñ}(hy:y∈its):
  SeqAt.EqAt A s y v (nI its ts u y):=by
 let#[j,hj,rfl]:=ÅB hy;have hjt:j<Ç0:=by ext ď8;show hj
 rw[Ŏ6];let#[c1,e1,s1]:=h1.get hjt;let#[x1,f1,r1]:=h2.get e1;let#[v1,g1,q1]:=h3.get f1;have:its[j]=v1:=by
  have:=ø9 g1;show this.2
 rw[this];have:=dH hjt;show (Ut I p _ u (A:=A) ⋯ b2 s1 hu r1 hd q1 hx).1
theorem Qb û6:yT X (Î4 .In) (ZD X.K Ç):=by
 ext Ã0
 .let#[its,w1,pl,_]:=ā0 g1;exact SeqAt.in_listAt Č1 í2 ü;ext Ť
 .let#[its,w1,pt,_]:=Ò7 g1;exact SeqAt.in_tupleAt Č1 pt ü;ext Ť
theorem G8 û6:yT X (Î4 Ő6) (ZD X.K true):=by
 ext Ã0
 .let#[its,w1,pl,_]:=ā0 g1;exact SeqAt.notIn_listAt Č1 í2 ü;ext Ť
 .let#[its,w1,pt,_]:=Ò7 g1;exact SeqAt.notIn_tupleAt Č1 pt ü;ext Ť
def vN ű Õ (hm:Ì4 Ő6 b=Ç):zE X (Ì5 a [Ő6] û1) (oh (yX (k8 true) Ù9)):=jA (G8 Į3) k8.fits k8.mo ha hb hm
end
end L3
namespace L2
open Ķ â É
section
variable {Çf}[ÄG κ]
def xU ÃE:Â V:=œ9
def putK ÃE (v:V):Ċ1:=
 Õ4
def kc {p:κ × V}{r:Ċ1}{k:κ}(e:p.1=k):xU (p::r) k=↑p.2:=by simp[xU,zcO,e]
def ke {p:κ × V}{r:Ċ1}{k:κ}(e:¬ p.1=k):xU (p::r) k=xU r k:=by simp[xU,zcO,e]
theorem Ze (k:κ):∀ kvs:Ċ1,ę0=(xU Ĩ0).isSome
 | []=>rfl
 | p::r=>by
  rw[zcE];ext ţ8
  .simp![kc e,zeV e,Bool.true_or,Option.isSome_some]
  .rw[ke e,zeW e,Bool.false_or];show Ze k r
theorem Tv (k j:κ) (y:V):∀ kvs:Ċ1,xU î8 j=(xU kvs j).map λ x=>if j=k then y else x
 | []=>rfl
 | p::r=>by
  have ih:=Tv k j y r;rw[zA6];by_cases h:p.1=k
  .rw[í h];by_cases e:p.1=j
   .rw[kc (p:=(p.1,y)) e,kc e,Ù3,í (e.symm.trans h)]
   .rw[ke (p:=(p.1,y)) e,ke e,ih]
  .rw[à h];by_cases e:p.1=j
   .rw[kc (p:=p) e,kc e,Ù3,à (λ z=>h (e.trans z))]
   .rw[ke (p:=p) e,ke e,ih]
theorem Tt (k j:κ) (y:V):∀ kvs:Ċ1,xU Ĩ0=none->xU (kvs++[(k,y)]) j=if j=k then ↑y else xU kvs j
 | [],_=>by
  by_cases e:k=j
  .rw[í e.symm];show kc (p:=(k,y)) e
  .rw[à (λ z=>e z.symm)];show ke (p:=(k,y)) e
 | p::r,hn=>by
  rw[zdJ];have hk:¬ p.1=k:=λ z=>by rw[kc z] at hn;cases hn
  rw[ke hk] at hn;have ih:=Tt k j y r hn;by_cases e:p.1=j
  .rw[kc e,kc e,à (λ z=>hk (e.trans z))]
  .rw[ke e,ke e,ih]
def Tu (kvs:Ċ1) (k j:κ) (y:V):xU (putK Ĩ0 y) j=if j=k then ↑y else xU kvs j:=by
 unfold putK;by_cases a:ę0=true
 .rw[í a,Tv];rw[Ze] at a;by_cases e:j=k
  .let#[x,hx]:=zd9.mp a;rw[í e,e,hx,Ù3,Ā4]
  .rw[à e];cases xU kvs j with
   | none=>rfl
   | some x=>rw[Ù3,à e]
 .rw[à a];exact Tt k j y kvs ?_;rw[Ze] at a;cases q:xU Ĩ0 with
  | none=>rfl
  | some x=>rw[q] at a;show (a rfl).elim
def WT ÃE (v:V):(Àk).length<=Å9+1:=by
 unfold putK;split
 .rw[zA7];lia
 .rw[zD7,zC0,zcL];lia
def oP.Vd {o:Â V}{u:Â Ñ}(r:oP o u):o.isSome=u.isSome:=by
 cases o with
 | none=>cases u with
  | none=>rfl
  | some _=>show Ĭ6
 | some _=>cases u with
  | none=>show Ĭ6
  | some _=>rfl
theorem oP.getD {o:Â V}{u:Â Ñ}{d:V}{d':Ñ}(r:oP o u) (rd:RelV d d'):RelV (o.getD d) (u.getD d'):=by
 cases o with
 | none=>cases u with
  | none=>show rd
  | some _=>show Ĭ6
 | some _=>cases u with
  | none=>show Ĭ6
  | some _=>show r
def KV.val Â4 (k:κ):oP (xU Ĩ0) (ŧ1 vs k):=by
 unfold KV at r
 induction r with
 | nil=>show ó0
 | @cons p q ps qs h t ih=>
  let#[h1,h2]:=h;ext ţ8
  .have e':q.1=k:=Ŕ0;have b:ŧ1 (q::qs) k=↑q.2:=by simp[ŧ1,zcO,e']
   rw[kc e,b];show h2
  .have e':¬ q.1=k:=Ħ5;have b:ŧ1 (q::qs) k=ŧ1 qs k:=by simp[ŧ1,zcO,e']
   rw[ke e,b];show ih
theorem KV.any Â4 (k:κ):ę0=vs.any Ŷ:=by
 unfold KV at r
 induction r with
 | nil=>rfl
 | cons h t ih=>rw[zcE,zcE,ih,h.1]
def KV.kU Â4 (k:κ) {y:V}Ĉ5 ñ2:
  KV î8 (vs.map λ kv=>if kv.1=k then (kv.1,u) else kv):=by
 unfold KV at r ⊢
 induction r with
 | nil=>show Á5
 | @cons p q ps qs h t ih=>
  rw[zA6,zA6];exact Ī ?_ ih;let#[h1,h2]:=h;ext ţ8
  .rw[í e,í (Ŕ0)];show#[h1,ry]
  .rw[à e,à (Ħ5)];show#[h1,h2]
def KV.put Â4 (k:κ) {y:V}Ĉ5 ñ2:KV (putK Ĩ0 y) (stored vs k u):=by
 unfold putK stored;rw[r.any k];by_cases e:(vs.any Ŷ)=true
 .rw[í e,í e];show r.kU k ry
 .rw[à e,à e];show Paired.snoc r #[rfl,ry]
theorem KV.length Â4:Å9=Ż:=ð4 r
end
def de æ ũ4 Ĉ5(r:RelV (kV k) u):(vn P w).is k u=true:=by
 cases k with
 | inl i=>let#[t,e]:=(show ş1 from r);subst e;show Ee P w i t
 | inr x=>let#[t,e]:=(show Ŝ7 from r);subst e;show Ed P w x t
theorem QP æ:∀ {ks:õ5}Ð3,Vals (ks.map kV) us->ItemsAre Äd ks us
 | [],_,r=>by rw[zc4] at r;cases r;show Á5
 | k::ks,_,r=>by
  rw[zA6] at r;cases r with
  | cons h t=>show Ī (de h) (QP t)
abbrev KT É5:ľ0->ĸ0->Prop:=ã6 λ p q=>Ġ1
def KT.val ĺ Ï3 (k:õ5):oP (xU Ĩ0) ((atKey xs k).map ſ):=by
 induction r with
 | nil=>show ó0
 | @cons p q ps qs h t ih=>
  let#[h1,_,h2]:=h;ext ţ8
  .have e':q.1=k:=Ŕ0;have b:atKey (q::qs) k=↑q.2:=by simp[atKey,zcO,e']
   rw[kc e,b];show h2
  .have e':¬ q.1=k:=Ħ5;have b:atKey (q::qs) k=atKey qs k:=by simp[atKey,zcO,e']
   rw[ke e,b];show ih
def KT.kU ĺ Ï3 (k:õ5) {y:V}Ĉ5 ñ2:
  KT H î8 (ť (putAt k u)):=by
 induction r with
 | nil=>show Á5
 | @cons p q ps qs h t ih=>
  rw[zA6,zA6];exact Ī ?_ ih;let#[h1,h2,h3]:=h;unfold putAt;ext ţ8
  .rw[í e,í (Ŕ0)];show#[h1,h2,ry]
  .rw[à e,à (Ħ5)];show#[h1,h2,h3]
def KT.put ĺ Ï3 (k:õ5) Ś7{y:V}Ĉ5(hb:ŋ3) ñ2:
  KT H (putK Ĩ0 y) (storedH xs k b u):=by
 have e:ę0=(atKey xs k).isSome:=by
  rw[Ze,(r.val k).Vd,ze1]
 unfold putK storedH;rw[e];by_cases q:(atKey xs k).isSome=true
 .rw[í q,í q];show r.kU k ry
 .rw[à q,à q];show Paired.snoc r #[rfl,hb,ry]
def KT.keeps ò6 Ï3 (ht:∀ b ys,H b=↑(ŀ ys)->H' b=↑(ŀ ys)):KT H' kvs xs:=
 ÄJ r λ _ _ z=>ÃP
section
variable {æ}{ĺ}{Ï8}{Ħ}
def Rf {u:HO}Ś6 (e:Rd H a u):wu ġ6 u:=e.ok ok
def Y5 Ģ1 Ś6 (e:Rd H a Þ2):ľ:=
 show wu ġ6 Þ2 from Rf ok e
def Ol Ģ1 Ś6 (e:Ài):ľ:=Y5 ok (ē e)
def bx {ks:õ5}Ś6 (e:H a=↑(ŀ (ks.map kV))):(ĭ2).is h ks a:=by
 let#[_,its,r,o,h1,h2,n,h3]:=(show wu ġ6 (ŀ (ks.map kV)) from ok a _ e)
 show#[o,ĕ,n,h1,h2,h3,by exists QP r]
def dG {kvs:ľ0}Ś6 (e:Rd H a Œ0):ă4:=by
 let#[z,y,xs,r,o,es,ep,h1,h2,h3,h4,h5]:=(show wu ġ6 Œ0 from Rf ok e)
 exact#[z,y,xs,r,o,es,ep,h1,h2,h3,h4,ü9,h5];have all:∀ {l:ľ0}{m:ĸ0},KT H l m->∀ x∈m,(ĭ2).is h x.1 x.2.1:=by
  intro l m q
  induction q with
  | nil=>intro x hx;show nomatch hx
  | @cons p q ps qs hq t ih=>
   intro x hx;rcases ã7 hx with e | hx
   .subst e;show bx ok (by rw[<- hq.1];show hq.2.1)
   .show ih x hx
 show all r x hx
def Aa {kvs:ľ0}Ś6 (e:H a=↑ Œ0):ă4:=dG ok (ē e)
end
def N_ É5 Í9 (kvs:Ņ):Prop:=Rd H a Þ2\/∃ x,H a=↑(.dS x kvs)
def Y4 æ ĺ Ï8 Ħ Ģ1 Ś6 (e:N_ H a kvs):ľ:=by
 rcases e with e | ⟨x,e⟩
 .show Y5 ok e
 .show ok a _ e
def lZ É5 Í9 (y:V) (r:Â V):Prop:=
 (∃ kvs k,N_ H a kvs/\y=kV k/\r=xU Ĩ0)\/∃ kvs k b,Rd H a Œ0/\y=Ä b/\ŋ3/\r=xU Ĩ0
def cu É5 Í9 (y v:V) (H':Hp):Prop:=
 (∃ kvs k,Ài/\y=kV k/\Å9<Ê/\H'=upd H a (.dK (Àk)))\/
 ∃ kvs k b,H a=↑ Œ0/\y=Ä b/\ŋ3/\Å9<Ê/\H'=upd H a (.dT (Àk))
theorem lZ.k ĺ Ħ Ģ1 ũ4(e:Ài):lZ H a (kV k) (xU Ĩ0):=ē #[kvs,k,ē (ē e),rfl,rfl]
theorem cu.k ĺ Ħ Ģ1 ũ4 ī4(e:Ài) (hl:Å9<Ê):cu H a (kV k) v (upd H a (.dK (Àk))):=ē #[kvs,k,e,rfl,hl,rfl]
section
variable {þ}{Ð}{Ħ}{y v:V}{u r:Ñ}{o:Â V}{Ä5}{û0}
theorem Inv.big į:sysModules<À:=by
 have h:Ţ<À:=(Ő5).lt;show zcI () h
def Al Ð9 ţ9 į (g:lZ H a y ↑v) ñ2 (h:∀ w' s',ť9->RelV v w'->Q w' s'):
  î ć4 A (ő5 Ā9 u) Í6:=by
 ext Î2
 .ext ö3;let#[w',hw,rw']:=oP.some_of (v:=v) (o:=ŧ1 vs k) (by rw[l];show ų0);show wpAny_getItem_of (de ry) dd.mapOf hw (h w' _ (Û9) rw')
 .ext ê2;let#[w',hw,rw']:=oP.some_of (v:=v) (o:=(atKey xs k).map ſ) (by rw[l];show ų0);let#[p,hp,i3]:=Þ3 hw;exact wpAny_getItem_heap ĉ1 dd hp ?_;rw[i3];show h w' _ (Û9) rw'
def Aj Ð9 ţ9 į (g:lZ H a y o) ñ2 (h:∀ s',ť9->Q (đ6 (!o.isSome)) s'):
  î ć4 A (Î4 Ő6 u Ā9) Í6:=by
 ext Î2
 .ext ö3;exact wpAny_notIn_of (de ry) hd dd.mapOf ?_;rw[<- (ų0).Vd,<- l];show h _ (Û9)
 .ext ê2;exact wpAny_notIn_heap ĉ1 hd dd ?_;have q:=(ų0).Vd;rw[ze1] at q;rw[<- q,<- l];show h _ (Û9)
def V8 ŷ7 ĕ6{ob:HO}į (mu:dZ (H a)) (hs:ť1) (he:∃ q,Ŗ a=↑q) (new:wu Ĉ (upd H a ob) h' a ob):
  Inv ď (upd H a ob) { s with heap:=h',toks:=t' }:=
 I.write (x:=a) (e:=a) mu (Ď7) (λ b q hb z=>(hs.2 Ãv).trans z) he new
def Om æ{H':Hp}ŷ7 Ģ1{vs:Š3}(z:Å9<=Ê) (hd:Ò6) (rel:Åa) (dd:h'.DictOf Äd a vs):
  wu P w H' h' a Þ2:=#[z,hd,vs,rel,dd]
def Ai {H':Hp}ę9 ţ9 į (g:cu H a y v H') ñ2 (rv:RelV v r) (h:∀ s',ù0->Q ì8 s'):
  î ć4 A (setItem Ā9 u r) Í6:=by
 rcases g with ⟨kvs,k,e,ey,l,eH⟩ | ⟨kvs,k,b,e,ey,eb,l,eH⟩
 .subst ey eH;let#[z,hd,vs,rel,dd]:=Ol ż5;have hz:Ż<=Ê:=by rw[<- rel.length];show z
  ext Ķ0
  exact wpAny_setItem_pairs (hsz:=hz) (de ry) dd λ h' dd' hs=>h _ ?_;have he:∃ q,Ŗ a=↑q:=Ŕ1
  show V8 I Ť2 hs he (Om hl hd (rel.put k rv) dd')
 .subst ey eH;cases (show u=ķ b from ry);let#[z,hd,xs,rel,dd]:=Aa ż5;have hz:Ů7:=by rw[<- ð4 rel];show z
  ext Ķ0
  exact wpAny_setItem_heap (hsz:=hz) ĉ1 dd λ h' dd' hs=>h _ ?_;let#[q,es,ep,hq,h2,h3,h4,_,h5]:=dd';exact V8 I Ť2 hs #[q,hq] #[hl,hd,_,(rel.put k eb rv).keeps λ c ys ec=>?_,q,es,ep,hq,h2,h3,h4,h5];rw[yA (nC ec e (λ z=>nomatch z))];show ec
end
section
variable {þ}{Ð}{Ħ}{Ģ1}{Ä5}{û0}
theorem Ak Ð9 į (e:Rd H a Þ2) (h:∀ t s',ť9->Q (ä Å9 t) s'):î ć4 A (call (ū "len") [Ú6]) Í6:=by
 let#[z,hd,vs,rel,dd]:=Y5 ż5;exact call_len_dict hd dd (by rw[<- rel.length];rw[ť8] at z;lia) ?_;rw[<- rel.length];show h È (Û9)
end
def fL (i:Expr):Prop:=∀ ov iv,Åk i Ç ov iv=operate [ov,iv] (ő5 ov iv)
def TY Æ ļ3{ŝ2 slice:Expr}ŏ{T id:ý5}Ð9
  (hl:ĳ5) (hs:fL slice)
  (h:î Î (eval ŝ2 env) (λ o s₁=>î Î (eval slice env) (λ i s₂=>s₂.TypeIs o T/\î Î (ő5 o i) Q E s₂) E s₁) E s):
  î Î (eval (ŭ ŝ2 slice pos) env) Í6:=by
 exact Subscript_ (zeY h (λ o s₁ h₁=>zeY h₁ (λ i s₂ h₂=>?_) λ _ _ x=>x) λ _ _ x=>x);let#[hT,h₂]:=h₂;unfold Ű7;exact ő0;rw[getitemInPython_of_ne hT.not_modules];exact zeS (ÅS hT hl ?_);have fin:î Î (Åk slice Ç o i) (λ r s₃=>î Î (letTemporaryGo ŝ2 o r >>= λ _=>pure r) Q E s₃) E s₂:=by
  rw[hs o i];show wpAny_operating (zeY h₂ (λ r s₃ h₃=>zeS (wpAny_letTemporaryGo (zD1 h₃))) λ _ _ x=>x)
 first
  | show zD1 (zeS fin)
  | show zeS (zD1 (zeS fin))
  | show zeS fin
def Af þ Ð Ħ{y:V}{o:Â V}į (g:lZ H a y o):Ġ6 Ā9 "dict":=by
 rcases g with ⟨kvs,k,e,_,_⟩ | ⟨kvs,k,b,e,_,_,_⟩
 .let#[_,_,vs,_,dd]:=Y4 ż5;show ÅT
 .let#[_,_,xs,_,dd]:=dG ż5;show ÅT
def K0 (td ty:TE):TE:=fun σ H Q=>td Ň λ x H1=>ty Ĉ9 λ y H2=>∃ a v,ŋ0/\lZ H2 a y ↑v/\Q v H2
def Kx (ty td:TE):TE:=fun σ H Q=>ty Ň λ y H1=>td Ĉ9 λ x H2=>∃ a o,ŋ0/\lZ H2 a y o/\Q (.bl (!o.isSome)) H2
def Jx (td ty tv:TE):TS:=λ D σ H=>tv Ň λ v H1=>td Ĉ9 λ x H2=>ty σ H2 λ y H3=>∃ a H4,ŋ0/\cu H3 a y v H4/\D.nx σ H4
section
variable {þ}{o i ŝ2:Expr}{pos pos':Pos}{td ty tv:TE}
def Ww Ć8 (hi:PE X i ty) ÇC:PE X Áz (K0 td ty):=by
 ext č;exact TY Ż3 hs (zI ž0 λ u s1 #[x,H1,I1,rx,q1]=>zI (hi ã5) λ iv s2 #[y,H2,I2,ry,a,v,ex,g,q2]=>?_);ext Ø0;show#[Af I2 g,Al hu I2 g ry λ w' s3 I3 rw'=>#[v,H2,I3,rw',q2]]
def Gm (hu:Ű9+1<ð7) (hi:PE X i ty) (ho:PE X o td):PC X Ő6 i o (Kx ty td):=by
 ext č;exact zI (hi ł) λ iv s1 #[y,H1,I1,ry,q1]=>zI (ho ã5) λ u s2 #[x,H2,I2,rx,a,ov,ex,g,q2]=>?_;ext Ø0;show Aj hu I2 g ry λ s3 I3=>#[.bl (!ov.isSome),H2,I3,rfl,q2]
def R8 Ć8 (hi:PE X i ty) (hv:PE X ŝ2 tv) (hs:å7 ŝ2 ↑(ù7) Ô6=ó7):
  PS X (ą3 [ù7] ŝ2 pos) (Jx td ty tv):=by
 ext É6;exact wpAny_Assign_Subscript (zI (hv ł) λ r s1 #[v,H1,I1,rv,q1]=>zI (ho ã5) λ u s2 #[x,H2,I2,rx,q2]=>zI (hi î0 _ I2 q2) λ iv s3 #[y,H3,I3,ry,a,H4,ex,g,q3]=>?_) hs;ext Ø0;show Ai hu I3 g ry rv λ s4 I4=>#[σ,H4,I4,q3]
end
def Oo æ ĺ Î0 (hb:sysModules<É8):wu P w H (ÄH { cls:=År,data:=.dict ø }) É8 Äe:=
 #[zD4 _,Ò5 (Ë9 (zB3 hb)),[],Á5,Heap.DictOf.new h]
def Ky:TE:=λ _ H Q=>∀ p,Đ5->Q ó9 (upd H p Äe)
section
variable {þ}{ŏ}
def RJ:PE X (.Dict [] Ò2) Ky:=λ gV s σ H Q I h=>
 wpAny_Dict_empty #[ŝ5,_,ċ5 (a:=À) (o:=.dK []) ŏ6,rfl,h _ (Ã7)]
end
def Zo:ŀ4->St->Hp->(ÅU->Ĭ)->Prop
 | [],_,H,Q=>Q [] H
 | (tk,tv)::r,σ,H,Q=>tk Ň λ x H1=>tv Ĉ9 λ y H2=>Zo r σ H2 λ ps H3=>Q ((x,y)::ps) H3
abbrev VV:ÅU->List (Ñ × Ñ)->Prop:=ã6 λ p q=>RelV p.1 q.1/\RelV p.2 q.2
def aI Ű (pos:Pos) (keys:ı8) (values:Ģ) (trs:ŀ4):Prop:=
 ∀ Ì (Q:ÅU->Ĭ),Ã->Zo trs Ņ8->
  î Å (evalPairs (pairTrees Ğ2 Ë pos)) (λ vs s'=>∃ ps H',ù0/\VV ps vs/\Q ps H') ē9
def IA þ ŏ:aI X pos [] [] []:=λ gV s σ H Q I h=>pairTrees_nil_walk #[[],H,I,Á5,h]
def IB þ ŏ{k v:Expr}{ks:ı8}{vs:Ģ}{tk tv:TE}{trs:ŀ4}(hk:PE X k tk) (hv:PE X v tv) (hr:aI X pos ks vs trs):
  aI X pos (↑k::ks) (v::vs) ((tk,tv)::trs):=λ gV s σ H Q I h=>
 pairTrees_cons_walk (zI (hk ł) λ u s1 #[x,H1,I1,rx,q1]=>zI (hv ã5) λ w2 s2 #[y,H2,I2,ry,q2]=>
  zI (hr î0 _ I2 q2) λ ws s3 #[ps,H3,I3,rel,q3]=>#[(x,y)::ps,H3,I3,Ī #[rx,ry] rel,q3])
def gK (kvs more:Ņ):Ņ:=more.foldl (λ acc kv=>putK acc kv.1 kv.2) kvs
def KV.merge:∀ {more:Ņ}{rs:Š3}Ģ1{vs:Š3},KV more rs->Åa->KV (gK kvs more) (merged vs rs):=by
 intro more rs kvs vs r;unfold KV at r
 induction r generalizing kvs vs with
 | nil=>intro q;show q
 | @cons p q ps qs h t ih=>
  intro r0;have e:KV ų1 (stored vs q.1 q.2):=by
   have:=r0.put p.1 h.2;rw[<- h.1];show this
  show ih e
theorem Q5:∀ (more kvs:Ņ),(gK kvs more).length<=Å9+more.length
 | [],kvs=>by change Å9<=Å9+0;lia
 | p::r,kvs=>by
  have h1:=Q5 r ų1;have h2:=WT kvs p.1 p.2;change (gK ų1 r).length<=_;rw[zC0];lia
theorem OX æ:∀ Ģ1{ws:List (Ñ × Ñ)},VV (kvs.map ŋ4) ws->∃ rs,Carries Äd ws rs/\KV kvs rs
 | [],_,r=>by rw[zc4] at r;cases r;show#[[],ó0,Á5]
 | p::kvs,_,r=>by
  rw[zA6] at r;cases r with
  | @cons a b as bs h t=>
   let#[rs,c,q]:=OX (P:=P) (w:=w) t;let#[b1,b2]:=b;show#[(p.1,b2)::rs,#[de h.1,rfl,c],Ī #[rfl,h.2] q]
def Kw (trs:ŀ4):TE:=fun σ H Q=>∀ p,Đ5->Zo trs σ (upd H p Äe) λ ps H2=>H2 p=↑ Äe/\∃ kvs:Ņ,ps=kvs.map (ŋ4)/\Å9<=15/\Q ó9 (upd H2 p (.dK (gK [] kvs)))
def HF þ ŏ{keys:ı8}{values:Ģ}{trs:ŀ4}(h:aI X pos Ğ2 trs) (hall:keys.all (·.isSome)=true) (hl:ÅV=values.length) (h0:keys≠[])
  (Vh:ÅV<=15):PE X (.Dict Ğ2 pos) (Kw trs):=by
 intro gV s σ H Q I q;have hn:=ģ6 (zA4 À);have I1:=ċ5 (a:=À) (o:=.dK []) (h':=ā5) ŏ6;exact wpAny_Dict_walk (knd:=vn Ĉ) hall hl h0 Vh (zI (h gV _ σ È I1 (q _ hn)) λ ws s2 #[ps,H2,I2,rel,e,kvs,ep,lk,q2]=>?_);subst ep;let#[rs,c,rk]:=OX (P:=X.prog) (w:=X.w) rel;let#[z,hd,vs0,r0,dd]:=Ol I2.zM e;cases r0;exact#[rs,c,dd,λ h' dd' hs=>#[ŝ5,_,?_,rfl,q2]];have hz:(gK [] kvs).length<=Ê:=by
  have h1:=Q5 kvs [];rw[zcL] at h1;rw[ť8];lia
 have he:∃ q,Ŗ À=↑q:=Ŕ1
 show V8 I2 Ť2 hs he (Om hz hd (rk.merge Á5) dd')
structure M2 Ű (o:Expr) (m:Str) (apos:Pos) (e f:Expr) (cpos:Pos):Prop where
 base:À5 o m û3=ĸ
 bU:((ğ0 cpos (Ū [e,f] Ë)).all ń0&&ā
  && Ď (([e,f]:Ģ).length+é9+ŷ<30))=true
 line:È9=true
 trees:ğ0 cpos (Ū [e,f] Ë)=[Ž6,(Ç,eval f Ë)]
def Ml É5 Í9:Prop:=(∃ kvs,Rd H a Þ2)\/∃ kvs,Rd H a Œ0
def Dq þ Ð Ħ į (d:Ml H a):
  Ġ6 Ā9 "dict"/\(∀ b,ķ a=Ä b->∃ ob,Þ b=↑ob/\ob.dict=none)/\Ò6:=by
 rcases d with ⟨kvs,e⟩ | ⟨kvs,e⟩
 .let#[_,hd,vs,_,dd]:=Y5 ż5;ext Ċ2
 .let#[_,hd,xs,_,dd]:=dG ż5;ext Ċ2
section
variable {þ}{Ð}{Ħ}{y d:V}{u r:Ñ}{o:Â V}{Ä5}{û0}
def Am Ð9 ţ9 į (g:lZ H a y o) ñ2 (rd:RelV d r) (h:∀ w' s',ť9->RelV (o.getD d) w'->Q w' s'):
  î ć4 A (call (ū "dict.get") [Ú6,u,r]) Í6:=by
 ext Î2
 .ext ö3;exact call_meetsIn ó5 (meets_dict_get_default (vn Ĉ) a (de ry) hd r) #[_,dd.mapOf,h È (Û9) ?_];rw[l];show (ų0).getD rd
 .ext ê2;exact call_meetsIn ó5 (meetsH_dict_get_default (tupleKind (vn Ĉ)) a b hd r) #[tupleKind_room_in1 hu,k,xs,bx I.zM eb,dd,h È (Û9) ?_];rw[l];show (ų0).getD rd
end
def Kz (td ty tx:TE):TE:=fun σ H Q=>td Ň λ x H1=>∃ a,ŋ0/\Ml H1 a/\ty Ĉ9 λ y H2=>tx σ H2 λ z H3=>∃ o,lZ H3 a y o/\Q (o.getD z) H3
section
variable {þ}{o e f:Expr}{Ė0}{td ty tx:TE}
def HG Ć8 (he:PE X e ty) (hf:PE X f tx) Âo:PE X ŧ2 (Kz td ty tx):=by
 ext č;exact wpAny_Call_method m.base m.bU m.line PySem.F.plainAttrs_dict PySem.F.slot_dict_get PySem.F.type_dict_get (zI ž0 λ u s1 #[x,H1,I1,rx,a,ex,d,q1]=>?_);ext Ø0;let#[t1,t2,_]:=Dq I1 d;exact#[t1,t2,?_];rw[m.trees];exact ô0 rfl (ÿ3 (å9 (zI (he ã5) λ iv s2 #[y,H2,I2,ry,q2]=>
  å9 (zI (hf î0 _ I2 q2) λ fv s3 #[z,H3,I3,rz,ov,g,q3]=>Ĺ2 ?_))))
 show Am hu I3 g ry rz λ w' s4 I4 rw'=>#[_,H3,I4,rw',q3]
end
end L2
namespace L3
open Ķ â L2
open É hiding St
def vz Çu ÀY:Â D:=œ9
def putD Çu ÀY (v:D):Æ0:=
 Õ4
section
variable {ģ}{ĺ}
theorem xZ.val:∀ Ľ0,Į6->∀ k,(vz Ĩ0=none/\xU vs k=none)\/∃ d v,vz Ĩ0=↑d/\xU vs k=↑v/\æ4
 | _,_,Á5,k=>ē Ę2
 | (a,d)::kvs,(b,v)::vs,Ī #[e,r] t,k=>by
  have e':a=b:=e;subst e';by_cases h:a=k
  .subst h;show ħ #[d,v,by simp[vz],by simp[xU],r]
  .rcases xZ.val t k with ⟨h1,h2⟩ | ⟨d',v',h1,h2,h3⟩
   .show ē #[by simpa [vz,h] using h1,by simpa [xU,h] using h2]
   .show ħ #[d',v',by simpa [vz,h] using h1,by simpa [xU,h] using h2,h3]
theorem xZ.any ä1 ÀY:ę0=vs.any Ŷ:=by
 induction h with
 | nil=>rfl
 | cons r _ ih=>rw[zcE,zcE,ih,r.1]
def xZ.len ä1:Å9=Ż:=ð4 h
theorem xZ.kU ũ4 Ö3 ī4(r:æ4):∀ Ľ0,Į6->xZ ŋ (kvs.map Ĉ8) (vs.map Ŭ7)
 | _,_,Á5=>Á5
 | (a1,a2)::_,(b1,b2)::_,Ī #[e,q] t=>by
  have e':a1=b1:=e;subst e';exact Ī ?_ (xZ.kU r t);by_cases hk:a1=k
  .simp[hk,r]
  .simpa [hk] using q
theorem xZ.snoc ũ4 Ö3 ī4(r:æ4):∀ Ľ0,Į6->xZ ŋ (kvs++[ŧ3]) (vs++[(k,v)])
 | _,_,Á5=>Ī #[rfl,r] Á5
 | _,_,Ī q t=>Ī q (xZ.snoc r t)
def xZ.put ä1 ÀY Ö3 ī4(r:æ4):xZ ŋ (putD Ĩ0 d) (putK vs k v):=by
 unfold putD putK;rw[h.any k];split
 .show xZ.kU r h
 .show xZ.snoc r h
def Lp (a:Key) (b:D) Çu (j:Key):vz (ÁO) j=if a=j then ↑b else vz kvs j:=by
 by_cases h:a=j <;> simp[vz,h]
end
section
variable {þ}{o i e f v:Expr}{td ty tx tv:zA}{pos pos' apos cpos:Pos}
def O9:zA:=λ _ S Q=>∀ p,ĭ0->Q ó9 (ups S p (.xw []))
theorem tZ:PD X (.Dict [] Ò2) O9:=by
 exact#[λ _ _ _ _ hq z p hp=>hq È (z p hp),ã8 RJ fun σ H Q hu p hp=>?_];ext Í;show z p (r2.none hp) Ğ1 Ļ (r2.ups Ļ #[[],yO,Á5])
def OD (td ty:zA):zA:=fun L S Q=>td L S λ x S1=>ty ŭ5 λ y S2=>∃ p kvs k d,x=Â1/\ÅW/\S2 p=↑ ĺ0/\vz kvs ň5=↑d/\Q d S2
def tY ű Ğ3 ÇC:PD X Áz (OD td ty):=by
 exact#[fun L S Q Q' hq z=>Ħ3 Ŧ (λ x S1 z=>Ŧ9 Ý8 (λ y S2 #[p,kvs,k,d,a,b,c,e,h]=>#[p,kvs,k,d,a,b,c,e,Þ8]) z) z,ã8 (Ww (dm hr) ÅX hi.pe hs) ĝ];ext ŀ8;exact Ø6 Ŧ9 ū3;let#[p,kvs,k,d,rfl,rfl,c1,c2,h]:=h2;simp![zj] at q1 q2;subst q1 q2;let#[vs,g1,g2]:=p2 È c1;rcases xZ.val g2 ň5 with ⟨n1,_⟩ | ⟨d',v',n1,n2,n3⟩
 .rw[c2] at n1;cases n1
 .rw[c2] at n1;cases n1;show#[p,v',rfl,n2▸lZ.k (k:=ŏ9 k) g1,h v' H2 n3 (Ä9) p2]
def OC (td ty tx:zA):zA:=fun L S Q=>td L S λ x S1=>∃ p,x=Â1/\(∃ kvs,S1 p=↑ ĺ0)/\ty ŭ5 λ y S2=>tx L S2 λ z S3=>∃ k kvs,ÅW/\S3 p=↑ ĺ0/\Q ((vz kvs ň5).getD z) S3
def t_ ű (ho:PD X o td) (he:PD X e ty) (hf:PD X f tx) Âo:PD X ŧ2 (OC td ty tx):=by
 exact#[fun L S Q Q' hq z=>Ħ3 Ŧ (λ x S1 #[p,a,b,z]=>#[p,a,b,ĥ9 Ý8 (λ y S2 z=>hf.mo L S2 È (λ w S3 #[k,kvs,a,b,h]=>#[k,kvs,a,b,Þ8]) z) z]) z,ã8 (HG (dm hr) ÅX he.pe hf.pe m) ĝ];ext ŀ8;let#[p,rfl,#[kvs0,c0],h1]:=h1;ext Ĳ2;let#[vs0,g0,_]:=p1 È c0;exact#[p,rfl,ē #[vs0,ē g0],?_];exact Ø6 ĥ9 ū3;exact Ø6 hf.mo (ÅY) p2 h2 λ y3 S3 w3 H3 h3 q3 e3 p3=>?_;let#[k,kvs,rfl,c1,h]:=h3;simp![zj] at q2;subst q2;let#[vs,g1,g2]:=p3 È c1;exact#[xU vs ň5,lZ.k (k:=ŏ9 k) g1,?_];rcases xZ.val g2 ň5 with ⟨n1,n2⟩ | ⟨d',v',n1,n2,n3⟩
 .rw[n1] at h;rw[n2];show h _ H3 q3 (ê6 e3) p3
 .rw[n1] at h;rw[n2];show h _ H3 n3 (ê6 e3) p3
def OB (td ty tv:zA):xA:=λ E L S=>tv L S λ v S1=>td ŭ5 λ x S2=>ty L S2 λ y S3=>∃ p kvs k,x=Â1/\ÅW/\S3 p=↑ ĺ0/\Å9<Ê/\E.nx L (ups S3 p (.xw (putD kvs ň5 v)))
theorem Ext.dK ĺ ß1 Ģ1(h:H p=↑ Þ2) (o:HO):Ĺ7:=
 Î8
theorem uq ű Ğ3 (hv:PD X v tv) (hs:å7 v ↑(ù7) Ô6=ó7):zr X (ą3 [ù7] v pos) (OB td ty tv):=by
 exact#[λ E E' L S hE z=>hv.mo Ŧ (λ w S1 z=>Ħ3 Ý8 (λ x S2 z=>Ŧ9 L S2 È (λ y S3 #[p,kvs,k,a,b,c,d,h]=>#[p,kvs,k,a,b,c,d,hE.nx È h]) z) z) z,Š1 (R8 (dm hr) ÅX hi.pe hv.pe hs) Ó1];ext Ü2;let#[p,kvs,k,rfl,rfl,c1,c2,h]:=h3;simp![zj] at q2 q3;subst q2 q3;let#[vs,g1,g2]:=p3 È c1;have e4:Ext H3 (upd H3 p (.dK (putK vs ň5 w1))):=.dK g1 _;exact#[p,_,rfl,cu.k (k:=ŏ9 k) g1 (by rw[<- g2.len];show c2),?_];show h ĥ1 (p3.ups e4 #[_,yO,(xZ.put g2 _ (Į5 (e2.trans e3) w q1)).ext e4])
def AW:xT X (ū "len") (λ xs H Q=>∃ p kvs,ô8/\H p=↑ Þ2/\Q (ä Å9) H):=by
 ext Ĳ;let#[p,kvs,rfl,e,q]:=h;ext À6;show Ak I (ē e) λ t s' I'=>#[ä _,H,I',Æ9,q]
def PL:xP:=λ ds S Q=>∃ p kvs,ds=[Â1]/\S p=↑ ĺ0/\Q (ä Å9) S
def tX Ô7 é7{p:Pos}(hm:X.mg "len"=none) Ã5 (hg:Gl X "len") ô:PD X (À4 (Ĝ "len" p) Ŀ8) (p9 PL tA):=
 kl (j9 AW Ď4 PySem.boot_len Ë7) (λ _ _ _ _ hq #[p,kvs,a,b,h]=>#[p,kvs,a,b,Þ8]) (λ xs ds H S Q h0 h2 #[p,kvs,a,b,h]=>by
  subst a;let#[x,rfl,h1]:=h0.one;ext Ĭ1;subst h1;let#[vs,g1,g2]:=h2 È b;exact#[p,vs,rfl,g1,?_];rw[<- g2.len];show Ų1) à8
end
end L3
namespace L3
open Ķ L2
section
variable {ă0}
mutual
theorem ŧ4 (h:í5):∀ (t:T) Ö3,æ5->Sn S' t d
 | .zJ,d,q=>Á8
 | đ2,d,q=>Á8
 | ö7,d,q=>Á8
 | Ő0,d,q=>Á8
 | ā9,d,q=>by
  ext â5;show#[ds,q1,Ē7 h ts q2]
 | í6,d,q=>by
  ext â5;exact#[ds,?_,Ē7 h ts q2];ext ÄE
  .show ē q1
  .show ħ #[a,q1,h È q3]
 | á1,d,q=>by
  simp![Sn] at q ⊢;let#[a,m,q1,q2,q3]:=q;show#[a,m,q1,h È q2,Ē7 h ts q3]
theorem Ē7 (h:í5):∀ ņ5 ù,Ś->zo S' ts ds
 | [],ds,q=>ŋ5
 | Ĝ4,ds,q=>by
  ext Đ2;show#[c,cs,q1,ŧ4 h t q2,Ē7 h ts q3]
end
def zo.nil:zo S [] []:=by simp![zo]
def ń1 {t:T}Ê1 Ö3 ù(h:æ5) (h':Ś):zo S (Ĝ4) (d::ds):=by
 simp![zo];show#[d,ds,rfl,h,h']
theorem zo.append:∀ {ts us:ç}Çt,Ś->zo S us es->zo S (ts++us) Ń2
 | [],us,ds,es,h,h'=>by ext Ľ9;exists h'
 | Ĝ4,us,ds,es,h,h'=>by
  ext ĵ;show ń1 h1 (zo.append h2 h')
theorem zo.Yq:∀ Ê1 ù È1{t:T},Ś->ts[i]?=↑t->∃ d,Ŧ3/\æ5
 | [],_,i,t,_,e=>by simp at e
 | u::ts,ds,i,t,h,e=>by
  ext ĵ;cases i with
  | zero=>ext ÅL;show ÅP
  | succ i=>
   let#[y,e1,e2]:=zo.Yq (i:=i) h2 (ė9);show ĩ6
theorem zo.Yr:∀ Ê1 ù È1 Ö3,Ś->Ŧ3->∃ t,ts[i]?=↑t/\æ5
 | [],ds,i,t,h,e=>by ext Ľ9;simp at e
 | u::ts,ds,i,t,h,e=>by
  ext ĵ;cases i with
  | zero=>ext ÅL;show#[u,rfl,h1]
  | succ i=>
   let#[y,e1,e2]:=zo.Yr (i:=i) h2 (ė9);show ĩ6
def zo.len Ê1 ù(h:Ś):Ì3=Ç0:=(L3.zo.length h).symm
theorem zo.at Ê1 ù Ū7{t:T}(h:Ś) (e:Ŧ5 ts i=↑t):∃ d,Ŧ5 ds i=↑d/\æ5:=by
 unfold Ŧ5 at e ⊢;rw[h.len];cases q:L2.oE Ç0 i with
 | none=>ext Ů2
 | some j=>
  rw[q] at e;show h.Yq e
theorem zo.SD:∀ Ê1 ù{t:T}Ö3 ċ,Ś->æ5->zo S (ts.set i t) (ds.set i d)
 | [],ds,t,d,i,h,_=>þ1
 | u::ts,ds,t,d,0,h,hd=>by
  ext ĵ;show ń1 hd h2
 | u::ts,ds,t,d,i+1,h,hd=>by
  ext ĵ;show ń1 h1 (zo.SD i h2 hd)
theorem zo.take':∀ Ê1 ù Ï7,Ś->zo S (ts.take n) (ds.take n)
 | ts,ds,0,h=>by exists zo.nil
 | [],ds,n+1,h=>þ1
 | Ĝ4,ds,n+1,h=>by
  ext ĵ;show ń1 h1 (zo.take' n h2)
theorem zo.drop':∀ Ê1 ù Ï7,Ś->zo S (ÅZ n) (ds.drop n)
 | ts,ds,0,h=>h
 | [],ds,n+1,h=>þ1
 | Ĝ4,ds,n+1,h=>by
  ext ĵ;show zo.drop' n h2
def zo.empty Ê1 ù(h:Ś):ds.isEmpty=ts.isEmpty:=by
 have:=h.len;cases ds <;> cases ts <;> simp_all
theorem zo.N1:∀ {bs:Ą1}ù,zo S (bs.map T.bl) ds->ds=bs.map D.bl
 | [],ds,h=>Äf
 | b::bs,ds,h=>by
  rw[zA6] at h;simp![zo,Sn] at h;let#[c,cs,rfl,rfl,h3]:=h;rw[zo.N1 h3];rfl
end
end L3
local macro_rules|`(tactic|cases $e:ident)=>`(tactic|first|(injection $e:ident with z;subst z)|cases ($e))
namespace L5
open Ķ L2 L3
def yk ď6 (Z:ŝ):SS:=open Classical in λ a=>if Z a then none else S a
section
variable {ă0}{Z Z':ŝ}{a p:Addr}
def ng (h:¬ Z a):yk S Z a=S a:=à h
def Vf (h:Z a):yk S Z a=none:=í h
def nE {o:O}(h:yk S Z a=↑o):¬ Z a/\S a=↑o:=by
 by_cases z:Z a
 .rw[Vf z] at h;cases h
 .rw[ng z] at h;show#[z,h]
def bE ď6 (Z:ŝ):Sx Ç5 S:=λ _ _ h=>(nE h).2
def oG (h:í5):Sx Ç5 (yk S' Z):=λ b o q=>by
 ext ď9;rw[ng q1];show h È q2
def mR (h:∀ a,Z' a->Z a):Sx Ç5 (yk S Z'):=λ b o q=>by
 ext ď9;rw[ng (λ z=>q1 (h _ z))];show q2
def dr (h:í5) (hp:ĭ0):Sx Ç5 ę1:=λ b o q=>by
 ext ď9;rw[ng]
 .show h È q2
 .rintro (z | z)
  .show q1 z
  .subst z;rw[hp] at q2;cases q2
theorem DF {o:O}(h:Z p):yk (ups S p o) Z=yk S Z:=by
 funext b;by_cases z:Z b
 .rw[Vf z,Vf z]
 .rw[ng z,ng z,kQ (λ e=>z (by rw[e];show h))]
end
inductive C where
 | lst ņ5 | xw (kvs:ç6) | zF (ks:õ5) ņ5
def xK Çf ď6:List (κ × T)->List (κ × D)->Prop
 | [],l=>l=[]
 | (k,t)::r,l=>∃ d m,l=ŧ3::m/\æ5/\xK S r m
theorem xK.sx Çf ă0(h:í5):∀ {a:List (κ × T)}{b:List (κ × D)},Ś0->xK S' a b
 | [],_,q=>q
 | (k,t)::r,_,q=>by
  let#[d,m,q1,q2,q3]:=q;show#[d,m,q1,ŧ4 h t q2,xK.sx h q3]
def ji ď6:C->O->Prop
 | í6,ú ds=>Ś
 | .xw a,.xw b=>Ś0
 | á1,.zF m=>ŧ0/\zo S ă1
 | _,_=>Ń
theorem ji.sx ă0(h:í5):∀ {c:C}{o:O},ji S c o->ji S' c o
 | í6,ú ds,q=>Ē7 h ts q
 | .xw a,.xw b,q=>xK.sx h q
 | .zF _ ts,.zF _,q=>#[q.1,Ē7 h ts q.2]
inductive W where
 | im (t:T) | own (c:C)
abbrev Ev:=List (Â W)
abbrev zEO:=Ev->Â T
abbrev zLO:=ç->Â T
structure ER ď6 (Z:ŝ) (L:yZ) Ŗ8:Prop where
 zd:Ė5
 im:∀ ċ t,Ĵ1=↑↑(.im t)->∃ d,L[i]?=↑↑d/\Sn Ç5 t d
 ow:∀ ċ c,Ĵ1=↑↑(Ŏ1 c)->∃ p o,Ì7/\S p=↑o/\ji Ç5 c o/\Z p
def Vw ď6 (Z:ŝ) (y:T) (d:D):Prop:=Àl\/(∃ ts p ds,y=í6/\d=Â1/\ſ9/\æ6/\Z p)\/∃ ks ts p m,y=á1/\d=Â1/\ó2/\ŧ0/\zo Ç5 ă1/\Z p
abbrev Rk:=SS->SS->(ŝ)->T->D->Prop
def NZ:Rk:=λ _ S' Z y d=>Vw S' Z y d
def zq:Rk:=λ _ S' Z y d=>ň6
def zl:Rk:=λ S S' Z y d=>ň6/\∀ ts,y=í6->∃ p ds,d=Â1/\ĭ0/\S' p=↑ Þ9/\zo ę1 ts ds
class Cl Âp:Prop where
 cl:∀ {S S1 S':SS}Ŗ9 Ö3,Sx S S1->R S1 S' Z y d->ę2
 of:∀ ă0 Ŗ9 Ö3,(∀ ts,y≠ í6)->ň6->ę2
instance:Cl NZ:=#[λ _ h=>h,λ _ h=>ē h]
instance:Cl zq:=#[λ _ h=>h,λ _ h=>h]
instance:Cl zl:=#[λ s h=>#[h.1,λ ts e=>by
 let#[p,ds,h1,h2,h3]:=h.2 ts e;show#[p,ds,h1,s.none h2,h3]],λ n h=>#[h,λ ts e=>ŗ e (n ts)]]
section
variable {ă0}{ì3}{y:T}{Ö3}
def ER.grow (h:Àm) (s:í5):ER S' Z L J:=
 #[λ a z q=>h.zd a z (s.none q),λ i t e=>by
  let#[d,h1,h2]:=h.im i t e;show#[d,h1,ŧ4 (oG s) t h2],λ i ts e=>by
  let#[p,ds,h1,h2,h3,h4]:=h.ow i ts e;show#[p,ds,h1,s Çv,ji.sx (oG s) h3,h4]]
def Vw.grow (h:Àn) (s:í5):Vw S' Z y d:=by
 rcases h with h | ⟨ts,p,ds,h1,h2,h3,h4,h5⟩ | ⟨ks,ts,p,m,h1,h2,h3,h4,h5,h6⟩
 .show ē (ŧ4 (oG s) y h)
 .show ħ (ē #[ts,p,ds,h1,h2,s È h3,Ē7 (oG s) ts h4,h5])
 .show ħ (ħ #[ks,ts,p,m,h1,h2,s È h3,h4,Ē7 (oG s) ts h5,h6])
def Vw.sn (h:Àn):Sn S y d:=by
 rcases h with h | ⟨ts,p,ds,rfl,rfl,h3,h4,_⟩ | ⟨ks,ts,p,m,rfl,rfl,h3,h4,h5,_⟩
 .show ŧ4 (bE S Z) y h
 .ext Ķ4;show#[ds,ħ #[p,rfl,h3],Ē7 (bE S Z) ts h4]
 .ext Ķ4;show#[p,m,#[rfl,h4],h3,Ē7 (bE S Z) ts h5]
theorem Vw.zJ (h:Vw S Z .zJ d):d=.zJ:=by
 ext Ŭ
 ext ě1
 .cases h
 .cases h
theorem Vw.bl ı3(h:Vw S Z (đ2) d):d=đ2:=by
 ext Ŭ
 ext ě1
 .cases h
 .cases h
theorem Vw.int {b:Int}(h:Vw S Z (ä b) d):d=ä b:=by
 ext Ŭ
 ext ě1
 .cases h
 .cases h
theorem Vw.str {b:Str}(h:Vw S Z (ß b) d):d=ß b:=by
 ext Ŭ
 ext ě1
 .cases h
 .cases h
theorem Vw.tup Ê1(h:Vw S Z (ā9) d):∃ ds,d=Ń1/\æ6:=by
 ext Ŭ
 ext ě1
 .cases h
 .cases h
theorem Vw.lst Ê1(h:Vw S Z Ãc d):∃ ds,(d=ÁF\/∃ a,d=Ú6/\S a=↑ Þ9)/\æ6:=by
 rcases h with h | ⟨us,p,ds,h1,h2,h3,h4,_⟩ | ⟨_,_,_,_,h,_⟩
 .ext Ĭ9;ext Ät;exact#[ds,?_,h2];rcases h1 with h1 | ⟨a,h1,h3⟩
  .show ē h1.1
  .show ħ #[a,h1,(nE h3).2]
 .cases h1;show#[ds,ħ #[p,h2,h3],h4]
 .cases h
def wy:T->Â (ç)
 | ā9=>↑ts
 | í6=>↑ts
 | _=>none
@[simp] theorem Jk ņ5:wy (ā9)=↑ts:=rfl
@[simp] theorem Jl ņ5:wy Ãc=↑ts:=rfl
def Vw.seq Ê1(h:Àn) (e:wy y=↑ts):∃ ds,ć5/\æ6:=by
 cases y with
 | tup us=>cases e;let#[ds,rfl,h2]:=h.tup;show#[ds,rfl,h2]
 | lst us=>
  cases e;obtain⟨ds,h1 | ⟨a,rfl,h1⟩,h2⟩:=h.lst
  .subst h1;show#[ds,rfl,h2]
  .show#[ds,by unfold yI;ext ų;rw[h1],h2]
 | _=>cases e
theorem Vw.zF {ks:õ5}Ê1(h:Vw S Z (á1) d):∃ a m,(d=Ú6/\ŧ0)/\S a=↑(.zF m)/\zo Ç5 ă1:=by
 rcases h with h | ⟨_,_,_,h,_⟩ | ⟨ks',ts',p,m,e,rfl,h1,h2,h3,_⟩
 .ext Ĭ9;let#[a,m,h1,h2,h3]:=h;show#[a,m,h1,(nE h2).2,h3]
 .cases h
 .cases (e);show#[p,m,#[rfl,h2],h1,h3]
def Sv:Sn S .zJ .zJ:=Æa
def oz ı3:Sn S (đ2) (đ2):=Æa
def oZ Ū7:Sn S ÂN ÂN:=Æa
def mD ũ:Sn S (Ő0) (Ő0):=Æa
def kT Ê1 ù(h:Ś):Sn S (ā9) (Ń1):=by ext Ķ4;show#[ds,rfl,h]
def ly Ê1 ù ß1(hz:Ė5) (hp:ĭ0) (h:æ6):zl S Ų2 Z Ãc ó9:=by
 have nz:¬ Z p:=λ z=>hz p z hp;have s:Sx S Ų2:=Æb;exact#[?_,λ us e=>?_]
 .ext Ķ4;show#[ds,ħ #[p,rfl,by rw[ng nz,kf]],Ē7 (oG s) ts h]
 .cases e;show#[p,ds,rfl,hp,kf,Ē7 (dr s hp) ts h]
end
def zT Âp á7 (t:zA):Prop:=∀ S Z L J y Q,Àm->f J=↑y->(∀ d S',í5->ę2->Q d S')->t L S Q
abbrev vD:=zT zq
abbrev yU:=zT NZ
abbrev wt:=zT zl
def zT.imp {R R':Rk}ŗ0{t:zA}(h:zT R f t) (i:∀ S S' Z y d,ę2->R' S S' Z y d):zT R' f t:=λ S Z L J y Q hE e hq=>h ö y Q hE e λ d S' s r=>hq d S' s (i È Þ6 r)
def zT.er ŗ0{t:zA}(h:vD f t):yU f t:=h.imp λ _ _ _ _ _ r=>ē r
def zT.fe ŗ0{t:zA}(h:wt f t):vD f t:=h.imp λ _ _ _ _ _ r=>r.1
def zT.fr ŗ0{t:zA}(h:wt f t):yU f t:=h.fe.er
@[simp] def zu ċ:zEO:=fun J=>match Ĵ1 with
 | some ↑(.im t)=>↑t
 | _=>none
@[simp] def zb ċ:zEO:=fun J=>match Ĵ1 with
 | some ↑(.im t)=>↑t
 | Ö2=>↑ Ãc
 | some ↑(Ŏ1 (á1))=>↑(á1)
 | _=>none
@[simp] def cS (t:T):zEO:=λ _=>↑t
@[simp] abbrev cI ĵ5:zEO:=cS ÂN
def xf ċ:vD (zu i) ğ4:=λ S Z L J y Q hE e hq=>by
 unfold zu at e;ext ġ8
 .ext ÇW;show hq d ę h2
 .cases e
def rN ċ:yU (zb i) ğ4:=λ S Z L J y Q hE e hq=>by
 unfold zb at e;ext ġ8
 .ext ÇW;show hq d ę (ē h2)
 .rename_i ts h;cases e;ext Ľ1;cases o with
  | lst ds=>show hq _ ę (ħ (ē #[ts,p,ds,rfl,rfl,h2,h3,h4]))
  | _=>show ŧ5
 .rename_i ks ts h;cases e;ext Ľ1;cases o with
  | zF m=>show hq _ ę (ħ (ħ #[ks,ts,p,m,rfl,rfl,h2,h3.1,h3.2,h4]))
  | _=>show ŧ5
 .cases e
def qw ĵ5:wt (cS ÂN) (dC ÂN):=λ S Z L J y Q hE e hq=>by cases e;show Ñ6
def qH (i:Bool):wt (cS (.bl i)) (dC (.bl i)):=λ S Z L J y Q hE e hq=>by cases e;show Ç8
def rZ (i:Str):wt (cS (ß i)) (dC (ß i)):=λ S Z L J y Q hE e hq=>by cases e;show ù8
def ql:wt ų2 (dC .zJ):=λ S Z L J y Q hE e hq=>by cases e;show hq _ ę (ĺ2 ć Sv)
@[simp] def zc (f:Å1) (fa fb:zEO):zEO:=fun J=>(fa J).bind λ x=>(fb J).bind λ y=>f x y
def ŝ9 Âp (f:Å1) (g:xQ):Prop:=∀ S Z x y z d e Q,(Ė5)->Vw S Z x d->Vw S Z y e->f x y=↑z->ŧ6->g d e S Q
def yg ç2 [Cl R] {f:Å1}{g:xQ}{fa fb:zEO}î1(hg:ŝ9 R f g) Ã6:zT R (zc f fa fb) (yX g Ù9):=λ S Z L J y Q hE e hq=>by
 unfold zc at e;ext Ŋ1;exact ha Ģ2;exact hb å5 z Í8 Ē8;show hg S2 Z x z y d d2 Q (ġ1) (ń2) r2 e λ c S' s r=>hq c ņ6
@[simp] def i2 (g:Int->Int->T):Å1
 | ö7,ä j=>↑ ó8
 | _,_=>none
instance {i j:Int}:ċ8 (nL i j):=by unfold nL;ext ū4
instance {i j:Int}:ċ8 (vE i j):=by unfold vE;ext ū4
instance {i j:Int}:ċ8 (gi i j):=by unfold gi;ext ū4
@[simp] def di (C:ā2) [∀ i j,ċ8 (C i j)] (g:Int->Int->T):Å1
 | ö7,ä j=>if C i j then ↑ ó8 else none
 | _,_=>none
def bL ä8:ŝ9 zl (i2 g) (zK g'):=λ S Z x y z d e Q hz hx hy ef hq=>by
 unfold i2 at ef;ext ŏ7
 .ext ø5;show Äg
 .cases ef
def Yo {C:ā2} [∀ i j,ċ8 (C i j)] ä8:ŝ9 zl (di C g) (fI C g'):=λ S Z x y z d e Q hz hx hy ef hq=>by
 unfold di at ef;ext ŏ7
 .ext ŏ7
  .rename_i hh;ext ø5;show#[hh,Äg]
  .cases ef
 .cases ef
@[simp] def oY:Å1:=i2 Ő9
@[simp] def yQ:Å1:=di ü4
@[simp] def x9:Å1:=di Ŀ6
@[simp] def cV:Å1:=di Ď0
@[simp] def XS:Å1:=di ß9
@[simp] def Ub:Å1:=i2 î9
@[simp] def mK:Å1:=i2 Ď9
@[simp] def bJ:Å1:=i2 Ę3
@[simp] def dw:Å1:=i2 ď0
section
variable {fa fb:zEO}{î1}
def rW Ã6:wt (zc oY fa fb) (yX (zK Ő9) Ù9):=yg (bL Ò4) ha hb
def qo Ã6:wt (zc yQ fa fb) (yX (fI ü4) Ù9):=ĺ3
def q8 Ã6:wt (zc x9 fa fb) (yX (fI Ŀ6) Ù9):=ĺ3
def qh Ã6:wt (zc cV fa fb) (yX (fI Ď0) Ù9):=ĺ3
def qe Ã6:wt (zc XS fa fb) (yX (fI ß9) Ù9):=ĺ3
def qI Ã6:wt (zc Ub fa fb) (yX (zK î9) Ù9):=yg (bL Ò4) ha hb
end
def zO ĥ0:Å1:=λ x y=>if dep x<=60/\dep y<=60 then ↑(.bl (cond neg (!eqT x y) (eqT x y))) else none
def nD ĥ0:Å1:=λ x y=>match wy y with
 | some ts=>if dep x<=60/\ÅO<=60 then ↑(.bl (cond neg (!(ts.any λ t=>eqT t x)) (ts.any λ t=>eqT t x))) else none
 | none=>none
def pj ĩ4:ŝ9 zl (zO neg) (pP neg):=λ S Z x y z d e Q hz hx hy ef hq=>by
 unfold zO at ef;ext ŏ7
 .ext ÃL;show#[x,y,hx.sn,hy.sn,h.1,h.2,Ç8]
 .cases ef
def v9 ĩ4:ŝ9 zl (nD neg) (k8 neg):=λ S Z x y z d e Q hz hx hy ef hq=>by
 unfold nD at ef;ext ŏ7
 .rename_i ts ht;ext ŏ7
  .ext ÃL;let#[ds,h1,h2]:=hy.seq ht;show#[x,ts,ds,hx.sn,h1,Ē7 (bE S Z) ts h2,h.1,h.2,Ç8]
  .cases ef
 .cases ef
@[simp] def zk:Å1:=λ x y=>match x,y with
 | ß z,ö7=>if ï0 then (Ŧ5 z.cps.toList i).map λ c=>Ė8 else none
 | x,y=>match wy x,y with
  | some ts,ö7=>Ŧ5 ts i
  | _,_=>none
def xk:ŝ9 zq zk oI:=λ S Z x y z d e Q hz hx hy ef hq=>by
 unfold zk at ef;ext ŏ7
 .ext ŏ7
  .rename_i h0;let#[c,h1,rfl]:=Þ3 ef;cases hx.str;cases hy.int;unfold oI;ext ų;rw[h1];show#[h0,hq _ ę mD]
  .cases ef
 ext ŏ7
 .rename_i ts i ht _;cases hy.int;let#[ds,h1,h2]:=hx.seq ht;let#[c,h3,h4]:=h2.at ef;unfold yI at h1;split at h1
  .cases h1;show BG h3 (hq c ę h4)
  .cases h1;show BH h3 (hq c ę h4)
  .split at h1
   .rename_i q;cases h1;show BI q h3 (hq c ę h4)
   .cases h1
  .cases h1
 .cases ef
@[simp] def ye:Å1
 | ö7,ä j=>↑(ä (i+j))
 | ß i,ß j=>if Ŕ2 then ↑(ß (i++j)) else none
 | í6,ú us=>if Ç0+Ë2<=Ê then ↑(ú (ts++us)) else none
 | ā9,ŀ us=>if Ç0+Ë2<=Ê then ↑(ŀ (ts++us)) else none
 | _,_=>none
def lL:xQ:=λ x y S Q=>match x,y with
 | ö7,ä j=>Q (ä (i+j)) S
 | ß i,ß j=>Ŕ2/\Q (ß (i++j)) S
 | Ń1,ŀ es=>Ē9/\Q (ŀ Ń2) S
 | .zJ,_=>Ń
 | .bl _,_=>Ń
 | ä _,_=>Ń
 | ß _,_=>Ń
 | ŀ _,_=>Ń
 | x,y=>match yI x S,yI y S with
  | some ds,↑es=>(∀ ts,y≠ ā9)/\ê0
  | _,_=>Ń
def good_add:ŝ9 zl ye lL:=λ S Z x y z d e Q hz hx hy ef hq=>by
 unfold ye at ef;ext ŏ7
 .ext ø5;show Ñ6
 .ext ŏ7
  .ext ÃL;cases hx.str;cases hy.str;show#[h,ù8]
  .cases ef
 .ext ŏ7
  .ext ÃL;let#[ds,h1,h2]:=hx.seq rfl;let#[es,h3,h4]:=hy.seq rfl;have nt:∀ ts,e≠ ā9:=by
    obtain⟨_,q | ⟨_,q,_⟩,_⟩:=hy.lst <;> subst q <;> show λ _=>nofun
   have key:(∀ ts,e≠ ā9)/\ê0:=
    #[nt,Èq,λ r hr=>hq È (.new hr _) (ly hz hr (h2.append h4))]
   obtain⟨_,q | ⟨a,q,_⟩,_⟩:=hx.lst
   ext Àb
   ext Àb
  .cases ef
 .ext ŏ7
  .ext ÃL;ext İ1;show#[Èq,hq _ ę (ĺ2 ć (kT (h2.append h4)))]
  .cases ef
 .cases ef
def vd (f:ň) Çw:Prop:=∀ S Z L J y Q,Àm->f J=↑y->(∀ S',í5->Q y S')->t L S Q
@[simp] def yd á7:ň:=fun J=>Á3 λ x=>match x with
 | đ2=>↑b
 | _=>none
@[simp] def XA:T->Â Bool
 | .zJ=>↑ Ç
 | đ2=>↑b
 | ö7=>↑(i != 0)
 | Ő0=>if ñ0<=Ê then ↑((ñ0:Int) != 0) else none
 | ā9=>↑(!ts.isEmpty)
 | í6=>↑(!ts.isEmpty)
 | .zF È=>none
@[simp] def xF á7:ň:=fun J=>Á3 XA
@[simp] def fk (f g:ň):ň:=fun J=>Á3 λ b=>if Ţ4 then g J else ↑ Ç
@[simp] def oa (f g:ň):ň:=fun J=>Á3 λ b=>if Ţ4 then ↑true else g J
@[simp] def va (f:ň):ň:=fun J=>(f J).map (!·)
section
variable {f g:zEO}{t u:zA}{fb gb:ň}{tb ub:xx}{ç2}
def rP ś4:vd (yd f) (oh t):=λ S Z L J y Q hE e hq=>by
 ext Æ2
 .cases e2;cases Äh;show Č2
 ext ÆT
def rR ś4:vd (xF f) (V4 t):=λ S Z L J y Q hE e hq=>by
 ext Ŋ2;exact h Ģ2;cases x with
 | zJ=>cases Vw.zJ r1;ext Èf
 | bl b=>cases Äh;ext Èf
 | int b=>cases ų3;ext Èf
 | str b=>
  cases ų4;simp![XA] at e2;ext đ1
  .rename_i hh;cases e2;show#[hh,Č2]
  ext ÆT
 | tup ts=>
  let#[ds,rfl,h2]:=Vw.tup r1;ext ÄB
 | lst ts=>
  ext ß4
  .ext ÄB
  .cases e2;exact LM h1 ?_;rw[h2.empty];show Č2
 | zF _ _=>cases e2
def qC (h:vd fb tb) (h':vd gb ub):vd (fk fb gb) (aa tb ub):=λ S Z L J y Q hE e hq=>by
 ext ĩ2
 .ext ĉ2;show Ż4
 .ext Ċ9;ext Èf
def qA (h:vd fb tb) (h':vd gb ub):vd (oa fb gb) (fj tb ub):=λ S Z L J y Q hE e hq=>by
 ext ĩ2
 .ext ĉ2;ext Èf
 .ext Ċ9;show Ż4
def qB (h:vd fb tb):vd (va fb) (b_ tb):=λ S Z L J y Q hE e hq=>by
 unfold va at e;let#[b,e1,rfl]:=Þ3 e;show h ö b _ hE e1 λ S1 s1=>Č2
@[simp] def pQ ÇD:zEO:=fun J=>Á3 λ x=>match x with
 | ÄZ=>if Ť6 then g J else ↑ ů1
 | _=>none
@[simp] def ZO ÇD:zEO:=fun J=>Á3 λ x=>match x with
 | ÄZ=>if Ť6 then ↑(ė5) else g J
 | _=>none
@[simp] def Qf á7:zEO:=fun J=>Á3 λ x=>match x with
 | ÄZ=>↑(.bl (!k))
 | _=>none
@[simp] def i0 (c:ň) ÇD:zEO:=fun J=>(c J).bind λ b=>if Ţ4 then f J else g J
def qJ [Cl R] ś4 (h':zT R g u):zT R (pQ f g) (ar t u):=λ S Z L J y Q hE e hq=>by
 ext Æ2
 .cases Äh;ext đ1
  .ext ÃM;rw[í hb];show h' Ã4
  .ext ÃM;rw[à hb];cases e2;show ć8
 ext ÆT
def qj [Cl R] ś4 (h':zT R g u):zT R (ZO f g) (ai t u):=λ S Z L J y Q hE e hq=>by
 ext Æ2
 .cases Äh;ext đ1
  .ext ÃM;rw[í hb];cases e2;show ć8
  .ext ÃM;rw[à hb];show h' Ã4
 ext ÆT
def qk [Cl R] ś4:zT R (Qf f) (aj t):=λ S Z L J y Q hE e hq=>by
 ext Æ2
 .cases Äh;cases e2;show ć8
 ext ÆT
def qz [Cl R] (hc:vd fb tb) (h:zT R f t) (h':zT R g u):zT R (i0 fb f g) (ao tb t u):=λ S Z L J y Q hE e hq=>by
 ext Äu;exact hc ö b _ hE ż9;ext đ1
 .ext ĉ2;show h Ã4
 .ext Ċ9;show h' Ã4
end
def lT ď6 (Z:ŝ):ç->ĝ0->Prop
 | [],ds=>ds=[]
 | Ĝ4,ds=>∃ c cs,ds=c::cs/\Vw S Z t c/\lT S Z ts cs
def oQ (f:ĥ) ŉ8:Prop:=∀ S Z L J ys Q,Àm->f J=↑ys->(∀ ds S',í5->lT S' Z ys ds->Q ds S')->t L S Q
def fJ (f:ĥ) ŉ8:Prop:=∀ S Z L J ys Q,Àm->f J=↑ys->(∀ ds S',í5->zo (yk S' Z) ys ds->Q ds S')->t L S Q
@[simp] def ze:ĥ:=λ _=>↑[]
@[simp] def za á7 (g:ĥ):ĥ:=fun J=>Á3 λ x=>í7 λ xs=>↑(Åf)
section
variable {ŗ0}{g:ĥ}{t:zA}{u:y9}
def rK:oQ ze kB:=λ S Z L J y Q hE e hq=>by cases e;show hq [] ę rfl
def rH:fJ ze kB:=λ S Z L J y Q hE e hq=>by cases e;show hq [] ę Á5
def rL ś4 (h':oQ g u):oQ (za f g) (mv t u):=λ S Z L J y Q hE e hq=>by
 ext þ3;show hq ÃF #[d,ds,rfl,ń2,r2]
def rJ (h:vD f t) (h':fJ g u):fJ (za f g) (mv t u):=λ S Z L J y Q hE e hq=>by
 ext þ3;show hq ÃF (Ī (ŧ4 (oG s2) x r1) r2)
@[simp] def tupS (g:ĥ):zEO:=fun J=>í7 λ xs=>if Ů7 then ↑ Ž4 else none
@[simp] def xC (g:ĥ):zEO:=fun J=>í7 λ xs=>if Ů7 then ↑ ą2 else none
def rO (h:fJ g u):wt (tupS g) (V9 u):=λ S Z L J y Q hE e hq=>by
 ext û8;ext đ1
 .ext ř0;exact h ö xs _ hE e1 λ ds S1 s1 r1=>#[by rw[r1.len];show hl,hq ŗ1 (ĺ2 ć (kT r1))]
 ext ÆT
def qq (h:fJ g u):wt (xC g) (O1 u):=λ S Z L J y Q hE e hq=>by
 ext û8;ext đ1
 .ext ř0;exact h ö xs _ hE e1 λ ds S1 s1 r1=>#[by rw[r1.len];show hl,λ p hp=>hq È (Äi Ļ) (Cl.cl s1 (ly (Æc).zd hp r1))]
 ext ÆT
end
@[simp] def zm ÇE (g:ĥ):zEO:=fun J=>í7 F
def pS Âp ÇE (f:xP):Prop:=∀ S Z ys z ds Q,(Ė5)->lT S Z ys ds->F ys=↑z->ŧ6->f ū1
def qG ç2 [Cl R] ÀZ{f:xP}Ź1(hf:pS R F f) (h:oQ g u):zT R (zm F g) (p9 f u):=λ S Z L J y Q hE e hq=>by
 ext û8;exact h ö xs Ñ0;show hf S1 Z xs y ds Q (Æc).zd r1 e2 λ c S' s r=>hq c S' (Äi s) (Cl.cl s1 r)
@[simp] def xy:zLO
 | [ß z]=>if ï0 then ↑(ä Ř6) else none
 | [y]=>(wy y).map λ ts=>ä Ç0
 | _=>none
def m8 ř Ŗ9 ù(h:lT S Z [y] ds):∃ d,ds=[d]/\Àn:=by
 ext ä2;cases h2;show ÅP
def gk ř{Z:ŝ}{y z:T}ù(h:lT S Z [y,z] ds):∃ d e,ds=[d,e]/\Àn/\Vw S Z z e:=by
 let#[c,cs,rfl,h1,c2,cs2,rfl,h2,h3]:=h;cases h3;show#[c,c2,rfl,h1,h2]
def qZ:pS zl xy lK:=λ S Z ys z ds Q hz hv e hq=>by
 unfold xy at e;ext ġ8
 .ext Ä8;ext ġ8
  .rename_i hl;cases e;cases h1.str;show#[hl,Ñ6]
  .cases e
 .ext Ô3;exact BF h2 ?_;rw[h3.len];show Ñ6
 .cases e
@[simp] def listS:zLO
 | [y]=>(wy y).map ú
 | _=>none
def qY:pS zl listS lJ:=λ S Z ys z ds Q hz hv e hq=>by
 unfold listS at e;ext ġ8
 .ext Ô3;show BE h2 λ p hp=>hq È Ļ (ly hz hp h3)
 .cases e
@[simp] def wL:zLO
 | [y]=>(wy y).map ŀ
 | _=>none
def qM:pS zl wL lE:=λ S Z ys z ds Q hz hv e hq=>by
 unfold wL at e;ext ġ8
 .rename_i y;ext Ô3;have k:Q (ŀ es) S:=hq _ ę (ĺ2 ć (kT h3));unfold yI at h2;split at h2
  .cases h2;show k
  .cases h2;show k
  .split at h2
   .rename_i q;cases h2;show BD q k
   .cases h2
  .cases h2
 .cases e
@[simp] def bC (g:ů8):zLO
 | ć3=>↑(ä ó8)
 | _=>none
def Pg {g:ů8}:pS zl (bC g) (mU λ i j=>ä ó8):=λ S Z ys z ds Q hz hv e hq=>by
 unfold bC at e;ext ġ8
 .ext Äv;cases e;cases h1.int;cases h2.int;show Ñ6
 .cases e
@[simp] def gL:zLO:=bC λ i j=>Åb
@[simp] def lB:zLO:=bC λ i j=>ÅM
def nH:ç->Â (Ą1)
 | []=>↑[]
 | đ2::ts=>(nH ts).map (b::·)
 | ÃX=>none
theorem N0:∀ Ê1{bs:Ą1},nH ts=↑bs->ts=bs.map T.bl
 | [],bs,h=>Ĭ0
 | đ2::ts,bs,h=>by
  unfold nH at h;let#[cs,h1,rfl]:=Þ3 h;rw[zA6,<- N0 h1]
 | .zJ::ts,bs,h=>è1
 | ä _::ts,bs,h=>è1
 | ß _::ts,bs,h=>è1
 | ŀ _::ts,bs,h=>è1
 | ú _::ts,bs,h=>è1
def az (bs:Ą1):nH (bs.map T.bl)=↑bs:=by
 induction bs with
 | nil=>rfl
 | cons b bs ih=>rw[zA6];unfold nH;rw[ih];rfl
@[simp] def oJ (g:Æd):zLO
 | [í6]=>(nH ts).map λ bs=>.bl (g bs)
 | _=>none
def mV (g:Æd):xP:=λ ds S Q=>match ds with
 | [ŀ _]=>Ń
 | [d]=>Ĥ0
 | _=>Ń
def pk {g:Æd}:pS zl (oJ g) (mV g):=λ S Z ys z ds Q hz hv e hq=>by
 unfold oJ at e;ext ġ8
 .ext Ä8;let#[bs,e1,rfl]:=Þ3 e;cases N0 e1;let#[es,h2,h3]:=h1.seq rfl;cases h3.N1;have key:Ĥ0:=#[bs,h2,Ç8];obtain⟨_,q | ⟨a,q,_⟩,_⟩:=h1.lst
  ext Èo
  ext Èo
 .cases e
structure FR (S0:SS) (Z0:ŝ) ď6 (Z:ŝ) (L:yZ) Ŗ8:Prop where
 er:Àm
 len:ĺ4
 sx:Sx S0 S
 z0:∀ a,Z0 a->S0 a≠none
 zz:∀ a,Z0 a->Z a
 zn:∀ a,Z a->Z0 a\/S0 a=none
 fr:∀ ċ ts p,ų5->Ì7->S0 p=none
 dj:∀ ħ3 ts us p,i≠j->ų5->J[j]?=↑↑(Ŏ1 us)->Ì7->L[j]?=↑↑ ó9->Ń
def we Å2{l:Ü3}ò4{a b:α}(h:(l.set i a)[j]?=↑b):(i=j/\i<Ń6/\b=a)\/(i≠j/\l[j]?=↑b):=by
 rw[zdE] at h;by_cases e:i=j
 .subst e;rw[Ā4] at h;by_cases hl:i<Ń6
  .rw[í hl] at h;cases h;show ē #[rfl,hl,rfl]
  .rw[à hl] at h;cases h
 .rw[à e] at h;show ħ #[e,h]
def nh Å2{l:Ü3}ò4{a:α}(h:i≠j):(l.set i a)[j]?=l[j]?:=by rw[zdE,à h]
def dv Å2{l:Ü3}È1{a:α}(h:i<Ń6):(l.set i a)[i]?=↑a:=by rw[zdE,Ā4,í h]
section
variable {S0 S S':SS}{Z0 Z:ŝ}{Ÿ6}{J:Ev}{y:T}{Ö3}
theorem FR.grow Áa (s:í5):FR Ľ2 S' Z L J:=#[h.er.grow s,h.len,h.sx.trans s,h.z0,h.zz,h.zn,h.fr,h.dj]
theorem FR.gu Áa ċ (r:Àl):FR Ľ2 S Z ş9 ÿ4:=by
 exact Í0
 .ext Į
  .cases e;show#[d,þ5,r]
  .rw[nh n];show h.er.im j t e
 .ext Į
  .cases e
  .rw[nh n];show Ào j ts e
 .ext Į
  .cases e
  .rw[nh n] at e';show h.fr j ts p e e'
 .ext Õ8
  .cases e
  ext î5
  .cases e
  rw[nh n1] at e3;rw[nh n2] at e4;show h.dj j k ts us p ŗ2
def FR.XT {ts:C}{ds:O}ß1 Áa (s:í5) ċ (hp:ĭ0) (hd:S' p=↑ds) (r:ji ę1 ts ds):
  FR Ľ2 S' (λ a=>Z a\/a=p) (L.set i ↑ ó9) (Àp i ↑(Ŏ1 ts)):=by
 have np:∀ Ám us q,J[j]?=↑↑(Ŏ1 us)->L[j]?=↑↑(Ä q)->q≠p:=λ j us q e e' z=>by
  subst z;let#[p',ds',h1,h2,_]:=Ào j us e;rw[e'] at h1;cases h1;rw[hp] at h2;cases h2
 exact#[#[λ a z=>?_,λ j t e=>?_,λ j us e=>?_],ř2,h.sx.trans s,h.z0,λ a z=>ē (h.zz a z),λ a z=>ű6 (h.zn a) (λ q=>ħ (by subst q;show h.sx.none hp)),λ j us q e e'=>?_,Àq]
 .rcases z with z | rfl
  .show λ q=>h.er.zd a z (s.none q)
  .rw[hd];nofun
 .ext Į
  .cases e
  .rw[nh n];let#[d,h1,h2]:=h.er.im j t e;show ÁP
 .ext Į
  .cases e;show#[p,ds,þ5,hd,r,ħ rfl]
  .rw[nh n];let#[q,es,h1,h2,h3,h4]:=Ào j us e;show#[q,es,h1,s Çv,ji.sx (dr s hp) h3,ē h4]
 .ext Į
  .rw[þ5] at e';cases e';show h.sx.none hp
  .rw[nh n] at e';show h.fr j us q e e'
 .ext Õ8
  .rcases we e2 with ⟨rfl,_,_⟩ | ⟨n2,e2⟩
   .show n rfl
   .rw[þ5] at e3;cases e3;rw[nh n2] at e4;show np k vs p e2 e4 rfl
  .ext ð2
   .rw[þ5] at e4;cases e4;rw[nh n1] at e3;show np j us p e1 e3 rfl
   .rw[nh n1] at e3;rw[nh n2] at e4;show h.dj j k us vs q ŗ2
def FR.forget Áa ċ:FR Ľ2 S Z L (Àp i none):=by
 exact Í0
 .ext Į
  .cases e
  .show h.er.im j t e
 .ext Į
  .cases e
  .show Ào j ts e
 .ext Į
  .cases e
  .show h.fr j ts p e e'
 .ext Õ8
  .cases e
  ext î5
  .cases e
  show h.dj j k ts us p ŗ2
@[simp] def xO Äw Ŗ8:Ev:=is.foldl (fun J i=>Àp i none) J
theorem FR.xO:∀ Äw {J:Ev},Ð6->FR Ľ2 S Z L ę3
 | [],_,h=>h
 | i::is,_,h=>FR.xO is (h.forget i)
def FR.freeze Ê1 ß1 Áa ċ (e:Ĵ1=↑↑(Ŏ1 Ãc)) (ed:Ì7):
  FR Ľ2 S (λ a=>Z a/\a≠p) L (Àp i ↑(.im Ãc))/\ŧ7:=by
 let#[p',o,h1,h2,h3,h4]:=Ào i _ e;rw[ed] at h1;cases h1;obtain⟨ds,rfl⟩:∃ ds,o=ú ds:=by
  cases o with
  | lst ds=>show ŧ8
  | _=>show ŧ5
 ext ŏ8;have hS:ŧ7:=by
  ext Ķ4;show#[ds,ħ #[p,rfl,by rw[ng (λ z=>z.2 rfl)];show h2],Ē7 (mR Àr) ts h3]
 exact#[?_,hS];exact#[#[λ a z=>h.er.zd a z.1,λ j t e'=>?_,λ j us e'=>?_],ř2,h.sx,h.z0,λ a z=>#[h.zz a z,λ q=>?_],λ a z=>h.zn a z.1,λ j us q e' ed'=>?_,Àq]
 .ext Æ8
  .cases e';show#[_,ed,hS]
  .let#[d,g1,g2]:=h.er.im j t e';show#[d,g1,ŧ4 (mR Àr) t g2]
 .ext Æ8
  .cases e'
  .let#[q,es,g1,g2,g3,g4]:=Ào j us e';show#[q,es,g1,g2,ji.sx (mR Àr) g3,g4,λ z=>by subst z;show h.dj i j _ us q n e e' ed g1]
 .subst q;show h.z0 a z (h.fr i _ a e ed)
 .ext Æ8
  .cases e'
  .show h.fr j us q e' ed'
 .ext Õ8
  .cases e
  ext î5
  .cases e
  show h.dj j k us vs q ŗ2
def FR.mut {ts us:C}{es:O}ß1 Áa ċ (e:ų5) (ed:Ì7) (r:ji Ç5 us es):
  FR Ľ2 (ups S p es) Z L (Àp i ↑(Ŏ1 us)):=by
 ext Ģ3;cases h1;have hh:yk (ups S p es) Z=yk S Z:=DF h4;have hpn:=Ãf;exact#[#[λ a z=>?_,λ j t e'=>?_,λ j vs e'=>?_],ř2,Æe,h.z0,h.zz,h.zn,λ j vs q e' ed'=>?_,λ j k vs ws q n e1 e2 e3 e4=>?_]
 .by_cases hp:a=p
  .subst hp;rw[kf];nofun
  .rw[kQ hp];show h.er.zd a z
 .rw[hh];ext Æ8
  .cases e'
  .show h.er.im j t e'
 .rw[hh];ext Æ8
  .cases e';show#[p,es,ed,kf,r,h4]
  .let#[q,es',g1,g2,g3,g4]:=Ào j vs e';exact#[q,es',g1,?_,g3,g4];rw[kQ (λ z=>by subst z;show h.dj i j ts vs q n e e' ed g1)];show g2
 .rw[kQ (λ z=>by subst z;rw[hpn] at q;cases q)];show h.sx b o q
 .rcases we e' with ⟨rfl,hl,_⟩ | ⟨n,e'⟩
  .rw[ed] at ed';cases ed';show hpn
  .show h.fr j vs q e' ed'
 .rcases we e1 with ⟨rfl,hl,_⟩ | ⟨n1,e1⟩
  .ext ð2
   .show n rfl
   .show h.dj _ k ts ws q n e e2 e3 e4
  .ext ð2
   .show h.dj j _ vs ts q n e1 e e3 e4
   .show h.dj j k vs ws q ŗ2
def Wd (S0 S:SS) (Z:ŝ):SS:=open Classical in λ a=>if S0 a=none/\Z a then none else S a
def ZA Ħ(h:¬ (S0 a=none/\Z a)):Wd S0 S Z a=S a:=à h
def Wc Ħ(h:S0 a=none/\Z a):Wd S0 S Z a=none:=í h
def FR.rebase Áa:∃ S1,Sx S0 S1/\FR S1 Z0 ö/\Sx Ç5 S1:=by
 exact#[Wd S0 S Z,Æe,#[h.er,h.len,Æe,λ a z=>?_,h.zz,λ a z=>?_,λ i ts p e ed=>?_,h.dj],Æe]
 .rw[ZA (λ z=>by rw[z.1] at q;cases q)];show h.sx È q
 .by_cases w:S0 b=none/\Z b
  .rw[Wc w] at q;cases q
  .rw[ZA w] at q;show q
 .rw[ZA (λ q=>h.z0 a z q.1)];show h.er.zd a (h.zz a z)
 .rcases h.zn a z with w | w
  .show ē w
  .show ħ (Wc #[w,z])
 .ext Ģ3;cases h1;show Wc #[Ãf,h4]
 .ext ď9;rw[ZA (λ z=>q1 z.2)];show q2
def FR.back {S1:SS}(h:FR S1 Z0 ö) (s:Sx S0 S1) (z0:∀ a,Z0 a->S0 a≠none):Ð6:=#[h.er,h.len,s.trans h.sx,z0,h.zz,λ a z=>(h.zn a z).imp id s.none,λ i ts p e ed=>s.none (Ãf),h.dj]
def FR.Jm {S1:SS}{Z1:ŝ}Áa (b:Sx (yk S1 Z1) S0) (zz:∀ a,Z0 a->Z1 a):Sx (yk S1 Z1) Ç5:=λ a o q=>by
 have q0:=b È q;ext ď9;rw[ng]
 .show h.sx È q0
 .intro z;rcases h.zn a z with w | w
  .show q1 (zz a w)
  .rw[w] at q0;cases q0
end
inductive Out where
 | nx Ŗ8 | rt (t:T) | bk Ŗ8 | ct Ŗ8
abbrev Sm:=Ev->Â Out
def zaR Âp (S0:SS) (Z0:ŝ) (o:Out) (E:gf):Prop:=match o with
 | .nx J=>∀ S Z L,Ð6->E.nx L S
 | .bk J=>∀ S Z L,Ð6->E.bk L S
 | .ct J=>∀ S Z L,Ð6->E.ct L S
 | .rt y=>∀ d S,Sx S0 S->R S0 S Z0 y d->E.rt d S
def yy Âp (g:Sm) (t:xA):Prop:=∀ S0 Z0 S Z L J o E,Ð6->g J=↑o->zaR R Ľ2 o E->t E L S
class Lo Âp:Prop extends Cl R where
 lo:∀ {S0 S S':SS}{Z0 Z:ŝ}{y:T}Ö3,Sx S0 S->(∀ a,Z0 a->Z a)->ę2->R S0 S' Z0 y d
instance:Lo zq:=#[λ _ z h=>ŧ4 (mR z) _ h]
instance:Lo zl:=#[λ s z h=>#[ŧ4 (mR z) _ h.1,λ ts e=>by
 let#[p,ds,h1,h2,h3,h4]:=h.2 ts e;show#[p,ds,h1,s.none h2,h3,Ē7 (mR λ a q=>q.imp (z a) id) ts h4]]]
@[simp] def zw (g h:Sm):Sm:=fun J=>í7 λ o=>match o with
 | .nx J'=>h J'
 | o=>↑o
@[simp] def yw:Sm:=fun J=>↑(.nx J)
@[simp] def zY ċ á7:Sm:=fun J=>(f J).map λ y=>.nx ÿ4
@[simp] def pC ċ á7:Sm:=fun J=>Á3 λ y=>match y with
 | í6=>↑(.nx (Àp i ↑(Ŏ1 Ãc)))
 | y=>↑(.nx ÿ4)
@[simp] def ae á7:Sm:=fun J=>(f J).map λ _=>.nx J
@[simp] def retS á7:Sm:=fun J=>(f J).map .rt
@[simp] def g9 ċ:Sm:=fun J=>match Ĵ1 with
 | Ö2=>↑(.rt Ãc)
 | _=>none
@[simp] def ym (c:ň) (g h:Sm):Sm:=fun J=>(c J).bind λ b=>if Ţ4 then g J else h J
@[simp] def Vp ċ Ŗ8:Ev:=match Ĵ1 with
 | Ö2=>Àp i ↑(.im Ãc)
 | _=>J
@[simp] def Ys ċ (g:Sm):Sm:=fun J=>g (Vp i J)
section
variable {ç2}{g h:Sm}{t u:xA}{Ð0}
def sH (hg:Ś1) (hh:yy R h u):yy R (zw g h) (je t u):=λ S0 Z0 S Z L J o E F e P=>by
 let#[o1,e1,e2]:=Ċ;exact hg Ľ2 ö o1 { E with nx:=u E } F e1 ?_;cases o1 with
 | nx J1=>show λ S1 Z1 L1 F1=>hh Ľ2 S1 Z1 L1 J1 o E F1 e2 P
 | rt y=>cases e2;show P
 | bk y=>cases e2;show P
 | ct y=>cases e2;show P
def sE:yy R yw ak:=λ S0 Z0 S Z L J o E F e P=>by cases e;show P S Z L F
def sZ ċ İ2:yy R (zY i f) Åy:=λ S0 Z0 S Z L J o E F e P=>by
 ext Ť0;show hf ŗ3 e1 λ d S1 s1 r1=>P S1 Z _ ((Ă0).gu i r1)
def sY ċ (hf:wt f te):yy R (pC i f) Åy:=λ S0 Z0 S Z L J o E F e P=>by
 ext ã4;exact hf ŗ3 ĉ;cases y with
 | lst ts=>
  cases e2;let#[p,ds,rfl,h1,h2,h3]:=r1.2 ts rfl;show P S1 È (F.XT (ts:=í6) (ds:=ú ds) s1 i ħ5 h3)
 | _=>cases e2;show P S1 Z _ ((Ă0).gu i r1.1)
def sV Ě5:yy R (ae f) (dJ te):=λ S0 Z0 S Z L J o E F e P=>by
 ext Ť0;show hf ŗ3 e1 λ d S1 s1 r1=>P S1 Z _ (Ă0)
def sL [Lo R] (hf:zT R f te):yy R (retS f) (kA te):=λ S0 Z0 S Z L J o E F e P=>by
 ext Ť0;show hf ŗ3 e1 λ d S1 s1 r1=>P d S1 (F.sx.trans s1) (Lo.lo F.sx F.zz r1)
def xc ċ:yy zl (g9 i) (kA ğ4):=λ S0 Z0 S Z L J o E F e P=>by
 unfold g9 at e;ext ġ8
 .rename_i ts h;cases e;ext Ô4;obtain⟨ds,rfl⟩:Š4:=by
   cases ob with
   | lst ds=>show ŧ8
   | _=>show ŧ5
  ext ŏ8;have hn:=F.fr i _ p h h1;have nz:¬ Z0 p:=λ z=>F.z0 p z hn;change yM i L S E.rt;ext ě2;exact P _ S F.sx #[?_,λ us e=>?_]
  .ext Ķ4;show#[ds,ħ #[p,rfl,by rw[ng nz];show h2],Ē7 (mR F.zz) ts h3]
  .cases e;show#[p,ds,rfl,hn,h2,Ē7 (mR λ a q=>q.elim (F.zz a) λ q=>q▸h4) ts h3]
 .cases e
def yy.fv (h:yy zl g t):yy zq g t:=λ S0 Z0 S Z L J o E F e P=>by
 exact h Ľ2 ö o E F e ?_;cases o with
 | rt y=>show λ d S s r=>P d S s r.1
 | _=>show P
def sP {c:ň}{tc:xx}Âq (hg:Ś1) (hh:yy R h u):yy R (ym c g h) (mZ tc t u):=λ S0 Z0 S Z L J o E F e P=>by
 ext Äu;exact hc ö b _ F.er ż9;ext đ1
 .ext ĉ2;show hg Ľ2 å5 o E (Ă0) e2 P
 .ext Ċ9;show hh Ľ2 å5 o E (Ă0) e2 P
def FR.fz {S0 S:SS}{Z0 Z:ŝ}Ÿ6{J:Ev}(F:Ð6) ċ:∃ Z',FR Ľ2 S Z' L (Vp i J):=by
 unfold Vp;split
 .rename_i ts h;let#[p,ds,h1,_]:=F.er.ow i _ h;show#[_,(F.freeze i h h1).1]
 .show#[Z,F]
def sQ ċ (hg:Ś1):yy R (Ys i g) t:=λ S0 Z0 S Z L J o E F e P=>by
 let#[Z',F']:=F.fz i;show hg Ľ2 S Z' L _ o E F' e P
def aK Ĕ8 (t:vb):Prop:=∀ S0 Z0 S Z L J J' y d Q,Ð6->Àl->g y J=↑J'->Ż5->t d L S Q
def YZ (g:Ŕ3) (t:oq):Prop:=∀ S0 Z0 S Z L J J' ys ds Q,Ð6->zo Ç5 ys ds->g ys J=↑J'->Ż5->t ds L S Q
@[simp] def zC ċ:T->Ç1:=λ y J=>↑ ÿ4
@[simp] def wK:Ŕ3
 | [],J=>↑J
 | ÃX,_=>none
@[simp] def y8 Ĕ8 (h:Ŕ3):Ŕ3
 | y::ys,J=>(g y J).bind fun J'=>h ys J'
 | [],_=>none
@[simp] def wc Ï7 (g:Ŕ3):T->Ç1
 | ŀ ys,J=>if Í1=n then g ys J else none
 | _,_=>none
def rq ċ:aK (zC i) ù5:=λ S0 Z0 S Z L J J' y d Q F r e hq=>by cases e;show hq _ (F.gu i r)
def rm:YZ wK Ym:=λ S0 Z0 S Z L J J' ys ds Q F r e hq=>by
 cases ys with
 | nil=>simp![zo] at r;subst r;cases e;show#[rfl,hq _ F]
 | cons _ _=>cases e
def rn Ľ3{h:Ŕ3}{t:vb}{u:oq}(hg:aK g t) (hh:YZ h u):YZ (y8 g h) (bH t u):=λ S0 Z0 S Z L J J' ys ds Q F r e hq=>by
 cases ys with
 | nil=>cases e
 | cons y ys=>
  ext ı7;show hg Ľ2 ö J1 y c _ F r1 e1 fun L1 F1=>hh Ľ2 S Z L1 J1 J' ys cs Q F1 r2 e2 hq
def rp Ë0{g:Ŕ3}{t:oq}(hg:YZ g t):aK (wc n g) (i4 n t):=λ S0 Z0 S Z L J J' y d Q F r e hq=>by
 cases y with
 | tup ys=>
  ext ŀ5
  .rename_i hl;show#[by rw[r.len];show hl,hg Ľ2 ö J' ys ds Q F r e hq]
  .cases e
 | _=>cases e
@[simp] def ic á7 Ĕ8:Sm:=fun J=>Á3 λ y=>(g y J).map .nx
def sD Ľ3{tg:vb}İ2 (hg:aK g tg):yy R (ic f g) (vt te tg):=λ S0 Z0 S Z L J o E F e P=>by
 ext ã4;let#[J',e3,rfl]:=Þ3 e2;show hf ŗ3 e1 λ d S1 s1 r1=>hg Ľ2 å5 J' y d _ (Ă0) r1 e3 fun L' F'=>P S1 Z L' F'
def jV (free:Bool) (f:ĥ) (ti:oo):Prop:=∀ S Z L J ts Q,Àm->f J=↑ts->(∀ I S',í5->zo (yk S' Z) ts I.items->(∀ S'',Sx (if free=true then yk S' Z else S') S''->I.keep S'')->Q I S')->ti L S Q
@[simp] def yP á7:ĥ:=fun J=>Á3 wy
def rf Ð0 Ě5:jV Ç (yP f) (WY te):=λ S Z L J ts Q hE e hq=>by
 ext ō4;cases y with
 | tup us=>
  cases e2;let#[ds,rfl,h2]:=Vw.tup r1;show ć9
 | lst us=>
  cases e2;ext ß4
  .show ć9
  .ext ų;rw[h1];show Ś2
 | _=>cases e2
def rg Ð0 İ2:jV true (yP f) (WY te):=λ S Z L J ts Q hE e hq=>by
 ext ō4;cases y with
 | tup us=>
  cases e2;let#[ds,rfl,h2]:=Vw.tup (ē r1);show ć9
 | lst us=>
  cases e2;have r2:=r1;unfold zq at r2;simp![Sn] at r2;obtain⟨ds,⟨rfl,_⟩ | ⟨a,rfl,h1⟩,h2⟩:=r2
  .show ć9
  .ext ų;rw[(nE h1).2];show Ś2
 | _=>cases e2
def rangeT ŷ9 Ï7:ç:=Ŏ7
def XR ř ŷ9 Ï7:zo S (rangeT lo n) (mj lo n):=by
 unfold rangeT mj
 induction ő n with
 | nil=>show Á5
 | cons k l ih=>show Ī oZ ih
def inR (j:Int):Bool:=Ď (-100000000<=j)&&Ď (j<=100000000)
def Pa {j:Int}:inR j=true↔-100000000<=j/\j<=100000000:=by simp[inR]
def Yj {j:Int}(h:inR j=true):ĭ6:=by have:=Pa.mp h;lia
def o7:ń3
 | [ä j]=>if inR j=true then ↑(rangeT 0 Ő8) else none
 | _=>none
def gz:ń3
 | ć3=>if inR i=true/\inR j=true then ↑(rangeT i (j-i).toNat) else none
 | _=>none
@[simp] def xW (F:ń3) (g:ĥ):ĥ:=fun J=>í7 F
def rj ı3{g:ĥ}é7 ÇF:jV b (xW o7 g) (W_ tA):=λ S Z L J ts Q hE e hq=>by
 ext Ą2;unfold o7 at e2;ext đ1
 .ext đ1
  .ext ÂG;let#[d,rfl,h1]:=m8 r1;cases h1.int;show#[Yj hc,hq ŗ1 (XR È) Às]
  ext ÆT
 ext ÆT
def rh ı3{g:ĥ}é7 ÇF:jV b (xW gz g) (WZ tA):=λ S Z L J ts Q hE e hq=>by
 ext Ą2;unfold gz at e2;ext đ1
 .ext đ1
  .ext ÂG;ext ÄF;cases h1.int;cases h2.int;show#[#[(Yj hc.1).1,(Yj hc.1).2,Yj hc.2],hq ŗ1 (XR È) Às]
  ext ÆT
 ext ÆT
def pO Äw Ĕ8 (b:Sm):ç->Ev->Â Out
 | [],J=>↑(.nx ę3)
 | y::ys,J=>(g y ę3).bind fun J1=>(b J1).bind λ o=>match o with
  | .nx J2=>Ŕ4
  | .ct J2=>Ŕ4
  | .bk J2=>↑ Ãg
  | .rt t=>↑(.rt t)
@[simp] def wC Äw (f:ĥ) Ĕ8 (b:Sm):Sm:=fun J=>Á3 λ ts=>pO is g b ts J
def sR {is:Ė1}{fi:ĥ}{ti:oo}Ľ3{tg:vb}{b:Sm}{tb:xA} [Lo R] (hi:jV true fi ti) (hg:aK g tg) (hb:yy R b tb):yy R (wC is fi g b) (aq ti tg tb):=λ S0 Z0 S Z L J o E F e P=>by
 let#[ts,e1,e2]:=Ċ;exact hi ö ts _ F.er e1 λ I S1 s1 r1 hk=>?_;rw[Ā4] at hk;let#[SB,b1,FB,b2]:=(Ă0).rebase;ext þ7;have zz:=F.zz;exact#[λ i L' S'=>∃ Z' J',FR SB Z0 S' Z' L' J'/\pO is g b (ÅZ i) J'=↑o,#[Z,J,FB,e2],λ i L' S' #[Z',J',F',_]=>hk S' (b2.trans F'.sx),λ i d L' S' hd Ş0=>?_,fun L' S' Ş0=>?_]
 .let#[y,hy,r2]:=r1.Yr hd;have hlt:=(ø9 hy).1;have hdt:ÅZ i=y::ÅZ ü8:=by
   rw[Ãh,(ø9 hy).2]
  rw[hdt] at e';unfold pO at e';let#[J1,g1,e']:=õ0 e';let#[o1,g2,e']:=õ0 e';exact hg SB Z0 S' Z' L' _ J1 y d _ (F'.xO is) (ŧ4 (F'.Jm b2 zz) y r2) g1 fun L2 F2=>?_
  exact hb SB Z0 S' Z' L2 J1 o1 _ F2 g2 ?_;cases o1 with
  | nx J2=>show ŧ9
  | ct J2=>show ŧ9
  | bk J2=>cases e';show Ħ6
  | rt y=>cases e';show Ķ9
 .rw[show Ç4=Ç0 from r1.len,List.drop_length] at e';unfold pO at e';cases e';show P S' Z' L' ((F'.xO is).back b1 F.z0)
end
@[simp] def pD ċ á7:Sm:=fun J=>match Ĵ1 with
 | Ö2=>Á3 λ y=>if Ç0<Ê then ↑(.nx (Àp i ↑(Ŏ1 (ú (ts++[y]))))) else none
 | _=>none
section
variable {ç2}{Ð0}
def s_ ċ İ2:yy R (pD i f) (dJ (lO ğ4 te)):=λ S0 Z0 S Z L J o E F e P=>by
 unfold pD at e;ext ġ8
 .ext œ1
  .ext ř0;ext Ô4;obtain⟨ds,rfl⟩:Š4:=by
    cases ob with
    | lst ds=>show ŧ8
    | _=>show ŧ5
   ext ŏ8;change lO ğ4 te L S _;unfold lO yM;rw[h1];exact#[#[ds,h2],hf ŗ3 ĉ];ext ų;rw[s1 Çv];have F1:=Ă0;exact#[by rw[h3.len];show hl,P _ Z L (F1.mut (us:=ú (ts++[y])) (es:=ú (ds++[d])) i h h1 ((Ē7 (oG s1) ts h3).append (Ī r1 Á5)))]
  ext ÆT
 .cases e
end
def kC Ă9 (ti:oo) (g:vb) (tc:xx) ū0:zA:=fun L S Q=>ti L S λ I S1=>Ç4<=Ê/\(∀ S,Sx S1 S->I.keep S)/\∀ p,S1 p=none->∃ W:Nat->SS->ĝ0->Prop,W 0 S1 []/\
 (∀ i S S' acc,(∀ b o,b≠p->S b=↑o->S' b=↑o)->W i S acc->W i S' acc)/\
 (∀ i d S acc,Ŧ8=↑d->Sx S1 S->S p=↑(ú acc)->W i S acc->g d Ħ1 S fun L2 S2=>fD Ħ1 L2/\tc L2 S2 λ b S3=>if Ţ4 then te L2 S3 λ y S4=>Sx S S4/\W ü8 S4 (acc++[y]) else Sx S S3/\W ü8 S3 acc)/\
 ∀ S2 acc,Sx S1 S2->S2 p=↑(ú acc)->W Ç4 S2 acc->Q ó9 S2
@[simp] def kX Ă9 Ŗ8:Ev:=pick.map λ o=>o.bind λ i=>(Ĵ1).join
def fy ÃG:ń3
 | []=>↑[]
 | y::ys=>(h y).bind λ o=>(fy h ys).map λ zs=>match o with
  | some z=>z::zs
  | none=>zs
@[simp] def oB Ă9 Ĕ8 (c:ň) á7 Ŗ8 (y:T):Â (Â T):=
 (g y (kX pick J)).bind fun J2=>(c J2).bind λ b=>if Ţ4 then (f J2).map some else ↑none
def yS Ă9 (it:ĥ) Ĕ8 (c:ň) á7:zEO:=fun J=>(it J).bind λ ts=>if Ç0<=Ê then (fy (oB pick g c f J) ts).map ú else none
@[simp] def xo:ň:=λ _=>↑true
def rQ:vd xo Oh:=Áh
def Xa Ă9 Ĕ8 (t:vb):Prop:=∀ B S Z L J J' y d Q,Ŭ5->fD B L->ĺ4->Àm->Àl->ñ6
def Y_ Ă9 (g:Ŕ3) (t:oq):Prop:=∀ B S Z L J J' y d Q,Ŭ5->fD B L->ĺ4->Àm->zo Ç5 y d->ñ6
theorem ER.gu ř ì3{y:T}Ö3(h:Àm) (hl:ĺ4) ċ (r:Àl):ER S Z ş9 ÿ4:=by
 exact#[h.zd,λ j t e=>?_,λ j ts e=>?_]
 .ext Ō8
  .cases e;show#[d,dv (by rw[hl];show hl'),r]
  .rw[nh n];show h.im j t e
 .ext Ō8
  .cases e
  .rw[nh n];show h.ow j ts e
variable {Ě3}
theorem rC ċ (hi:Į4=↑none:=by rfl):Xa pick (zC i) ù5:=λ B S Z L J J' y d Q hB hs hl hE r e hq=>by
 cases e;exact hq _ (hE.gu hl i r) #[by rw[zdC];show hs.1,λ j c q=>?_] (by simp[hl]);by_cases hj:i=j
 .subst hj;rw[hB i hi] at q;cases q
 .rw[nh hj];show hs.2 j c q
def r9:Y_ pick wK Ym:=λ B S Z L J J' y d Q hB hs hl hE r e hq=>by
 cases y with
 | nil=>simp![zo] at r;subst r;cases e;show#[rfl,hq _ hE hs hl]
 | cons _ _=>cases e
def rA Ľ3{h:Ŕ3}{t:vb}{u:oq}(hg:Xa pick g t) (hh:Y_ pick h u):Y_ pick (y8 g h) (bH t u):=λ B S Z L J J' y d Q hB hs hl hE r e hq=>by
 cases y with
 | nil=>cases e
 | cons y ys=>
  ext ı7;show hg B ö J1 y c _ hB hs hl hE r1 e1 fun L1 E1 s1 l1=>hh B S Z L1 J1 J' ys cs Q hB s1 l1 E1 r2 e2 hq
def rB Ë0{g:Ŕ3}{t:oq}(hg:Y_ pick g t):Xa pick (wc n g) (i4 n t):=λ B S Z L J J' y d Q hB hs hl hE r e hq=>by
 cases y with
 | tup ys=>
  ext ŀ5
  .rename_i hn;show#[by rw[r.len];show hn,hg B ö J' ys ds Q hB hs hl hE r e hq]
  .cases e
 | _=>cases e
def RE {J:Ev}È1{w:W}(h:(kX pick J)[i]?=↑↑w):∃ j:Nat,Åo/\J[j]?=↑↑w:=by
 unfold kX at h;rw[zA3] at h;cases q:Į4 with
 | none=>ext ı9
 | some o=>
  rw[q] at h;cases o with
  | none=>simp at h
  | some j=>
   simp![Ù3,zC9,Ĺ6] at h;exact#[j,rfl,?_];cases q2:J[j]? with
   | none=>rw[q2] at h;cases h
   | some o2=>ext Ţ2
def RH Ÿ6 ò4 Ö3(h:Åo) (h':L[j]?=↑↑d):Ħ1[i]?=↑↑d:=by
 unfold l5;rw[zA3,h];simp[h']
def ER.IQ ř ì3(h:Àm):ER S Z Ħ1 (kX pick J):=by
 exact#[h.zd,Æf,λ i ts e=>?_]
 .let#[j,h1,h2]:=RE e;let#[d,h3,h4]:=h.im j t h2;show#[d,RH h1 h3,h4]
 .let#[j,h1,h2]:=RE e;let#[p,ds,h3,h4]:=h.ow j ts h2;show#[p,ds,RH h1 h3,h4]
def ER.hide ă0 ì3 ß1(h:Àm) (s:í5) (hp:ĭ0) (hp':S' p≠none):ER S' (λ a=>Z a\/a=p) L J:=by
 exact#[λ a z q=>?_,Æf,λ i ts e=>?_]
 .rcases z with z | rfl
  .show h.zd a z (s.none q)
  .show hp' q
 .let#[d,h1,h2]:=h.im i t e;show ÁP
 .let#[q,ds,h1,h2,h3,h4]:=h.ow i ts e;show#[q,ds,h1,s Çv,ji.sx (dr s hp) h3,ē h4]
def qu {it:ĥ}{ti:oo}Ľ3{tg:vb}{c:ň}{tc:xx}Ð0 ı3(hi:jV b it ti) (hg:Xa pick g tg) Âq İ2:
  wt (yS pick it g c f) (kC pick ti tg tc te):=λ S Z L J y Q hE e hq=>by
 let#[ts,e1,e2]:=Ċ;ext đ1
 case isFalse=>cases e2
 rename_i hlen;let#[zs,e3,rfl]:=Þ3 e2;exact hi ö ts _ hE e1 λ I S1 s1 r1 hk=>#[by rw[r1.len];show hlen,λ S' s'=>hk S' ?_,đ3]
 .cases b
  .show s'
  .show (bE È).trans s'
 have E1:=Æc;have nz:¬ Z p:=λ z=>E1.zd p z hp;exact#[λ i S' acc=>∃ us ws,zo ę1 us acc/\fy (oB pick g c f J) (ÅZ i)=↑ws/\zs=us++ws,#[[],zs,Á5,e3,rfl],λ i S' S'' acc hh #[us,ws,h1,h2]=>#[us,ws,Ē7 (λ a o q=>?_) us h1,h2],λ i d S2 acc hd s2 hacc #[us,ws,h1,h2,h3]=>?_,λ S2 acc s2 hacc #[us,ws,h1,h2,h3]=>?_]
 .ext ď9;rw[ng q1];show hh a o (λ z=>q1 (ħ z)) q2
 .let#[x,hx,rx]:=r1.Yr hd;have hlt:=(ø9 hx).1;have hdt:ÅZ i=x::ÅZ ü8:=by rw[Ãh,(ø9 hx).2]
  rw[hdt] at h2;unfold fy at h2;let#[o,o1,h2]:=õ0 h2;let#[ws',o2,rfl]:=Þ3 h2;have E2:=(E1.hide s2 hp (by rw[hacc];nofun)).IQ (pick:=pick);unfold oB at o1;let#[J2,g1,o1]:=õ0 o1;let#[bb,g2,o1]:=õ0 o1;exact hg Ħ1 S2 Þ6 J2 x d _ (λ j hj=>?_) #[rfl,Ö4] (by unfold l5 kX;simp) E2 (ŧ4 (dr s2 hp) x rx) g1 fun L2 E3 l3 _=>#[l3,?_]
  .unfold l5;rw[zA3,hj];rfl
  exact hc S2 _ L2 J2 bb _ E3 g2 Æg;split at o1
  .ext ĉ2;let#[z,g3,rfl]:=Þ3 o1;exact hf S3 _ L2 J2 z _ (E3.grow s3) g3 λ dz S4 s4 r4=>#[s3.trans s4,us++[z],ws',?_,o2,by rw[h3];simp];show (Ē7 (oG (s3.trans s4)) us h1).append (Ī r4 Á5)
  .ext Ċ9;cases o1;show#[s3,us,ws',Ē7 (oG s3) us h1,o2,h3]
 .rw[show Ç4=Ç0 from r1.len,List.drop_length] at h2;cases h2;rw[zcA] at h3;subst h3;exact hq ÃF #[?_,λ vs e=>?_]
  .ext Ķ4;show#[acc,ħ #[p,rfl,by rw[ng nz];show hacc],Ē7 (mR λ a z=>ē z) zs h1]
  .cases e;show#[p,acc,rfl,s1.none hp,hacc,h1]
mutual
def Æh:T->Bool
 | ā9=>xR ts
 | ú _=>Ç
 | .zF È=>Ç
 | _=>true
def xR:ç->Bool
 | []=>true
 | Ĝ4=>Æh t&&xR ts
end
mutual
theorem Wj ă0:∀ (t:T) Ö3,Æh t=true->æ5->Sn S' t d
 | .zJ,d,_,q=>Á8
 | đ2,d,_,q=>Á8
 | ö7,d,_,q=>Á8
 | Ő0,d,_,q=>Á8
 | ā9,d,h,q=>by
  ext â5;show#[ds,q1,ZI ts (by simpa only [Æh] using h) q2]
 | í6,d,h,q=>by simp![Æh] at h;cases h
 | .zF È,d,h,q=>by simp![Æh] at h;cases h
theorem ZI ă0:∀ ņ5 ù,xR ts=true->Ś->zo S' ts ds
 | [],ds,_,q=>ŋ5
 | Ĝ4,ds,h,q=>by
  simp![xR,zE5] at h;ext Đ2;show#[c,cs,q1,Wj t h.1 q2,ZI ts h.2 q3]
end
def II {y:T}(h:Æh y=true):∀ ts,y≠ í6:=λ ts e=>by subst e;simp[Æh] at h
class Sr Âp:Prop extends Lo R where
 sn:∀ ă0 Ŗ9 Ö3,ę2->ň6
instance:Sr zq:=#[λ h=>h]
instance:Sr zl:=#[λ h=>h.1]
def zR Âp ÇE:pE:=λ ds S Q=>∃ Z ys y,(Ė5)/\zo Ç5 ys ds/\F ys=↑y/\∀ d S',í5->ę2->Q d S'
def zR.mo ç2 ÀZ:iX ų6:=λ _ _ _ _ hq #[Z,ys,y,h1,h2,h3,h4]=>#[Z,ys,y,h1,h2,h3,λ d S' s r=>hq È (h4 d S' s r)]
@[simp] def iO ÇE (g:ĥ):zEO:=fun J=>í7 λ ys=>(F ys).bind λ y=>if Æh y=true then ↑y else none
def yn ç2 [Lo R] ÀZ Ź1(h:fJ g u):zT R (zm F g) (iM ų6 u):=λ S Z L J y Q hE e hq=>by
 ext û8;exact h ö xs Ñ0;show#[Z,xs,y,(Æc).zd,r1,e2,λ d S' s r=>hq d S' (Äi s) (Cl.cl s1 r)]
theorem lT.free ř{Z Z':ŝ}:∀ Ê1 ù,lT S Z ts ds->(∀ a,Z' a->Z a)->(∀ a,D.ref a∈ds->¬ Z' a)->zo (yk S Z') ts ds
 | [],ds,h,_,_=>by cases h;show Á5
 | Ĝ4,ds,h,hz,hn=>by
  ext ä2;exact Ī ?_ (lT.free h2 hz λ a ha=>hn a (zc2 _ ha));rcases h1 with h1 | ⟨us,p,es,rfl,rfl,h3,h4,_⟩ | ⟨ks,us,p,m,rfl,rfl,h3,h4,h5,_⟩
  .show ŧ4 (mR hz) t h1
  .ext Ķ4;show#[es,ħ #[p,rfl,Èr],Ē7 (mR hz) us h4]
  .ext Ķ4;show#[p,m,#[rfl,h4],Èr,Ē7 (mR hz) us h5]
@[simp] def wM (N:Ö) (ys:ç):Ev:=ys.map (λ y=>↑(.im y))++ė (Ű4-Í1) none
@[simp] def jD:Â Out->Â T
 | some (.rt y)=>↑y
 | some (.nx _)=>↑.zJ
 | _=>none
@[simp] def z_ (N:Ö) Ï7 (g:Sm):zLO:=λ ys=>if Í1=n then jD (g Æi) else none
theorem zR.len ç2 ţ1 Ë0{g:Sm}ù ř Ź0(hs:zR R (z_ N n g) ū1):Ì3=n:=by
 ext Ĩ1
 .ext ŭ9;rw[r.len];show h
 .cases e
theorem Sf ţ1 ù È1 Ö3(h:Ŧ3):(oy N ds)[i]?=↑↑d:=by
 have hi:=(ø9 h).1;unfold oy;rw[zcU Ċ8,zA3,h];rfl
theorem e9 ţ1{ys:ç}È1{w:W}(h:Æi[i]?=↑↑w):∃ y,ys[i]?=↑y/\w=.im y:=by
 unfold wM at h;have hi:i<Í1:=by
  rcases zcC i Í1 with q | q
  .show q
  ext Ū3
 rw[zcU Ċ8,zA3] at h;cases q:ys[i]? with
 | none=>ext ı9
 | some y=>ext ı9;show#[y,rfl,rfl]
def Nz ç2 [Lo R] ţ1 Ë0{g:Sm}{t:xA}(h:Ś1) ù ř Ź0(hs:zR R (z_ N n g) ū1):t Ê0:=by
 ext Ĩ1
 case isFalse=>cases e
 obtain⟨o,e1,e2⟩:∃ o,g Æi=↑o/\jD ↑o=↑y:=by
  cases q:g Æi with
  | none=>ext Ů2
  | some o=>show#[o,rfl,by rw[<- q];show e]
 exact h S Z S Z È o _ #[#[hz,Æf,λ i ts e=>?_],?_,.refl S,hz,λ _ z=>z,λ _ z=>ē z,λ i ts p e _=>?_,λ i j ts us p _ e _ _ _=>?_] e1 ?_
 .ext Ė4;let#[d,h3,h4]:=r.Yq h1;show#[d,Sf h3,h4]
 .ext Ė4
 .unfold oy wM;have:=r.len;simp[this]
 .ext Ė4
 .ext Ė4
 .cases o with
  | rt y'=>cases e2;show λ d S' s r=>hq d S' s r
  | nx J'=>
   cases e2;show λ S' Z' L' F=>hq .zJ S' F.sx (ĺ2 ć Sv)
  | _=>cases e2
def xE Ľ4:Â T:=œ9
def kW Ľ4 (v:T):ç6:=
 Õ4
section
variable {ř}
theorem xK.len:∀ č7,Ś0->ń4=ë8
 | [],_,h=>Ĭ0
 | (k,t)::r,_,h=>by
  let#[d,m,rfl,_,h2]:=h;simp[xK.len h2]
theorem xK.val:∀ č7 ÀY,Ś0->(xE a k=none/\vz b k=none)\/∃ t d,xE a k=↑t/\vz b k=↑d/\æ5
 | [],_,k,h=>by cases h;show ē Ę2
 | (j,t)::r,_,k,h=>by
  let#[d,m,rfl,h1,h2]:=h;by_cases e:j=k
  .subst e;show ħ #[t,d,by simp[xE],by simp[vz],h1]
  .rcases xK.val k h2 with ⟨g1,g2⟩ | ⟨t',d',g1,g2,g3⟩
   .show ē #[by simpa [xE,e] using g1,by simpa [vz,e] using g2]
   .show ħ #[t',d',by simpa [xE,e] using g1,by simpa [vz,e] using g2,g3]
theorem xK.any:∀ č7 ÀY,Ś0->(b.any Ŷ)=a.any Ŷ
 | [],_,k,h=>Ĭ0
 | (j,t)::r,_,k,h=>by
  let#[d,m,rfl,h1,h2]:=h;rw[zcE,zcE,xK.any k h2]
theorem xK.kU ũ4{t:T}Ö3(r:æ5):∀ č7,Ś0->xK S (a.map λ kv=>if kv.1=k then (kv.1,t) else kv) (b.map Ĉ8)
 | [],_,h=>Ĭ0
 | (j,u)::a,_,h=>by
  let#[e,m,rfl,h1,h2]:=h;rw[zA6,zA6];by_cases q:j=k
  .rw[í q,í q];show#[d,_,rfl,r,xK.kU r h2]
  .rw[à q,à q];show#[e,_,rfl,h1,xK.kU r h2]
theorem xK.snoc ũ4{t:T}Ö3(r:æ5):∀ č7,Ś0->xK S (a++[(k,t)]) (b++[ŧ3])
 | [],_,h=>by cases h;show#[d,[],rfl,r,rfl]
 | (j,u)::a,_,h=>by
  let#[e,m,rfl,h1,h2]:=h;show#[e,_,rfl,h1,xK.snoc r h2]
def xK.put č7(h:Ś0) ÀY {t:T}Ö3(r:æ5):xK S (kW a k t) (putD b k d):=by
 unfold kW putD;rw[h.any k];split
 .show xK.kU r h
 .show xK.snoc r h
end
@[simp] def Oj ċ:Sm:=fun J=>↑(.nx (Àp i ↑(Ŏ1 (.xw []))))
@[simp] def ag ċ á7:zEO:=fun J=>Á3 λ y=>match Ĵ1,y with
 | Ĉ0,ä k=>xE kvs ň5
 | _,_=>none
@[simp] def V7 ċ ÇD:zEO:=fun J=>Á3 λ y=>í7 λ z=>match Ĵ1,y with
 | Ĉ0,ä k=>↑((xE kvs ň5).getD z)
 | _,_=>none
@[simp] def V5 ċ (f v:zEO):Sm:=fun J=>(v J).bind λ z=>Á3 λ y=>match Ĵ1,y with
 | Ĉ0,ä k=>if Å9<Ê then ↑(.nx (Àp i ↑(Ŏ1 (.xw (kW kvs ň5 z))))) else none
 | _,_=>none
@[simp] def Y3 ċ:zEO:=fun J=>match Ĵ1 with
 | Ĉ0=>↑(ä Å9)
 | _=>none
def ZM ř ì3(hE:Àm) È1{kvs:ç6}(h:Ĵ1=↑↑(Ŏ1 ĺ0)):∃ p b,Ì7/\S p=↑(.xw b)/\xK Ç5 kvs b:=by
 let#[p,o,h1,h2,h3,_]:=hE.ow i _ h;cases o with
 | xw b=>show#[p,b,h1,h2,h3]
 | _=>show ŧ5
section
variable {ç2}{f g v:zEO}{ty tx tv:zA}
def sX ċ:yy R (Oj i) (vt O9 ù5):=λ S0 Z0 S Z L J o E F e P=>by
 cases e;intro p hp;show P Þ6 (F.XT (ts:=.xw []) (ds:=.xw []) Ļ i hp kf rfl)
def xh ċ Âr:vD (ag i f) (OD ğ4 ty):=λ S Z L J y Q hE e hq=>by
 ext Ŋ2;ext đ1
 .rename_i kvs k h;ext Ü8;exact hf ŗ4 ĉ;cases ų3;rcases (xK.sx (oG s1) h3).val ň5 with ⟨g1,_⟩ | ⟨t,d,g1,g2,g3⟩
  .rw[g1] at e2;cases e2
  .rw[g1] at e2;cases e2;show#[p,b,k,d,rfl,rfl,s1 Çv,g2,hq d S1 s1 g3]
 ext ÆT
def xi ċ Âr (hg:vD g tx):vD (V7 i f g) (OC ğ4 ty tx):=λ S Z L J y Q hE e hq=>by
 ext ö6;let#[z,e2,e3]:=Ċ;split at e3
 .rename_i kvs k h;cases e3;ext Ü8;exact#[p,rfl,#[b,h2],hf ŗ4 ĉ];cases ų3;exact hg å5 z Í8 λ dz S2 s2 r2=>#[k,b,rfl,(ğ) Çv,?_];rcases (xK.sx (oG (ğ)) h3).val ň5 with ⟨g1,g2⟩ | ⟨t,d,g1,g2,g3⟩
  .rw[g2];rw[g1] at hq;show hq ÃF r2
  .rw[g2];rw[g1] at hq;show hq ÃF g3
 .cases e3
def sW ċ Âr (hv:vD v tv):yy R (V5 i f v) (OB ğ4 ty tv):=λ S0 Z0 S Z L J o E F e P=>by
 ext Ľ5
 .rename_i kvs k h;split at e3
  .rename_i hl;cases e3;ext ľ5;let#[p,b,h1,h2,h3]:=ZM F1.er h;change yM i ŭ5 _;ext Ķ6;have h4:=xK.sx (oG s2) h3;show#[p,b,k,rfl,rfl,s2 Çv,by rw[h4.len];show hl,P _ Z L ((F1.grow s2).mut (us:=.xw (kW kvs ň5 z)) (es:=.xw (putD b ň5 dz)) i h h1 (h4.put _ (ŧ4 (oG s2) z r1)))]
  .cases e3
 .cases e3
def qD ċ:wt (Y3 i) (p9 PL (mv ğ4 kB)):=λ S Z L J y Q hE e hq=>by
 unfold Y3 at e;ext ġ8
 .rename_i kvs h;cases e;ext Ü8;exact#[p,b,rfl,h2,?_];rw[h3.len];show Ñ6
 .cases e
end
@[simp] def jG á7:zEO:=fun J=>Á3 λ x=>match x with
 | ö7=>↑(ä (-i))
 | _=>none
def O0 (ta:zA):zA:=fun L S Q=>ta L S λ x S1=>match x with
 | ö7=>Q (ä (-i)) S1
 | _=>Ń
def qm Ð0 ū5:wt (jG f) (O0 te):=λ S Z L J y Q hE e hq=>by
 ext Æ2
 .cases ų3;cases e2;show hq ŗ1 (ĺ2 ć oZ)
 ext ÆT
def qW:pS zl gL PK:=Pg
def qV:pS zl lB PJ:=Pg
def mQ:ç->Â (Ï)
 | []=>↑[]
 | ö7::ts=>(mQ ts).map (i::·)
 | ÃX=>none
def nQ:ç->Â (Ê3)
 | []=>↑[]
 | ŀ r::ts=>(mQ r).bind λ x=>(nQ ts).map (x::·)
 | ÃX=>none
def zH (r:Ï):T:=ŀ (r.map T.int)
theorem b9:∀ Ê1{is:Ï},mQ ts=↑is->ts=is.map T.int
 | [],is,h=>Ĭ0
 | ä b::ts,is,h=>by
  unfold mQ at h;let#[cs,h1,rfl]:=Þ3 h;rw[zA6,<- b9 h1]
 | .zJ::ts,bs,h=>è1
 | .bl _::ts,bs,h=>è1
 | ß _::ts,bs,h=>è1
 | ŀ _::ts,bs,h=>è1
 | ú _::ts,bs,h=>è1
theorem XY:∀ Ê1{rs:Ê3},nQ ts=↑rs->ts=rs.map zH
 | [],is,h=>Ĭ0
 | ŀ r::ts,is,h=>by
  unfold nQ at h;let#[x,h1,h]:=õ0 h;let#[cs,h2,rfl]:=Þ3 h;rw[zA6,<- XY h2,b9 h1];rfl
 | .zJ::ts,bs,h=>è1
 | .bl _::ts,bs,h=>è1
 | ß _::ts,bs,h=>è1
 | ä _::ts,bs,h=>è1
 | ú _::ts,bs,h=>è1
def Yi (is:Ï):mQ (is.map T.int)=↑is:=by
 induction is with
 | nil=>rfl
 | cons b bs ih=>rw[zA6];unfold mQ;rw[ih];rfl
def Z7 (rs:Ê3):nQ (rs.map zH)=↑rs:=by
 induction rs with
 | nil=>rfl
 | cons b bs ih=>
  change nQ (ŀ (b.map T.int)::bs.map zH)=_;unfold nQ;rw[Yi,ih];rfl
theorem jy ř:∀ {is:Ï}ù,zo S (is.map T.int) ds↔ds=is.map D.int
 | [],ds=>by simp![zc4,zo]
 | i::is,ds=>by
  rw[zA6];simp![zo,Sn];ext Ĥ8
  .rintro⟨c,cs,rfl,rfl,h⟩;rw[jy.mp h];rfl
  .rintro rfl;show#[ö7,_,rfl,rfl,jy.mpr rfl]
theorem eF ř:∀ {rs:Ê3}ù,zo S (rs.map zH) ds↔ds=rs.map mh
 | [],ds=>by simp![zc4,zo]
 | r::rs,ds=>by
  rw[zA6];simp![zo,zH,Sn];ext Ĥ8
  .rintro⟨c,cs,rfl,⟨es,rfl,h1⟩,h⟩;rw[eF.mp h,jy.mp h1];rfl
  .rintro rfl;show#[mh r,_,rfl,#[_,rfl,jy.mpr rfl],eF.mpr rfl]
@[simp] def L7:T->Â ý5
 | .zJ=>↑"NoneType"
 | .bl _=>↑"bool"
 | ä _=>↑"int"
 | ß _=>↑"str"
 | ŀ _=>↑"tuple"
 | ú _=>↑"list"
 | .zF È=>none
@[simp] def instS (ty:ý5) á7:zEO:=fun J=>Á3 λ x=>(L7 x).map λ t=>.bl (mP t ty)
def qx {ty:ý5}Ð0 Ě5:wt (instS ty f) (dI ty te):=λ S Z L J y Q hE e hq=>by
 ext Ŋ2;let#[n,e3,rfl]:=Þ3 e2;exact hf Ģ2;have key:gq d S1=↑n:=by
  rw[<- e3];cases x with
  | zJ=>cases Vw.zJ r1;rfl
  | bl _=>cases Äh;rfl
  | int _=>cases ų3;rfl
  | str _=>cases ų4;rfl
  | tup _=>let#[ds,rfl,_]:=Vw.tup r1;rfl
  | lst _=>
   ext ß4
   .rfl
   .unfold gq;ext ų;rw[h1];rfl
  | zF _ _=>cases e3
 rw[key];show ć8
@[simp] def isNone:T->Bool
 | .zJ=>true
 | _=>Ç
def df:D->Bool
 | .zJ=>true
 | _=>Ç
def zB (p:ĕ2):T:=ŀ [ä p.1,ä p.2]
def wO Ū8:T:=ú (Ę7 ä)
@[simp] theorem zcl:ù1:=rfl
def E6 Ë0(h:n<=10000):n<=Ê:=zE0 h ()
theorem om Å2 Ň3 Õ7{x:α}(h:xs[k]?=↑x):Ŧ5 xs (k:Int)=↑x:=by
 unfold Ŧ5 L2.oE;have hk:=(ø9 h).1;rw[í ⋯,í ⋯];exists h
@[simp] theorem NJ Å2 Ň3{x:α}:Ŧ5 (xs++[x]) (-1)=↑x:=by
 unfold Ŧ5 L2.oE;rw[à ⋯,í Ø2];have:(-1+((xs++[x]).length:Int)).toNat=Ó:=by simp;lia
 rw[zC9,this];simp
@[simp] theorem zcu Å2{x:α}Ň3:Ŧ5 (Åf) 0=↑x:=om (k:=0) rfl
@[simp] theorem zct Å2{x y:α}Ň3:Ŧ5 (x::y::xs) 1=↑y:=om (k:=1) rfl
@[simp] theorem zcs Å2{x y z:α}Ň3:Ŧ5 (x::y::z::xs) 2=↑z:=om (k:=2) rfl
@[simp] theorem zcr Å2{x y z w:α}Ň3:Ŧ5 (x::y::z::w::xs) 3=↑w:=om (k:=3) rfl
theorem VD Å2 ņ7 (g:α->Â T) ÃG:∀ ņ2,(∀ x∈xs,h (enc x)=↑(g x))->fy h (ť enc)=↑(xs.filterMap g)
 | [],_=>rfl
 | Åf,hh=>by
  rw[zA6];unfold fy;rw[hh x zc1,VD enc g h xs λ y hy=>hh y (zc2 _ hy)];cases q:g x <;> simp[q]
def Az Å2 ņ7 (g:α->T) ÃG ņ2 (hh:∀ x∈xs,h (enc x)=↑↑(g x)):fy h (ť enc)=↑(ť g):=by
 rw[VD enc (λ x=>↑(g x)) h xs hh];simp
def xH Å2 ņ7 (h:α->T) ã1
  (hh:∀ x∈xs,oB pick g c f J (enc x)=↑↑(h x)):yS pick it g c f J=↑(ú (ť h)):=by
 unfold yS;rw[hi,zC9,í (ÇX),Az enc h _ xs hh];rfl
def Q8 Å2 ņ7 (h:α->Â T) ã1
  (hh:∀ x∈xs,oB pick g c f J (enc x)=↑(h x)):yS pick it g c f J=↑(ú (xs.filterMap h)):=by
 unfold yS;rw[hi,zC9,í (ÇX),VD enc h _ xs hh];rfl
section
variable {Å2}{is:Ė1}{Ľ3}{b:Sm}
def turn Ĕ8 (b:Sm) (y:T) Ŗ8:Â Out:=(g y J).bind b
theorem WN (y:T) (ys:ç) Ŗ8:pO is g b (y::ys) J=(turn g b y ę3).bind λ o=>match o with
  | .nx J2=>Ŕ4
  | .ct J2=>Ŕ4
  | .bk J2=>↑ Ãg
  | .rt t=>↑(.rt t):=by
 unfold turn;rw[pO];cases g y ę3 <;> rfl
theorem Qw ņ7 (I:Ü3->Ev->Prop):∀ ņ2 (pre:Ü3) Ŗ8,I pre ę3->
  (∀ p x q,pre++xs=p++x::q->ÿ5)->∃ J',Ż6/\I (pre++xs) J'
 | [],pre,J,h,_=>#[xO is J,by rw[zc4,pO],ĝ4]
 | Åf,pre,J,h,hs=>by
  let#[J',h1,h2]:=hs pre x xs rfl _ h;rw[zA6,WN,h1];have ih:=Qw enc I xs (pre++[x]) J' h2 λ p y q e=>hs p y q (by rw[<- e];simp);exists ih
def pN ņ7 (I:Ü3->Ev->Prop) ņ2 Ŗ8 (h:I [] ę3)
  (hs:∀ p x q,xs=p++x::q->ÿ5):∃ J',Ż6/\I xs J':=Qw enc I xs [] J h hs
def Ri ŷ9 Ï7:rangeT lo n=Ŏ7:=rfl
end
theorem Z9 Ï7 (h:n<=100000):o7 [ä ċ3]=↑((ő n).map λ(k:Nat)=>T.int (0+(k:Int))):=by
 change (if inR ċ3=true then ↑(rangeT 0 (n:Int).toNat) else none)=_;rw[í (Pa.mpr ő7)];rfl
def gp (a:Key) (b:T) (kvs:ç6) (j:Key):xE (ÁO) j=if a=j then ↑b else xE kvs j:=by
 by_cases h:a=j <;> simp[xE,h]
theorem Tx ÇG:∀ kvs:ç6,xE (kvs.map Ĉ8) j=(xE kvs j).map λ x=>if j=k then d else x
 | []=>rfl
 | ÁO=>by
  have ih:=Tx k j d kvs;rw[zA6];by_cases hk:a=k
  .rw[í hk,gp,gp,ih];by_cases hj:a=j
   .subst hj;subst hk;simp
   .ext ŏ3
  .rw[à hk,gp,gp,ih];by_cases hj:a=j
   .subst hj;simp[hk]
   .ext ŏ3
theorem Tw ÇG:∀ kvs:ç6,(∀ kv∈kvs,¬ kv.1=k)->xE (kvs++[ŧ3]) j=if j=k then ↑d else xE kvs j
 | [],_=>by
  change xE [ŧ3] j=_;rw[gp];by_cases h:j=k
  .subst h;simp
  .rw[à h,à (λ z=>h z.symm)]
 | ÁO,hn=>by
  have ih:=Tw k j d kvs λ kv hkv=>hn kv (zc2 _ hkv);have ha:¬ a=k:=hn (a,b) zc1;change xE ((a,b)::(kvs++[ŧ3])) j=_;rw[gp,gp,ih];by_cases hj:a=j
  .subst hj;simp[ha]
  .ext ŏ3
def NP Ľ4:ę0=(xE Ĩ0).isSome:=by
 unfold xE;rw[ze1,zC7,zD0,List.find?_isSome]
def Ln (kvs:ç6) ÇG:xE (kW Ĩ0 d) j=if j=k then ↑d else xE kvs j:=by
 unfold kW;split
 .ext ŭ9;rw[NP] at h;rw[Tx];by_cases hj:j=k
  .subst hj;let#[x,hx]:=zd9.mp h;simp[hx]
  .simp[hj]
 .ext ŭ9;show Tw k j d kvs λ kv hkv z=>h (zD0.mpr #[kv,hkv,zeV z])
def EA Ľ4 (d:T):(kW Ĩ0 d).length=if (xE Ĩ0).isSome=true then Å9 else Å9+1:=by
 have e:=NP Ĩ0;unfold kW;rw[e];split <;> simp
def mE (p:ĕ2):Ï:=[p.1,p.2]
def jx Ĩ2:Ŝ:=(L4.xN ų7).map λ r=>Ĵ2
def So Ĩ2:(jx ps).map mE=L4.xN ų7:=by
 unfold jx;rw[zD6]
 conv=>rhs;rw[<- zcS (L4.xN ų7)]
 exact zc9 λ r hr=>?_;let#[p,_,rfl]:=Š5 ((L4.lu _).mem_iff.mp hr);rfl
def XQ Ĩ2:(jx ps).Perm ps:=by
 have h:=L4.lu ų7;have:(jx ps).Perm ((ã9 mE).map λ r=>Ĵ2):=h.map _
 rwa [zD6,show ((λ r:Ï=>Ĵ2) ∘ mE)=id from rfl,zcS] at this
def eW (p q:ĕ2):Prop:=p.1<q.1\/(p.1=q.1/\p.2<=q.2)
def Sk Ĩ2:(jx ps).Pairwise eW:=by
 have h:=L4.eD ų7;rw[<- So,zcD] at h;exact h.imp λ{p q} hpq=>?_;unfold mE at hpq;rw[HT.jH,HT.jH] at hpq;unfold eW;by_cases e:q.1=p.1
 .rw[í e] at hpq;by_cases e2:q.2=p.2
  .lia
  .rw[à e2] at hpq;have:=ô9 hpq;lia
 .rw[à e] at hpq;have:=ô9 hpq;lia
def J0 Ĩ2:nQ (ã9 zB)=↑ ų7:=by
 have:=Z7 ų7
 rwa [zD6,show zH ∘ mE=zB from rfl] at this
def pz (q p:ĕ2):Bool:=Ď (p.1<=q.1)&&Ď (p.2<=q.2)
def yc Ĩ2 (q:ĕ2):Bool:=ps.any (pz q)
def xn {ps:Ŝ}{q:ĕ2}:yc ps q=true↔∃ p∈ps,p.1<=q.1/\p.2<=q.2:=by
 unfold yc pz;simp[zD0]
def Ar {ps qs:Ŝ}(h:ps.Perm qs) (q:ĕ2):yc ps q=yc qs q:=by
 rw[zC7,xn,xn];show#[λ#[p,h1,h2]=>#[p,h.mem_iff.mp h1,h2],λ#[p,h1,h2]=>#[p,h.mem_iff.mpr h1,h2]]
def Av (ps qs:Ŝ) (q:ĕ2):yc (ps++qs) q=(yc ps q||yc qs q):=by
 unfold yc;rw[List.any_append]
def x_ Ĩ2:Prop:=ps.Pairwise λ p q=>p.1<q.1/\q.2<p.2
theorem x_.eq:∀ {ps qs:Ŝ},x_ ps->x_ qs->(∀ q,yc ps q=yc qs q)->ps=qs
 | [],[],_,_,_=>rfl
 | [],q::qs,_,_,h=>by
  have:=h q;rw[show yc [] q=Ç from rfl] at this;have h2:yc (q::qs) q=true:=ų8;rw[h2] at this;cases this
 | p::ps,[],_,_,h=>by
  have:=h p;rw[show yc [] p=Ç from rfl] at this;have h2:yc (p::ps) p=true:=xn.mpr Ī9;rw[h2] at this;cases this
 | p::ps,q::qs,hp,hq,h=>by
  have hp1:=zc8.mp hp;have hq1:=zc8.mp hq;have a1:∃ r∈q::qs,r.1<=p.1/\r.2<=p.2:=xn.mp (by rw[<- h];show xn.mpr Ī9);have a2:∃ r∈p::ps,r.1<=q.1/\r.2<=q.2:=xn.mp (by rw[h];show ų8);let#[r,hr,r1,r2]:=a1;let#[u,hu,u1,u2]:=a2;have qr:q.1<=r.1:=by
   rcases ã7 hr with e | e
   .subst e;show zC6 _
   .show Int.le_of_lt (hq1.1 r e).1
  have pu:p.1<=u.1:=by
   rcases ã7 hu with e | e
   .subst e;show zC6 _
   .show Int.le_of_lt (hp1.1 u e).1
  have e1:p.1=q.1:=⋯;have er:r=q:=by
   rcases ã7 hr with e | e
   .show e
   .have:=(hq1.1 r e).1;lia
  have eu:u=p:=by
   rcases ã7 hu with e | e
   .show e
   .have:=(hp1.1 u e).1;lia
  subst er eu;have e2:u.2=r.2:=⋯;have epq:u=r:=Prod.ext e1 e2;subst epq;rw[x_.eq hp1.2 hq1.2 λ x=>?_];have hx:=h x;unfold yc at hx ⊢;rw[zcE,zcE] at hx;cases g:pz x u with
  | Ç=>rw[g] at hx;exists hx
  | true=>
   have gx:u.1<=x.1/\u.2<=x.2:=by simpa [pz] using g
   have key:∀ {l:Ŝ},(∀ v∈l,u.1<v.1/\v.2<u.2)->l.any (pz x)=l.any (pz (x.1,u.2-1)):=by
    intro l hl;ext ŏ5
    .ext ÇY;have hg':v.1<=x.1/\v.2<=x.2:=by simpa [pz] using hg
     show ÂA
    .ext ÇY;have hg':v.1<=x.1/\v.2<=u.2-1:=by simpa [pz] using hg
     show ÂA
   rw[key hp1.1,key hq1.1];have hy:=h (x.1,u.2-1);unfold yc at hy;rw[zcE,zcE] at hy;have gn:pz (x.1,u.2-1) u=Ç:=by
    unfold pz;rw[show Ď (u.2<=(x.1,u.2-1).2)=Ç from zeW (by change ¬ u.2<=u.2-1;lia),zcV]
   rw[gn] at hy;exists hy
def jg (l:Ì2) (x:Int):Bool:=match l with
 | none=>true
 | some m=>Ď (x<m)
def xX:Ŝ->Ì2->Ŝ
 | [],_=>[]
 | p::ps,l=>if jg l p.2=true then p::xX ps ↑p.2 else xX ps l
def nS Ĩ2:Ŝ:=xX (jx ps) none
theorem bK:∀ Ĩ2 (l:Ì2) (q:ĕ2),q∈xX ps l->q∈ps/\∀ m,l=↑m->q.2<m
 | [],l,q,h=>by simp[xX] at h
 | p::ps,l,q,h=>by
  unfold xX at h;ext ď7
  .rename_i c;have hm:∀ m,l=↑m->p.2<m:=λ m e=>by subst e;simpa [jg] using c
   ext Än
   .subst e;show#[zc1,hm]
   .let#[h1,h2]:=bK ps _ q e;show#[zc2 _ h1,λ m e=>by have:=h2 _ rfl;have:=hm m e;lia]
  .let#[h1,h2]:=bK ps _ q h;show#[zc2 _ h1,h2]
theorem Vj:∀ Ĩ2 (l:Ì2),ps.Pairwise eW->x_ (xX ps l)
 | [],l,_=>by simp[xX,x_]
 | p::ps,l,h=>by
  have h1:=zc8.mp h;unfold xX;split
  .exact zc8.mpr #[λ q hq=>?_,Vj ps _ h1.2];let#[g1,g2]:=bK ps _ q hq;have:=h1.1 q g1;have:=g2 _ rfl;unfold eW at *;lia
  .show Vj ps _ h1.2
theorem Vk:∀ Ĩ2 (l:Ì2),ps.Pairwise eW->∀ p∈ps,(∃ q∈xX ps l,q.1<=p.1/\q.2<=p.2)\/∃ m,l=↑m/\m<=p.2
 | [],l,_,p,hp=>by cases hp
 | r::ps,l,h,p,hp=>by
  have h1:=zc8.mp h;unfold xX;split
  .rename_i c;rcases ã7 hp with e | e
   .subst e;show ē Ī9
   .rcases Vk ps ↑r.2 h1.2 p e with ⟨q,q1,q2⟩ | ⟨m,e1,e2⟩
    .show ē #[q,zc2 _ q1,q2]
    .cases e1;have:=h1.1 p e;unfold eW at this;show ē #[r,zc1,⋯,e2]
  .rename_i c;rcases ã7 hp with e | e
   .subst e;cases l with
    | none=>simp[jg] at c
    | some m=>show ħ #[m,rfl,by simpa [jg] using c]
   .show Vk ps l h1.2 p e
def bw Ĩ2:x_ (nS ps):=Vj È (Sk ps)
def EB {ps:Ŝ}{q:ĕ2}(h:q∈nS ps):q∈ps:=(XQ ps).mem_iff.mp (bK È q h).1
theorem gQ Ĩ2 (q:ĕ2):yc (nS ps) q=yc ps q:=by
 rw[<- Ar (XQ ps) q,zC7,xn,xn];ext Ĥ8
 .rintro⟨p,h1,h2⟩;show#[p,(bK È p h1).1,h2]
 .rintro⟨p,h1,h2⟩;rcases Vk (jx ps) none (Sk ps) p h1 with ⟨r,r1,r2⟩ | ⟨m,e,_⟩
  .show#[r,r1,⋯,⋯]
  .cases e
end L5
namespace L2
open Ķ â É
section
variable {þ}
def R3 ñ:R2:=λ x y H Q=>∃ l b xs zs,x=Ä l/\y=Ä b/\yB ŋ l xs/\yB ŋ b zs/\Ó+zs.length<=Ê/\∀ p,Đ5->Q ó9 (upd H p (ú (xs++zs)))
theorem GN:yT ũ9 (R3 X.K):=by
 ext Ĥ;ext İ3;cases rx;cases ry;let#[its,r,p1,_]:=ā0 hH;let#[its2,r2,p2,_]:=ā0 hB;let#[â9,ho,hc,n,hd]:=p1.isList;let#[ù2,ho2,hc2,n2,hd2]:=p2.isList;ext ï9;have e:ĕ++Œ2=(its++its2).toArray:=#[];exact ÁC Ÿ2 noFill_list_add seq_list_add PySem.F.slot_list_add PySem.F.entry_list_add (PySem.F.args_list_add_2 È) (list_addW l b ĕ Œ2 Ĕ4 (by rw[zA0,zA0,<- á8,<- Ű3];show hz)) #[ho,ho2,?_];rw[e];show#[Ä _,_,I.Ez (t':=Œ) (r.append r2) (by rw[zD7];lia),rfl,q _ I.fresh]
def R0 ñ:R2:=λ x y H Q=>∃ a b ys,ŋ0/\y=Ä b/\yC ŋ a []/\yC ŋ b ys/\Q ő4 H
theorem GK:yT ũ9 (R0 X.K):=by
 ext Ĥ;let#[l,b,ys,rfl,rfl,hH,hB,q]:=h;cases rx;cases ry;let#[its,r,p1,_]:=Ò7 hH;let#[its2,r2,p2,_]:=Ò7 hB;let#[â9,ho,hc,n,hd]:=id p1;let#[ù2,ho2,hc2,n2,hd2]:=id p2;ext ï9;show ÁC Ŕ
   (tuple_addW0 l b ĕ Œ2 Ĕ4 (by cases r;rfl)) #[ho,ho2,#[Ä b,H,I,rfl,q]]
end
end L2
namespace L5
open Ķ â L2 L3
open É hiding St
section
variable {þ}{ģ}{a b c e:Expr}{Ô7}{ta tb tc te:zA}{é7}{ļ6}
def lL.mo:vy lL:=λ x y S Q Q' hq h=>by
 cases x with
 | int i=>cases y <;> first | show Þ8 | show h
 | str i=>cases y <;> first | show Û2 | show h
 | tup i=>cases y <;> first | show Û2 | show h
 | pK ds=>
  unfold lL at h ⊢;ext ŭ6
  .show ń5
  ext Å4
 | ref q=>
  unfold lL at h ⊢;ext ŭ6
  .show ń5
  ext Å4
 | _=>show h
def jz ĺ ř Ö3 ī4 ù č6 (e:ć5) (n:ų9):∃ a xs,v=Ú6/\ş4/\Ä3:=by
 unfold yI at e;ext ġ8
 .show ŗ rfl (n _)
 .cases e;ext ç1;show#[a,xs,h1,h2.sq,h3]
 .ext ġ8
  .ext ō0;show#[_,xs,rfl,ÄS h1,h2]
  .cases e
 .cases e
abbrev R4 ñ:R2:=λ x y H Q=>nA (λ i j=>ä (i+j)) á4\/((Ď3)\/(R3 K á4\/(R0 K á4\/R1 K á4)))
def lL.fits:ve K lL (R4 K):=λ x y d e H S Q h1 h2 h3 h=>by
 have lst:(ų9)->(match Ų0,yI e S with
  | some ds,↑es=>(∀ ts,e≠ ā9)/\Ē9/\∀ r,S r=none->og ŋ Q (Ä r) (ups S r (ú Ń2))
  | _,_=>Ń)->R4 K á4:=λ n h=>by
  ext ď7
  .rename_i ds es q1 q2;let#[a,xs,rfl,g1,g2]:=jz h1 h3 q1 n;let#[b,ys,rfl,g3,g4]:=jz h2 h3 q2 h.1;exact ħ (ħ (ē #[a,b,xs,ys,rfl,rfl,g1,g3,by rw[<- Ę9,<- Åw];show h.2.1,đ3]));show h.2.2 p (h3.none hp) Ğ1 Ļ (h3.ups Ļ #[_,yO,í4 Ļ _ (g2.append g4)])
  ext Å4
 cases d with
 | int i=>
  cases e with
  | int j=>
   ext Ë1;show Ż7
  | _=>show Åm
 | str i=>
  cases e with
  | str j=>
   ext Ë1;show ħ (Ŏ8)
  | _=>show Åm
 | tup ds=>
  cases e with
  | tup es=>
   have h1':=h1;have h2':=h2;ext ō7;have hl:=Ę9;have hl':=Åw;by_cases hx:xs=[]
   .subst hx;have:ds=[]:=by cases ds <;> simp_all
    ext ě0;show ħ (ħ (ħ (ē #[a,b,ys,rfl,rfl,g1,g3,h.2 _ H h2' Ĺ h3])))
   .exact ħ (ħ (ħ (ħ #[a,b,xs,ys,rfl,rfl,g1,g3,hx,by rw[<- hl,<- hl'];show h.1,λ hy=>?_,λ hy p hp=>?_])))
    .subst hy;have:es=[]:=by cases es <;> simp_all
     ext ě0;exact h.2 _ H ?_ Ĺ h3;rw[zcA];show h1'
    .exact h.2 È ?_ Ļ (h3.new hp);ext ķ9;show#[p,_,rfl,ű9,í4 Ļ _ (g2.append g4)]
  | _=>show Åm
 | pK ds=>show lst ć h
 | ref q=>show lst ć h
 | _=>show Åm
def sA Õ:PD X (ÁB a .Add Çm) (yX lL Ù9):=ik (GQ.or (GP.or (GN.or (GK.or GL)))) lL.fits lL.mo ha hb
def mV.mo {g:Æd}:pM (mV g):=λ ds S Q Q' hq h=>by
 unfold mV at h ⊢;ext ď7
 ext Å4
 .let#[bs,h1,h2]:=h;show#[bs,h1,hq Çv]
 ext Å4
def mV.fits {g:Æd}:oV K (mV g) (λ xs H Q=>∃ p,∃ bs:Ą1,ô8/\yB ŋ p Ų4/\Q (.bl (g bs)) H):=λ xs ds H S Q h0 h2 h=>by
 unfold mV at h;ext ď7
 ext Å4
 .rename_i d hn;ext ź;let#[bs,e,h]:=h;let#[a,ys,rfl,g1,g2]:=jz ħ5 e (λ ts z=>hn ts z);rw[g2.bools] at g1;show#[a,bs,rfl,g1,Ų1]
 ext Å4
def sy (hm:X.mg "all"=none) Ã5 ă (hg:Gl X "all") ô:PD X (À4 (Ĝ "all" p) Ŀ8) (p9 (mV λ bs=>ÅA) tA):=
 kl (j9 (A_ hc) Ď4 boot_all Ë7) mV.mo mV.fits à8
def sk (hm:X.mg "any"=none) Ã5 ă (hg:Gl X "any") ô:PD X (À4 (Ĝ "any" p) Ŀ8) (p9 (mV λ bs=>ÅC) tA):=
 kl (j9 (AZ hc) Ď4 boot_any Ë7) mV.mo mV.fits à8
def Dm ĺ Ö3 ī4(r:æ4):Ď (v=.zJ)=df d:=by
 cases d with
 | tup _=>ext Âs
 | pK _=>ext Âs
 | _=>ext ø7;rfl
theorem uX ė8:PD X (.UnaryOp .USub a pos) (O0 ta):=by
 exact#[fun L S Q Q' hq h=>à8 Ŧ (λ x S1 z=>by
  cases x <;> first
   | show ą6
   | show z) h,ã8 (Hl Lz ha.pe) ĝ]
 ext ê3;cases x with
 | int i=>ext Ü4;show#[i,q1,h1 Ė9]
 | _=>show ą8
section
variable {N':Ö}{Ě3}{Ĕ2}{tg elt iter:Expr}{ifs:Ģ}{ţ6}{tcc:xx}
def kC.mo (hi:Xc ti):yE è5:=fun L S Q Q' hq z=>hi Ŧ (λ I S1 #[h1,h2,h3]=>#[h1,h2,λ p hp=>by
 let#[W,w0,w1,w2,w3]:=h3 p hp;show#[W,w0,w1,w2,λ S2 acc a b c=>hq È (w3 S2 acc a b c)]]) z
theorem T6 (hi:Xc ti) (hg:aL g) (hc:nj tcc) (he:yE te) é6 ĺ Ŗ3(hu:zZ K è5 Ņ8):XE pick (nM K ti) (cx K g) (pU K tcc) (zZ K te) Ņ8:=by
 ext Í;exact#[L,S,r1,r2,hi Ŧ (λ I S1 hF J H1 e1 p1 rep D hD=>?_) z];let#[hlen,hk,hF]:=hF;have hS1:S1 D=none:=p1.none hD;let#[W,w0,wm,wstep,wfin]:=hF D hS1;exact#[λ i m σ H2=>m=Ç4-i/\i<=Ç4/\Ext H1 H2/\xY K H2 Ħ1 σ/\∃ S2 acc,yv K H2 S2/\Sx S1 S2/\S2 D=↑(ú acc)/\acc.length<=i/\W i S2 acc,#[_,rfl,zD4 _,.new hD _,((Ō).pick pick).ext (.new hD _),ups S1 D Åp,[],?_,.new hS1 _,kf,Ű6,?_],?_]
 .show p1.ups (.new hD _) #[[],yO,Á5]
 .show wm 0 S1 _ [] Èa w0
 rintro i m σ2 H2 ⟨rfl,hi',x2,q1,S2,acc,q2,sx,hS2,hacc,hW⟩;let#[g1,g2]:=rep i H2 S2 x2 q2 (hk S2 sx);by_cases hl:i<Ç4
 .ext ÂH
  let#[go,yl]:=g1 _ hd;exact ħ #[go,λ x H3 hy=>?_];let#[x3,p3,d3]:=yl x H3 hy;exact#[_,_,S2,d3,q1.ext x3,p3,hg È ū2 (wstep i _ S2 acc hd sx hS2 hW)];let#[hle,z4]:=z4;exact pU.go hc a1 a3 z4 λ b S5 H5 z5 x5 p5=>p_ (λ z5=>?_) (λ z5=>?_) z5
  .exact Ø6 he (a1.ext x5) p5 z5 λ y S6 v H6 z6 q6 x6 p6=>?_;let#[s6,hW6]:=z6;let#[ys,h6,r6]:=p6 È (s6 È hS2);have e6:Ext H6 (upd H6 D (ú (ys++[v]))):=ú h6 _;have hlen2:Í1<=i:=by rw[<- r6.length];show hacc
   exact#[ys,Ç4-ü8,h6,⋯,⋯,rfl,hl,((ę4 x5).trans x6).trans e6,hle.rep ((a1.ext (x5.trans x6)).ext e6),ups S6 D (ú (acc++[y])),acc++[y],?_,λ b o hb=>?_,kf,by simp;lia,?_]
   .show p6.ups e6 #[_,yO,í4 e6 _ (r6.snoc q6)]
   .rw[kQ (by intro q;subst q;rw[hS1] at hb;cases hb)];show s6 È (sx È hb)
   .show wm _ S6 È Èa hW6
  .let#[s5,hW5]:=z5;show#[Ç4-ü8,⋯,rfl,hl,ę4 x5,hle.rep (a1.ext x5),S5,acc,p5,sx.trans s5,s5 È hS2,⋯,hW5]
 .have e:i=Ç4:=⋯;subst e;show ē #[g2 İ,wfin S2 acc sx hS2 hW _ H2 (Ø) (ĭ4 x2) q2]
def Gb (Sc:Ý4) ă Õ1
  (hs:ţ):
  PD X ã è5:=
 #[kC.mo Ŧ9,λ gV s σ H Q I hu=>HA Ç9 hs ũ6 (T6 Ď6 hu)]
def HU È1 Ŗ7(Sc:Ý4) ă Õ1
  ĕ9 Ď5
  (hsw:ø6)
  (hfn:ľ2)
  (hs:ţ):
  zr X Ń0 (vt è5 ù5):=by
 exact#[vt.mo (kC.mo Ŧ9) Œ8,λ gV s σ H D I hu=>Ik Ç9 hN hy hx hsw hfn hs Ü D I ?_];ext Í;exact T6 Ď6 #[L,S,r1,r2,kC.mo Ŧ9 Ŧ (λ x S1 z v H1 q1 e1 p1=>?_) z];show z _ H1 ((Ō).set i q1) e1 p1
end
end
section
variable {æ}{ģ}{Þ5}{Ą8}
def Pw ç2 [Lo R] ũ ç0 è3(F:ň7) ū6
  (Ġ5:∀ Är á Ě2,ō):ĺ5:=
 Yt Án λ cdv A ð5 s H E hr=>by
  let#[t,h1,h2]:=Ġ5 Ä7 hr;show Àt
def BC ç2 [Lo R] ũ ç0 è3(F:ň7) (hm:mg x=↑ à2) ç3
  (Ġ5:∀ Är á Ě2,ō):FD Û x é8:=
 #[#[f,fd,Pw F Sc hn Ġ5,hm,F.kp,F.binds hb],zR.mo]
def EL ç2 [Sr R] ÀZ(hF:∀ ns:Ï,à5<=63->F [ú (Ę7 T.int)]=↑(ė5)) ĺ Ħ Ŗ5{E:XK}(hO:YY H) (hS:yB ŋ a Ç3) (hl:à5<=63):nq K ų6 Ş7 E:=by
 have hFz:dX ŋ a Ç3:=by
  rcases hS with (h | h) | h
  .rcases hO a with z | ⟨o,xs,z⟩
   .rw[h] at z;cases z
   .rw[h] at z;cases z
  .show ē h
  .show ħ h
 exact#[[.pK Ŧ4],Ĺ1,Ī ?_ Á5,(λ a o z=>nomatch z),Àu,[ú (Ę7 T.int)],ė5,nofun,Ī ?_ Á5,hF ns hl,λ d S' s r v H' rv _ _=>?_]
 .ext ķ9;show#[a,_,rfl,hFz,zv.W6 ns]
 .ext Ķ4;show#[_,ē #[rfl,GR ns],jy.mpr rfl]
 .have:=Sr.sn r;simp![Sn] at this;ext ě0;simpa only [zj] using rv
end
end L5
namespace ST
open Ķ Ă1
def kH (xs:Ė1):Prop:=xs.Pairwise (· < ·)
def Vn {xs:Č0}{m d:Nat}(h:m<Ć2):xs.getD m d=xs[m]:=by simp[Array.getD,h]
theorem Ua (xs:Č0) Ám Ľ6:∀ (f lo hi:Nat),hi-lo<=f->lo<=hi->hi<=Ć2->(∀ i Ź2,i<lo->xs[i]<j)->(∀ i Ź2,hi<=i->j<=xs[i])->
  Ũ0<=Ć2/\(∀ i Ź2,i<Ũ0->xs[i]<j)/\∀ i Ź2,Ũ0<=i->j<=xs[i]
 | 0,lo,hi,h1,h2,h3,h4,h5=>by
  unfold below.go;ext ÅJ
 | f+1,lo,hi,h1,h2,h3,h4,h5=>by
  unfold below.go;have nv:∀ i k (hi:i<Ć2) (hk:k<Ć2),i<=k->xs[i]<=xs[k]:=λ i k hi hk hik=>by
   rcases zcC i k with q | q
   .have r:=zdH.mp hr i k Ċ8 (by exists hk) q;rw[zcX,zcX] at r;show zE3 r
   .have:i=k:=⋯;ext ě0;show Ű6
  by_cases hl:lo<hi
  .rw[í hl];ext ų;have hm:(lo+hi)/2<Ć2:=⋯;rw[Vn hm];by_cases c:xs[(lo+hi)/2]<j
   .rw[í c];exact Ua xs j hr f _ hi Á7 h3 (λ i hi' hlt=>?_) h5;have:=nv i ((lo+hi)/2) hi' hm ⋯;lia
   .rw[à c];exact Ua xs j hr f lo _ Á7 ⋯ h4 (λ i hi' hge=>?_);have:=nv ((lo+hi)/2) i hm hi' hge;lia
  .rw[à hl];ext ÅJ
def YM {xs:Č0}ĵ8 Ľ6:ē0<=Ć2/\(∀ i Ź2,i<ē0->xs[i]<j)/\∀ i Ź2,ē0<=i->j<=xs[i]:=
 Ua xs j hr Ć2 0 Ć2 Á7 İ (λ i h q=>⋯) (λ i h q=>⋯)
theorem below_at {xs:Č0}{j i:Nat}Ľ6 (h:Ň6=↑j):ē0=i:=by
 let#[h1,h2,h3]:=YM (j:=j) hr;let#[hi,e]:=Ý6 h;have a:¬ i<ē0:=λ q=>by have:=h2 i hi q;lia
 have b:¬ ē0<i:=λ q=>by
  have:=h3 (ē0) ⋯ İ;have r:=zdH.mp hr (ē0) i Ø2 Ċ8 q;simp at r;lia
 lia
def zat {xs:Č0}ĵ8 Ľ6:(xs[ē0]?=↑j)↔j∈xs.toList:=by
 ext Ĥ8
 .intro h;let#[hi,e]:=Ý6 h;rw[<- e];simp
 .intro h;let#[i,hi,e]:=ÅB h;have hx:Ň6=↑j:=by
   simp at hi;simp[hi] at e ⊢;show e
  rw[below_at hr hx];show hx
def lS Ć9 (p:Probe):Probe:=
 if p.more>0 then { p with j:=p.j+1,more:=p.more-1 } else
 let (i,perturb):=leap M p.i p.perturb
 { p with j:=i,more:=Ŵ0,i,perturb }
def Uu ÇH (p:Probe):t.advance p=lS Ř p:=rfl
def eK (M i perturb:Nat):Probe:={ j:=i,more:=Ŵ0,i:=i,perturb:=perturb,dummy:=none }
def way Ü7:Nat->Probe
 | 0=>eK M (Ĉ1) (bits h)
 | k+1=>lS M (Ù5)
def zaK Ć9 (p:Probe) (h:p.dummy=none):(lS M p).dummy=none:=by
 unfold lS;split
 .show h
 .show h
theorem X2 Ü7:∀ k,(Ù5).dummy=none
 | 0=>rfl
 | k+1=>zaK M _ (X2 M h k)
def yR Ü7:Nat->Nat×Nat
 | 0=>(Ĉ1,bits h)
 | n+1=>leap M ú0 Į8
theorem XW (M i pt:Nat) ņ8 ã0 (hk:Ù5=eK M i pt):∀ m,m<=Ŵ0->way M h (k+m)={ j:=i+m,more:=Ŵ0-m,i:=i,perturb:=pt,dummy:=none }
 | 0,_=>by rw[Nat.add_zero,hk];rfl
 | m+1,hm=>by
  have ih:=XW M i pt h k hk m ⋯;change lS M (way M h (k+m))=_;rw[ih];unfold lS;rw[í (by change Ŵ0-m>0;lia)];simp![Probe.mk.injEq];show#[⋯,⋯,Ò9,Ò9,Ò9]
def Jz (M i:Nat):Ŵ0<=9:=by ext Ŋ3
theorem SO Ü7 (n k:Nat) (hk:Ù5=eK M ú0 Į8):way M h (k+(Ŵ5-ú0)+1)=eK M (yR M h (n+1)).1 (yR M h (n+1)).2:=by
 have:=XW M È h k hk _ İ;change lS M (way M h (k+_))=_;rw[this];unfold lS;rw[à (by change ¬ _-_-(_-_)>0;lia)];rfl
theorem SR Ü7:∀ n,∃ k,k<=10*n/\Ù5=eK M ú0 Į8
 | 0=>#[0,⋯,rfl]
 | n+1=>by
  let#[k,h1,h2]:=SR M h n;have:=Jz M ú0;show#[_,⋯,SO M h n k h2]
def zar ņ8:bits h<2 ^ 64:=by
 unfold bits;have h1:=zF0 h (show (2 ^ 64:Int)≠0 by decide);have h2:=zF1 h (show (0:Int)<2 ^ 64 by decide);lia
theorem RI Ü7:∀ n,Į8*32 ^ n<=bits h
 | 0=>by simp[yR]
 | n+1=>by
  have ih:=RI M h n;change (Į8/32)*32 ^ (n+1)<=_;have:Į8/32*32<=Į8:=Nat.div_mul_le_self È
  calc Į8/32*32 ^ (n+1)=(Į8/32*32)*32 ^ n:=by rw[Nat.pow_succ,ze2 (32 ^ n) 32,Nat.mul_assoc]
   _<=Į8*32 ^ n:=zd5 _ this
   _<=_:=ih
theorem Hg Ü7 Ï7 (hn:13<=n):Į8=0:=by
 rcases Nat.eq_zero_or_pos Į8 with q | q
 .show q
 .have h1:=RI M h n;have h2:=zar h;have h3:32 ^ 13<=32 ^ n:=Nat.pow_le_pow_right () hn;have h4:1*32 ^ n<=Į8*32 ^ n:=zd5 _ q;have h5:(2:Nat) ^ 64<32 ^ 13:=()
  lia
def jE Ć9 ċ:Nat->Nat
 | 0=>i
 | n+1=>(jE M i n*5+1)%ń6
theorem Q6 Ü7:∀ n,(yR M h (13+n)).1=jE M (yR M h 13).1 n
 | 0=>rfl
 | n+1=>by
  have ih:=Q6 M h n;have hz:=Hg M h (13+n) ⋯;change ((yR M h (13+n)).1*5+1+(yR M h (13+n)).2/32)%ń6=_;rw[hz,ih];rfl
theorem bc (M i:Nat):∀ a b,jE M i (a+b)=jE M (jE M i a) b
 | a,0=>rfl
 | a,b+1=>by
  change (jE M i (a+b)*5+1)%ń6=_;rw[bc M i a b];rfl
def ba Ć9:Nat->Nat->Ė1
 | 0,_=>[]
 | n+1,i=>i::ba M n ((i*5+1)%ń6)
theorem W0 Ć9:∀ n i x,x∈ba M n i->∃ k,k<n/\jE M i k=x
 | 0,i,x,h=>è1
 | n+1,i,x,h=>by
  ext Än
  .show#[0,⋯,e.symm]
  .let#[k,h1,h2]:=W0 M n _ x e;show#[k+1,⋯,by rw[ze3,bc];show h2]
def m5 Ć9:Prop:=M=7\/M=31\/M=127
theorem G2 Ć9 ă2:(∀ e,e<=M->e∈ba M ń6 0)/\jE M 0 ń6=0:=by
 have key:∀ M,((ő ń6).all λ e=>(ba M ń6 0).contains e)=true->∀ e,e<=M->e∈ba M ń6 0:=λ M h e he=>by
  have:=zE4.mp h e (Ž5 ⋯);ext Ŋ0
 rcases hM with rfl | rfl | rfl
 .show#[key 7 Ş1,zdK]
 .show#[key 31 Ş1,zdK]
 .show#[key 127 Ş1,zdK]
theorem G1 Ć9 ă2 (i e:Nat) (hi:i<=M) (he:e<=M):∃ n,n<=M/\jE M i n=e:=by
 let#[h1,h2]:=G2 M hM;let#[a,a1,a2]:=W0 M Þ6 (h1 i hi);let#[b,b1,b2]:=W0 M Þ6 (h1 e he);rcases zcC b a with q | q
 .exact#[M+1+b-a,⋯,?_];rw[<- a2,<- bc,show a+(M+1+b-a)=ń6+b by lia,bc,h2,b2]
 .exact#[b-a,⋯,?_];rw[<- a2,<- bc,show a+(b-a)=b by lia,b2]
theorem EC Ü7:∀ n,ú0<=M
 | 0=>by have:=zdL (bits h) Âw;change Ĉ1<=M;lia
 | n+1=>by
  have:=zdL (ú0*5+1+Į8/32) Âw;change (_%ń6:Nat)<=M;lia
theorem Q7 Ć9 ă2 ņ8 (e:Nat) (he:e<=M):∃ n,n<M+14/\ú0=e:=by
 let#[n,h1,h2]:=G1 M hM (yR M h 13).1 e (EC M h 13) he;show#[13+n,⋯,by rw[Q6,h2]]
theorem Li Ć9 ă2 ņ8 (e:Nat) (he:e<=M):∃ k,k<10*(M+15)/\(Ù5).j=e:=by
 let#[n,h1,h2]:=Q7 M hM h e he;let#[k,k1,k2]:=SR M h n;show#[k,⋯,by rw[k2];show h2]
theorem Tj Ü7:∀ k,(Ù5).j+(Ù5).more<=M/\(Ù5).i<=M
 | 0=>by
  have h1:Ĉ1<=M:=by have:=zdL (bits h) Âw;lia
  exact#[?_,h1];change Ĉ1+(ğ5 M (Ĉ1)-Ĉ1)<=M;ext Ŋ3
 | k+1=>by
  let#[h1,h2]:=Tj M h k;change (lS M (Ù5)).j+(lS M (Ù5)).more<=M/\(lS M (Ù5)).i<=M;unfold lS;split
  .rename_i c;show#[by change (Ù5).j+1+((Ù5).more-1)<=M;lia,h2]
  .have h3:ÁQ%ń6<=M:=by have:=zdL ÁQ Âw;lia
   exact#[?_,h3];change _%ń6+(ğ5 M (_%ń6)-_%ń6)<=M;ext Ŋ3
def X0 Ü7 ã0:(Ù5).j<=M:=by have:=(Tj M h k).1;lia
structure Tab ÇH (hs:Ï):Prop where
 mask:m5 Ř
 iH:t.dummies=ø
 len:Ĉ2=ú1
 nv:kH ś
 top:∀ j∈ ś,j<=Ř
 cR:∀ ċ h j,hs[i]?=↑h->Ð7[i]?=↑j->Ħ7
theorem Tab.live Â0 ò4(h:Ð7[i]?=↑j):t.slot j=.live i:=by
 unfold SetTable.slot;ext ų;rw[below_at T.nv h,í (by rw[h];simp)]
theorem Tab.empty Â0 ĵ8(h:j∉ ś):t.slot j=.empty:=by
 unfold SetTable.slot;ext ų;have n1:¬ (Ð7[Ć3]? == ↑j)=true:=λ q=>h ((zat T.nv).mp (by exists q));rw[à n1,ÄD]
theorem Tab.at Â0 ĵ8(h:j∈ ś):∃ (i:Nat) (g:Int),Ð7[i]?=↑j/\hs[i]?=↑g:=by
 let#[i,hi,e]:=ÅB h;have hi':i<Ĉ2:=by exists hi
 exact#[i,hs[i]'(by rw[<- T.len];show hi'),?_,#[]];rw[zB8 hi'];rw[zcX] at e;rw[e]
theorem Ph Â0 {hashAt:Nat->Int}(hA:∀ ċ g,hs[i]?=↑g->hashAt i=g) ņ8:∀ (f k:Nat),(∃ e,k<=e/\e<k+f/\(way Ř h e).j∉ ś)->
  ∃ k1,k<=k1/\(∀ m,k<=m->m<k1->∃ (i:Nat) (g:Int),Ð7[i]?=↑(way Ř h m).j/\hs[i]?=↑g/\g≠h)/\
   (Ŕ5 ∉ ś/\Į9 t hashAt h f (Ś3)=↑(.empty Ŕ5 none)\/
    ∃ i,Ð7[i]?=↑ Ŕ5/\hs[i]?=↑h/\Į9 t hashAt h f (Ś3)=↑(.candidate Ŕ5 i (way Ř h (k1+1))))
 | 0,k,#[e,h1,h2,_]=>⋯
 | f+1,k,#[e,h1,h2,h3]=>by
  by_cases hm:(Ś3).j∈ ś
  .let#[i,g,p1,p2]:=T.at hm;by_cases hg:g=h
   .exact#[k,Ű6,λ m a b=>⋯,ħ #[i,p1,by rw[<- hg];show p2,?_]];unfold Į9;rw[T.live p1];ext ų;rw[hA i g p2,í (by simp[hg]),Uu];rfl
   .have hne:e≠k:=λ q=>by subst q;show h3 hm
    let#[k1,q1,q2,q3]:=Ph T hA h f ě9 #[e,⋯,⋯,h3];have eq:Į9 t hashAt h (f+1) (Ś3)=Į9 t hashAt h f (way Ř h ě9):=by
     conv=>lhs;unfold Į9
     rw[T.live p1];ext ų;rw[hA i g p2,à (by simp[hg]),Uu];rfl
    rw[eq];exact#[k1,⋯,λ m a b=>?_,q3];rcases Nat.eq_or_lt_of_le a with w | w
    .subst w;show#[i,g,p1,p2,hg]
    .show q2 m w b
  .exact#[k,Ű6,λ m a b=>⋯,ē #[hm,?_]];unfold Į9;rw[T.empty hm,X2]
def Qi {xs ys:Ė1}(hx:xs.Nodup) (h:∀ x∈xs,x∈ys):Ó<=Í1:=by
 induction xs generalizing ys with
 | nil=>simp
 | cons x xs ih=>
  have h1:=zcB.mp hx;have hxy:=h x zc1;have:=ih h1.2 (ys:=ys.erase x) λ z hz=>by
   have hne:z≠x:=λ e=>h1.1 (e▸hz);show (List.mem_erase_of_ne hne).mpr (h z (zc2 _ hz))
  rw[List.length_erase_of_mem hxy] at this;have hp:=zeG hxy;simp![zC0];lia
theorem least {P:Nat->Prop}ã0 (h:P k):∃ m,m<=k/\P m/\∀ m'<m,¬ P m':=by
 induction k using Nat.strongRecOn with
 | ind k ih=>
  rcases ÁR (∃ m',m'<k/\P m') with ⟨m',h1,h2⟩ | q
  .let#[m,g1,g2]:=ih m' ħ5;show#[m,⋯,g2]
  .show#[k,Ű6,h,λ m' hm hp=>q #[m',hm,hp]]
theorem Bm {xs:Ė1}ÇI(h:Ó<=M):∃ e,e<=M/\e∉xs:=by
 rcases ÁR (∃ e,e<=M/\e∉xs) with q | q
 .show q
 .have:=Qi (xs:=ő ń6) (ys:=xs) zeH λ e he=>by
   have:=zC1.mp he;rcases ÁR (e∈xs) with w | w
   .show w
   .show ŗ #[e,⋯,w] q
  simp at this;lia
def U6 ÇH ņ8 Ám:Prop:=j∉ ś/\Ħ7
theorem Tab.first Â0 (hl:ú1<=Ř) ņ8:∃ K,K<10*(Ř+15)/\Ĵ3 ∉ ś/\∀ k'<K,(way Ř h k').j∈ ś:=by
 let#[e,e1,e2]:=Bm (xs:=ś) (M:=Ř) (by rw[zD2,T.len];show hl);let#[k,k1,k2]:=Li Ř T.mask h e e1;let#[K,q1,q2,q3]:=least (P:=λ n=>(way Ř h n).j∉ ś) k (by rw[k2];show e2);show#[K,⋯,q2,λ k' hk=>Classical.not_not.mp (q3 k' hk)]
def J8 {xs:Ė1}{j p:Nat}(h:kH xs) (h1:∀ x∈ ę5,x<j) (h2:∀ x∈ ĥ3 p,j<x):kH (ę5++j::ĥ3 p):=by
 exact zdY.mpr #[h.sublist (List.take_sublist È),zc8.mpr #[h2,h.sublist (List.drop_sublist È)],λ a ha b hb=>?_];rcases ã7 hb with e | e
 .subst e;show h1 a ha
 .have:=h1 a ha;have:=h2 b e;lia
theorem dh Å2 Ň3{p i:Nat}{x y:α}(hp:p<=Ó) (h:(ę5++x::ĥ3 p)[i]?=↑y):(i=p/\y=x)\/(i<p/\Ň6=↑y)\/(p<i/\xs[i-1]?=↑y):=by
 have hl:(ę5).length=p:=by rw[zdA];lia
 rcases zd6 i p with q | q | q
 .rw[zcU ⋯,List.getElem?_take,í q] at h;show ħ (ē #[q,h])
 .subst q;rw[zdB ⋯,hl] at h;simp at h;show ē #[rfl,h.symm]
 .rw[zdB ⋯,hl] at h;obtain⟨d,hd⟩:∃ d,i-p=d+1:=#[i-p-1,⋯];rw[hd] at h;simp![zeI,List.getElem?_drop] at h;exact ħ (ħ #[q,?_]);rw[show i-1=p+d by lia];show h
theorem Tab.put Â0 {h:Int}ĵ8(F:U6 t h j):
  (Ć4).2<=ú1/\ĺ6/\Tab (Ć4).1 (hs.take (Ć4).2++h::hs.drop (Ć4).2):=by
 let#[b1,b2,b3]:=YM (xs:=Ð7) (j:=j) T.nv;let#[fn,K,k1,k2]:=F;have e2:(Ć4).2=Ć3:=rfl;have e1:ĺ6:=by
  change ({ t with place:=ż,dummies:=_ }:õ1)=_;rw[ÄD,e2]
 have pl:Ũ1=t.place.toList.take (Ć3)++j::t.place.toList.drop (Ć3):=Æj Þ6;have old:∀ x∈ ś,x∈ Ũ1:=λ x hx=>by
  rw[pl];have:=ze4 (Ć3) ś;rw[<- this] at hx;rcases zB9.mp hx with q | q
  .show zcK _ q
  .show zB4 _ (zc2 _ q)
 rw[e2] at e1 ⊢;exact#[by rw[<- T.len];show b1,e1,?_];rw[e1];exact#[T.mask,T.iH,?_,?_,?_,?_]
 .change (ż).size=_;rw[<- zD2,pl];simp[T.len]
 .change kH Ũ1;rw[pl];exact J8 T.nv (ü9) (ü9)
  .let#[i,hi,e]:=ÅB hx;rw[zdA] at hi;rw[List.getElem_take,zcX] at e;rw[<- e];show b2 i (by simp at hi;lia) ⋯
  .let#[i,hi,e]:=ÅB hx;rw[zcM] at hi;rw[List.getElem_drop,zcX] at e;have h3:=b3 (Ć3+i) (by simp at hi;lia) ⋯;have hm:x∈ ś:=zeJ hx;have hne:x≠j:=λ q=>fn (q▸hm);lia
 .intro x hx;change x<=Ř;have hx:x∈ Ũ1:=hx;rw[pl] at hx;rcases zB9.mp hx with q | q
  .show T.top x (List.mem_of_mem_take q)
  .rcases ã7 q with e | e
   .subst e;rw[<- k1];show X0 Þ6
   .show T.top x (zeJ e)
 .intro i g x hg hx;change ∃ k,(way Ř g k).j=x/\∀ k'<k,(way Ř g k').j∈ Ũ1;have hx:(ż)[i]?=↑x:=hx;rw[<- zD3,pl] at hx;have hpl:Ć3<=t.place.toList.length:=by exists b1
  have hpl':Ć3<=ú1:=by rw[<- T.len];show b1
  rcases dh hpl hx with ⟨c1,c2⟩ | ⟨c1,c2⟩ | ⟨c1,c2⟩ <;> rcases dh hpl' hg with ⟨d1,d2⟩ | ⟨d1,d2⟩ | ⟨d1,d2⟩ <;> first
   | lia
   | (subst c2 d2;show#[K,k1,λ k' hk=>old _ (k2 k' hk)])
   | (let#[k,g1,g2]:=T.cR _ g x d2 (by rw[<- zD3];show c2)
      show#[k,g1,λ k' hk=>old _ (g2 k' hk)])
def iV Ź3 Ám:Prop:=∃ k,ú2
theorem B4 {P:Nat->Bool}{n k:Nat}(h:(ő n).find? P=↑k):k<n/\P k=true/\∀ k'<k,P k'=Ç:=by
 let#[h1,as,bs,h2,h3]:=List.find?_eq_some_iff_append.mp h;have hlen:as.length=k:=by
  have e:(ő n)[as.length]?=↑k:=by rw[h2];simp
  have:=(ø9 e)
  let#[q1,q2]:=this;rw[zeF] at q2;show q2
 have hk:k<n:=by
  have:k∈ ő n:=by rw[h2];simp
  show zC1.mp this
 exact#[hk,h1,λ k' hk'=>?_];have:k'∈as:=by
  have e:(ő n)[k']?=↑k':=List.getElem?_range ⋯;rw[h2,zcU ⋯] at e;show zB7 e
 have:=h3 k' this;ext Ŋ0
def getD_none ź5 ĵ8(h:((Àv j ↑0).isNone)=true):Í2[j]?=↑none:=by
 unfold Array.getD at h;ext ď7
 .rename_i hj;have e:Í2[j]=none:=ĝ4
  rw[zB8 hj,e]
 .simp at h
def Pl ź5 ĵ8(hj:j<Ś4) (h:((Àv j ↑0).isNone)=Ç):iV Í2 j:=by
 unfold Array.getD at h;rw[dif_pos hj] at h;cases q:Í2[j] with
 | none=>simp[q] at h
 | some k=>show#[k,by rw[zB8 hj,q]]
theorem Po Ć9 Ź3 (hsz:Ś4=M+1) ņ8:∀ (fuel n kn:Nat),way M h kn=eK M ú0 Į8->(∀ q<kn,iV Í2 (way M h q).j)->
  (∃ n',n<=n'/\n'<n+fuel/\Í2[(yR M h n').1]?=↑none)->
  ∃ j q,layClean.free M Í2 fuel ú0 Į8=↑j/\(way M h q).j=j/\Í2[j]?=↑none/\Ãi
 | 0,n,kn,_,_,#[n',h1,h2,_]=>⋯
 | fuel+1,n,kn,hk,ho,#[n',h1,h2,h3]=>by
  have hre:Ŵ5+1-ú0=Ŵ5-ú0+1:=by ext Ŋ3
  have hwalk:∀ m,m<=Ŵ5-ú0->(way M h (kn+m)).j=ú0+m:=λ m hm=>by rw[XW M È h kn hk m hm]
  unfold layClean.free;cases hf:(ő (Ŵ5+1-ú0)).find? (λ k=>(Àv (ú0+k) ↑0).isNone) with
  | some k=>
   let#[f1,f2,f3]:=B4 hf;exact#[_,kn+k,rfl,hwalk k ⋯,getD_none f2,λ q' hq=>?_];rcases zcC q' kn with w | w
   .show ho q' w
   .have e:(way M h q').j=ú0+(q'-kn):=by
     have:=hwalk (q'-kn) ⋯
     rwa [show kn+(q'-kn)=q' by lia] at this
    have hle:=X0 M h q';rw[e] at hle ⊢;show Pl ⋯ (f3 (q'-kn) ⋯)
  | none=>
   have f3:=List.find?_eq_none.mp hf;have occ:∀ m,m<=Ŵ5-ú0->iV Í2 (ú0+m):=λ m hm=>by
    have hle:=X0 M h (kn+m);rw[hwalk m hm] at hle;show Pl ⋯ (Bool.eq_false_iff.mpr (f3 m (Ž5 ⋯)))
   have hne:n'≠n:=λ e=>by
    subst e;let#[k,hk']:=occ 0 Ĝ3;rw[Nat.add_zero] at hk';rw[hk'] at h3;cases h3
   ext ų;let#[j,q,r1,r2]:=Po M Í2 hsz h fuel (n+1) _ (SO M h n kn hk) (λ q hq=>by
    rcases zcC q kn with w | w
    .show ho q w
    .have e:=hwalk (q-kn) ⋯;rw[show kn+(q-kn)=q by lia] at e;rw[e];show occ _ ⋯) #[n',⋯,⋯,h3]
   show#[j,q,r1,r2]
structure Lay Ć9 (hs:Ï) Ź3 (m:Nat):Prop where
 size:Ś4=M+1
 below:∀ (j k:Nat),ú2->k<m
 each:∀ ã0,k<m->∃ (j:Nat),ú2
 once:∀ (i j k:Nat),Í2[i]?=↑↑k->ú2->i=j
 cR:∀ (j k:Nat) h,ú2->hs[k]?=↑h->∃ q,(way M h q).j=j/\Ãi
theorem Lay.none ÇI ă2 {hs:Ï}ź5{m:Nat}Äx:Àw:=by
 rcases ÁR (Àw) with q | q
 .show q
 .exfalso;have hall:∀ (e:Nat),e<=M->∃ (k:Nat),Í2[e]?=↑↑k:=λ e he=>by
   have hlt:e<Ś4:=by rw[Ŵ6];lia
   cases w:Í2[e] with
   | none=>show ŗ #[e,he,by rw[zB8 hlt,w]] q
   | some k=>show#[k,by rw[zB8 hlt,w]]
  have:=Qi (xs:=(ő ń6).map λ e=>((Í2[e]?).getD è9).getD 0) (ys:=ő m) (by
   exact zcD.mpr (List.Pairwise.imp_of_mem ?_ zeH);intro a b ha hb hne e;exact hne ?_;let#[k,hk]:=hall a (by have:=zC1.mp ha;lia);let#[k',hk']:=hall b (by have:=zC1.mp hb;lia);rw[hk,hk'] at e;ext ÅL;show L.once a b k hk hk') (λ x hx=>by
   ext Ŀ9;let#[k,hk]:=hall e (by have:=zC1.mp he;lia);rw[hk];show Ž5 (L.below e k hk))
  simp at this;lia
def Z4 Å2{xs:ŧ α}{j i:Nat}{a b:α}(h:(xs.setIfInBounds j a)[i]?=↑b):(i=j/\b=a)\/(i≠j/\Ň6=↑b):=by
 rw[ze5] at h;by_cases e:j=i
 .subst e;rw[Ā4] at h;ext ď7
  .cases h;show ē Ę2
  .cases h
 .rw[à e] at h;show ħ #[λ q=>e q.symm,h]
def Lay.step ÇI ă2 {hs:Ï}ź5{m:Nat}{h:Int}Äx (hh:hs[m]?=↑h):
  ∃ j,ß0=↑j/\Lay M hs (ý9) (m+1):=by
 let#[e,e1,e2]:=L.none hM hm;let#[n',n1,n2]:=Q7 M hM h e e1;let#[j,q,r1,r2,r3,r4]:=Po M Í2 Ŵ6 h (turns M) 0 0 rfl (λ q hq=>⋯) #[n',⋯,Ũ2,by rw[n2];show e2];have hj:j<Ś4:=(Ý6 r3).1;have keep:∀ x,iV Í2 x->iV (ý9) x:=λ x #[k,hk]=>by
  have hne:j≠x:=λ w=>by subst w;rw[r3] at hk;cases hk
  show#[k,by rw[ze5,à hne];show hk]
 have self:(ý9)[j]?=↑↑m:=by rw[ze5,Ā4,í hj]
 exact#[j,r1,#[by simp[Ŵ6],λ x k hx=>?_,λ k hk=>?_,λ x y k hx hy=>?_,λ x k g hx hg=>?_]]
 .rcases Z4 hx with ⟨_,w⟩ | ⟨_,w⟩
  .cases w;lia
  .have:=L.below x k w;lia
 .rcases zcC k m with w | w
  .let#[x,hx]:=L.each k w;have hne:j≠x:=λ w=>by subst w;rw[r3] at hx;cases hx
   show#[x,by rw[ze5,à hne];show hx]
  .have:k=m:=⋯;ext ě0;show#[j,self]
 .rcases Z4 hx with ⟨w1,w⟩ | ⟨w1,w⟩ <;> rcases Z4 hy with ⟨v1,v⟩ | ⟨v1,v⟩
  .lia
  .cases w;have:=L.below y _ v;lia
  .cases v;have:=L.below x _ w;lia
  .show L.once x y k w v
 .rcases Z4 hx with ⟨w1,w⟩ | ⟨w1,w⟩
  .cases w;rw[hh] at hg;cases hg;subst w1;show#[q,r2,λ q' hq=>keep _ (r4 q' hq)]
  .let#[q,g1,g2]:=L.cR x k g w hg;show#[q,g1,λ q' hq=>keep _ (g2 q' hq)]
theorem QA ÇI ă2 {hs:Ï}(hl:ú1<=M+1):∀ (rest:Ï) Ź3 (m:Nat),m<=ú1->hs.drop m=rest->Lay M hs Í2 m->
  ∃ owner',rest.foldl (λ acc h=>do
   let (Í2,k) <- acc
   let j <- ß0
   pure (owner.setIfInBounds j ↑k,k+1)) ↑(Í2,m)=↑(owner',ú1)/\Lay M hs owner' ú1
 | [],Í2,m,hl2,hd,L=>by
  have hm:ú1<=m:=List.drop_eq_nil_iff.mp hd;have e:m=ú1:=⋯;subst e;show#[Í2,rfl,L]
 | h::rest,Í2,m,hl2,hd,L=>by
  have hm:hs[m]?=↑h:=by
   have:=å6 (λ l=>l[0]?) hd;ext Ŋ0
  have hlt:m<ú1:=(ø9 hm).1;let#[j,j1,j2]:=L.step hM ⋯ hm;have hd':hs.drop (m+1)=rest:=by
   have:=å6 List.tail hd;ext Ŋ0
  let#[o',h1,h2]:=QA hM hl rest _ (m+1) ⋯ hd' j2;exact#[o',?_,h2];rw[zcT,<- h1];change _=_;congr 1;change ((ß0).bind λ j=>↑(ý9,m+1))=_;rw[j1];rfl
theorem EG Ć9 (hs:Ï):Lay M hs (Array.replicate ń6 è9) 0:=by
 have no:∀ (j k:Nat),(Array.replicate ń6 (è9:Â Nat))[j]?≠↑↑k:=λ j k h=>by
  rw[Array.getElem?_replicate] at h;split at h <;> cases h
 show#[#[],λ j k h=>ŗ h (no j k),λ k hk=>⋯,λ i j k h=>ŗ h (no i k),λ j k h e=>ŗ e (no j k)]
theorem EH ÇI ă2 Ş9:∃ Í2,layClean M hashes=↑ Í2/\Lay M hashes.toList Í2 hashes.size:=by
 let#[o,h1,h2]:=QA hM (hs:=hashes.toList) (by exists hl) hashes.toList _ 0 Ĝ3 #[] (EG M _);exact#[o,?_,by exists h2];unfold layClean;rw[<- Array.foldl_toList,h1];rfl
def lives Ć9 Ź3:List (Nat×Nat):=(ő ń6).filterMap λ j=>(Àv j è9).map (j,·)
theorem getD_some ź5{j k:Nat}:Àv j è9=↑k↔ ú2:=by
 unfold Array.getD;split
 .ext ŭ9;rw[zB8 h];simp
 .ext ŭ9;rw[zcY ⋯];simp
theorem gO ÇI ź5(hs:Ś4=M+1) {j k:Nat}:(j,k)∈lives M Í2 ↔ ú2:=by
 unfold lives;rw[zeD];ext Ĥ8
 .rintro⟨x,hx,e⟩;let#[y,e1,e2]:=Þ3 e;cases (e2);show getD_some.mp e1
 .intro h;have hj:=(Ý6 h).1;show#[j,Ž5 ⋯,by rw[getD_some.mpr h];rfl]
def Q0 Ć9 Ź3:(lives M Í2).Pairwise λ a b=>a.1<b.1:=by
 unfold lives;rw[List.pairwise_filterMap];exact List.Pairwise.imp ?_ List.pairwise_lt_range;intro a b hab x hx y hy;let#[_,_,e1]:=Þ3 hx;let#[_,_,e2]:=Þ3 hy;subst e1 e2;show hab
def QB ÇI ă2 (finger moves:Nat) (led plain:Bool) Ş9:
  ∃ t order,laid M finger moves led plain hashes=↑(t,order)/\Ř=M/\t.finger=finger/\t.led=led/\Ũ3=plain/\order.toList.Perm (ő hashes.size)/\Tab t (order.toList.map Æk):=by
 let#[Í2,h1,L]:=EH hM hashes hl;exact#[_,_,by unfold laid;rw[h1];rfl,rfl,rfl,rfl,rfl,?_,?_]
 .change (Ö7 ſ).toArray.toList.Perm _;rw[zdM];exact (zeK ?_ zeH).mpr λ k=>?_
  .exact zcD.mpr (List.Pairwise.imp_of_mem ?_ (Q0 M Í2));intro a b ha hb hab e;have h2:=(gO Ŵ6 (j:=a.1) (k:=a.2)).mp ha;have h3:=(gO Ŵ6 (j:=b.1) (k:=b.2)).mp hb;have e:a.2=b.2:=e;rw[e] at h2;have:=L.once Þ6 h2 h3;lia
  .rw[zC1];ext Ĥ8
   .intro h;let#[#[j,k'],h2,rfl]:=Š5 h;show L.below j _ ((gO Ŵ6).mp h2)
   .intro h;let#[j,hj]:=L.each k h;show zB0.mpr #[(j,k),(gO Ŵ6).mpr hj,rfl]
 .have pl:∀ x,x∈ Ö7 đ ↔iV Í2 x:=λ x=>by
   ext Ĥ8
   .intro h;let#[#[j,k],h2,rfl]:=Š5 h;show#[k,(gO Ŵ6).mp h2]
   .rintro⟨k,hk⟩;show zB0.mpr #[(x,k),(gO Ŵ6).mpr hk,rfl]
  exact#[hM,rfl,?_,?_,?_,?_]
  .change (Ö7 đ).toArray.size=(Æl _).length;simp
  .change kH ń7;rw[zdM];show zcD.mpr (Q0 M Í2)
  .intro x hx;change x<=M;have hx:x∈ ń7:=hx;rw[zdM] at hx;let#[k,hk]:=(pl x).mp hx;have:=(Ý6 hk).1;rw[Ŵ6] at this;lia
  .intro i g x hg hx;have hx:(Ö7 đ).toArray[i]?=↑x:=hx;have hg:(Æl Æk)[i]?=↑g:=hg;rw[List.getElem?_toArray,zA3] at hx;rw[zdM,zA3,zA3] at hg;let#[p,p1,p2]:=Þ3 hx;rw[p1] at hg;simp![Ù3,Ĺ6] at hg;let#[j,k]:=p;cases p2;have hm:=(gO Ŵ6).mp (zB7 p1);have hk:=L.below È hm;let#[q,q1,q2]:=L.cR _ k g hm (by rw[<- hg];simp[hk]);exact#[q,q1,λ q' hq=>?_];change _∈ ń7;rw[zdM];show (pl _).mpr (q2 q' hq)
section
variable {Æ}
abbrev rk Ĉ4 Ŀ:HeapKind Í3 (Ï):=tupleKind (ë)
def items_int {ks:Ï}ñ1(h:ItemsAre (ë) ks vs):∀ v∈vs,∃ n t,v=ä n t:=by
 induction h with
 | nil=>intro v hv;cases hv
 | cons h1 _ ih=>
  intro v hv;rcases ã7 hv with rfl | hv
  .let#[t,e]:=Ž1 h1;show#[_,t,e]
  .show ih v hv
def Qm {ks:Ï}Ħ ü0(hk:ó3 (ë) ó ks a) (h:Q Ç s):î Î (ofAClassStatement 8 Ā9) Í6:=by
 ext Ĭ5;unfold ofAClassStatement;exact zeS (zf7 hT ?_);change î È (pure true >>= _) È s;ext ĝ8;ext Ĩ9;exact zeS (zf4 ho hd ?_);ext ų;ext Õ3
 .ext Ât;change î È (ó7 >>= _) Þ6;ext ĝ8;ext Ł2;show zD1 #[rfl,rfl,Ĵ4]
 .ext Ý2;show zD1 h
def DJ {ks:Ï}Ħ ü0(hk:ó3 (ë) ó ks a) (h:Q true s):î Î (hashByValue 8 Ā9) Í6:=by
 ext Ĭ5;unfold hashByValue;exact zeS (ÅS hT F.slot_tuple_hash.lookup ?_);ext ų;exact zeS (zf4 ho hd ?_);ext Õ3
 .ext Ât;change î È (pure true >>= _) Þ6;ext ĝ8;ext Ĩ9;show zD1 #[rfl,rfl,Ĵ4]
 .ext Ý2;show zD1 h
def Ly {ks:Ï}Ś7 ü0(hk:ó3 (ë) ó ks b) (l:zLV) (hl:∀ v∈l,ÁS) (h:Q Ç s):
  î Î (searchCouldBeSeen ő4 l) Í6:=by
 unfold searchCouldBeSeen;exact ő0;exact ÂS _ (λ rest r s'=>r.1=none/\s'=s/\∀ v∈rest,ÁS) _ ?_ ?_ È #[rfl,rfl,hl]
 .ext ĉ5;let#[k,c,rfl,hc]:=hall v zc1;have rest':∀ u∈rest,∃ k c,u=ķ c/\ó3 (ë) ł0 k c:=Ĵ4;ext ų;by_cases e:(b == c||(carriedByValue ő4&&carriedByValue (Ä c)))=true
  .rw[í e];show zD1 #[rfl,rfl,rest']
  .rw[à e];exact zeS ((rk Í3).quiet hk ?_);ext Ĩ9;exact zeS ((rk Í3).quiet hc ?_);ext Ĩ9;exact zeS (Qm hk ?_);ext Ł2;exact zeS (Qm hc ?_);ext Ł2;show zD1 #[rfl,rfl,rest']
 .ext Ý2;show zD1 h
structure gh Î0 (es:Ù6) ÇH (xs:ÆV):Prop where
 es:ĉ9=ť λ e=>ĺ7
 is:∀ e∈xs,ó3 (ë) h e.1 e.2
 tab:Tab t (Ă2)
 bU:Ó<=Ř
theorem gh.fits Ï8 Ŋ4 ė0(X:Ãj):Ŕ6:=by
 have hl:È7=Ó:=Đ4
 have h1:=X.tab.len;rw[zA7] at h1;have h2:=X.bU;unfold SetTable.fits ń8;rw[X.tab.iH,hl,h1];simp;lia
def gh.at Ï8 Ŋ4 ė0(X:Ãj) È1{e:Ï ×Addr}(he:Ň6=↑e):es[i]?=↑ ĺ7:=by
 rw[<- zD3,X.es,zA3,he];rfl
theorem SE Ħ Ço Ă ė0{key:Ï}Ś7{Q:SetFound->ŉ}
  Âk (ho:Þ a=↑o) (hd:Ő2=.set Ĩ3) (X:gh Ú2 ó es t xs) (hb:ó3 (ë) ó key b)
  (h1:key∈ Ŵ7->Q (.there none) s) (h2:key∉ Ŵ7->∀ j,U6 t ë9 j->Q (ě3 j Ç) s):
  ∀ (fuel k:Nat) (stand:Â Probe),stand.getD (t.probeStart ë9)=way Ř ë9 k->(∀ m<k,ú3)->(∃ K,k<=K/\K<k+fuel/\K<10*(Ř+15)/\(way Ř ë9 K).j∉ ś/\∀ m<K,(way Ř ë9 m).j∈ ś)->
   î Î (Ŵ8 Áb stand) Í6
 | 0,k,stand,_,_,#[K,q1,q2,_]=>⋯
 | fuel+1,k,stand,hst,hpast,#[K,q1,q2,q3,q4,q5]=>by
  have T:=X.tab;have hodd:t.gaveWay=Ç:=by
   unfold SetTable.gaveWay;rcases T.mask with e | e | e <;> rw[e] <;> rfl
  unfold Ŵ8;ext ÂE;rw[hodd];ext Ł2;have hA:∀ ċ g,(Ă2)[i]?=↑g->((es[i]?).map đ).getD 0=g:=λ i g hg=>by
   ext Âu;rw[X.at e1];show e2
  let#[k1,g1,g2,g3]:=Ph T (hashAt:=λ i=>((es[i]?).map đ).getD 0) hA ë9 (10*turns Ř) k #[K,q1,Ũ2,q4];rw[hst];have look:∀ ċ g,(Ă2)[i]?=↑g->∃ e,Ň6=↑e/\ð e.1=g:=λ i g hg=>by
   ext Âu;show#[e,e1,e2]
  have hpast':∀ m<k1,ú3:=λ m hm=>by
   rcases zcC m k with c | c
   .show hpast m c
   .let#[i,g,p1,p2,p3]:=g2 m c hm;let#[e,e1,e2]:=look i g p2;show#[i,e,p1,e1,λ q=>p3 (by rw[<- e2,q])]
  rcases g3 with ⟨n1,n2⟩ | ⟨i,n1,n2,n3⟩
  .have n2':t.probe _ ë9 (way Ř ë9 k)=_:=n2;simp![SetTable.probe] at n2' ⊢
   erw [n2]
   ext ų;exact zD1 (h2 (λ hm=>?_) _ #[n1,k1,rfl,λ m hm=>?_])
   .let#[e,he,ek]:=Š5 hm;let#[i,hi]:=zeM.mp he;have hh:(Ă2)[i]?=↑ ë9:=by rw[zA3,hi,<- ek];rfl
    have hil:i<Ĉ2:=by rw[T.len];show (ø9 hh).1
    let#[kk,w1,w2]:=T.cR i È hh (zB8 hil);rcases zd6 kk k1 with c | c | c
    .let#[i',e',p1,p2,p3]:=hpast' kk c;rw[w1] at p1;have:i=i':=by
      rw[<- below_at T.nv (zB8 hil),<- below_at T.nv p1]
     ext ě0;rw[hi] at p2;cases p2;show p3 ek
    .subst c;rw[w1] at n1;show n1 #[]
    .show n1 (w2 k1 c)
   .let#[i',e',p1,_]:=hpast' m hm;show zB7 (by rw[zD3];show p1)
  .simp![SetTable.probe]
   erw [n3]
   ext ų;let#[e,e1,e2]:=look i _ n2;have hes:=X.at e1;have hey:=X.is e (zB7 e1);have main:î Î (ě6 [ķ e.2] (eqBool (Ä e.2) ő4) >>= λ equal=>setState a >>= λ x=>match x with
     | (es',_,t')=>if (true&&equal)=true then pure (SetFound.there none) else
      match t'.sameMemory t.moves Ř with
      | some same=>
       have jp:=λ still=>match still with
        | none=>do
         rule "set.search.anew"
         Ŵ8 Áb none
        | some i'=>if equal=true then pure (SetFound.there ↑i') else Ŵ8 Áb ↑(way Ř ë9 (k1+1))
       match if same=true then t'.slot (way Ř ë9 k1).j else Slot.empty with
       | .live i'=>match es'[i']? with
        | some (_,y')=>do
         let r <- isSame y' (Ä e.2)
         let still <- pure (if r=true then ↑i' else none)
         jp still
        | none=>do
         let still <- Àe
         jp still
       | _=>do
        let still <- Àe
        jp still
      | _=>Æm "set.changed-during-lookup:is-the-new-block-at-the-old-address") Í6:=by
    exact zeS (zeZ ((rk Í3).eqBool hu hey hb ?_));ext ÂE;by_cases hk:e.1=key
    .rw[zeV hk];simp![zdI,ċ6];show zD1 (h1 (zB0.mpr #[e,zB7 e1,hk]))
    .rw[zeW hk];simp![zcV,zC4,æ0];have sm:t.sameMemory t.moves Ř=↑true:=by unfold SetTable.sameMemory;simp
     rw[sm];ext ų;rw[Ā4,T.live n1];ext ų;rw[hes];ext ų;exact zeS (wpAny_isSame_ref_self ?_);ext ĝ8;rw[Ā4];ext ų;have hKk:k1<K:=by
      rcases zd6 K k1 with c | c | c
      .let#[i',e',p1,_]:=hpast' K c;show ŗ (zB7 (by rw[zD3];show p1)) q4
      .subst c;show ŗ (zB7 (by rw[zD3];show n1)) q4
      .show c
     exact SE hu ho hd X hb ħ5 fuel (k1+1) _ rfl (λ m hm=>?_) #[K,⋯,⋯,q3,q4,q5];rcases zcC m k1 with c | c
     .show hpast' m c
     .have:m=k1:=⋯;ext ě0;show#[i,e,n1,e1,hk]
   rw[hes];by_cases hl:t.led=true
   .rw[hl];ext Ĩ9;show main
   .have hl':t.led=Ç:=by exists hl
    rw[hl'];simp![zB2,ċ6];exact zeS (Ly hb _ (λ v hv=>?_) ?_)
    .let#[p,hp,rfl]:=Š5 hv;rw[Array.toList_filter,zC8,X.es] at hp;let#[#[e',he',rfl],_]:=(And.intro (Š5 hp.1) hp.2)
     show#[e'.1,e'.2,rfl,X.is e' he']
    .ext Ł2;show main
structure iT Ĉ4 Ŀ Î0 Í9 (xs:ÆV) (led:Bool):Prop where
 ex:∃ es ep t,Ê7/\Ãj/\ÁT
 nd:Ġ2
def X9 Ĕ9{ks:Ï}{b a:Addr}Ă{c:Ñ}{d:đ4}{sl:Ē3}(x:ó3 (ë) h ks b) (ho:ž a=↑{ cls:=c,dict:=d,data:=.set Ĩ3,slots:=sl }) (hs:Ù0 a h h'):ó3 (ë) h' ks b:=by
 let#[o',ā1,n,ho',hc,hd',hi]:=x;have hne:b≠a:=by
  rintro rfl;obtain rfl:o'=_:=zD5 (ho'.symm.trans ho);cases hd'
 show#[o',ā1,n,(hs.2 b hne).trans ho',hc,hd',hi]
theorem ZF Ï8 Ħ{es es':Ù6}{ep:Nat}{t t':õ1}(ho:Ê7):(h.update a (ĺ8 es' t')).get? a=↑{ cls:=õ2,dict:=none,data:=.set es' (ep+1) t' }:=by
 have e:ĺ8 es' t' { cls:=õ2,dict:=none,data:=.set Ĩ3 }={ cls:=õ2,dict:=none,data:=.set es' (ep+1) t' }:=putSet_of es' t' rfl;have:=zf9 (ĺ8 es' t') ho (by rw[e];rfl);rw[e] at this;show this
theorem Wq į5(l:Ü3) (f:α->β) (d:β):∀ (order:Ė1),(∀ k∈order,k<Ń6)->order.map (λ k=>(l.map f).getD k d)=(order.filterMap λ k=>l[k]?).map f
 | [],_=>rfl
 | k::order,h=>by
  have hk:=h k zc1;have ih:=Wq l f d order λ j hj=>h j (zc2 _ hj);rw[zA6,zcH,zA1 hk];ext ų;rw[zA6,ih];congr 1;simp[hk]
def JC Ħ Ă ė0 Ác{wanted M:Nat}ę9
  (ho:Þ a=↑{ cls:=õ2,dict:=none,data:=.set Ĩ3 }) (X:gh Ú2 ó es t xs) (hled:t.led=led) (hpl:Ũ3=true) ă2 ō8 (hnd:Ġ2)
  (h:∀ h' xs',ť1->iT Í3 h' a xs' led->xs'.Perm xs->Q ì8 { s with heap:=h' }):î Î (setRelay a wanted) Í6:=by
 have hlen:È7=Ó:=Đ4
 have hhs:(Æn).toList=Ă2:=by rw[Array.toList_map,X.es,zD6];rfl
 ext ś5
 ext Æ3
 unfold setRelay;exact ī0;ext ų;rw[à (by rw[hw];rcases hM with e | e | e <;> rw[e] <;> decide)];have hr:ń9:=by
  ext ō5;show h1
 rw[hr];have hes':(É0).toList=(Ñ9).map λ e=>ĺ7:=by
  ext Ğ4;rw[<- zD3,X.es,zA3]
 ext ö0;have hsz':(É0).size=È7:=by
  ext Äy
 exact zeS (m:=_) ?_;change î È (do
  let ↑(t,order):=↑(t',order) | Æm "internal:set-table-without-room"
  let es':=É0
  if es'.size != È7 then Æm "internal:set-table-lost-an-element"
  pure (es',t)) Þ6
 ext ų;rw[à (by rw[hsz'];simp)];exact Į2;have hsl:(É0).size<=Ê:=by
  rw[hsz',hlen];have:ù1:=rfl;rcases hM with e | e | e <;> subst e <;> lia
 exact ē1;have sb:=Ð8 ó a (ĺ8 (É0) t');exact h È sb #[#[_,ep+1,t',ZF ho,#[hes',λ e he=>X9 (X.is e (hperm.mem_iff.mp he)) ho sb,?_,?_],by rw[h4];show hled,by rw[h5];show hpl,?_],Æo hnd] hperm
 .rw[<- Wq xs (λ e=>ð e.1) 0 order.toList hlt,<- hhs];show h7
 .rw[ú4,h2];lia
 .rw[ú4,h2];show hfew
theorem S9 Ï7 Ć9 ă2 (h1:n*5<M*3) (h2:M*3<=(n+1)*5) (hn:n<70):∃ M',m5 M'/\sizeAbove (grown (n+1))=M' + 1/\(n+1)*5<M'*3:=by
 rcases hM with e | e | e <;> subst e
 .have:n=4:=⋯;ext ě0;show#[31,ħ (Ď7),zdK,⋯]
 .have:n=18:=⋯;ext ě0;show#[127,ħ (ħ rfl),zdK,⋯]
 .lia
def zaM Ħ ė0{key:Ï}Ś7 Ác ü0 Âk (S:iT Í3 ó a xs led) (hb:ó3 (ë) ó key b) (hn:Ó<70)
  (h:∀ h' xs' r,ť1->iT Í3 h' a xs' led->(ď2)->Q r { s with heap:=h' }):
  î Î (ÁU a ő4 ë9) Í6:=by
 let#[Ņ0,hnd]:=S;have hlen:È7=Ó:=Đ4
 unfold ÁU setAddHashedIn;exact zeZ (ī0);ext ų;rw[à (by simp[byScan,Value.scannable])];let#[K,k1,k2,k3]:=X.tab.first (by rw[zA7];show X.bU) ë9;have hmk:Ř<=127:=Ŝ3
 exact ő0;unfold setSearch;exact SE (key:=key) (b:=b) hu ho rfl X hb (λ hm=>?_) (λ hm j F=>?_) 100000 0 none rfl (λ m hm=>⋯) #[K,⋯,⋯,k1,k2,k3]
 .ext ų;exact Į2;have:=h ó xs Ç #[rfl,Àx] #[Ņ0,hnd] (ē #[hm,rfl]);show this
 .ext ų;exact ī0;ext ų;let#[p1,p2,p3]:=X.tab.put F;ext Ū2
  have hmt:(Ć4).1.mask=Ř:=by rw[p2]
  ext ÃK
  ext ķ6;rw[hpt];simp![ċ6];exact zeS (DJ hb ?_);simp![ċ6];let xs1:=ę5++(key,b)::ĥ3 p
  have hperm:xs1.Perm (xs++[(key,b)]):=by
   have e:ę5++ĥ3 p=xs:=ze4 p xs;have:xs1.Perm ((key,b)::(ę5++ĥ3 p)):=List.perm_middle;rw[e] at this;show Ĵ5
  ext Ái
  have hes1:(È8).toList=Æp λ e=>ĺ7:=by
   rw[Æj,X.es];ext İ4
  have hsz1:(È8).size=Ó+1:=ÁV
  have hsl:(È8).size<=Ê:=by
   rw[hsz1];have:ù1:=rfl;lia
  exact zeS (ē1);have sb:=Ð8 ó a (ĺ8 (È8) t1);have ho1:=ZF (es':=È8) (t':=t1) ho;have hm7:7<=Ř:=Ŝ3
  have X1:gh Ú2 (ð9 a (ĺ8 (È8) t1)) (È8) t1 xs1:=by
   exact#[hes1,λ e he=>?_,?_,by rw[hl1,hmt];lia]
   .rcases zB9.mp (hperm.mem_iff.mp he) with q | q
    .show X9 (X.is e q) ho sb
    .cases ř6;show X9 hb ho sb
   .have:Æp (λ e=>ð e.1)=(Ă2).take p++ð key::(Ă2).drop p:=by ext İ4
    rw[this];show p3
  have hnd1:(Æp đ).Nodup:=by
   ext ç8
  by_cases hf:t1.tooFull=true
  .rw[hf];simp![zB2,zdI,ċ6];have hfill:t1.fill=Ó+1:=by
    ext ÃN
   have hfull:Ř*3<=(Ó+1)*5:=by
    have:=hf;ext Ê8
   let#[M',g1,g2,g3]:=S9 Ó Ř X.tab.mask hfew hfull hn;rw[hlen];exact zeS (JC (led:=led) ho1 X1 hlt hpt g1 g2 (by rw[hl1];show g3) hnd1 λ h' xs' sb' S' pm=>?_);exact Į2;show h h' xs' true (sb.trans sb') S' (ħ #[hm,pm.trans hperm])
  .have hf':t1.tooFull=Ç:=by exists hf
   ext Áo;exact Į2;have hfill:t1.fill=Ó+1:=by
    ext ÃN
   have hfull:(Ó+1)*5<Ř*3:=by
    have:=hf';ext Ê8
   show h _ xs1 true sb #[#[_,ep+1,t1,ho1,X1,hlt,hpt,Èt],hnd1] (ħ #[hm,hperm])
end
def jI Ŀ:Bool:=! Ĵ
def nu Ŀ:Obj:={ cls:=õ2,dict:=none,data:=.set ø 0 (.fresh 0 0 (jI w)) }
section
variable {Æ}
set_option Ŵ9 3200000 in
def A3 (a:Ñ) Ð9(h:Q ä3 { s with heap:=è Š6 }):
  ł5 Î (.call (ū "set.__new__") Ày) (wants Q E) s:=by
 exact codeAny_of_tree ?_;change î _ ž4 (checkBuiltinCall "set.__new__" Ày >>= λ _=>again (ū "set.__new__" Ày)) È s;exact zeS (wpAny_of_eq (F.newCall_set_1 a) (zD1 #[ŵ0 F.plain_set_new _,ú5 F.entry_set_new ?_]));rw[ğ6 F.plain_set_new _];unfold Builtin.«set.__new__» Builtin.Frozenset.newClass newSet setsByText;have sub:=sub_set_self;ext Ã3;ext ų
 wp_walk
 exact zfF À7;ext ų;simp![newObj];show zeS (wpAny_alloc (zD1 (zD1 h)))
def Ji Ï8 Ħ(ho:ž a=↑ Š6):iT Í3 h a [] (jI w):=
 #[#[ø,0,_,ho,#[rfl,λ e he=>(by cases he),Ģ9,#[]],rfl,rfl,by change 0*5<7*3;lia],Á5]
end
end ST
namespace ST
open Ķ Ă1 É
section
variable {κ β:Type}[ÄG κ]{val:κ->β->Ñ}{Ľ7}{ks:List κ}{È1}{xs xs':Ĭ7}
structure Up ř5 ċ (xs:Ĭ7):Prop where
 own:∀ e∈xs,∃ j,j<i/\its[j]?=↑(val e.1 e.2)/\ks[j]?=↑e.1
 all:∀ Ám r,j<i->ks[j]?=↑r->r∈ Ŵ7
theorem W9:∀ (l m:List κ),l.Nodup->(∀ x∈l,x∈m)->Ń6<=Äc
 | [],m,_,_=>zD4 _
 | x::l,m,hn,hs=>by
  have h1:=zcB.mp hn;have hx:=hs x zc1;have:=W9 l (m.erase x) h1.2 λ z hz=>(List.mem_erase_of_ne (λ e:z=x=>h1.1 (by rw[<- e];show hz))).mpr (hs z (zc2 _ hz));rw[List.length_erase_of_mem hx] at this;have:=zeG hx;simp![zC0];lia
def Up.len (U:Æq) (nd:Ġ2):Ó<=i:=by
 have:=W9 (ť λ e=>↑e.1) ((ő i).map λ j=>ks[j]?) (by
  have:(ť λ e=>↑e.1)=(Ŵ7).map some:=Ær
  rw[this];show List.Pairwise.map _ (λ a b h e=>h (zD5 e)) nd) λ x hx=>by
  ext Ŀ9;let#[j,h1,_,h3]:=Àz;show zB0.mpr #[j,Ž5 h1,h3]
 ext Ŋ0
def Up.step {key:κ}{b:β}(U:Æq) (hi:its[i]?=↑(val key b)) (hr:ks[i]?=↑key)
  (h:ď2):Up Ď2 ü8 xs':=by
 have eqi:∀ j:Nat,j<i+1->¬ j<i->j=i:=λ j a b=>⋯;rcases h with ⟨hm,rfl⟩ | ⟨_,hp⟩
 .exact Ż8
  .let#[j,h1,h2]:=Àz;show#[j,zd0 h1,h2]
  .by_cases q:j<i
   .show U.all j r q hrj
   .rw[eqi j hj q,hr] at hrj;cases hrj;show hm
 .exact Ż8
  .rcases zB9.mp (hp.mem_iff.mp he) with q | q
   .let#[j,h1,h2]:=U.own e q;show#[j,zd0 h1,h2]
   .cases ř6;show#[i,zE2 i,hi,hr]
  .rw[(hp.map đ).mem_iff,zE7];by_cases q:j<i
   .show zcK _ (U.all j r q hrj)
   .rw[eqi j hj q,hr] at hrj;cases hrj;show zB4 _ zc1
structure Kd Ĉ4 Ŀ Ĥ6 ř5 (Sa:Addr) (wr:â2) (Se:Æs) (Tp:ä9):Prop where
 nd:∀ {h xs},Se h xs->Ġ2
 keep:∀ {h h' xs i},(∀ b o,b∉wr->è2->ê5)->Æq->Se h xs->Se h' xs
 Yg:∀ {h h'},(∀ b o,b∉Sa::wr->è2->ê5)->Tp h->Tp h'
 add:∀ ď5{xs:Ĭ7}È1 Âi ü0 û0,Tp ó->Se ó xs->Ó<70->ï2->
  (∀ h' tk xs' rr k b,v=val k b->ks[i]?=↑k->Ù0 Sa ó h'->Œ<=tk->Se h' xs'->(k∈ Ŵ7/\xs'=xs\/k∉ Ŵ7/\xs'.Perm (xs++[(k,b)]))->Q rr { s with heap:=h',toks:=tk })->
  î Î (setAdd Sa v) Í6
variable {Ó7}{Ä5}{R:Result->ŉ}{I:Addr}{fp wr:â2}{G:ÄN->ÄN->Prop}{Ë0}{P:Nat->Ñ->Prop}{St:Nat->ŉ}{Sa:Addr}{Se:Æs}{Tp:ä9}
def Qx (W:WalksS Í3 ž4 I fp wr G n (λ i v=>P i v) St) (D:Kd Í3 ž4 Ď2 Sa wr Se Tp) (hSf:Sa∉fp) (hP:∀ i v,P i v->ï2) (hn:n<70):
  ∀ (k i:Nat) ę8 (xs:Ĭ7),n-i=k->i<=n->St i s->Se ó xs->Tp ó->Æq->
   (∀ s' xs',Moved (Sa::wr) G s s'->Se ł0 xs'->Up Ď2 n xs'->R (.ok (.ret Ą3)) s')->
   ł5 Î (ū "set.update.loop" #[[Ä Sa,Ä I],[]]) R s:=by
 have more:∀ b∈wr,b∈Sa::wr:=λ b hb=>zc2 _ hb;intro k
 induction k with
 | zero=>
  intro i s xs hk hi hst hS hT hU hR;have e:i=n:=⋯;subst e;ext â4;show zeS (W.done s È hst λ s' hm=>zD1 (hR s' xs (hm.mono more) (D.keep hm.heap hU hS) hU))
 | succ k ih=>
  intro i s xs hk hi hst hS hT hU hR;have hlt:i<n:=⋯;ext â4;exact zeS (W.item i s È hlt hst λ v s1 hPv hst1 hm=>?_);have hv:=hP i v hPv;have T1:=D.Yg (λ b o hb e=>hm.heap b o (λ z=>hb (more _ z)) e) hT;have hl:Ó<70:=by have:=hU.len (D.nd hS);lia
  change î _ ž4 (ě6 [v] (setAdd Sa v) >>= _) È s1;exact zeS (zeZ (D.add T1 (D.keep hm.heap hU hS) hl hv λ h' tk xs' rr key b ev hr sb ht S' hx=>?_));subst ev;have fr:=W.frame ü8 s1 h' tk hst1 ht λ c hc o e=>(sb.2 c (λ z:c=Sa=>hSf (z▸hc))).trans e;exact zD1 #[ŵ0 F.plain_set_update_loop _,ih ü8 _ xs' ⋯ hlt fr S' (D.Yg (λ c o hc e=>Ţ5) T1) (hU.step hv hr hx) λ s2 xs2 hm2 S2 U2=>?_];exact hR s2 xs2 (Moved.trans W.gtrans ((hm.mono more).then_heap ht λ c o hc e=>?_) hm2) S2 U2;show Ţ5
end
section
variable {Ó7}{Ä5}{Ľ7}{Ĕ7}{Sa:Addr}{wr:â2}
def dW Ĉ4 Ŀ Î0 (its:zAV) Ĥ9:Prop:=∀ ċ v,ï2->∃ b r,v=Ä b/\rows[i]?=↑r/\ó3 (ë) h r b
def dW.at Ĕ9(T:dW Í3 h its rows) (k:∀ ċ b,its[i]?=↑ ő4->∀ o,è2->ê5):dW Í3 h' its rows:=λ i v hv=>by
 let#[b,r,rfl,h1,o,ā1,m,h2,h3]:=T i v hv;show#[b,r,rfl,h1,o,ā1,m,k i b hv o h2,h3]
abbrev T2:Ï->Addr->Ñ:=λ _ b=>Ä b
def Dc Ác(hSw:Sa∉wr) Âk (hoff:∀ ċ b,its[i]?=↑ ő4->b∉Sa::wr):Kd Í3 A T2 its rows Sa wr (λ h xs=>iT Í3 h Sa xs led) (λ h=>dW Í3 h its rows) where
 nd:=λ S=>S.nd
 keep:=λ{h h' xs i} k U S=>by
  let#[#[es,ep,t,ho,X,r],nd]:=S;exact#[#[es,ep,t,k Sa _ hSw ho,#[X.es,λ e he=>?_,X.tab,X.bU],r],nd];let#[o,ā1,m,g1,g2]:=X.is e he;let#[j,_,h2,_]:=Àz;show#[o,ā1,m,k È (λ z=>hoff j e.2 h2 (zc2 _ z)) g1,g2]
 Yg:=λ k T=>T.at λ i b hi o e=>k b o (hoff i b hi) e
 add:=λ{s xs i v Q E} T S hl hv hQ=>by
  let#[b,r,rfl,hr,hb]:=T i v hv;unfold setAdd;exact zeZ (zeS ((rk Í3).pyHash (k:=r) (a:=b) (A:=A) hu hb ?_));show zaM (s:={ s with toks:=Œ+(rk Í3).draws r }) (A:=A) hu S hb hl λ h' xs' rr sb S' hx=>hQ h' _ xs' rr r b rfl hr sb (zd1 È) S' hx
end
section
variable {Æ}
set_option Ŵ9 6400000 in
def OZ {κ β:Type} [ÄG κ] {val:κ->β->Ñ}{ks:List κ}{Se:Æs}{Tp:ä9}Ģ0 Ľ7 Ð9 Ï6 (hl:Ń8 l its\/ò9 l its) (hn:ġ2<70)
  (D:Kd Í3 A.in1.in1.in1 Ď2 À [À+1] Se Tp) (hS0:∀ h,ž À=↑ Š6->Se h []) (hT0:∀ h,(∀ b o,Á2->è2)->Tp h)
  (h:∀ İ5 xs,Se h' xs->Up Ď2 ġ2 xs->Ð2):
  Ĝ5:=by
 let#[c,tl,hmro]:=F.called_set.mro;have made:=F.called_set.made;have subm:=F.called_set.sub;exact wpAny_call (codeAny_of_tree ?_);change î È (callAny (õ2) _) Þ6;exact zD1 #[Code.quiet_builtin _ Ş1,ú5 F.entry_type_call ?_];rw[Around.under_plain (weight_type_call_type "set" [Ä l] []) rfl];have nt:=F.called_set.notType;have cc:=F.called_set.canCreate;have tc:=F.typeCall_set_1 Ø1
 ext ü6
 exact ĭ9 (A3 Ø1 (E:=E) (Q:=λ obj s₁=>obj=ŝ5/\s₁={ s with heap:=è Š6 }) Ę2) λ r s₁ hr=>?_;cases r with
 | error e=>show hr
 | ok fl=>
  cases fl with
  | ret obj=>
   let#[rfl,rfl]:=hr;have hS:(è Š6).get? À=↑ Š6:=Á1;have hTy:Shared.TypeIs { s with heap:=è Š6 } ä3 "set":=#[_,hS,rfl];have li:=F.called_set.init.lookup;have bi:=F.called_set.init.bind ä3
   ext ü6
   let s1:û:={ s with heap:=è Š6 }
   exact ĭ9 (codeAny_call_builtin (R:=wants (λ r s₂=>r=Ą3/\∃ h' tk xs,s₂={ s with heap:=h',toks:=tk }/\Se h' xs/\Up Ď2 ġ2 xs/\
     Ãk) E) F.called_set.init.plain F.entry_set_init (check_set_init_1 hTy ?_)) λ r₂ s₂ hr₂=>?_
   .have hsz:ę6=À+1:=Î5 È;have szne:À ≠ ę6:=by rw[hsz];show Åd
    have low:∀ b:Addr,b<À->b≠ ę6:=λ b hb=>by rw[hsz];show zB3 (zd0 hb)
    rw[<- hsz] at D;rcases hl with hl | hl
    all_goals
     let#[#[ocls,odict,odata,oslots],hol,hcl,nl,hdl]:=id hl;simp only at hcl hdl;subst hcl hdl;have hol1:=zeT Š6 hol;have sls:=F.sub_list_set;have slf:=F.sub_list_frozenset;have sts:=F.sub_tuple_set;have stf:=F.sub_tuple_frozenset;have nd:(ì6 "list" == ì6 "dict")=Ç:=()
     have nd':(ì6 "tuple" == ì6 "dict")=Ç:=()
     have hlS:l<À:=zA8 hol;have hneI:l≠ ę6:=low l hlS;have hl1:=hl.push Š6;unfold Builtin.«set.__init__» noKeywords Builtin.Frozenset.updateFrom;generalize hPI:pyIter=PI;unfold nu at *
     wp_walk
     subst hPI
     first | exact zfE hl1 (zeS (Š7 ?_)) | exact Ų3 hl1 (zeS (Š7 ?_))
     first
      | exact Qx (A:=A.in1.in1) (P:=λ i v=>ï2) ((Walks.list Ŋ5).toS) D ?_ (Ö4) hn ġ2 0 Đ3
      | exact Qx (A:=A.in1.in1) (P:=λ i v=>ï2) ((Walks.tuple Ŋ5).toS) D ?_ (Ö4) hn ġ2 0 Đ3
     .intro hm;ext ÂJ
      .show szne q
      .show zcF hlS (ř6)
     .show hS0 _ (zeT _ hS)
     .show hT0 _ λ b o e=>zeT _ (ĳ2)
     .intro s' xs' hm S' U';ext Ô8;exact zD1 (zD1 #[rfl,h',tk',xs',rfl,S',U',λ b o hb e=>?_]);exact hm.heap b o (λ q=>?_) (zeT _ (ĳ2));rcases ã7 q with q | q
      .show zB3 hb q
      .show low Ãv (ř6)
   .cases r₂ with
    | error e=>show hr₂
    | ok fl₂=>
     cases fl₂ with
     | ret r=>
      let#[rfl,h',tk,xs,rfl,g1,g2,g3]:=hr₂
      ext ü6
      show h h' tk xs g1 g2 g3
     | _=>show hr₂.elim
  | _=>show hr.elim
def AL Ģ0 Ľ7 Ĕ7 Ð9 Ï6 (hu:Ü1+64<ð7) (hl:Ń8 l its\/ò9 l its) (hT:dW Í3 ó its rows) (hn:ġ2<70)
  (h:∀ İ5 xs,iT Í3 h' À xs (jI w)->Up T2 its rows ġ2 xs->Ð2):
  Ĝ5:=by
 exact OZ hh hl hn (Dc #[] (show Ü1+1+1+1<ð7 by lia) λ i b hb hm=>?_) (λ h e=>Ji e) (λ h k=>hT.at λ i b _ o e=>k ý3) h;let#[b',r,e,_,o,_,_,ho,_]:=hT i _ hb;cases e;have:=zA8 ho;ext ÂJ
 .show zB3 this q
 .show zB3 (zd0 this) (ř6)
end
end ST
namespace ST
open Ķ Ă1
section facts
def RV:Manifest.owners.lookup (String.ofList ['r','o','t','a','r','e','t','i','_','t','e','s'].reverse)=↑Manifest.sig_set_iterator:=by kernel_rfl
def eI:Slot "set_iterator" "__next__" "set_iterator.__next__":=
 .of (Í2:="set_iterator") (n:="__next__") Õ6
def Oa:entryFor table "set_iterator.__next__"=↑Builtin.«set_iterator.__next__»:=entryFor_of_tree ĕ3
theorem NK (a:Ñ):argsOk "set_iterator.__next__" #[[a],[]]:=by
 unfold argsOk;rw[signature?_of (id:="set_iterator.__next__") (n:=['_','_','t','x','e','n','_','_']) ê9]
 kernel_rfl
def BX:entryFor table "set.__iter__"=↑Builtin.«frozenset.__iter__»:=entryFor_alias (id':="frozenset.__iter__") ĕ3 rfl Ş1 ĕ3
def S8:Slot "set_iterator" "__iter__" "set_iterator.__iter__":=
 .of (Í2:="set_iterator") (n:="__iter__") Õ6
def BW:entryFor table "set_iterator.__iter__"=↑Builtin.«dict_keyiterator.__iter__»:=entryFor_alias (id':="dict_keyiterator.__iter__") ĕ3 rfl Ş1 ĕ3
theorem zaA (a:Ñ):argsOk "set_iterator.__iter__" #[[a],[]]:=by
 unfold argsOk;rw[signature?_of (id:="set_iterator.__iter__") (n:=['_','_','r','e','t','i','_','_']) ê9]
 kernel_rfl
end facts
theorem PQ Å2:∀ (l:Ü3) ċ (x:α),l[i]?=↑x->l.Perm (x::l.eraseIdx i)
 | [],i,x,h=>ā3
 | y::l,0,x,h=>by simp at h;subst h;simp
 | y::l,i+1,x,h=>by
  have ih:=PQ l i x (ĝ4);rw[List.eraseIdx_cons_succ];show (ih.cons y).trans (.swap x y _)
theorem RD Å2(next:Nat->Nat):∀ (f k:Nat) (left:Ü3) (out:ŧ α),left.length=f->(pickOrder.go next f k left out).toList.Perm (ř9++left)
 | 0,k,left,out,h=>by
  cases left with
  | nil=>unfold pickOrder.go;simp
  | cons _ _=>simp at h
 | f+1,k,left,out,h=>by
  unfold pickOrder.go;have hlt:next k%left.length<left.length:=zdL _ ⋯;rw[zA1 hlt];ext ų;exact (RD next f ě9 È (by rw[List.length_eraseIdx_of_lt hlt];lia)).trans ?_;rw[Array.toList_push,zE8];show (PQ left È (zA1 hlt)).symm.append_left _
theorem IM Å2(next:Nat->Nat) (xs:ŧ α):(pickOrder next xs).toList.Perm xs.toList:=by
 unfold pickOrder;exists RD next Ć2 0 xs.toList ø #[]
def comes Ŀ Í9 ľ6:Ù6:=if Ĵ=true then pickOrder (w.params.setOrder a ep) es else es
def au Ŀ Í9 ľ6:(Ù7).toList.Perm ĉ9:=by
 unfold comes;split
 .show IM È
 .show ĳ8
def iw Í9 (slot i n ep:Nat):Obj:={ cls:=Ć "set_iterator",data:=Ċ0 [ş6 slot,ş6 i,Ú6,ş6 n,ş6 ep].toArray }
def slotAt ÇH:Nat->Nat
 | 0=>0
 | i+1=>ň8+1
theorem zas {t:õ1}(hr:kH ś):∀ i,i<=Ĉ2->below Ð7 (slotAt t i)=i
 | 0,_=>by
  let#[h1,h2,h3]:=YM (xs:=Ð7) (j:=0) hr;rcases Nat.eq_zero_or_pos (below Ð7 0) with q | q
  .show q
  .have:=h2 0 ⋯ q;lia
 | i+1,hi=>by
  have hd:ň8=Ð7[i]:=Vn ⋯;change below Ð7 (ň8+1)=i+1;rw[hd];let#[h1,h2,h3]:=YM (xs:=Ð7) (j:=Ð7[i] + 1) hr;have nv:∀ a b (ha:a<Ĉ2) (hb:b<Ĉ2),a<b->Ð7[a]<Ð7[b]:=λ a b ha hb hab=>by
   have r:=zdH.mp hr a b (by exists ha) (ć1) hab;rw[zcX,zcX] at r;show r
  rcases zd6 (below Ð7 (Ð7[i] + 1)) ü8 with q | q | q
  .have:=h3 i Á7;lia
  .show q
  .have a:=h2 ü8 ⋯ q;have b:=nv i ü8 Á7 ⋯;lia
structure nJ Ŀ Î0 Í9 ľ6 ÇH:Prop where
 get:Ê7
 fits:Ŕ6
 nv:kH ś
 led:t.led=jI w
 plain:Ũ3=true
theorem nJ.size ŗ5 Ï8 Ħ Ă(S:ÁW):Ĉ2=È7:=by
 have:=S.fits;simp![SetTable.fits,zE5,beq_iff_eq] at this;show this.1
section
variable {Æ}
def Qn Ħ Ă È1{Q:Â (Ñ ×Nat)->ŉ}Ú3 (hi:i<=È7) (slot:Nat) (hs:ŋ6)
  (h:∀ slot',(Ĵ=Ç->slot'=ÁX)->Q ((Ù7)[i]?.map λ e=>(e.2,slot')) s):î Î (setNext a slot i ep) Í6:=by
 unfold setNext setsByText;exact Ĝ6;ext ų;exact zeS (zeS (zfF À7));change î _ A (if Ĵ=true then _ else _) Í6;cases hb:Ĵ with
 | true=>
  rw[Ā4,à #[]];unfold setWalk setsByText;exact zeS (Ĝ6);ext ų;exact zeS (zeS (zfF À7));change î _ A (if Ĵ=true then _ else _) _ E s;rw[í hb];exact zeS (zfF À7);exact Į2;have:=h slot (λ q=>by rw[hb] at q;cases q);unfold comes at this;rw[í hb] at this;show this
 | Ç=>
  rw[à #[]];split
  .rename_i hd;have hd':(! Ũ3&&Ď (È7>1))=true:=hd;rw[S.plain] at hd';simp at hd'
  .change î _ A ((if (!t.led&&!es.isEmpty)=true then Æm "set:maker-not-led" else pure ì8) >>= _) Í6;have hl:t.led=true:=by rw[S.led];unfold jI;rw[hb];rfl
   rw[à (by rw[hl];simp)];exact zeS ŵ1;have hsl:=hs hb;have hz:=S.size;rw[hsl,zas S.nv i (by rw[hz];show hi)];have:=h (ÁX) (Ř3);unfold comes at this;rw[à (by rw[hb];simp)] at this;rcases zcC i È7 with q | q
   .have hp:i<Ĉ2:=by rw[hz];show q
    rw[zB8 q] at this;rw[zB8 q,zB8 hp];have e:ÁX=Ð7[i] + 1:=by change ň8+1=_;rw[Vn hp]
    rw[e] at this;show this
   .rw[zcY q] at this;rw[zcY q];show this
def gT {a I:Addr}{slot i n ep:Nat}Ád:Ġ6 (Ä I) "set_iterator":=ù3
def TL ã0:((k:Int)).toNat=k:=zd2 k
def Jd {I a:Addr}Ă{i slot:Nat}{e:Int× Ñ}Ź4(ho:Þ I=↑(iw a slot i È7 ep)) Ú3 (hs:ŋ6) (he:(Ù7)[i]?=↑e)
  (hi:i<È7) (h:∀ h' slot',(Ĵ=Ç->slot'=ÁX)->Ŗ I=↑(iw a slot' ü8 È7 ep)->Ù0 I ó h'->Q ↑e.2 { s with heap:=h' }):î Î (ů4 (Ä I)) Í6:=by
 unfold ů4;ext Ê4;rw[à #[]];exact zeS (Qn S ⋯ slot hs λ slot' hs'=>?_);rw[TL] at hs' ⊢;rw[he];dsimp only[Ù3];exact zeS (zfG ho rfl #[] ?_);have o1:=zf9 (Obj.mapFields (·.set! 0 (ì4 (slot':Int) 0))) ho rfl;exact zeS (zfG o1 rfl #[] ?_);have o2:=zf9 (Obj.mapFields (·.set! 1 (ì4 ((i:Int)+1) 0))) o1 rfl;exact zD1 #[_,rfl,zD1 (h _ slot' hs' o2 ((Ð8 ..).trans (Ð8 ..)))]
def Je {I a:Addr}Ă{slot:Nat}Ź4 Ï6 (ho:Þ I=↑(iw a slot È7 È7 ep)) Ú3 (hs:Ĵ=Ç->slot=slotAt t È7)
  (h:∀ h',Heap.ExtBut I ó h'->Q none { s with heap:=h' }):î Î (ů4 (Ä I)) Í6:=by
 have hn:(Ù7)[È7]?=none:=by
  ext ķ7;simp![zD2] at this;rw[zcY ⋯]
 unfold ů4;ext Ê4;rw[à #[]];exact zeS (Qn S #[] slot (by exists hs) λ slot' hs'=>?_);rw[TL,hn];dsimp only[Option.map_none];exact zeS (zfG ho rfl #[] ?_);exact ő0;simp![newExc,newTuple];exact zeS (zf1 ?_ (by size_fits));exact õ6;unfold raiseNew;ext š9;exact zeS ((zD1 (wpAny_throw ?_)));exact zeS ((ň9 (T:="StopIteration") (b:=true) Ň7 isSubtype_stop ?_));show zD1 (h _ ŵ2)
def Jc {I a:Addr}{slot i n ep:Nat}Ð9 Ád (h:Q (Ä I) s):î Î (pyIter (Ä I)) Í6:=by
 exact wpAny_pyIter_slot (gT ho) S8 (zf0 S8 (gT ho) BW ?_ (zaA _));show zD1 #[_,rfl,"set_iterator",_,gT ho,eI.lookup,h]
def nJ.keep Ĕ9 Ħ Ă(S:ÁW) (k:∀ o,Ő1->Ŗ a=↑o):nJ w h' a Ĩ3:=#[k _ S.get,S.fits,S.nv,S.led,S.plain]
def Lj Ï6 (I a:Addr) (hne:a≠I) ľ6 ÇH:
  Walks Í3 A I [I,a] [I] È7 (λ i v=>∃ e,(Ù7)[i]?=↑e/\v=e.2) (λ i h=>(∃ slot,(ŋ6)/\ž I=↑(iw a slot i È7 ep))/\ÁW) where
 sub:=λ b hb=>by simp at hb;simp[hb]
 frame:=λ _ _ _ st k=>by
  ext þ8;show#[#[slot,h1,k I #[] _ h2],S.keep λ o e=>k a #[] o e]
 item:=λ i s Q E hi st hQ=>by
  ext þ8;have hl:i<(Ù7).size:=by
   ext ķ7;simp![zD2] at this;lia
  exact Jd h2 S h1 (zB8 hl) hi λ h' slot' g1 g2 g3=>?_;show hQ _ h' Œ #[_,zB8 hl,rfl] #[#[slot',g1,g2],S.keep λ o e=>(g3.2 a hne).trans e] λ b o hb e=>(g3.2 b (Ũ4)).trans e
 done:=λ s Q E st hQ=>by
  ext þ8;show Je hh h2 S h1 λ h' g=>hQ h' Œ λ b o hb e=>g b o (Ũ4) e
 self:=λ _ _ _ _ st hQ=>by
  ext þ8;show Jc h2 hQ
def E4:typeLookup (õ2) "__len__"=pure ↑(ū "set.__len__"):=F.slot_set_len.lookup
def split_len:splitId "set.__len__"=↑("set","__len__"):=by ext Ĳ1
def FA Ħ Ă ü0 Ú3 (h:Q Ç s):î Î (setDrawn a) Í6:=by
 unfold setDrawn setsByText;exact Ĝ6;ext ų;exact zeS (zeS (zfF ŵ1));change Q (! Ĵ&&(! Ũ3&&Ď (È7>1))) s;rw[S.plain];exists h
set_option Ŵ9 4000000 in
theorem FG Ħ Ă ü0 Ú3 (h:Q Ç s):î Î (Æt Ā9) Í6:=by
 have Ty:Ġ6 Ā9 "set":=#[_,S.get,rfl];unfold Æt;exact zeS (ÅS Ty E4 ?_);ext ų;rw[split_len];ext ų;exact zeS (ň9 (b:=true) Ty sub_set_self ?_);rw[à ()];rw[í Ş1];exact zeS (zf7 Ty ?_);show zD1 h
set_option Ŵ9 4000000 in
def A0 Ħ Ă{Q:Ĭ2->ŉ}Ï6 Ú3 (hn:È7<=Ê)
  (h:∀ İ5,(Ãk)->À<=h'.objs.size->Q (Ũ5) { s with heap:=h',toks:=tk }):î Î Ų6 Í6:=by
 have ha:a<À:=zA8 S.get;unfold collect;exact zeS (Š7 (ú5 F.entry_proto_collect ?_));rw[ğ6 F.plain_proto_collect _];change î _ ž4 (newList [] >>= λ l=>again (ū "list.__iadd__" #[[l,Ú6],[]])) È s;exact zeS (zf1 (zD1 #[ŵ0 F.plain_list_iadd _,ú5 F.entry_list_iadd ?_]));rw[ğ6 F.plain_list_iadd _];let L0:Obj:={ cls:=Á9,data:=Ġ0 ([]:zLV).toArray }
 have S1:nJ w (è L0) a Ĩ3:=S.keep λ o e=>ĳ2;have T1:Shared.TypeIs { s with heap:=è L0 } Ā9 "set":=#[_,S1.get,rfl];change î _ ž4 (Ó2 ä3 Ā9 ä3) È { s with heap:=è L0 };unfold Ó2;exact zeS (zf7 T1 ?_);have hne:À ≠a:=zcF ha;have c1:Builtin.List.listSameRef ä3 Ā9=Ç:=by simp[Builtin.List.listSameRef,hne]
 rw[à (by rw[c1];decide)];exact zeS (wpAny_pyIter_slot T1 F.slot_set_iter (zf0 F.slot_set_iter T1 BX ?_ (F.args_set_iter_1 _)));exact zeS (zeS ŵ1);exact zeS (zeS (zeS (zf3 S1.get rfl S1.fits ŵ1)));exact zeS (FA S1 ?_);rw[à ()];ext ĝ8;exact zeS (wpAny_setEpoch_of S1.get rfl S1.fits ?_);exact zeS (zf1 (zD1 #[_,rfl,"set_iterator",_,Ň7,eI.lookup,?_]));let I:=ē2
 let h2:=(è L0).push (iw a 0 0 È7 ep)
 have S2:nJ w h2 a Ĩ3:=S1.keep λ o e=>ĳ2;have hI:h2.get? I=↑(iw a 0 0 È7 ep):=Á1;have hL:h2.get? À=↑L0:=zeT _ (Á1);have hsz:ē2=À+1:=Î5 È;change î _ ž4 Þ6 { s with heap:=h2 };exact zeS (zeZ (FG (s:={ s with heap:=h2 }) S2 ?_));rw[í Ş1];exact zeS (zf6 ?_);exact ő0;change î _ ž4 (updateSeq À (·.push Ą3) >>= λ _=>updateSeq À (·.pop)) È { s with heap:=h2 };exact zeS (wpAny_updateSeq hL ś6);have hL2:=zf9 (Û0 (·.push ì5)) hL rfl;exact wpAny_updateSeq hL2 ś6;have hL3:=zf9 (Û0 (·.pop)) hL2 rfl;let h3:=(h2.update À (Û0 (·.push ì5))).update À (Û0 (·.pop))
 have oth:∀ b o,b≠ À->h2.get? b=↑o->h3.get? b=↑o:=λ b o hb e=>ł7 (ł7 e);have haI:a≠I:=by change a≠ ē2;rw[hsz];show zB3 (zd0 ha)
 have hIn:I≠ À:=by change ē2 ≠_;rw[hsz];show zcF (zE2 _)
 exact zD1 #[ŵ0 F.plain_extend_loop _,codeAny_extend_loopS ((Lj (A:=ž4) hh I a haI Ĩ3).toS) hn À ?_ _ È7 0 { s with heap:=h3 } ø _ rfl Ĝ3 #[#[0,Ř3,oth I _ hIn hI],S2.keep λ o e=>oth a o (Ë9 hne) e] hL3 (ItemsOf.nil _) λ s' acc c' hm hS' hacc=>?_]
 .intro hm;ext ÂJ
  .show hIn q.symm
  .show hne (ř6)
 .exact zeS (wpAny_load hS' À7);ext Ô8;have hcm:(Ù7).size=È7:=by
   ext ķ7;ext Ŋ0
  have e:acc.toList=Ũ5:=by
   exact List.ext_getElem? λ j=>?_;rw[zA3];rcases zcC j È7 with q | q
   .have hjl:j<acc.size:=by rw[hacc.1];show q
    have hj:acc[j]?=↑acc[j]:=zB8 hjl;let#[e,e1,e2]:=hacc.2 j _ hj;rw[zD3,zD3,hj,e1,e2];rfl
   .rw[zD3,zD3,zcY (by rw[hacc.1];show q),zcY (by rw[hcm];show q)];rfl
  rw[e];exact h h' tk' (λ b o hb e=>hm.heap b o (λ q=>?_) (oth b o (zB3 hb) (zeT _ (ĳ2)))) ?_
  .rcases ã7 q with q | q
   .show zB3 hb q
   .have q':b=ē2:=ř6;rw[hsz] at q';show zB3 (zd0 hb) q'
  .show zE3 (zA8 hS')
end
end ST
namespace ST
open Ķ Ă1 É L4
section
variable {Æ}
def OJ Ħ Ă Ï6 Ú3 (hz:È7<=Ê) (Q':Ĭ2->ŉ)
  (h:∀ h1 tk,(∀ b o,¬ Ń->ĥ8)->À<=ÁL->Q' (Ũ5) { s with heap:=h1,toks:=tk }):î Î Ų6 Q' E s:=
 A0 hh S hz λ h1 tk k1 k2=>h h1 tk (λ b o _ q=>k1 b o (zA8 q) q) k2
end
end ST
namespace ST
open Ķ Ă1 â É L2
def wo Ŀ Í9 ý4:ä9:=λ h=>∃ es ep t,ÁW/\es.toList.map ſ=us
def wo.jv ŗ5 Ħ Ð3{h1 h2:Heap}(S:wo w a us h1) (k:Ť8):wo w a us h2:=by
 let#[es,ep,t,S,e]:=S;show#[es,ep,t,S.keep k,e]
def iT.at Ó7 Ï8 Ħ ė0(S:iT Í3 h a xs (jI w)):wo w a Ãl h:=by
 let#[#[es,ep,t,ho,X,h1,h2,h3],_]:=S;show#[es,ep,t,#[ho,X.fits,X.tab.nv,h1,h2],by rw[X.es,zD6];rfl]
section
variable {þ}
theorem QO:∀ Ŗ5 Ð3,Vals Ç3 us->∀ Ó7,ItemsAre (ë) ns us
 | [],_,Á5,_,_=>Á5
 | n::ns,_,Ī r t,prog,w=>by
  let#[tk,rfl]:=r;show Ī (intKind_is ô1) (QO t)
def AI ă û6:xT X (õ2) (λ xs H Q=>∃ p ys,∃ rows:Ê3,ô8/\ý6/\L4.iU Ñ8 ys rows/\ē3<64/\
  ∀ Ň4 ý4 (ps:Ķ5),ĩ0->Vals Ų7 us->(∀ q∈ps,q∈ ĩ7)->(œ7).Nodup->(∀ r∈rows,r∈ œ7)->Q Ø1 (upd H l ì0)):=by
 ext Ğ5;obtain⟨its,rv,pl,hz⟩:∃ its,Vals ys its/\(Ń8 p ĕ\/ò9 p ĕ)/\True:=by
  ext Ŗ6
  .let#[its,rv,pl,_]:=ÁA;show#[its,rv,ē í2,Ò9]
  .let#[its,rv,pl,_]:=ÄV;show#[its,rv,ħ pl,Ò9]
 have hl:=ĸ4;have hlr:Í1=ē3:=ð4 hr;have kR:dW Ĉ ó ĕ rows:=λ i v hv=>by
  have hv':ï2:=by exists hv
  have hi:i<å1:=(ø9 hv').1;let#[hne,b,hb,hsq]:=L4.Paired.at' hr (i:=i) ⋯ V.zJ ([]:Ï);have hy:ys[i]?=↑(V.ref b):=by
   rw[zA1 ⋯];have:ys.getD i V.zJ=ys[i]'⋯:=by simp[show i<Í1 by lia]
   rw[this] at hb;rw[hb]
  let#[v',e1,e2]:=rv.get hy;rw[hv'] at e1;cases e1;cases (show v=ķ b from e2);let#[its2,rv2,#[o,e,hcl,n,hd],_]:=Ò7 hsq;exact#[b,Š2,rfl,?_,o,Œ2,n,e,hcl,hd,by exists QO rv2];simp[show i<ē3 by lia]
 have hh:ō2:=Ó6;exact AL (A:=X.A) hh hu pl kR Ē4 λ h' tk xs S U k=>?_;ext Ár;have hfr:Ŝ0:=Ã7;have hSO:=S.at;have vals:Vals ((Ĵ6).map đ) Ãl:=by
  clear S U hSO
  induction xs with
  | nil=>show Á5
  | cons e xs ih=>show Ī rfl ih
 have snd:(Ĵ6).map ſ=Ŵ7:=Ær
 exact#[ŝ5,_,ċ5 (t':=tk) (o:=.ext (wo X.w À Ãl)) kk İ ?_,rfl,q È (Ĵ6) hfr vals (ü9) (by rw[snd];show S.nd) λ r hr'=>?_]
 ext Ģ7
 .ext Ŀ9;let#[j,j1,j2,j3]:=Àz;have hj':its[j]?=↑(ķ e.2):=by exists j2
  have hjl:j<Í1:=by rw[hl];show (ø9 hj').1
  let#[v',e2,e3]:=rv.get (zA1 hjl);rw[hj'] at e2;cases e2;let#[hne,b,hb,_]:=L4.Paired.at' hr (i:=j) ⋯ V.zJ ([]:Ï);have:ys.getD j V.zJ=ys[j]:=by simp[hjl]
  rw[this] at hb;rw[hb] at e3;cases (show ķ e.2=ķ b from e3);exact zB7 (i:=j) ?_;rw[List.getElem?_zip_eq_some];show#[by rw[zA1 hjl,hb],j3]
 .rw[snd];let#[j,hj]:=zeM.mp hr';show U.all j r Ŵ4 hj
theorem Paired.mk ò7:∀ {l:Ü3}{m:List β},Ń6=Äc->(∀ ċ a b,l[i]?=↑a->m[i]?=↑b->F a b)->ã6 F l m
 | [],[],_,_=>Á5
 | a::l,b::m,h,f=>Ī (f 0 a b ħ4) (Paired.mk (ĝ4) λ i x y hx hy=>f ü8 x y (by exists hx) (by exists hy))
 | [],ÃX,h,_=>ā3
 | ÃX,[],h,_=>ā3
theorem AH ă:xT X Ń5 (λ xs H Q=>∃ l us vs,∃ rs:Ê3,xs=[Ä l]/\H l=↑ ì0/\ĸ2/\L4.iU Ñ8 vs rs/\rs.length<64/\L4.aH (vs.zip rs) H Q):=by
 intro gV s σ H xs us0 Q I r h;let#[l,us,vs,rs,rfl,hl,hv,hr,pL,q]:=h;ext Ė2
 ext ĝ1
 let#[qs,q1,q2]:=L4.Paired.perm hp (L4.VR.of hv hr);have hzl:(vs.zip rs).length<64:=by rw[zdN];lia
 have hes:È7<=Ê:=by
  have h1:Ë2=(vs.zip rs).length:=ð4 (L4.VR.of hv hr);have h2:=å6 Åh eu;rw[zA7,zD2] at h2;have:ù1:=rfl;lia
 show L4.XN I (λ Q' h=>OJ (by show Ó6) S hes Q' h) q2 (by rw[q1.length_eq];show hzl) λ p ps hf hp hs=>q p ps hf (hp.trans q1) hs
end
end ST
namespace L5
open Ķ â L2 L3
open É hiding St
def wQ:Ê3->Ê3
 | []=>[]
 | r::rs=>if r∈wQ rs then wQ rs else r::wQ rs
theorem eR {r:Ï}:∀ {rs:Ê3},r∈wQ rs↔r∈rs
 | []=>.rfl
 | x::rs=>by
  unfold wQ;split
  .ext ŭ9;rw[eR,zA5];show#[ħ,λ h'=>h'.elim (λ e=>e▸eR.mp h) id]
  .rw[zA5,zA5,eR]
theorem bg:∀ rs:Ê3,(wQ rs).Nodup
 | []=>Á5
 | x::rs=>by
  unfold wQ;split
  .show bg rs
  .ext ŭ9;show zcB.mpr #[h,bg rs]
theorem bh:∀ rs:Ê3,(wQ rs).length<=rs.length
 | []=>Ű6
 | x::rs=>by
  unfold wQ;have:=bh rs;split <;> simp![zC0] <;> lia
def lI:xP:=λ ds S Q=>match ds with
 | [d]=>∃ rows:Ê3,Ų0=↑ Ń7/\ē3<64/\ŝ7/\∀ l,Áj->Q Ø1 (ups S l (ú ((L4.xN (wQ rows)).map mh)))
 | _=>Ń
def cK:zLO
 | [í6]=>Æ4
 | [ā9]=>Æ4
 | _=>none
def Pf:pS zl cK lI:=λ S Z ys z ds Q hz hv e hq=>by
 have key:∀ y ts,ys=[y]->wy y=↑ts->(Æ4)=↑z->lI ū1:=λ y ts ey et e'=>by
  subst ey;ext Ä8;let#[rs,e1,e2]:=õ0 e';ext đ1
  .ext ÂG;cases XY e1;let#[es,h2,h3]:=h1.seq et;cases eF.mp h3;show#[rs,h2,hc.1,hc.2,ŋ7]
  ext ÆT
 unfold cK at e;ext ġ8
 .show key È ħ4 e
 .show key È ħ4 e
 .cases e
section
variable {ģ}{Ç6}{p:Pos}
def lI.mo:pM lI:=λ ds S Q Q' hq h=>by
 unfold lI at h ⊢;ext ď7
 .let#[rows,h1,h2,h3,h4]:=h;show#[rows,h1,h2,h3,λ l hl=>hq È (h4 l hl)]
 ext Å4
def lI.fits ŗ5:oV K lI (λ xs H Q=>∃ p ys,∃ rows:Ê3,ô8/\ć6/\Ãa/\ē3<64/\
  ∀ Ň4 ý4 (ps:Ķ5),ĩ0->Vals Ų7 us->(∀ q∈ps,q∈ ĩ7)->(œ7).Nodup->(∀ r∈rows,r∈ œ7)->
   ∃ l' us' vs',∃ rs':Ê3,[V.ref l]=[Ä l']/\Ż9/\Vals vs' us'/\L4.iU K Ĩ vs' rs'/\rs'.length<64/\L4.aH (vs'.zip rs') Ĩ Q):=λ xs ds H S Q h0 h2 h=>by
 unfold lI at h;ext ď7
 .rename_i d;ext ź;let#[rows,e,pL,hne,h]:=h;obtain⟨a,ys,rfl,g1,g2⟩:∃ a xs,ŋ0/\(ş4\/ĸ3)/\zv ŋ Ń7 xs:=by
   by_cases hn:∃ ts,d=ā9
   .let#[ts,rfl]:=hn;cases e;ext Ĭ1;let#[a,xs,q1,q2,q3]:=h1;show#[a,xs,q1,ħ q2,q3]
   .let#[a,ys,q1,q2,q3]:=jz ħ5 e (λ ts z=>hn #[ts,z]);show#[a,ys,q1,ē q2,q3]
  exact#[a,ys,rows,rfl,g1,Z6 g2 hne,pL,λ l us ps hf hv sub nd all=>?_];have mem:∀ r,r∈ œ7 ↔r∈rows:=λ r=>#[λ h=>by
   let#[q,hq,rfl]:=Š5 h;show (zd8 (sub q hq)).2,all r]
  have x1:Ext H Ĩ:=ŵ3;have g3:zv ŋ ((œ7).map mh) Ų7:=zv.ZG λ q hq=>zv.a_ g2 q (sub q hq);have hper:(œ7).Perm (wQ rows):=(zeK nd (bg rows)).mpr λ r=>by rw[mem,eR]
  have hzip:(ã9 đ).zip (œ7)=ps:=by rw[List.zip_map',List.map_id''];intro a;rfl
  exact#[l,us,ã9 đ,œ7,rfl,yO,hv,Z6 (í4 x1 _ g3) λ r hr=>hne r ((mem r).mp hr),by rw[hper.length_eq];have:=bh rows;lia,λ p qs hp hi hs=>?_];rw[hzip] at hi;have heq:=L4.XO ((hi.map ſ).trans hper) hs;ext Ţ0
  ext Èi
  have x2:Ext Ĩ (upd Ĩ p (ú (qs.map đ))):=Æb;have r1:yv K Ĩ S:=h2.new hf;exact h p (Åv hpH) Ğ1 ŵ4 (r1.ups x2 #[_,yO,?_]);rw[<- heq];show í4 ŵ4 _ (zv.ZG λ q hq=>zv.a_ g2 q (sub q (hi.mem_iff.mp hq)))
 ext Å4
end
end L5
namespace ST
open Ķ Ă1 É
theorem Pj Â0 ņ8:∀ (f k K:Nat),k<=K->K<k+f->Ĵ3 ∉ ś->(∀ m<K,(way Ř h m).j∈ ś)->Į9 t (λ _=>h+1) h f (Ś3)=↑(.empty Ĵ3 none)
 | 0,k,K,h1,h2,_,_=>⋯
 | f+1,k,K,h1,h2,h3,h4=>by
  by_cases e:k=K
  .subst e;unfold Į9;rw[T.empty h3,X2]
  .let#[i,g,p1,_]:=T.at (h4 k ⋯);have ih:=Pj T h f ě9 K Á7 h3 h4
   conv=>lhs;unfold Į9
   rw[T.live p1];ext ų;rw[à (by intro q;have:=eq_of_beq q;lia),Uu];show ih
theorem Bn Â0 (hl:ú1<=Ř) ņ8:∃ j,t.freeSlot h=↑(j,Ç)/\U6 t h j:=by
 let#[K,k1,k2,k3]:=T.first hl h;exact#[Ĵ3,?_,#[k2,K,rfl,k3]];have g:=Pj T h (10*turns Ř) 0 K Ĝ3 (Ũ2) k2 k3;unfold SetTable.freeSlot;have e:t.probe (λ _=>h+1) h (t.probeStart h)=↑(.empty Ĵ3 none):=g;rw[e];rfl
structure fF Ĉ4 Ŀ Î0 Í9 (xs:Ĩ8) (led:Bool):Prop where
 ex:∃ es ep t,Ê7/\ĉ9=ť (Ä2)/\Tab t (ť Ó3)/\ÁT
 nd:Ġ2
section
variable {Æ}
def fits_of Ŋ4{hs:Ï}Ë0(h1:È7=n) (T:Tab t hs) (h2:ú1=n) (h3:n<=Ř):Ŕ6:=by
 have l:=T.len;unfold SetTable.fits ń8;rw[T.iH,h1,l,h2];simp;lia
def b8 {n m:Int}{t:Tok}:(ë).is n (ä m t)=true↔n=m:=by
 ext Ĥ8
 .intro h;let#[t',e]:=Ž1 (show Value.isInt n (ä m t)=true from h);cases e;rfl
 .rintro rfl;show intKind_is ô1
def BZ {es:Ù6}{xs:Ĩ8}(h:ĉ9=ť (Ä2)):ElemsOf (ë) ĉ9:=λ e he=>by
 rw[h] at he;let#[x,_,rfl]:=Š5 he;show#[#[x.1,b8.mpr rfl,rfl],rfl]
def JD Ŋ4{xs:Ĩ8}{M wanted:Nat}(he:ĉ9=ť (Ä2)) ă2 ō8:
  ∃ es' t',∃ xs':Ĩ8,relayAll t es wanted=(es',t',Ç)/\es'.toList=xs'.map (Ä2)/\xs'.Perm xs/\Tab t' (xs'.map Ó3)/\t'.mask=M/\t'.led=t.led/\t'.plain=Ũ3/\es'.size=È7:=by
 ext ê4
 have hhs:(Æn).toList=ť Ó3:=by rw[Array.toList_map,he,zD6];rfl
 ext ś5
 ext Æ3
 have hr:ń9:=by
  ext ō5;show h1
 have hes':(É0).toList=(Ñ9).map Ä2:=by
  ext Ğ4;rw[<- zD3,he,zA3]
 ext ö0;have hsz':(É0).size=È7:=by
  ext Äy
 have hT:Tab t' ((Ñ9).map Ó3):=by
  rw[<- Wq xs (Ó3) 0 order.toList hlt,<- hhs];show h7
 exact#[_,t',_,?_,hes',hperm,hT,h2,h4,h5,hsz'];have yc:coversAll order È7=true:=by
  unfold coversAll;rw[List.isPerm_iff,hlen];show h6
 have fit:t'.fits (É0).size=true:=fits_of (n:=Ó) (by rw[hsz',hlen]) hT (by rw[zA7,ú4]) (by rw[h2];lia);unfold relayAll;rw[hr];ext ų;rw[yc,fit];rfl
def add_int Ħ{xs:Ĩ8}{n:Int}{tk:Tok}Ác ü0(S:fF Í3 ó a xs led) (hn:Ó<70)
  (h:∀ h' xs' r,ť1->fF Í3 h' a xs' led->(n∈ Ŵ7/\xs'=xs\/n∉ Ŵ7/\xs'.Perm (xs++[(n,tk)]))->Q r { s with heap:=h' }):
  î Î (ÁU a (ä n tk) (Ŕ7 n)) Í6:=by
 have S0:=S;let#[#[es,ep,t,ho,he,T,hled,hpl,hfew],hnd]:=S;ext ê4
 have hm7:7<=Ř/\Ř<=127:=Ŭ8
 have fit:Ŕ6:=ÁY;have hel:=BZ Ú2 he;unfold ÁU setAddHashedIn;exact zeZ (zeS (zf3 ho rfl fit ?_));ext ų;have bs:byScan (ä n tk) es=true:=by
  have h1:Ď (È7<scanBound)=true:=zeV (by unfold scanBound;lia);have h2:es.all (·.2.scannable)=true:=by
   rw[Array.all_eq_true_iff_forall_mem];intro e hm;show (hel e (by exists hm)).2
  unfold byScan;rw[h1,h2];rfl
 rw[í bs];exact ő0;unfold setAddByScan;exact zeS (zf6 (zeS (wpAny_setScan_of (k:=n) (b8.mpr rfl) ho rfl fit hel ?_)));have hfind:(ř3).isSome=true↔n∈ Ŵ7:=by
  rw[he,List.findIdx?_isSome,zD0];ext Ĥ8
  .rintro⟨e,hm,q⟩;let#[x,hx,rfl]:=Š5 hm;show zB0.mpr #[x,hx,(b8.mp q).symm]
  .intro hm;let#[x,hx,rfl]:=Š5 hm;show#[_,zB0.mpr #[x,hx,rfl],b8.mpr rfl]
 cases hc:ř3 with
 | some j=>
  ext ų;have hm:=hfind.mp (by rw[hc];rfl);exact Į2;ext ų;show zD1 (h ó xs Ç #[rfl,Àx] S0 (ē #[hm,rfl]))
 | none=>
  ext ų;have hm:n∉ Ŵ7:=λ q=>by have:=hfind.mpr q;rw[hc] at this;cases this
  let#[j,fs,F]:=Bn T (by rw[zA7];lia) (Ŕ7 n);let#[p1,p2,p3]:=T.put F;ext Ū2
  have hmt:(Ć4).1.mask=Ř:=by rw[p2]
  ext ÃK
  ext ķ6;let xs1:=ę5++(n,tk)::ĥ3 p
  have hperm:xs1.Perm (xs++[(n,tk)]):=by
   have e:ę5++ĥ3 p=xs:=ze4 p xs;have:xs1.Perm ((n,tk)::(ę5++ĥ3 p)):=List.perm_middle;rw[e] at this;show Ĵ5
  ext Ái
  have hes1:(Ľ).toList=Æp Ä2:=by
   rw[Æj,he];ext İ4
  have hsz1:(Ľ).size=Ó+1:=ÁV
  have T1:Tab t1 (Æp Ó3):=by
   have:Æp (Ó3)=(ť Ó3).take p++Ŕ7 n::(ť Ó3).drop p:=by ext İ4
   rw[this];show p3
  have fit1:t1.fits (Ľ).size=true:=fits_of (n:=Ó+1) hsz1 T1 (by rw[zA7,hl1]) (by rw[hmt];lia);have hlay:layNew t es (Ŕ7 n) (ä n tk)=(Ľ,t1,Ç,Ç):=by
   unfold layNew;rw[fs];ext ų;rw[hT];ext ų;unfold SetTable.orStandIn;rw[fit1];rfl
  have hsl:(Ľ).size<=Ê:=by
   rw[hsz1];have:ù1:=rfl;lia
  have hnd1:(Æp đ).Nodup:=by
   ext ç8
  have ho1:=ZF (es':=Ľ) (t':=t1) ho;have sb:=Ð8 ó a (ĺ8 (Ľ) t1);have hfill:t1.fill=Ó+1:=by
   have l:=T1.len;rw[zA7,hl1] at l;unfold ń8;rw[T1.iH,l];simp
  rw[hlay];ext ų;exact zeS (m:=pure ì8) À7;rw[hpt];simp![ċ6];exact zeS (m:=pure true) À7;simp![ċ6];exact zeS (ē1);by_cases hf:t1.tooFull=true
  .rw[hf];simp![zB2,zdI,ċ6];have hfull:Ř*3<=(Ó+1)*5:=by
    have:=hf;ext Ê8
   let#[M',g1,g2,g3]:=S9 Ó Ř T.mask hfew hfull hn;let#[es2,t2,xs2,r1,r2,r3,r4,r5,r6,r7,r8]:=JD Ú2 (t:=t1) hes1 g1 (wanted:=grown (Ľ).size) (by rw[hsz1];show g2) (by rw[hl1];show g3);rw[r1];ext ų;exact zeS (m:=pure ì8) (zD1 (zeS (wpAny_storeSet_of ho1 ś6 (by rw[r8];show hsl))));exact Į2;ext ų;exact zD1 (h _ xs2 true (sb.trans (Ð8 _ a _)) #[#[es2,ep+1+1,t2,ZF ho1,r2,r4,by rw[r6];show hlt,by rw[r7];show hpt,by rw[r3.length_eq,hl1,r5];show g3],(r3.map _).nodup_iff.mpr hnd1] (ħ #[hm,r3.trans hperm]))
  .have hf':t1.tooFull=Ç:=by exists hf
   ext Áo;have hfull:(Ó+1)*5<Ř*3:=by
    have:=hf';ext Ê8
   exact Į2;ext ų;show zD1 (h _ xs1 true sb #[#[_,ep+1,t1,ho1,hes1,T1,hlt,hpt,Èt],hnd1] (ħ #[hm,hperm]))
end
def Nums (its:zAV) Ū8:Prop:=∀ ċ v,ï2->∃ n t,v=ä n t/\ns[i]?=↑n
section
variable {Æ}{Ľ7}{Ŗ5}
def Dd Ác{Sa:Addr}{wr:â2}(hSw:Sa∉wr) (hN:Nums its ns):Kd Í3 A ì4 its ns Sa wr (λ h xs=>fF Í3 h Sa xs led) (Ħ0) where
 nd:=λ S=>S.nd
 keep:=λ k _ S=>let #[#[es,ep,t,ho,r],nd]:=S;#[#[es,ep,t,k È hSw ho,r],nd]
 Yg:=λ _ T=>T
 add:=λ{s xs i v Q E} _ S hl hv hQ=>by
  let#[m,t,rfl,hr]:=hN i v hv;unfold setAdd;exact zeZ (zeS ((ë).pyHash (A:=A) (k:=m) (b8.mpr rfl) ?_));show add_int (s:={ s with toks:=Œ+1 }) (A:=A) S hl λ h' xs' rr sb S' hx=>hQ h' _ xs' rr m t rfl hr sb (zd1 È) S' hx
def Jj Ï8 Ħ(ho:ž a=↑ Š6):fF Í3 h a [] (jI w):=
 #[#[ø,0,_,ho,rfl,Ģ9,rfl,rfl,by change 0*5<7*3;lia],Á5]
def AK Ģ0 Ð9 Ï6 (hl:Ń8 l its) (hT:Nums its ns) (hn:ġ2<70)
  (h:∀ İ5 xs,fF Í3 h' À xs (jI w)->Up ì4 its ns ġ2 xs->Ð2):
  Ĝ5:=
 OZ hh (ē hl) hn (Dd #[] hT) (λ h e=>Jj e) (Às) h
end
end ST
namespace L4
open Ķ É
def Ay Æ ñ1 Ŗ5(hI:ű3) (h2:2<=Ż) (pL:Ż<64):
  Core Í3 A E vs (λ out=>∃ ns',Ö6 ř9 ns'/\ns'.Perm ns/\ns'.Pairwise (·<=·)) s:=by
 obtain⟨v1,v2,rest,rfl⟩:∃ v1 v2 rest,vs=ę7:=by
  match vs,h2 with
  | ę7,_=>show#[v1,v2,rest,rfl]
 unfold Core;rw[keyKind_ints hI];exact zD1 #[rfl,?_];exact zeY (wpS_sortRuns (a₀:=pairsOf (ę7)) (st:=SortSt.mk' oneType' ((ę7).toArray.zip (ę7).toArray) ø 7 none)
   (Q:=λ _ st'=>(arrOf st').Perm (pairsOf (ę7))/\failedOf st'=none/\SortedTo (arrOf st') (pairsOf (ę7)).size)
   hI.intKeys #[Array.Perm.refl _,rfl,rfl,rfl] (by rw[pairsOf_size];simp) (by rw[pairsOf_size];show pL) λ st' a1 a2 a3=>#[a1,a2,a3]) ?_ λ _ _ e=>e
 rintro⟨⟨⟩,st'⟩ s' ⟨rfl,hp,hf,hs⟩;show#[rfl,hf,sorted_out hI hp hs,by rw[hp.size_eq,pairsOf_size]]
end L4
namespace L5
open Ķ â L2 L3
open É hiding St
structure Bq ņ3:Prop where
 set:mg "set"=none
 zip:mg "zip"=none
 enumerate:mg "enumerate"=none
section
variable {þ}{ģ}{a b c e:Expr}{ta tb tc:zA}{ŏ}{fa fb fc:zEO}
def jS (f g:xQ) (ta tb tc:zA):zA:=fun L S Q=>ta L S λ x S1=>tb ŭ5 λ y S2=>f x y S2 λ z S3=>match z with
 | ÄZ=>if Ť6 then tc L S3 λ w S4=>g y w S4 Q else Q ů1 S3
 | _=>Ń
def jS.mo {f g:xQ}ū7 Ú0 (hc:yE tc):yE Ŕ8:=fun L S Q Q' hq h=>
 ha Ŧ (λ x S1 h=>hb Ý8 (λ y S2 h=>hf x y S2 È (λ z S3 h=>by
  cases z <;> first
   | show p_ (hc L S3 È λ w S4 h=>hg y w S4 È hq h) (hq È) h
   | show h) h) h) h
theorem TB {f g:xQ}{r r':R2}(hr:ve K f r) (hr':ve K g r') ū7 Ú0 (hc:yE tc) é6 ĺ Ŗ3(h:zZ K Ŕ8 Ņ8):XF r r' (zZ K ta) (zZ K tb) (zZ K tc) Ņ8:=by
 ext Ş8;exact hr v w x y H2 S2 _ ű5 q2 p2 (hf x y S2 È (λ d S3 z v3 H3 q3 e3 p3=>?_) h2);cases d with
 | bl k=>
  simp![zj] at q3;exact#[k,q3,p_ à7 à7 z]
  .exact Ø6 hc (r1.ext (ê6 e3)) p3 z λ w4 S4 v4 H4 h4 q4 e4 p4=>?_;show hr' w v4 y w4 H4 S4 Q (Į5 (e3.trans e4) y q2) q4 p4 (hg y w4 S4 È (λ d S' z=>z.ext ((ê6 e3).trans e4)) h4)
  .show z _ H3 (Ø) (ê6 e3) p3
 | _=>show ű6
@[simp] def f7 (f g:Å1) (fa fb fc:zEO):zEO:=fun J=>(fa J).bind λ x=>(fb J).bind λ y=>(f x y).bind λ b=>match b with
 | ÄZ=>if Ť6 then (fc J).bind λ z=>g y z else ↑ ů1
 | _=>none
def qF {f g:Å1}{F G:xQ}(hf:ŝ9 zl f F) (hg:ŝ9 zl g G) Ã6 (hc:yU fc tc):wt (f7 f g fa fb fc) (jS F G Ù9 tc):=λ S Z L J y Q hE e hq=>by
 let#[x1,e1,e]:=Ċ;let#[x2,e2,e]:=Ċ;let#[b,e3,e]:=Ċ;exact ha ö x1 _ hE e1 λ d1 S1 s1 r1=>?_;exact hb å5 x2 Í8 Ē8;exact hf S2 Z x1 x2 b d1 d2 _ ġ1 (ń2) r2 e3 λ c S3 s3 r3=>?_;ext ġ8
 .have:=r3.1;simp![Sn] at this;ext ě0;ext ġ8
  .rename_i hk;let#[x4,e4,e5]:=Ċ;ext ų;rw[í hk];exact hc S3 Z L J x4 _ (ù9 Äj) e4 λ d4 S4 s4 r4=>?_;show hg S4 Z x2 x4 y d2 d4 Q (ù9 (Ť7 s4)).zd (Vw.grow r2 (s3.trans s4)) r4 e5 λ c' S5 s5 r5=>hq c' S5 ((Ť7 s4).trans s5) (Cl.cl (Ť7 s4) r5)
  .rename_i hk;ext ų;rw[à hk];cases e;show hq _ S3 Äj (ĺ2 ć oz)
 .cases e
def se ţ3{f g:xQ}Ã8 Ģ4 Õ (hc:PD X c tc)
  Å3:PD î3 Ŕ8:=
 #[jS.mo Ķ1,ã8 (HJ ho ho' č5 hc.pe hm) λ _ _ _ h=>TB hr hr' Ķ1 h]
def vY ţ3{f g:xQ}Ã8 Ģ4 Õ (hc:PD X c tc)
  Å3:zE î3 (oh Ŕ8):=by
 exact#[oh.mo (jS.mo Ķ1),PT.imp (Ic ho ho' č5 hc.pe hm) fun σ H Q h=>?_];ext č4;exact TB hr hr' Ķ1 #[L,S,r1,r2,jS.mo Ķ1 Ŧ (λ d S' z v H' a b c=>?_) h];cases d with
 | bl k=>ext Èh
 | _=>show ű6
end
end L5
namespace L2
open Ķ â É
section
variable {þ}
def GH:yT X (Î4 .Is) (λ x y H Q=>ŋ8):=by
 ext Ĥ;let#[c,d,rfl,rfl,q]:=h;cases rx;cases ry;show is_bool ä5
end
end L2
namespace L5
open Ķ â L2 L3
open É hiding St
section
variable {þ}{ģ}{a b c e o i v:Expr}{Ô7}{ta tb td ty tv:zA}{ÇT}
def mT:xQ:=λ x y S Q=>match x,y with
 | ö7,ä j=>Q (ĳ1) S
 | Ń1,ŀ es=>∃ ns ms:Ï,ds=Ę7 D.int/\es=ms.map D.int/\Q (ő9) S
 | _,_=>Ń
def oA:Å1
 | ö7,ä j=>↑(ĳ1)
 | ā9,ŀ us=>(mQ ts).bind λ ns=>(mQ us).map λ ms=>ő9
 | _,_=>none
def mT.mo:vy mT:=λ x y S Q Q' hq h=>by
 unfold mT at h ⊢;ext ď7
 .show Þ8
 .let#[ns,ms,h1,h2,h3]:=h;show#[ns,ms,h1,h2,ŵ5]
 ext Å4
def mT.fits:ve K mT (λ x y H Q=>nA (λ i j=>ĳ1) á4\/Wg K á4):=λ x y d e H S Q h1 h2 h3 h=>by
 unfold mT at h;ext ď7
 .ext Ë1;show Ż7
 .let#[ns,ms,rfl,rfl,h]:=h;ext ō7;rw[g2.ints] at g1;rw[g4.ints] at g3;show ħ #[a,b,ns,ms,rfl,rfl,g1,g3,h Ï1 h3]
 ext Å4
def yp:ŝ9 zl oA mT:=λ S Z x y z d e Q hz hx hy ef hq=>by
 unfold oA at ef;ext ŏ7
 .ext ø5;show Ç8
 .let#[ns,e1,e2]:=õ0 ef;let#[ms,e3,rfl]:=Þ3 e2;cases b9 e1;cases b9 e3;ext İ1;show#[ns,ms,jy.mp h2,jy.mp h4,Ç8]
 .cases ef
def R_ ű:yT X (Î4 .Lt) (λ x y H Q=>nA (λ i j=>ĳ1) á4\/Wg X.K á4):=GF.or (GD (by have:=Į3;lia))
def t4 ű Õ:PD X (Ì5 a [.Lt] û1) (yX mT Ù9):=eM (R_ hr) mT.fits mT.mo ã2
def vP ű Õ:zE X (Ì5 a [.Lt] û1) (oh (yX mT Ù9)):=jA (R_ hr) mT.fits mT.mo ã2
def k5 ĥ0:xQ:=λ x y S Q=>match x,y with
 | .bl c,.bl d=>Q ÁZ S
 | x,.zJ=>Q (.bl (cond neg (!df x) (df x))) S
 | _,_=>Ń
def gU ĥ0:Å1
 | .bl c,.bl d=>↑ ÁZ
 | x,.zJ=>↑(.bl (cond neg (!isNone x) (isNone x)))
 | _,_=>none
def k5.mo ĩ4:vy (k5 neg):=λ x y S Q Q' hq h=>by
 unfold k5 at h ⊢;ext ď7
 .show Þ8
 .show Þ8
 ext Å4
def k5.fits:ve K (k5 Ç) (λ x y H Q=>(ŋ8)\/(ÂQ)):=λ x y d e H S Q h1 h2 h3 h=>by
 unfold k5 at h;ext ď7
 .ext Ë1;show ē #[_,_,h1,h2,Ů4]
 .simp![zj] at h2;exact ħ #[h2,?_];rw[Dm h1];show Ů4
 ext Å4
def Dn ř{Z:ŝ}{x:T}Ö3(hx:Vw S Z x d):df d=isNone x:=by
 cases x with
 | zJ=>cases hx.zJ;rfl
 | bl _=>cases hx.bl;rfl
 | int _=>cases hx.int;rfl
 | str _=>cases hx.str;rfl
 | tup _=>let#[ds,rfl,_]:=hx.tup;rfl
 | lst _=>obtain⟨ds,rfl | ⟨a,rfl,h1⟩,h2⟩:=hx.lst <;> rfl
 | zF _ _=>let#[a,m,#[rfl,_],h1]:=hx.zF;rfl
def pb ĩ4:ŝ9 zl (gU neg) (k5 neg):=λ S Z x y z d e Q hz hx hy ef hq=>by
 unfold gU at ef;ext ŏ7
 .cases ef;cases hx.bl;cases hy.bl;show Ç8
 .cases ef;cases hy.zJ;have key:Q (.bl (cond neg (!df d) (df d))) S:=by
   rw[Dn hx];show Ç8
  unfold k5;cases d <;> show key
 .cases ef
def vS Õ:zE X (Ì5 a [.Is] û1) (oh (yX (k5 Ç) Ù9)):=jA (GH.or GG) k5.fits k5.mo ã2
def O3 (td ty tv:zA):xA:=λ E L S=>tv L S λ v S1=>td ŭ5 λ x S2=>ty L S2 λ y S3=>∃ p ds k j,x=Â1/\ÅW/\S3 p=↑ Þ9/\oE Ì3 k=↑j/\E.nx L (ups S3 p (ú (ds.set j v)))
theorem zv.set ĺ Ö3 ŷ6(h:ā6):∀ ù Å5 Ám,Ä3->zv ŋ (ds.set j d) (xs.set j x)
 | [],xs,j,r=>by simp![zv] at r;subst r;show Á5
 | c::ds,xs,0,r=>by
  simp![zv] at r;let#[y,ys,rfl,_,r2]:=r;show Ī h r2
 | c::ds,xs,j+1,r=>by
  simp![zv] at r;let#[y,ys,rfl,r1,r2]:=r;show Ī r1 (zv.set h j r2)
def uh Ğ3 (hv:PD X v tv) (hs:ł1 [ù7] v Ô6=ó7) (hw:ł2 [ù7] v Ë=Àe)
  (h1:(Ó5 [ù7] Ë).map ſ=[assign (ù7) Ë])
  (ha:∀ v,assign (ù7) Ë v=(do
   let ov <- ě6 [v] (ĸ)
   let iv <- ě6 [v,ov] (eval i Ë)
   Ž9 pos'
   ť4
   release [v,ov,iv] [])):zr X (ą3 [ù7] v pos) (O3 td ty tv):=by
 exact#[λ E E' L S hE z=>hv.mo Ŧ (λ w S1 z=>Ħ3 Ý8 (λ x S2 z=>Ŧ9 L S2 È (λ y S3 #[p,ds,k,j,a,b,c,d,h]=>#[p,ds,k,j,a,b,c,d,hE.nx È h]) z) z) z,Š1 (R9 hv.pe (Hb ÅX hi.pe set_list ha) hs hw h1) Ó1];ext Ü2;let#[p,ds,k,j,rfl,rfl,c1,c2,h]:=h3;simp![zj] at q2 q3;subst q2 q3;let#[xs,g1,g2]:=p3 È c1;have e4:Ext H3 (upd H3 p (ú (xs.set j w1))):=ú g1 _;exact#[p,xs,k,j,rfl,rfl,g1,by rw[<- Ę9];show c2,?_];show h ĥ1 (p3.ups e4 #[_,yO,í4 e4 _ (zv.set (Į5 (e2.trans e3) w q1) j g2)])
@[simp] def bq Ï7 (f v:zEO):Sm:=fun J=>(v J).bind λ z=>Á3 λ y=>match J[n]?,y with
 | Ö2,ä k=>(oE Ç0 k).map λ j=>.nx (Àp n ↑(Ŏ1 (ú (ts.set j z))))
 | _,_=>none
def sO ç2 Ï7 {f v:zEO}Âr (hv:vD v tv):yy R (bq n f v) (O3 (yM n) ty tv):=λ S0 Z0 S Z L J o E F e P=>by
 ext Ľ5
 .rename_i ts k h;let#[j,hj,rfl]:=Þ3 e3;ext ľ5;let#[p,ob,h1,h2,h3,h4]:=F1.er.ow n _ h;cases ob with
  | lst ds=>
   change yM n ŭ5 _;ext Ķ6;have h5:zo (yk S2 Z) ts ds:=Ē7 (oG s2) ts h3;show#[p,ds,k,j,rfl,rfl,s2 Çv,by rw[h5.len];show hj,P _ Z L ((F1.grow s2).mut (us:=ú (ts.set j z)) (es:=ú (ds.set j dz)) n h h1 (h5.SD j (ŧ4 (oG s2) z r1)))]
  | _=>show ŧ5
 .cases e3
def Ge ź4 Ĉ5 ŉ5 (r:RelV Š8 u) É9 (hd:Ý):PD È2 (dC Š8):=gE (Wu Ď4 r hd) λ _=>Ø
def Gg ũ{n:Int}Ĉ5 ŉ5 (r:RelV (ä n) u) É9 (hd:Ý):PD È2 (dC (ä n)):=gE (Wu Ď4 r hd) λ _=>Ø
end
end L5
namespace ZP
open Ķ É
def Vb į8:ý5:=cond k "tuple_iterator" "list_iterator"
def SI Î0 į8 (it l:Addr) ċ:Prop:=∃ o,ž it=↑o/\o.cls=Ć (Vb k)/\Ő2=Ċ0 [Ä l,ä i 0].toArray
def SQ Î0 į8 Ň4 (xs:zAV):Prop:=match k with
 | true=>Š9
 | Ç=>ŵ6
def SI.on Ĕ9 Ţ3 È1(x:SI h k it l i) (f:∀ o,ž it=↑o->Ŗ it=↑o):SI h' k it l i:=
 let #[o,ho,r]:=x;ÀA
def SQ.on Ĕ9 è4(x:Æu) (f:∀ o,ž l=↑o->Ŗ l=↑o):SQ h' k l xs:=by
 cases k with
 | true=>let#[o,ho,r]:=(show Š9 from x);show ÀA
 | Ç=>let#[o,ho,r]:=(show ŵ6 from x);show ÀA
def SQ.lt Ï8 è4(x:Æu):l<É8:=by
 cases k with
 | true=>let#[o,ho,_]:=(show Š9 from x);show zA8 ho
 | Ç=>let#[o,ho,_]:=(show ŵ6 from x);show zA8 ho
theorem SQ.cls Ï8 è4(x:Æu):∃ o,ž l=↑o/\o.cls=Ć (cond k "tuple" "list"):=by
 cases k with
 | true=>let#[o,ho,c,_]:=(show Š9 from x);show#[o,ho,c]
 | Ç=>let#[o,ho,c,_]:=(show ŵ6 from x);show#[o,ho,c]
section
variable {Æ}
def made è4 Ð9(hl:Ŕ9)
  (hQ:Q ä3 { s with heap:=è { cls:=Ć (Vb k),data:=Æv } }):î Î (pyIter Ø1) Í6:=by
 cases k with
 | true=>show Ų3 hl hQ
 | Ç=>show zfE hl hQ
def Ac {it l:Addr}È1{xs:zAV}{x:Ñ}Ð9 ľ7 (hx:à1)
  (hQ:∀ h',h'.IsTupleIter it l ü8->Ů5):Ħ8:=by
 ext ø2;have there:=zf9 (Obj.mapFields λ y=>y.setIfInBounds 1 (ş6 ((i:Int)+1))) e1 (Obj.isFreed_of_fields (Obj.data_mapFields e3 _));exact zeS (zfG e1 e3 #[] (zD1 #[x,rfl,zD1 (hQ _ #[_,there,(Obj.cls_mapFields ..).trans e2,?_] (Ð8 ..))]));rw[Obj.data_mapFields e3];simp[ş6]
def BV {it l:Addr}È1{xs:zAV}Ð9 Ï6 ľ7 (hx:Ň6=none)
  Þ7:Ħ8:=by
 ext ø2;exact zeS (zf6 (zeS (zfG e1 e3 #[] ?_)));exact zeS (m:=newExc (į0) []) ?_;simp![newExc,newTuple];exact zeS (zf1 (õ6) (by size_fits));simp![raiseNew];ext š9;show zeS (zD1 (wpAny_throw (hE È ŵ2 Ň7)))
def draw Ţ3 È1{xs:zAV}{x:Ñ}Ð9 ÃH (hx:à1)
  (hQ:∀ h',SI h' k it l ü8->Ů5):Ħ8:=by
 cases k with
 | true=>show Ac hit hl hx hQ
 | Ç=>show wpAny_nextOf_list_item hit hl hx hQ
def Y2 Ţ3 È1{xs:zAV}Ð9 Ï6 ÃH (hx:Ň6=none)
  Þ7:Ħ8:=by
 cases k with
 | true=>show BV hh hit hl hx hE
 | Ç=>show wpAny_nextOf_list_end hh hit hl hx hE
structure Xe (z TI TO i1 i2 l1 l2:Addr):Prop where
 nd:[z,TI,TO,i1,i2].Nodup
 f1:l1∉ Ŏ
 f2:l2∉ Ŏ
structure At Î0 Ě6 (z TI TO i1 i2 l1 l2:Addr) (f0:Ñ) Ï7:Prop where
 z:IsZip h z TI TO f0
 ti:Æw h TI (Ä i1) (Ä i2)
 to:∃ a b,Æw h TO a b
 s1:SI h k1 i1 l1 n
 s2:SI h k2 i2 l2 n
def At.keep Ĕ9 Ċ5{f0:Ñ}Ë0(S:At h Ō6 Ò0 f0 n) (f:∀ b∈ Ŏ,∀ o,è2->ê5):At h' Ō6 Ò0 f0 n:=
 #[f z #[] _ S.z,f TI #[] _ S.ti,let #[a,b,e]:=S.to;#[a,b,f TO #[] _ e],S.s1.on (f i1 #[]),S.s2.on (f i2 #[])]
def item Ċ5 Ë0{xs ys:zAV}{x y:Ñ}Ź4 Ů0
  ü1 (hx:xs[n]?=↑x) (hy:ys[n]?=↑y)
  (hQ:∀ h',At h' Ō6 Ò0 (ş6 À) (n+1)->Æw h' À x y->ÿ6->Q ↑ ä3 { s with heap:=h' }):
  î Î (ů4 Æx) Í6:=by
 let#[nd,f1,f2]:=D;ext ņ;ext Ï4;ext ĳ;replace to3:Æw g3 TO x b:=to3;ext â7;exact zeS (zeS (ŵ7 (zeS (m:=É1 (Ä i2)) (draw ñ4 λ g4 s24 e4=>Į2))));have to4:Æw g4 TO x b:=Æy È n9 to3;exact zeS (zf4 to4 rfl (zeS (wpAny_updateSeq_pair to4 λ g5 to5 e5=>zeS (wpAny_letGo ŵ1))));replace to5:Æw g5 TO x y:=to5;exact zeS (zf4 to5 rfl (zeS (wpAny_newTuple ?_)));have sz:Ĉ3=À:=by rw[e5.1,e4.1,e3.1,e2.1,e1.1]
 have hz5:IsZip g5 Ğ6:=ŕ0 È n2 (Æy ō9);have up5:∀ c o,c∉ Ŏ->Þ c=↑o->g5.get? c=↑o:=λ c o hc q=>by
  ext ģ0;show ŕ0 È hc.2.2.1 (Æy ľ8)
 have ti5:Æw g5 TI (Ä i1) (Ä i2):=ŕ0 È n5 (Æy È n7 (up È (Ë9 n1) n6 n5 hti));have s15:SI g5 k1 i1 l1 (n+1):=s12.on λ o q=>ŕ0 È (Ë9 n8) (Æy È n10 (Æz È (Ë9 n8) q));have s25:SI g5 k2 i2 l2 (n+1):=s24.on λ o q=>ŕ0 È (Ë9 n9) q;have lz:z<Ĉ3:=zA8 hz5;exact zeS (m:=Builtin.SmallTypes.ownedTupleHandOut Æx (Ä Ĉ3)) ?_;have hz6:IsZip (ķ0) Ğ6:=zeT _ hz5;exact zeS (zfB hz6 #[] λ g7 hz7 e7=>?_);replace hz7:IsZip g7 z TI TO (ş6 Ĉ3):=hz7;exact zfB hz7 #[] λ g8 hz8 e8=>?_;replace hz8:IsZip g8 z TI TO (ş6 Ĉ3):=hz8;have up8:∀ c o,c≠z->(ķ0).get? c=↑o->g8.get? c=↑o:=λ c o c1 q=>e8.extBut È c1 (e7.extBut È c1 q);have T8:Æw g8 Ĉ3 x y:=up8 È (zcF lz) (Á1);have up9:∀ c o,c≠z->g5.get? c=↑o->g8.get? c=↑o:=λ c o c1 q=>up8 c o c1 (Åe);rw[sz] at hz8 T8;exact zD1 #[Ä Ĉ3,rfl,Į2];change Q ↑(Ä Ĉ3) _;rw[sz];exact hQ g8 #[hz8,up9 È (Ë9 n1) ti5,#[x,y,up9 È (Ë9 n2) to5],s15.on λ o q=>up9 _ o (Ë9 n3) q,s25.on λ o q=>up9 _ o (Ë9 n4) q] T8 λ c o hc q=>up9 c o (λ e=>hc (by simp[e])) (up5 c o hc q)
def stop Ċ5 Ë0{xs ys:zAV}Ź4 Ï6 Ů0
  ü1 (hend:xs[n]?=none\/ys[n]?=none)
  (hQ:∀ h',ÿ6->Q none { s with heap:=h' }):
  î Î (ů4 Æx) Í6:=by
 let#[nd,f1,f2]:=D;ext ņ;have fin:∀ (h':Heap) (e:Addr),ÿ6->ÆA->
   î Î (do if <- isInstance (Ä e) (į0) then Àe else throw (Ä e)) Q E { s with heap:=h' }:=λ h' e k1 k2=>by
  let#[o,ho,hc]:=k2;show zeS (ň9 ĩ1 (zD1 (hQ _ k1)))
 ext Ï4;cases hx:xs[n]? with
 | none=>
  exact zeS (zeS (ŵ7 (zeS (m:=É1 (Ä i1)) (Y2 hh Ā2 λ g2 ex e2 he=>?_))));have hz2:IsZip g2 Ğ6:=e2 È n3 hz1;let#[oe,q1,q2]:=he;have ne:ex≠z:=λ q=>by subst q;rw[hz2] at q1;cases q1;simp at q2
  exact zfB hz2 #[] λ g3 _ e3=>fin g3 ex (λ c o hc q=>?_) #[oe,Æz È ne q1,q2];ext ģ0;show Æz È hc.1 (e2 È hc.2.2.2.1 (ÆB È hc.1 q))
 | some x=>
  have hy:ys[n]?=none:=hend.resolve_left (by rw[hx];simp);ext ĳ;ext â7;exact zeS (zeS (ŵ7 (zeS (m:=É1 (Ä i2)) (Y2 hh ñ4 λ g4 ex e4 he=>?_))));have hz4:IsZip g4 Ğ6:=e4 ō9;let#[oe,q1,q2]:=he;have ne:ex≠z:=λ q=>by subst q;rw[hz4] at q1;cases q1;simp at q2
  exact zfB hz4 #[] λ g5 _ e5=>fin g5 ex (λ c o hc q=>?_) #[oe,ŕ0 È ne q1,q2];ext ģ0;show ŕ0 È hc.1 (e4 ľ8)
end
abbrev mO į8 Ň4:Obj:={ cls:=Ć (Vb k),data:=Æv }
abbrev i3 Ě6 Î0 ŗ6:Heap:=(ÄH Ś5).push (mO k2 l2)
abbrev Yl Ě6 Î0 ŗ6:Heap:=(i3 Áe).push { cls:=À1,data:=Ġ0 [Ä É8,Ä (ÄH Ś5).objs.size].toArray }
abbrev Yk Ě6 Î0 ŗ6:Heap:=(Yl Áe).push { cls:=À1,data:=Ġ0 [Ą3,Ą3].toArray }
abbrev dq Ě6 Î0 ŗ6:Heap:=(Yk Áe).push { cls:=Ć "zip",data:=Ċ0 [Ą3,đ6 Ç,đ6 Ç,Ä (i3 Áe).objs.size,Ä (Yl Áe).objs.size].toArray }
def Ei Ě6 ŗ6 (xs ys:zAV):Meets (Builtin.«zip.__new__» #[[Ć "zip",Ä l1,Ä l2],[]]) (λ _ R s=>SQ ó k1 l1 xs/\SQ ó k2 l2 ys/\
   R (.ok (.ret (Ä ŵ8))) { s with heap:=dq Ñ1 }):=
 .of_wp λ prog w A R s h=>by
  ext Ã3;let#[q1,q2,h]:=h;have hsub:=sub_zip;have m1:SQ ÀB k1 l1 xs:=q1;have m2:SQ (Shared.heap #[hp.push Ś5,g,d,tk,os]) k2 l2 ys:=q2.on λ o e=>ĳ2
  wp_walk using made m1,made m2
  show é2
section
variable {Æ}
def new {k1 k2:Bool}{l1 l2:Addr}{xs ys:zAV}Ð9 ü1
  (h:∀ h' z TI TO i1 i2,(∀ b∈ Ŏ,À<=b)->Xe Ò0->At h' Ō6 Ò0 Ą3 0->(∀ c o,Þ c=↑o->Ŗ c=↑o)->Q Æx { s with heap:=h' }):
  î Î (call (Ć "zip") [Ä l1,Ä l2]) Í6:=by
 exact callType_new F.called_zip () (F.typeCall_zip_2 È) (F.newCall_zip_2 È) (λ obj=>F.args_object_init_3 obj È) F.entry_zip_new (Ei Ō6 l1 l2 xs ys) #[h1,h2,?_];have z1:(è Ś5).objs.size=À+1:=Î5 ..;have z2:(i3 Ñ1).objs.size=À+2:=by rw[Î5,z1]
 have z3:(Yl Ñ1).objs.size=À+3:=by rw[Î5,z2]
 have z4:ŵ8=À+4:=by rw[Î5,z3]
 have p1:∀ Î0 (o:Obj),o.isFreed=Ç->(ÄH o).get? É8=↑o:=λ h o e=>zA9 _ e;have u:∀ Ï8 ò3(o':Obj),è2->(ÄH o').get? b=↑o:=λ o' e=>ĳ2;have g5:Ņ1 ŵ8=↑_:=p1 È rfl;have g4:Ņ1 (Yl Ñ1).objs.size=↑_:=ŕ1;have g3:Ņ1 (i3 Ñ1).objs.size=↑_:=u _ (ŕ1);have g2:Ņ1 (è Ś5).objs.size=↑(mO k2 l2):=u _ (u _ (ŕ1));have g1:Ņ1 À=↑ Ś5:=u _ (u _ (u _ (ŕ1)));have a1:=h1.lt;have a2:=h2.lt;rw[z2,z3,z4] at g5;rw[z1,z2] at g3;rw[z3] at g4;rw[z1] at g2;generalize hN:À=N at *;have lt:∀ {m:Nat},m<N->∀ j:Nat,¬ m=N+j:=λ hm j=>⋯;have ne:∀ ò4,i≠j->¬ (N+i=N+j):=λ hij e=>hij ⋯;change _/\_;rw[z4];exact#[#[_,g5,rfl],h _ (N+4) (N+2) (N+3) N (N+1) (ģ5) #[?_,?_,?_] #[g5,g3,#[_,_,g4],#[_,g1,rfl,rfl],#[_,g2,rfl,rfl]] λ c o e=>u _ (u _ (u _ (u _ (u _ e))))]
 .ext ç9;have h0:N<=N:=zA4 N;ext Ž0
  .show zd1 N 4
  .show zd1 N 2
  .show zd1 N 3
  .show h0
  .show zd1 N 1
 .have e0:∀ È1,i≠0->¬ (N+i=N):=λ hi e=>hi ⋯;have e0':∀ È1,i≠0->¬ (N=N+i):=λ hi e=>hi ⋯;simp![zcB,zA5,zc6,ŵ9,not_or,List.nodup_nil,and_true,not_false_eq_true];show#[#[ne (),ne (),e0 (),ne ()],#[ne (),e0 (),ne ()],#[e0 (),ne ()],e0' ()]
 .simp![zA5,zc6,ŵ9,not_or];show#[lt a1 4,lt a1 2,lt a1 3,zB3 a1,lt a1 1]
 .simp![zA5,zc6,ŵ9,not_or];show#[lt a2 4,lt a2 2,lt a2 3,zB3 a2,lt a2 1]
end
end ZP
namespace L2
open Ķ â É ZP
section
variable {þ}{Ð}
def Inv.Zi ŷ7 ĕ6 ś1 į (k:∀ b o,b∉fp->Ł8) (hf:Ñ3):Ā8:=by
 have nit:∀ b u,H b=↑u->b∉fp:=λ b u e z=>by rw[(hf b z).1] at e;cases e
 exact I.step ļ0 (ch:=fp) (ģ5) (λ b o _ _ hc e _=>k b o hc e) (λ b o _ _ hc e _=>#[o.slots,k b o hc e]) (λ _ _ _ _ n=>n)
  (λ b o hc e=>#[o,k b o hc e]) ç4
 .let#[_,q1,_,q2,q3,q4]:=hf Ãv;show#[q2,q1,q3,q4]
 .let#[o,es,ep,ho,r]:=hm;show#[o,es,ep,k _ o (λ z=>(hf _ z).2.1 rfl) ho,r]
 .ext Đ7
  .rw[z];show nit b u e
  .show nit c _ z
def oO ñ É5 į8 Í9 Ŗ1:Prop:=match k with
 | true=>ĸ3
 | Ç=>ş4
def oO.of į {k:Bool}Ħ Å5(h:oO Ñ8 k a xs):∃ its:Ĭ2,ą0/\SQ ó k a ĕ:=by
 cases k with
 | true=>let#[its,rv,p,_]:=Ò7 h;show#[its,rv,p]
 | Ç=>let#[its,rv,p,_]:=ā0 h;show#[its,rv,p.isList]
def oO.inj į {k:Bool}Ħ Ĥ5(h:oO Ñ8 k a xs) (h':oO Ñ8 k a ys):xs=ys:=by
 cases k with
 | true=>show I.X8 h h'
 | Ç=>show I.WQ h h'
def Mg ñ Ě6 (a1 a2:Addr):It:=
 #[λ i H=>∃ xs ys x y,oO ŋ k1 a1 xs/\oO ŋ k2 a2 ys/\à1/\ys[i]?=↑y,
   λ i H v H'=>∃ p x y,v=Â1/\Đ5/\H'=upd H p (ŀ Ĳ8)/\(∀ xs,oO ŋ k1 a1 xs->à1)/\∀ ys,oO ŋ k2 a2 ys->ys[i]?=↑y,
   λ i H=>∃ xs ys,oO ŋ k1 a1 xs/\oO ŋ k2 a2 ys/\(Ó<=i\/Í1<=i)]
def LB æ ģ Ô7{kk} ŏ{k1 k2:Bool}{z TI TO i1 i2 a1 a2:Addr}(D:Xe z TI TO i1 i2 a1 a2):
  Turn P w K (ş5 es kk pos) (Mg K Ō6 a1 a2) Ŏ z (λ i h=>At h Ō6 z TI TO i1 i2 a1 a2 Ą3 i) where
 mem:=#[]
 obj:=λ i h st b hb=>by
  let#[q1,q2,#[_,_,q3],#[o1,q4,_,d1],#[o2,q5,_,d2]]:=st;ext ç9;ext Ž0
  .show#[_,q1,Ŵ2]
  .show#[_,q2,Ŵ2]
  .show#[_,q3,Ŵ2]
  .show#[_,q4,ÇR]
  .show#[_,q5,λ v z=>by rw[d2] at z;cases z]
 keep:=λ i h h' st k=>st.keep k
 item:=by
  ext ê;let#[xs,ys,x,y,g1,g2,hx,hy]:=hg;ext ĥ2;let#[u1,e1,r1]:=rv1.get hx;let#[u2,e2,r2]:=rv2.get hy;exact ZP.item D st q1 q2 (x:=u1) (y:=u2) (by exists e1) (by exists e2) λ h' S' T' up=>œ6;exact wpAny_letOwnedTupleGo_zip S'.z λ h2 z2 sb=>?_;have nT:À ∉ Ŏ:=λ hb=>by
   let#[o,ho,_]:=(show ∃ o,Þ À=↑o/\True from by
    let#[w1,w2,#[_,_,w3],#[o1,w4,_],#[o2,w5,_]]:=st;ext ç9;rcases hb with e | e | e | e | e <;> rw[e]
    .show#[_,w1,Ò9]
    .show#[_,w2,Ò9]
    .show#[_,w3,Ò9]
    .show#[_,w4,Ò9]
    .show#[_,w5,Ò9])
   show ŗ (zA8 ho) ÄK
  have nz:À ≠z:=λ e=>nT (by simp[e]);have fr:Ŝ0:=Ã7;have I1:Inv ď (upd H À (ŀ Ĳ8)) { s with heap:=Ãm,toks:=Œ }:=
   ċ5 (o:=ŀ Ĳ8) ĭ8 İ #[#[Ŋ8,.new _],[u1,u2],Ī r1 (Ī r2 Á5),Ę6]
  have hf':∀ b∈ Ŏ,upd H À (ŀ Ĳ8) b=none:=λ b hb=>by
   rw[yA (λ e=>nT (by rw[<- e];show hb))];show (hf Ãv).1
  have kk:∀ b o,b∉ Ŏ->(Ãm).get? b=↑o->h2.get? b=↑o:=λ b o hb q=>by
   have hbz:b≠z:=λ e=>hb (by simp[e]);by_cases hbs:b=À
   .subst hbs;rw[Á1] at q;cases q;show ĺ9 È nz T'
   .ext Ů1
    show ĺ9 È hbz (up b o hb q')
  have I2:=Inv.Zi (h':=h2) (t':=Œ) (fp:=Ŏ) ū8;exact#[ŝ5,_,I2,rfl,#[_,x,y,rfl,fr,rfl,ÆR,λ zs hz=>by rw[hz.inj I g2];show hy],#[z2,?_,?_,?_,?_],hf']
  .ext Õ5;show ĺ9 È (Ë9 nd.1.1) S'.ti
  .let#[a,b,e]:=S'.to;ext Õ5;show#[a,b,ĺ9 È (Ë9 nd.1.2.1) e]
  .ext Õ5;show S'.s1.on λ o q=>ĺ9 È (Ë9 nd.1.2.2.1) q
  .ext Õ5;show S'.s2.on λ o q=>ĺ9 È (Ë9 nd.1.2.2.2) q
 done:=by
  ext ê;let#[xs,ys,g1,g2,hx]:=hg;ext ĥ2;have l1:=rv1.length;have l2:=rv2.length;exact ZP.stop (Ó6) D st q1 q2 ?_ λ h' up=>#[rfl,I.Zi (t':=Œ) up hf];ext ř4
  .show ē Ø2
  .show ħ Ø2
 self:=λ _ _ _ _ _ st h=>wpAny_pyIter_zip st.z h
def DA ñ (ta:TA):TI:=fun σ H R=>ta Ň λ vs H1=>∃ a1 a2 k1 k2,vs=[Ä a1,Ä a2]/\(∃ xs,oO K H1 k1 a1 xs)/\(∃ ys,oO K H1 k2 a2 ys)/\R (Mg K Ō6 a1 a2) H1
theorem IT ß8{ta:TA}{p pos pos':Pos}Ô7{kk} (hg:Gl X "zip") (hm:X.mg "zip"=none) ī5:
  PI Ģ5 (À4 (Ĝ "zip" p) ð6 Ò2) (DA X.K ta):=by
 ext ĉ0;exact Call_ (gS I Ď4 boot_zip Ŀ4);let#[a1,a2,k1,k2,rfl,#[xs,g1],#[ys,g2],q]:=q1;cases r1 with
 | cons r rr=>
  cases rr with
  | cons r' rr=>
   cases rr;cases r;cases r';let#[it1,_,q1]:=g1.of I1;let#[it2,_,q2]:=g2.of I1;exact ZP.new q1 q2 λ h' z TI TO i1 i2 nw D S up=>wpAny_pyIter_zip S.z ?_;show#[z,Ŏ,_,_,H1,rfl,I1.kept (t':=ÄW) up,LB D,S,ŕ2,q]
end
end L2
namespace L5
open Ķ â L2 L3
open É hiding St
section
variable {ģ}{a:Expr}{p:Pos}
def QG ŉ8:oo:=fun L S R=>t L S λ ds S1=>∃ d e xs ys,ds=[d,e]/\yI d S1=↑xs/\yI e S1=↑ys/\R #[ŕ3 Ŷ0 xs ys,λ S=>Ų0=↑xs/\yI e S=↑ys] S1
def b6:D->Bool
 | ŀ _=>true
 | _=>Ç
def yI.k ĺ ř Ö3 ī4 ù č6 (e:ć5):∃ a xs,v=Ú6/\oO ŋ (b6 d) a xs/\Ä3:=by
 by_cases q:∃ ts,d=ā9
 .let#[ts,rfl]:=q;cases e;ext ç1;show#[a,xs,h1,h2,h3]
 .let#[a,xs,h1,h2,h3]:=jz r p e λ ts z=>q #[ts,z];exact#[a,xs,h1,?_,h3];have:b6 d=Ç:=by cases d <;> first | rfl | show ŗ Æ9 q
  rw[this];show h2
end
section
variable {þ}{ß8}{é7}{ÇT}{Ô7}{kk:Nat}
def u0 (hm:X.mg "zip"=none) ÃD (hg:Gl X "zip") (hs:Ì0) (hs2:ö5):
  yG Ģ5 (À4 (Ĝ "zip" p) ð6 Ò2) (QG tA):=by
 exact#[fun L S Q Q' hq z=>à8 Ŧ (λ ds S1 #[d,e,xs,ys,h1,h2,h3,h4]=>#[d,e,xs,ys,h1,h2,h3,hq È h4]) z,PI.imp (IT Ď4 Ãb hs hs2) Ĝ2];ext İ6;let#[d,e,xs,ys,rfl,s1,s2,h]:=h1;let#[v,u,rfl,d1,d2]:=q1.two;ext ş0;let#[a2,ws,rfl,g3,g4]:=yI.k d2 p1 s2;exact#[a1,a2,b6 d,b6 e,rfl,#[us,g1],#[ws,g3],h ī8];let#[b1,us2,q1,m1,m2]:=yI.k (Į5 x1 d d1) x2 hk.1;cases q1;let#[b2,ws2,q2,m3,m4]:=yI.k (Į5 x1 e d2) x2 hk.2;cases q2;have l1:=m2.length;have l2:=m4.length;exact#[λ dd hd=>?_,λ hl=>#[us2,ws2,m1,m3,?_]]
 .rw[List.getElem?_zipWith] at hd;split at hd
  .rename_i dx dy hx hy;cases hd;let#[x,hx',rx]:=m2.get hx;let#[y,hy',ry]:=m4.get hy;exact#[#[us2,ws2,x,y,m1,m3,hx',hy'],λ v H' q=>?_];let#[pp,x',y',rfl,hp,rfl,f1,f2]:=q;ext Ō9
   have ey:y'=y:=by have:=f2 _ m3;rw[hy'] at this;show (zD5 this).symm
   subst ex ey;ext ū9;show#[pp,_,rfl,ű9,í4 Ļ _ (Ī rx (Ī ry Á5))]
  .cases hd
 .have hl':(ŕ3 Ŷ0 xs ys).length<=i:=hl;rw[List.length_zipWith] at hl';lia
@[simp] def kO:ń3
 | Ĳ8=>(wy x).bind λ xs=>(wy y).map λ ys=>ŕ3 (λ a b=>T.tup ð6) xs ys
 | _=>none
theorem Sq ř:∀ {ts us:ç}Çt,Ś->zo S us es->zo S (ŕ3 (λ a b=>T.tup ð6) ts us) (ŕ3 Ŷ0 ds es)
 | [],us,ds,es,h,h'=>þ1
 | Ĝ4,[],ds,es,h,h'=>by simp![zo] at h';subst h';exists zo.nil
 | Ĝ4,u::us,ds,es,h,h'=>by
  simp![zo] at h h';ext ä2;let#[c',cs',rfl,h3,h4]:=h';show ń1 (kT (ń1 h1 (ń1 h3 zo.nil))) (Sq h2 h4)
def yI.sx ă0 Ö3 ù(h:ć5) (s:í5):yI d S'=↑ds:=by
 unfold yI at h ⊢;ext ď7
 .show h
 .show h
 .ext ď7
  .rename_i q;cases h;rw[s È q]
  .cases h
 .cases h
def ra {g:ĥ}ÇF:jV Ç (xW kO g) (QG tA):=λ S Z L J ts Q hE e hq=>by
 ext Ą2;unfold kO at e2;ext đ1
 .let#[xs,e3,e4]:=õ0 e2;let#[zs,e5,rfl]:=Þ3 e4;ext ÄF;let#[es,g1,g2]:=h1.seq e3;let#[es',g3,g4]:=h2.seq e5;show#[d,d',es,es',rfl,g1,g3,hq ŗ1 (Sq g2 g4) λ S'' s=>#[yI.sx g1 s,yI.sx g3 s]]
 ext ÆT
end
end L5
namespace L2
open Ķ â É Builtin Ũ6
section
variable {þ}
def Rp:à6:=λ x lo hi H Q=>∃ z,x=ß z/\ï0/\Q ŋ9 H
def K_:jU X Rp:=by
 ext ì1;let#[z,rfl,hz,q]:=h;ext È3;exact#["str",_,F.slot_str_getitem.lookup,Ĵ7,?_];let#[o,h1,h2,h3]:=hs;cases pl with
 | none=>
  cases pu with
  | none=>show zfJ (l:=none) (u:=none) Ġ
  | int j uj=>show zfJ (l:=none) (u:=↑(j,uj)) Ġ
 | int i ui=>
  cases pu with
  | none=>show zfJ (l:=↑(i,ui)) (u:=none) Ġ
  | int j uj=>show zfJ (l:=↑(i,ui)) (u:=↑(j,uj)) Ġ
end
end L2
namespace HT
open Ķ É
section
variable {Æ}
def An Ŀ7 Ð9(ht:IsTup ó t ā1) â3
  (hw:ģ7=0/\ł6=ý) (h:Q (Ä t) s):ÁD:=by
 have hT:=ő6;let#[os,e1,e2,e3]:=id hs;have hS:Ġ6 (Ä sl) "slice":=#[os,e1,e2];unfold ő5
 try with_reducible exact zeZ ?_
 first | ext ĝ8 | skip
 exact zeS (wpAny_sequenceKey hT () (zeS (zf5 (name:=Str.ofString "__getitem__") hT í3 (zf0 í3 hT ŉ6))));exact zeS (m:=Ī7 (Ä t)) (tupleItemsOf_ ht (zeS (zf7 hS ?_)));rw[í ()];exact zeS (S7 Ãz ?_);have yes:Â2:=by rw[hw.1,hw.2];simp
 change ÃY;rw[í yes];exact zeS (m:=Builtin.Tuple.tupleIsExact (Ä t)) (zeS (zf7 hT À7));rw[í ()]
 first
  | show zeS (zf6 Ú9)
  | show zeS (zf6 (zeS (zD1 Ú9)))
end
end HT
namespace L2
open Ķ â É
section
variable {þ}
def Rn ñ:à6:=λ x lo hi H Q=>∃ a xs,ŋ0/\ĸ3/\(Ű8)/\Q Ā9 H
theorem KY:jU X (Rn X.K):=by
 ext Ê6
 show#["tuple",_,Ř5,ő6,HT.An ht Ãz (by rw[hlen];show hw) #[Ú6,H,I,rfl,q]]
end
end L2
namespace L5
open Ķ â L2 L3
open É hiding St
def ni Å2 ņ2 ñ3:Ü3:=(ĥ3 (Ø4)).take (ó1-Ø4)
section
variable {þ}{ģ}{Ç6}{lo hi:Â Expr}{ŗ7}{tl th:Â zA}{Çr}
def kD ÇJ:yZ->SS->(Ì2->Ë8)->Prop:=fun L S Q=>match t with
 | none=>Q none S
 | some t=>t L S λ d S1=>match d with
  | ö7=>Q ↑i S1
  | _=>Ń
def Me ÇJ:Prop:=∀ u,t=↑u->yE u
def kD.mo (h:Me tl):∀ L S (Q Q':Ì2->Ë8),(Ì6)->kD tl L S Q->kD tl L S Q':=fun L S Q Q' hq z=>by
 cases tl with
 | none=>show ą6
 | some t=>show h t rfl Ŧ (λ d S1 z=>by cases d <;> first | show ą6 | show z) z
def Lu ñ ÇJ:TO:=fun σ H Q=>∃ L S,ß6/\Ó0/\kD t L S λ o S1=>∀ H1,Ext H H1->yv K H1 S1->Q o H1
structure YW Ű (e:Â Expr) ÇJ:Prop where
 mo:Me t
 po:PO X e (Lu ÀT)
def uz:YW X none none:=#[nofun,λ gV s σ H Q I h=>by
 let#[L,S,r1,r2,z]:=h;show IG ũ6 (z H Ĺ r2)]
def ux (h:PD Ū0):YW X ↑e ↑te:=#[λ u q=>by cases q;show h.mo,λ gV s σ H Q I hu=>by
 exact IE h.pe ũ6 ?_;ext Í;exact Ø6 h.mo Ò1;cases d with
 | int i=>ext Ü4;show#[i,q1,h1 ĉ4]
 | zJ=>show ą8
 | bl _=>show ą8
 | str _=>show ą8
 | tup _=>show ą8
 | pK _=>show ą8
 | ref _=>show ą8]
def kz (d:D) ñ3 ď6 (Q:DK):Prop:=match d with
 | Ń1=>Q (ŀ ÆC) S
 | ß z=>ï0/\Q ŋ9 S
 | d=>∃ ds,ć5/\∀ p,ĭ0->Q ó9 (ups S p (ú ÆC))
def kz.mo Ö3 Ū5 ř{Q Q':DK}(hq:Ì6) (h:kz d ß7 S Q):kz d ß7 S Q':=by
 unfold kz at h ⊢;ext ď7
 .show Þ8
 .show Û2
 .ext Ät;show#[ds,h1,λ p hp=>hq È (h2 p hp)]
def zv.cut ĺ ù Å5(h:Ä3) ñ3:zv ŋ ÆC (ő8):=by
 have hd:∀ ù Å5 Ï7,Ä3->zv ŋ (ds.drop n) (ĥ3 n):=by
  intro ds
  induction ds with
  | nil=>ext Ál
  | cons d ds ih=>
   ext ŀ0;cases n with
   | zero=>show Ī ħ5
   | succ n=>show ih n h2
 have ht:∀ ù Å5 Ï7,Ä3->zv ŋ (ds.take n) (xs.take n):=by
  intro ds
  induction ds with
  | nil=>ext Ál
  | cons d ds ih=>
   ext ŀ0;cases n with
   | zero=>show Á5
   | succ n=>show Ī h1 (ih n h2)
 unfold ni jf;rw[h.length];show ht _ (hd _ h)
def Aq Å5 Ū5(h:Ű8):ő8=xs:=by
 unfold jf;rw[h.1,h.2];simp
abbrev cU ñ:à6:=λ x lo hi H Q=>Rq K Ū6\/(Ro K Ū6\/Rn K Ū6)\/Rp Ū6
theorem kz.fits Ö3 ī4 Ū5 ĺ ř Ŗ3(h1:æ4) (h2:Ó0) (h:kz d ß7 ÀS):cU K v ß7 H Q:=by
 unfold kz at h;ext ď7
 .ext Ĭ1;ext û9;by_cases hw:Ű8
  .exact ħ (ē (ħ #[a,xs,rfl,g1,hw,h _ H ?_ Ĺ h2]));ext ķ9;exact#[a,xs,rfl,g1,?_];have:=zv.cut g2 ß7;rw[Aq hw] at this;show this
  .exact ħ (ē (ē #[a,xs,rfl,g1,hw,λ p hp=>h È ?_ Ļ (h2.new hp)]));ext ķ9;show#[p,_,rfl,ű9,í4 Ļ _ (zv.cut g2 ß7)]
 .ext Ĭ1;show ħ (ħ #[_,h1,h.1,h.2 Ï1 h2])
 .rename_i hn _;let#[ds,e,h]:=h;let#[a,xs,rfl,g1,g2]:=jz ħ5 e (λ ts z=>hn ts z);show ē #[a,xs,rfl,g1,λ p hp=>h p (Åv hp) Ğ1 Ļ (h2.ups Ļ #[_,yO,í4 Ļ _ (zv.cut g2 ß7)])]
def Oy ū0 (tl th:Â zA):zA:=fun L S Q=>te L S λ x S1=>kD tl ŭ5 λ l S2=>kD th L S2 λ u S3=>kz x l u S3 Q
def uP É2 (hl:YW X lo tl) (hh:YW X hi th):PD X (ŭ e Ū4 pos) (Oy te tl th):=by
 exact#[fun L S Q Q' hq z=>ĥ9 Ŧ (λ x S1 z=>kD.mo hl.mo Ý8 (λ l S2 z=>kD.mo hh.mo L S2 È (λ u S3 z=>kz.mo hq z) z) z) z,
  ã8 (Ho (Jb.or ((KZ.or KY).or K_)) he.pe hl.po hh.po) ĝ]
 ext Í;exact Ø6 ĥ9 á6 õ;exact#[L,S1,Ō,p1,kD.mo hl.mo Ý8 (λ l S2 h2 H2 e2 p2=>?_) h1];exact#[L,S2,ÅY,p2,kD.mo hh.mo L S2 È (λ u S3 h3 H3 e3 p3=>?_) h2];show kz.fits (Į5 (e2.trans e3) x q1) p3 (kz.mo (λ d S' z=>z.ext (ê6 e3)) h3)
@[simp] def f9:Ŷ1->Ev->Â (Ì2)
 | none,_=>↑none
 | some f,J=>Á3 λ x=>match x with
  | ö7=>↑↑i
  | _=>none
def Xb (f:Ŷ1) ÇJ:Prop:=∀ S Z L J y Q,Àm->f9 f J=↑y->(∀ S',í5->Q y S')->kD t L S Q
def rE:Xb none none:=Áh
def rD ŗ0 ū5:Xb ↑f ↑te:=λ S Z L J y Q hE e hq=>by
 ext Æ2
 .cases e2;cases ų3;show Č2
 ext ÆT
@[simp] def fw ñ3:T->Â T
 | ā9=>↑(ŀ (ni ts ß7))
 | í6=>↑(ú (ni ts ß7))
 | ß z=>if ï0 then ↑ ŋ9 else none
 | _=>none
@[simp] def o_ á7 (lo hi:Ŷ1):zEO:=fun J=>Á3 λ x=>(f9 lo J).bind λ l=>(f9 hi J).bind λ u=>fw l u x
def zo.cut ř Ê1 ù(h:Ś) ñ3:zo S (ni ts ß7) ÆC:=by
 unfold ni;rw[h.len];show zo.take' _ (zo.drop' _ h)
def qd ŗ0{l u:Ŷ1}ū5 (hl:Xb l tl) (hu:Xb u th):wt (o_ f l u) (Oy te tl th):=λ S Z L J y Q hE e hq=>by
 ext ö6;let#[l',e2,e]:=Ċ;let#[u',e3,e]:=Ċ;exact h Ģ2;exact hl å5 l' Í8 λ S2 s2=>?_;exact hu S2 Z L J u' _ (ù9 (ğ)) e3 Æg;have r3:Vw S3 Z x d:=Vw.grow r1 (s2.trans s3);have hz:=(ù9 Äj).zd;unfold fw at e;ext ġ8
 .cases e;let#[ds,rfl,h2]:=r3.tup;show hq _ S3 Äj (ĺ2 ć (kT (zo.cut h2 È)))
 .cases e;let#[ds,h1,h2]:=r3.seq rfl;have key:∃ ds,yI d S3=↑ds/\∀ p,S3 p=none->Q ó9 (ups S3 p (ú (ni ds l' u'))):=#[ds,h1,λ p hp=>hq È (Ť7 Ļ) (Cl.cl Äj (ly hz hp (zo.cut h2 È)))];obtain⟨_,q | ⟨a,q,_⟩,_⟩:=r3.lst
  ext Èo
  ext Èo
 .ext ġ8
  .rename_i h0;cases e;cases r3.str;show#[h0,hq _ S3 Äj (ĺ2 ć mD)]
  .cases e
 .cases e
end
end L5
namespace TM
open Ķ É
def noFill:fillsNumberSlot (À1) "mul"=ó7:=
 PySem.fillsNumberSlot_seq (id:="tuple.__mul__") (r:=↑(ū "tuple.__rmul__")) F.slot_tuple_mul.lookup Ş1 F.slot_tuple_rmul.lookup Ş1
def rep:seqRepeat? (À1)=pure ↑(ū "tuple.__mul__"):=by
 have a:=PySem.seqSlot_of (T:="tuple") (name:="__mul__") (id:="tuple.__mul__") F.slot_tuple_mul.lookup Ş1;have b:=PySem.seqSlot_of (T:="tuple") (name:="__rmul__") (id:="tuple.__rmul__") F.slot_tuple_rmul.lookup Ş1;unfold seqRepeat?;rw[a,b];rfl
def declines ĵ5 Ä1:
  Meets Ĩ6 (λ _ R s=>Æ7/\R (.ok (.ret ŝ3)) s):=
 .of_wp λ prog w A R s h=>by
  ext ĉ6
  wp_walk
  show é2
theorem Vr Å2 ņ2:∀ (m:Nat) (acc:ŧ α),(ė m xs.toArray).foldl (·++·) acc=acc++(ė m xs).flatten.toArray
 | 0,acc=>#[]
 | m+1,acc=>by
  rw[zcN,zcT,Vr xs m,zcN,zcR,Array.append_assoc];simp
def FQ (k:Int) Ä1 (h1:¬ (Ď (k < -(2 ^ 63))||Ď (k≥2 ^ 63))=true) (h2:¬ (Ņ2||k == 1)=true) (h3:¬ (Ď (k<=0)||Ņ2)=true)
  (h4:¬ (ý*k>(2 ^ 63-1)/8)) (h5:¬ Builtin.Tuple.tupleTooMany (ý*k)=true) (h6:(Âa).size<=Ê):
  Meets (Builtin.«tuple.__mul__» #[[Ä l,ä k t],[]]) (λ _ R s=>Æ7/\
   R (.ok (.ret ä3)) { s with heap:=è { cls:=À1,data:=Ġ0 (Âa) } }):=
 .of_wp λ prog w A R s h=>by
  ext ĉ6;have e0:IsTup ÀB l ā1:=#[_,hl,rfl,n,rfl]
  wp_walk
  rw[à h1];exact zeS (m:=Ī7 Ø1) (tupleItemsOf_ e0 ?_);ext ų;rw[à h2,à h3,à h4,à h5];show zeS (m:=ä4) (zf1 (zD1 é2) h6)
def FT Ä1:
  Meets (Builtin.«tuple.__mul__» #[[Ä l,ä 1 t],[]]) (λ _ R s=>Æ7/\R (.ok (.ret Ø1)) s):=
 .of_wp λ prog w A R s h=>by
  ext ĉ6;have c:(Ņ2||ž5 == 1)=true:=#[]
  wp_walk
  show é2
section
variable {Æ}
def times Ģ0 Ŗ4{k:Int}{t:Tok}Ð9(ht:IsTup ó l ĕ) (hne:its≠[]) (h0:1<=k) (hz:å1*Ë6<=Ê)
  (one:k=1->Q Ø1 s) (more:k≠1->Q ä3 { s with heap:=è { cls:=À1,data:=Ġ0 õ3 } }):
  Ŭ9:=by
 have hT:=ő6;ext Äo;simp only at hc hd;subst hc hd;exact wpAny_binaryOp_repeat_ref (T:="tuple") (U:="int") () hT (λ s'=>typeIs_int s' k t) noFill F.fills_int_mul ÆD rep F.slot_int_index.lookup
  (å2 Ā3 (declines k t l ĕ n dd sl) #[ho,rfl,hT,?_])
 have hlen:0<å1:=zeN.mpr hne;have hem:ą4=Ç:=by cases its with
  | nil=>show ŗ rfl hne
  | cons a r=>rfl
 by_cases h1:k=1
 .subst h1;show å2 Ě7 (FT t l ĕ n dd sl) #[ho,one rfl]
 .have hks:Ë6<=Ê:=zE0 (Nat.le_mul_of_pos_left _ hlen) hz;have hl:ù1:=rfl;have hk2:k<=16777216:=⋯;have hcast:((Ð1:Nat):Int)*k=((å1*Ë6:Nat):Int):=by
   rw[zA0,Int.natCast_mul,zF2 ⋯]
  have hf:(ė Ë6 ĕ).foldl (·++·) ø=õ3:=by rw[Vr];simp
  have hfl:(ė Ë6 its).flatten.length=Ë6*å1:=#[];exact å2 Ě7 (FQ k t l ĕ n dd sl ?_ ?_ ?_ ?_ ?_ ?_) #[ho,?_]
  .simp![zE6,ſ2,not_or];show ő7
  .rw[hem];exists h1
  .rw[hem];simp;lia
  .rw[hcast];lia
  .rw[hcast];intro q;unfold Builtin.Tuple.tupleTooMany at q;have:=ý0 q;lia
  .rw[hf,zA0,hfl,ze2];show hz
  .rw[hf];show more h1
end
end TM
namespace L2
open Ķ â É
def We ñ:R2:=λ x y H Q=>∃ a k xs,ŋ0/\ÅW/\ĸ3/\xs≠[]/\1<=k/\Ó*Ë6<=Ê/\(k=1->Q Ā9 H)/\(k≠1->∀ p,Đ5->Q ó9 (upd H p (ŀ Ħ9)))
theorem G9 þ:yT X (å8 .Mult) (We X.K):=by
 ext Ĥ;let#[a,k,xs,rfl,rfl,hx,hne,h1,hz,q1,q2]:=h;ext Áq;let#[its,r,ht,_]:=Ò7 hx;have hl:=á8;exact TM.times Ŵ1 (λ e=>#[Ú6,H,I,rfl,q1 e]) λ e=>?_;have hlen:þ0<=Ê:=by
  ext ÇQ
 show#[Ä _,_,ċ5 (t':=Œ) (o:=ŀ Ħ9) (ß5) İ #[#[hlen,.new _],_,r.rep Ë6,Ę6],rfl,q2 e _ (Ã7)]
end L2
namespace L5
open Ķ â L2 L3
open É hiding St
section
variable {ģ}{a:Expr}
def jc:xQ:=λ x y S Q=>match x,y with
 | ö7,ä j=>nL i j/\Q (ä (i*j)) S
 | Ń1,ä k=>(ds≠[]/\1<=k/\Ì3*Ë6<=Ê)/\Q (ŀ (ė Ë6 ds).flatten) S
 | _,_=>Ń
def ir:Å1
 | ö7,ä j=>if nL i j then ↑(ä (i*j)) else none
 | ā9,ä k=>if ts≠[]/\1<=k/\Ç0*Ë6<=Ê then ↑(ŀ (ė Ë6 ts).flatten) else none
 | _,_=>none
def jc.mo:vy jc:=λ x y S Q Q' hq h=>by
 unfold jc at h ⊢;ext ď7
 .show Û2
 .show Û2
 ext Å4
theorem zv.rep ĺ ù Å5(h:Ä3):∀ n:Nat,zv ŋ (ė n ds).flatten (ė n xs).flatten
 | 0=>Á5
 | n+1=>by
  ext ţ5;show h.append (zv.rep h n)
def jc.fits:ve K jc (λ x y H Q=>Ş2):=λ x y d e H S Q h1 h2 h3 h=>by
 unfold jc at h;ext ď7
 .ext Ë1;show Ŏ8
 .rename_i ds k;let#[#[c1,c2,c3],h]:=h;have h1':=h1;ext Ë1;ext û9;have hl:=Ę9;exact ħ #[a,k,xs,rfl,h2,g1,ı0,c2,by rw[<- hl];show c3,λ e=>?_,λ e p hp=>?_]
  .subst e;exact h _ H ?_ Ĺ h3;have:(ė (1:Int).toNat ds).flatten=ds:=#[];rw[this];show h1'
  .exact h È ?_ Ļ (h3.new hp);ext ķ9;show#[p,_,rfl,ű9,í4 Ļ _ (zv.rep g2 _)]
 ext Å4
theorem zo.rep ř Ê1 ù(h:Ś):∀ n:Nat,zo S (ė n ts).flatten (ė n ds).flatten
 | 0=>Á5
 | n+1=>by
  ext ţ5;show h.append (zo.rep h n)
def v8:ŝ9 zl ir jc:=λ S Z x y z d e Q hz hx hy ef hq=>by
 unfold ir at ef;ext ŏ7
 .ext ŏ7
  .rename_i hc;ext ø5;show#[hc,Ñ6]
  .cases ef
 .ext ŏ7
  .rename_i hc;cases ef;let#[ds,rfl,h2]:=hx.tup;cases hy.int;have hl:=h2.len;show#[#[š0,hc.2.1,by rw[hl];show hc.2.2],hq _ ę (ĺ2 ć (kT (zo.rep h2 _)))]
  .cases ef
 .cases ef
end
end L5
namespace L4
open Ķ É
section
variable {Æ}
def A1 Ģ0 ñ1{Q:Ĭ2->ŉ}(hl:IsTup ó l ń) (hz:Ż<=Ê)
  (h:Q vs { s with heap:=Č3 }):î Î (collect Ø1) Í6:=by
 let#[o,ho,hc,n,hd]:=id hl;have new:(è Í5).get? À=↑ Í5:=Á1;have ho':(è Í5).get? l=↑o:=zeT _ ho;unfold collect;exact zeS (Š7 (ú5 entry_proto_collect' (zeS (m:=newList []) (wpAny_newList (zD1 #[Code.quiet_builtin _ Ş1,ú5 entry_list_iadd' ?_])))));change î È (Ó2 ä3 Ø1 ä3) È { s with heap:=è Í5 };unfold Ó2;exact zeS (zf7 (T:="tuple") #[o,ho',hc] ?_);rw[ŀ9];exact zeS (œ5 ho' hd (zeS (œ5 (xs:=ø) (n:=0) new ś6)));rw[à #[]];exact zeS (Ų5 (xs:=ø) (n:=0) new rfl À7 Ĝ3 (by change (ø++ń).size<=Ê+1;simp![Array.size_append,zA0,zcL];lia));exact zeS (m:=load À) (wpAny_load (œ4 new _) ?_);change î È (pure ((ø:zAV)++ń).toList) Q E _;have e:((ø:zAV)++ń).toList=vs:=#[];rw[e];show zD1 h
end
section
open L2 â
variable {þ}
def R6 ď5 ñ1:∀ b o,¬ Ń->Á2->(Č3).get? b=↑o:=λ b o _ q=>by
 rw[zfI ô1 (zB3 (zA8 q))];show Åe
theorem AF:xT X Ń5 (λ xs H Q=>∃ p ys,∃ rows:Ê3,ô8/\ý6/\iU Ñ8 ys rows/\ē3<64/\aH (ĩ7) H Q):=by
 ext Ğ5;have hl:(ĩ7).length<64:=by rw[zdN];lia
 have sz:∀ vs:Ĭ2,À<=(Č3).objs.size:=λ vs=>by rw[Heap.size_update,size_push'];show Nat.le_succ _
 ext Ŗ6
 .let#[its,rv,pl,hz]:=ÁA;show XN I (λ Q' h=>collect_list í2 (h _ Œ R6 (sz its)) (by rw[<- ĸ4];show hz)) (VR.of rv hr) hl q
 .let#[its,rv,pl,hz]:=ÄV;show XN I (λ Q' h=>A1 pl (by rw[<- ĸ4];show hz) (h _ Œ R6 (sz its))) (VR.of rv hr) hl q
end
end L4
namespace L5
open Ķ â L2 L3
open É hiding St
section
variable {þ}{ģ}{Ç6}{Ô7}{é7}{ļ6}
def i9:xP:=λ ds S Q=>∃ d,∃ rows:Ê3,ds=[d]/\Ų0=↑ Ń7/\ē3<64/\ŝ7/\∀ l,Áj->Q Ø1 (ups S l (ú ((L4.xN rows).map mh)))
def lr:zLO
 | [y]=>(wy y).bind λ ts=>(nQ ts).bind λ rs=>if Âb then ↑(ú ((L4.xN rs).map zH)) else none
 | _=>none
def qS:pS zl lr i9:=λ S Z ys z ds Q hz hv e hq=>by
 unfold lr at e;ext ġ8
 .ext Ä8;let#[ts,e0,e]:=Ċ;let#[rs,e1,e2]:=Ċ;ext đ1
  .ext ÂG;cases XY e1;let#[es,h2,h3]:=h1.seq e0;cases eF.mp h3;show#[d,rs,rfl,h2,hc.1,hc.2,ŋ7]
  ext ÆT
 .cases e
def i9.mo:pM i9:=λ ds S Q Q' hq #[d,rows,h0,h1,h2,h3,h4]=>#[d,rows,h0,h1,h2,h3,λ l hl=>hq È (h4 l hl)]
def xT.or İ0:Ř7:=λ gV s σ H xs us Q I rv q=>
 q.elim (λ q=>h Ü xs us Q I rv q) λ q=>h' Ü xs us Q I rv q
def i9.fits:oV K i9 (λ xs H Q=>∃ p ys,∃ rows:Ê3,ô8/\ć6/\Ãa/\ē3<64/\L4.aH (ĩ7) H Q):=λ xs ds H S Q h0 h2 h=>by
 let#[d,rows,rfl,e,pL,hne,h]:=h;ext ź;let#[a,ys,rfl,g1,g2]:=yI.sq ħ5 e;have hl:=Ę9;rw[zA7] at hl;exact#[_,ys,rows,rfl,g1,Z6 g2 hne,pL,λ l ps hf hp hs=>?_];have heq:=L4.XO (rows:=rows) (by have:=hp.map ſ;rwa [List.map_snd_zip ⋯] at this) hs;have hx:Ext H (upd H l (ú Ų7)):=ŵ3;exact h l (Åv hf) Ğ1 hx (h2.ups hx #[_,yO,?_]);rw[<- heq];show í4 hx _ (zv.ZG λ q hq=>zv.a_ g2 q (hp.mem_iff.mp hq))
def uO (hm:X.mg "sorted"=none) Ã5 (hg:Gl X "sorted") ô:PD X (À4 (Ĝ "sorted" p) Ŀ8) (p9 i9 tA):=
 kl (j9 L4.AF Ď4 boot_sorted Ë7) i9.mo i9.fits à8
end
end L5
namespace L2
open Ķ â É
section
variable {þ}
def lU (r:Addr) (j:Int):ä9:=λ h=>∃ t u v,IsRange h r 0 j 1 t u v
def AM:xT X (Ć "range") (λ xs H Q=>∃ j,xs=[ä j]/\∀ r,H r=none->Q (Ä r) Î9):=by
 ext Ĳ;let#[j,rfl,q]:=h;let#[u,rfl,ru]:=vals1 r;let#[t,rfl]:=ru;exact call_range_1 #[ŝ5,_,ċ5 (o:=.ext (lU À j)) (Ü0) İ ?_,rfl,Ĺ4];have here:lU À j (è { cls:=Ć "range",data:=Ċ0 [ä 0 Œ,ä j t,ä 1 (Œ+1)].toArray }):=#[_,_,_,IsRange.new ..];exact#[here,#[_,Á1],λ h1 h2 S k=>?_];let#[a,b,c,e]:=S;show#[a,b,c,k _ e]
theorem AR ă:xT X (Á9) (λ xs H Q=>∃ r j,xs=[Ä r]/\H r=↑(.ext (lU r j))/\0<=j/\j<=16777216/\∀ l,ĩ0->Q Ø1 (upd H l (ë0))):=by
 ext Ĳ;let#[a,j,rfl,hr,h0,h1,q]:=h;ext À6;obtain⟨⟨t,u,v,hR⟩,-,-⟩:=(show wu Ĉ H ó a (.ext (lU a j)) from I.zM a _ hr)
 have hsz:Builtin.Range.rangeSize 0 j 1=((Ő8:Nat):Int):=ů6
 exact call_list_range (n:=Ő8) (Ó6) hR (small_one () () Á7) hsz ⋯ λ h' tk acc c k e hi=>?_;exact#[ŝ5,_,ċ5 (o:=ë0) k İ #[?_,acc.toList,c,?_,ė9],rfl,Ĺ4]
 .have:ù1:=rfl;simp;lia
 .let#[hn,hi]:=hi;exact ST.Paired.mk (by simp[hn]) λ i a b ha hb=>?_;rw[zA3] at ha;let#[k',hk,rfl]:=Þ3 ha;let#[hk1,hk2]:=ø9 hk;simp at hk2;subst hk2;let#[w,hw]:=hi i b (ć1);subst hw;show#[w,#[]]
end
end L2
namespace L5
open Ķ â L2 L3
open É hiding St
section
variable {þ}{ģ}{Ç6}{é7}{pos p pos2 p2:Pos}
def jR:xP:=λ ds S Q=>∃ j:Int,ds=[ä j]/\0<=j/\j<=16777216/\∀ l,Áj->Q Ø1 (ups S l (ú (mj 0 Ő8)))
def Z_:zLO
 | [ä j]=>if 0<=j/\j<=16777216 then ↑(ú (rangeT 0 Ő8)) else none
 | _=>none
def qX:pS zl Z_ jR:=λ S Z ys z ds Q hz hv e hq=>by
 unfold Z_ at e;ext ġ8
 .ext Ä8;ext ġ8
  .rename_i hc;cases e;cases h1.int;show#[_,rfl,hc.1,hc.2,λ l hl=>hq È à9 (ly hz hl (XR È))]
  .cases e
 .cases e
def jR.mo:pM jR:=λ ds S Q Q' hq #[j,h0,h1,h2,h3]=>#[j,h0,h1,h2,λ l hl=>hq È (h3 l hl)]
theorem JB ĺ Ï7:zv ŋ (mj 0 n) ((ő n).map Ļ0):=by
 unfold mj
 induction ő n with
 | nil=>show Á5
 | cons k l ih=>show Ī (by ext ķ9;rw[ze8]) ih
def jR.fits:oV K jR (λ xs H Q=>∃ j,xs=[ä j]/\∀ r,H r=none->∃ r' j',[V.ref r]=[Ä r']/\Î9 r'=↑(.ext (lU r' j'))/\0<=j'/\j'<=16777216/\
  ∀ l,Î9 l=none->Q Ø1 (upd Î9 l (ú ((ő j'.toNat).map Ļ0)))):=λ xs ds H S Q h0 h2 h=>by
 let#[j,rfl,c1,c2,h]:=h;ext ź;ext Ĭ1;subst h1;exact#[j,rfl,λ r hr=>#[r,j,rfl,yO,c1,c2,λ l hl=>?_]];have x1:Ext H Î9:=.new hr _;have hlr:l≠r:=λ z=>by subst z;rw[yO] at hl;cases hl
 have hlH:ĩ0:=by rw[yA hlr] at hl;show hl
 have x2:Ext Î9 (upd Î9 l (ë0)):=.new hl _;show h l (Åv hlH) Ğ1 ŵ4 ((h2.new hr).ups x2 #[_,yO,JB _])
def t6 (hm:X.mg "list"=none) (hm2:ľ3) ò8 ă (hg:Gl X "list") (hg2:Gl X "range")
  (he2:Ĥ1)
  (he:Ū [ē4] Ë=(Ç,eval (ē4) Ë)::Ū [] Ë) İ7 (hpl2:zEB X pos2 []):
  PD X (À4 (Ĝ "list" p) [ē4] Ò2) (p9 jR tA):=by
 have h:=gD (p:=p) (AR hc) Ď4 PyProof.Rows.boot_list (jC (gD AM hg2 hm2 boot_range Ãb () () he2 hpl2) jB he) () () Ãy;show#[p9.mo jR.mo à8,ã8 h λ _ _ _ hu=>TC jR.mo jR.fits à8 hu]
end
end L5
namespace ST
open Ķ Ă1 â É L2
def Dw {us us':zLV}(p:us'.Perm us):∀ {ms:Ï},Ö6 us ms->∃ ms',Ö6 us' ms'/\ms'.Perm ms:=by
 induction p with
 | nil=>intro ms h;show#[ms,h,ĳ8]
 | cons x _ ih=>
  intro ms h;cases h with
  | cons n t h=>
   let#[ms',h1,h2]:=ih h;show#[n::ms',Ī n t h1,h2.cons n]
 | swap x y l=>
  intro ms h;cases h with
  | cons n t h=>
   cases h with
   | cons m u h=>show#[m::n::_,Ī m u (Ī n t h),.swap Þ6]
 | trans _ _ ih1 ih2=>
  intro ms h;let#[m1,h1,h2]:=ih2 h;let#[m2,h3,h4]:=ih1 h1;show#[m2,h3,h4.trans h2]
theorem fF.at Ó7 Ï8 Ħ{xs:Ĩ8}(S:fF Í3 h a xs (jI w)):wo w a ŕ4 h:=by
 let#[#[es,ep,t,ho,he,T,h1,h2,h3],_]:=S;have hm:7<=Ř/\Ř<=127:=Ŭ8
 ext ê4
 show#[es,ep,t,#[ho,ÁY,T.nv,h1,h2],by rw[he,zD6];rfl]
theorem QX:∀ xs:Ĩ8,Ö6 ŕ4 (Ŵ7)
 | []=>Á5
 | e::xs=>Ī e.1 e.2 (QX xs)
theorem Tr:∀ Ð3 Ŗ5,Ö6 us ns->Vals Ç3 us
 | _,_,Á5=>Á5
 | _,_,Ī n t h=>Ī ž9 (Tr h)
section
variable {þ}
def AJ ă:xT X (õ2) (λ xs H Q=>∃ p,∃ ns:Ï,ô8/\yB Ñ8 p Ç3/\à5<64/\
  ∀ Ň4 ý4 (ms:Ï),ĩ0->Ö6 us ms->ms.Nodup->(∀ n,n∈ms↔n∈ns)->Q Ø1 (upd H l ì0)):=by
 ext Ĳ;let#[p,ns,rfl,hq,pL,q]:=h;ext č8;have iA:Ö6 its ns:=ž6 rv;have nums:Nums ĕ ns:=λ i v hv=>by
  have hv':ï2:=by exists hv
  have hi:i<à5:=by rw[hl];show (ø9 hv').1
  let#[u,e1,t,e2]:=rv.get (i:=i) (x:=V.int ns[i]) (œ3);rw[hv'] at e1;cases e1;show#[ns[i],t,e2,œ3]
 have hh:ō2:=Ó6;exact AK (A:=X.A) hh í2 nums Ē4 λ h' tk xs S U k=>?_;ext Ár;have hSO:=S.at;exact#[ŝ5,_,ċ5 (t':=tk) (o:=.ext (wo X.w À ŕ4)) kk İ ?_,rfl,q È (Ŵ7) (Ã7) (QX xs) S.nd λ n=>#[λ hn=>?_,λ hn=>?_]]
 ext Ģ7
 .let#[e,he,rfl]:=Š5 hn;let#[j,_,_,hj]:=Àz;show zB7 hj
 .let#[j,hj]:=zeM.mp hn;show U.all j n Ŵ4 hj
def AG ă:xT X Ń5 (λ xs H Q=>∃ l us,∃ ms:Ï,xs=[Ä l]/\H l=↑ ì0/\Ö6 us ms/\ms.length<64/\
  ∀ (p:Addr) Ū8,Đ5->ns.Perm ms->ns.Pairwise (·<=·)->Q ó9 (upd H p (ú Ç3))):=by
 intro gV s σ H xs us0 Q I r h;let#[l,us,ms,rfl,hl,hm,pL,q]:=h;ext Ė2
 have hlen:È7=Ë2:=by rw[<- eu];simp
 have hml:=hm.length;have hh:ō2:=Ó6;ext ĝ1
 let#[ms',i1,i2]:=Dw hp hm;have hcl:=hp.length_eq;have hl24:ù1:=rfl;exact L4.Si (N:=Àu) (Out:=λ out=>∃ ns',Ö6 ř9 ns'/\ns'.Perm ms'/\ns'.Pairwise (·<=·)) (λ Q' h=>OJ (by show hh) S (by rw[hlen,hml];lia) Q' h) (by rw[hcl,hml];lia) (λ h2 s6 k=>L4.Ay i1 h2 (by rw[hcl,hml];show pL)) (λ h1=>#[ms',by simpa using i1,ĳ8,?_]) λ out h' tk p ho hs hp' k hat=>?_
 .have:ms'.length<2:=by rw[<- i1.length];show h1
  match ms',this with
  | [],_=>show Á5
  | [_],_=>show zeE È
 .let#[ns,g1,g2,g3]:=ho;let#[e,he]:=hat;exact#[Â1,_,ċ5 (t':=tk) (o:=ú Ç3) (λ b o e=>k b o id e) hp' ?_,rfl,q p ns (ģ6 hp') (g2.trans i2) g3];show#[by rw[zA7,g2.length_eq,i2.length_eq];lia,ř9,e,Tr g1,by exists he]
end
end ST
namespace L5
open Ķ â L2 L3
open É hiding St
def insI (n:Int):Ï->Ï
 | []=>[n]
 | m::l=>if n<m then n::m::l else if n=m then m::l else m::insI n l
def nM:Ï->Ï
 | []=>[]
 | n::ns=>insI n (nM ns)
theorem WH {n k:Int}:∀ {l:Ï},k∈insI n l↔k=n\/k∈l
 | []=>by simp[insI]
 | m::l=>by
  unfold insI;split
  .simp
  .split
   .ext ŭ9;subst h;simp
   .rw[zA5,WH,zA5];ext Ĥ8
    .rintro (h | h | h)
     .show ħ (ē h)
     .show ē h
     .show ħ (ħ h)
    .rintro (h | h | h)
     .show ħ (ē h)
     .show ē h
     .show ħ (ħ h)
theorem ZV {k:Int}:∀ {l:Ï},k∈nM l↔k∈l
 | []=>.rfl
 | n::l=>by unfold nM;rw[WH,ZV,zA5]
theorem QY {n:Int}:∀ {l:Ï},l.Pairwise (· < ·)->(insI n l).Pairwise (· < ·)
 | [],_=>zeE È
 | m::l,h=>by
  have h':=zc8.mp h;unfold insI;split
  .rename_i c;exact zc8.mpr #[ü9,h];rcases ã7 hx with e | e
   .rw[e];show c
   .show Int.lt_trans c (h'.1 x e)
  .split
   .show h
   .rename_i c1 c2;exact zc8.mpr #[ü9,QY h'.2];rcases WH.mp hx with e | e
    .rw[e];lia
    .show h'.1 x e
theorem T7:∀ l:Ï,(nM l).Pairwise (· < ·)
 | []=>Á5
 | n::l=>QY (T7 l)
theorem Lr {l m:Ï}(h1:l.Nodup) (h2:l.Pairwise (·<=·)) (h3:m.Pairwise (· < ·)) (h:∀ k,k∈l↔k∈m):l=m:=by
 have nm:m.Nodup:=h3.imp λ h e=>⋯;exact L4.Wr (r:=λ a b:Int=>a<=b) (λ a b p q=>⋯) ((zeK h1 nm).mpr h) h2 (h3.imp λ h=>⋯)
section
variable {þ}{ģ}{Ç6}{é7}{pos pos2 p p2:Pos}
def bV:xP:=λ ds S Q=>lI ū1\/∃ d,∃ ns:Ï,ds=[d]/\(ų9)/\Ų0=↑ Ŧ4/\à5<64/\∀ l,Áj->Q Ø1 ŭ0
def kS:zLO
 | [í6]=>match mQ ts with
  | some ns=>if à5<64 then ↑(ú ((nM ns).map T.int)) else none
  | none=>cK [í6]
 | [ā9]=>cK [ā9]
 | _=>none
def qR:pS zl kS bV:=λ S Z ys z ds Q hz hv e hq=>by
 unfold kS at e;ext ġ8
 .ext ġ8
  .rename_i ns hns;ext ġ8
   .rename_i hc;cases e;cases b9 hns;ext Ä8;let#[es,h2,h3]:=h1.seq rfl;cases jy.mp h3;exact ħ #[d,ns,rfl,?_,h2,hc,λ l hl=>hq È à9 (ly hz hl (jy.mpr rfl))];obtain⟨_,q | ⟨a,q,_⟩,_⟩:=h1.lst <;> subst q <;> show λ _=>nofun
   .cases e
  .show ÀC
 .show ÀC
 .cases e
theorem bV.mo:pM bV:=λ ds S Q Q' hq h=>by
 rcases h with h | ⟨d,ns,h1,h2,h3,h4,h5⟩
 .show ē (lI.mo ū1 Q' hq h)
 .show ħ #[d,ns,h1,h2,h3,h4,λ l hl=>hq È (h5 l hl)]
def B1 ŗ5 Å5 ĺ ř Ŗ3 Ö3 Ŗ5(h0:zv ŋ [d] xs) (h2:Ó0) (hn:ų9) (e:Ų0=↑ Ŧ4) (pL:à5<64) (h:∀ l,Áj->og ŋ Q Ø1 ŭ0):
  ∃ p,∃ ns':Ï,ô8/\yB ŋ p (ns'.map V.int)/\ns'.length<64/\
   ∀ Ň4 ý4 (ms:Ï),ĩ0->Ö6 us ms->ms.Nodup->(∀ n,n∈ms↔n∈ns')->
    ∃ l' us',∃ ms':Ï,[V.ref l]=[Ä l']/\Ż9/\Ö6 us' ms'/\ms'.length<64/\
     ∀ (p:Addr) Ū8,Ĩ p=none->ns.Perm ms'->ns.Pairwise (·<=·)->Q ó9 (upd Ĩ p (ú Ç3)):=by
 ext ź;let#[a,ys,rfl,g1,g2]:=jz ħ5 e hn;rw[g2.ints] at g1;exact#[a,ns,rfl,g1,pL,λ l us ms hf hi nd hmem=>#[l,us,ms,rfl,yO,hi,?_,λ p ns2 hp pm srt=>?_]]
 .have:=ST.W9 ms ns nd λ x hx=>(hmem x).mp hx;lia
 .have x1:Ext H Ĩ:=ŵ3;ext Ţ0
  ext Èi
  have x2:Ext Ĩ (upd Ĩ p (ú (ns2.map V.int))):=Æb;have heq:ns2=nM ns:=Lr (pm.nodup_iff.mpr nd) srt (T7 ns) λ k=>by rw[pm.mem_iff,hmem,ZV]
  exact h p (Åv hpH) Ğ1 ŵ4 ((h2.new hf).ups x2 #[_,yO,?_]);rw[<- heq];show zv.W6 ns2
def uN ű (hm:X.mg "sorted"=none) (hm2:X.mg "set"=none) ò8 ă (hg:Gl X "sorted") (hg2:Gl X "set")
  (he2:Ĥ1)
  (he:Ū [Ĝ7] Ë=(Ç,eval (Ĝ7) Ë)::Ū [] Ë) İ7 (hpl2:zEB X pos2 []):
  PD X (À4 (Ĝ "sorted" p) [Ĝ7] Ò2) (p9 bV tA):=by
 have h:=j9 (p:=p) (xT.or (ST.AH hc) (ST.AG hc)) Ď4 boot_sorted (jC (gD (xT.or (ST.AI hc Į3) (ST.AJ hc)) hg2 hm2 PyProof.Rows.boot_set Ãb () () he2 hpl2) jB he) () () Ãy;exact#[p9.mo bV.mo à8,ã8 h ĝ];ext Í;exact wW.go à8 Ï2;rcases h1 with h1 | ⟨d,ns,rfl,c1,c2,c3,h1⟩
 .let#[p,ys,rows,a1,a2,a3,a4,a5]:=lI.fits (w:=X.w) xs ds H1 S1 Q q1 p1 (lI.mo Äs);show ē #[p,ys,rows,a1,a2,a3,a4,λ l us ps b1 b2 b3 b4 b5=>ē (a5 l us ps b1 b2 b3 b4 b5)]
 .let#[p,ns',a1,a2,a3,a4]:=B1 (w:=X.w) q1 p1 c1 c2 c3 (λ l hl=>(h1 l hl).ext e1);show ħ #[p,ns',a1,a2,a3,λ l us ms b1 b2 b3 b4=>ħ (a4 l us ms b1 b2 b3 b4)]
end
end L5
namespace L5
open Ķ â L2 L3
open É hiding St
section
variable {þ}{e st:Expr}
def l6:Sm:=Ĺ1
def VB:xA:=ł8
def xb ç0:zr X st VB:=Ă3
def sN ç2:yy R l6 VB:=λ S0 Z0 S Z L J o E F e P=>by cases e
end
end L5
namespace L5
open Ķ L2 L3
def yq:ŝ9 zl mK Yy:=ē5
def yt:ŝ9 zl bJ Vy:=ē5
def yu:ŝ9 zl dw Yz:=ē5
end L5
namespace L5
open Ķ â L2 L3
open É hiding St
section
variable {þ}{Ç6}{ŗ7}{pos p q:Pos}
def tI ÇA É2 ô4 (hg2:Gl X "str") (h1:zEE X e [Ĝ "str" q]) (h2:zEB X pos [Ĝ "str" q]) (h3:zEE X (Ĝ "str" q) []):
  PD X (À4 Ć0 [e,Ĝ "str" q] Ò2) (dI "str" te):=ZL ś3 T.str PyProof.Rows.boot_str Ď1
end
end L5
namespace L3
open Ķ É L2
section
variable {þ}{ŏ}
def wE (E:gf) (W:Nat->Ń3) (m:Nat):gf:={ E with nx:=ż0,ct:=ż0,bk:=E.nx }
def ah (c:xx) (tb:xA):xA:=λ E L S=>∃ W:Nat->Ń3,(∃ m,W m L S)/\∀ m L S,W m L S->
 c L S λ b S1=>if Ţ4 then tb (wE E W m) ŭ5 else E.nx ŭ5
def ah.mo {c:xx}{tb:xA}(hc:nj c) (hb:kK tb):kK (ah c tb):=λ E E' L S hE #[W,w0,ws]=>
 #[W,w0,λ m L S hw=>hc Ŧ (λ b S1 z=>p_ (λ z=>hb (wE E W m) (wE E' W m) ŭ5 Äa z) (λ z=>hE.nx È z) z) (ws m L S hw)]
def uc Ņ9 ÀP{tc:xx}{tb:xA}Ă7 (hc:zE X c tc) (hb:xl X body tb):zr X (.While c body Ò2) (ah tc tb):=by
 exact#[ah.mo hc.mo hb.mo,Š1 (Ij hp hc.pt hb.ps) Ó1];let#[L,S,r1,r2,W,#[m0,w0],ws]:=hu;exact#[λ m σ' H'=>Ø5/\∃ L S,Åz/\yv X.K H' S/\W m L S,#[m0,ĳ8,L,S,r1,r2,w0],?_];rintro m σ2 H2 ⟨x2,L2,S2,q1,q2,w2⟩;exact pU.go hc.mo q1 q2 (ws m L2 S2 w2) λ k S3 H3 h3 e3 p3=>p_ à7 à7 h3
 .exact#[fun σ' H'=>Ø5/\∃ L S m',m'<m/\Åz/\yv X.K H' S/\W m' L S,fun σ' H' #[a,L',S',m',b,c,d,e]=>#[m',b,a,L',S',c,d,e],L2,S3,q1.ext e3,p3,?_];show hb.mo (wE (lN Ñ8 D) W m) _ L2 S3 #[à0,λ _ _ q=>og.ext (ÆE) q,λ _ _ q=>nV.ext (ÆE) q,à0] z
 .show z σ2 H3 (q1.ext e3) (ÆE) p3
end
end L3
namespace L5
open Ķ É L2 L3
def mJ Äw (c:ň) (b:Sm):Nat->Ev->Â Out
 | 0,_=>none
 | n+1,J=>(c ę3).bind λ k=>if Ť6 then (b ę3).bind λ o=>match o with
   | .nx J2=>mJ is c b n J2
   | .ct J2=>mJ is c b n J2
   | .bk J2=>↑ Ãg
   | .rt t=>↑(.rt t)
  else ↑(.nx ę3)
def Xy Ï7 Äw (c:ň) (b:Sm):Sm:=mJ is c b n
def sC ç2 [Lo R] Ë0{is:Ė1}{c:ň}{tc:xx}{b:Sm}{tb:xA}Âq (hb:yy R b tb):yy R (Xy n is c b) (ah tc tb):=λ S0 Z0 S Z L J o E F e P=>by
 let#[SB,b1,FB,b2]:=F.rebase;ext þ7;exact#[λ m L' S'=>∃ Z' J',FR SB Z0 S' Z' L' J'/\mJ is c b m J'=↑o,#[n,Z,J,FB,e],λ m L' S' Ş0=>?_];cases m with
 | zero=>cases e'
 | succ m=>
  unfold mJ at e';let#[k,c1,e']:=õ0 e';have G:=F'.xO is;exact hc S' Z' L' _ k _ G.er c1 Æg;cases k with
  | true=>
   rw[Ā4] at e' ⊢;let#[o1,g2,e']:=õ0 e';exact hb SB Z0 S3 Z' L' _ o1 _ (G.grow s3) g2 ?_;cases o1 with
   | nx J2=>show Ĵ8
   | ct J2=>show Ĵ8
   | bk J2=>cases e';show Ħ6
   | rt y=>cases e';show Ķ9
  | Ç=>
   rw[à ()] at e' ⊢;cases e';show P S3 Z' L' ((G.grow s3).back b1 F.z0)
end L5
namespace ZP
open Ķ É
def Ej į8 Ň4 (xs:zAV):Meets (Builtin.«enumerate.__new__» #[[š1,Ä l],[]]) (λ _ R s=>Ŕ9/\
   R (.ok (.ret (Ä (ÆF).objs.size))) { s with heap:=Ĥ2 }):=
 .of_wp λ prog w A R s h=>by
  ext Ã3;let#[q,h]:=h;have hsub:=sub_enumerate;have hL:SQ ÀB k l xs:=q;let#[#[c,xw,dt,sl],hl,hc]:=q.cls;replace hc:c=Ć (cond k "tuple" "list"):=hc;subst hc
  wp_walk using ÆG
  exact wpAny_stack_any λ st=>Į2;split
  .rename_i c _ _ _ _ _;cases (c == ì6 "enumerate")
   .ext î6
    show é2
   .ext î6
    show é2
  .ext î6
   show é2
section
variable {Æ}
def BU è4 Ð9(hL:Ŕ9)
  (h:∀ h',IsEnum h' ď1 À 0 Ą3->SI h' k À l 0->(∀ b o,Ł8)->Q (Ä ď1) { s with heap:=h' }):
  î Î (call (š1) [Ä l]) Í6:=by
 exact callType_new F.called_enumerate () (F.typeCall_enumerate_1 _) (F.newCall_enumerate_1 _) (λ obj=>F.args_object_init_2 obj _) F.entry_enumerate_new (Ej k l xs) #[hL,?_];have hz:(ÆF).objs.size=À+1:=Î5 ..;change _/\_;rw[hz];have he:IsEnum (Ĥ2) ď1 À 0 Ą3:=by
  have:=zA9 (ÆF) (o:={ cls:=š1,data:=ç7 }) rfl;rw[hz] at this;show this
 show#[#[_,he,rfl],h _ he #[_,zeT _ (Á1),rfl,rfl] λ b o x=>zeT _ (zeT _ x)]
def Ab Ï6 į8 (it l:Addr) (hne:l≠it) (xs:zAV):Draws Í3 A it [it,l] Ć2 (λ i v=>Ň6=↑v) (λ i h=>SI h k it l i/\Æu) where
 live:=λ _ _ st=>let #[o,ho,_]:=st.1;#[o,ho]
 frame:=λ _ _ _ st hk=>#[st.1.on λ o e=>hk it #[] o e,st.2.on λ o e=>hk l #[] o e]
 item:=λ i s Q E hi st hQ=>draw st.1 st.2 (x:=xs[i]) (œ3) λ h' hit' hs'=>hQ _ h' Œ (œ3) #[hit',st.2.on λ o e=>(hs'.2 l hne).trans e] hs'
 done:=λ s Q E st hE=>Y2 hh st.1 st.2 #[] hE
end
end ZP
namespace L2
open Ķ â É ZP
section
variable {þ}{Ð}
def Mj ñ į8 Í9:It:=
 #[λ i H=>∃ xs x,oO ŋ k a xs/\à1,
   λ i H v H'=>∃ p x,v=Â1/\Đ5/\H'=upd H p (Âc)/\∀ xs,oO ŋ k a xs->à1,
   λ i H=>∃ xs,oO ŋ k a xs/\Ó<=i]
def LH æ ģ Ô7{kk} ŏ{k:Bool}{e it a:Addr}(hei:e≠it) (hea:e≠a) (hai:a≠it):
  Turn P w K (ş5 es kk pos) (Mj K k a) Äk e (λ i h=>(∃ old,IsEnum h e it i old)/\SI h k it a i) where
 mem:=#[]
 obj:=λ i h st b hb=>by
  let#[#[old,q1],o1,q2,_,d1]:=st;ext ç9;rcases hb with e | e <;> subst e
  .show#[_,q1,Ŵ2]
  .show#[_,q2,ÇR]
 keep:=λ i h h' st k=>#[let #[old,q]:=st.1;#[old,k e #[] _ q],st.2.on λ o q=>k it #[] o q]
 item:=by
  ext ê;let#[xs,x,g1,hx]:=hg;let#[its,rv,q1]:=g1.of I;let#[u1,e1,r1]:=rv.get hx;let#[#[old,he],si]:=st;have hlt:i<Ð1:=Èb
  have D:=Ab (prog:=X.prog) (w:=X.w) (A:=X.A.in1) Èd k it a hai ĕ;exact wpAny_pyNext_enum_itemD D he #[si,q1] hlt hei (by simp[hei,hea]) λ u h' tk hP ho hs' hT hsz hk=>œ6;have hu:u=u1:=by simp![List.getElem?_toArray,e1] at hP;show (zD5 hP).symm
  subst hu;have nT:À ∉ Äk:=λ hb=>by
   ext ç9;let#[oi,qi,_]:=si;rcases hb with z | z
   .show ŗ (zA8 he) (by rw[<- z];show zE1 _)
   .show ŗ (zA8 qi) (by rw[<- z];show zE1 _)
  have ne:À ≠e:=λ z=>nT ö1;exact wpAny_letOwnedTupleGo_enum ho λ h2 he2 sb=>?_;have fr:Ŝ0:=Ã7;have I1:Inv ď (upd H À (Âc)) { s with heap:=Ĵ9,toks:=Œ }:=
   ċ5 (o:=Âc) ĭ8 İ #[#[Ŋ8,.new _],[ä i tk,u],Ī #[tk,rfl] (Ī r1 Á5),Ę6]
  have hf':∀ b∈ Äk,upd H À (Âc) b=none:=λ b hb=>by
   rw[yA (λ z=>nT (by rw[<- z];show hb))];show (hf Ãv).1
  have kk:∀ b o,b∉ Äk->(Ĵ9).get? b=↑o->h2.get? b=↑o:=λ b o hb q=>by
   have hbe:b≠e:=Ũ4;have hbi:b≠it:=Ũ4;by_cases hbs:b=À
   .subst hbs;rw[Á1] at q;cases q;show ĺ9 È hbe hT
   .ext Ů1
    show ĺ9 È hbe (hk b o hbe hbi q')
  have I2:=Inv.Zi (h':=h2) (t':=tk+1) (fp:=Äk) ū8;exact#[ŝ5,_,I2,rfl,#[_,x,rfl,fr,rfl,ÆR],#[#[_,by exists he2],hs'.1.on λ o q=>(sb.2 it (Ë9 hei)).trans q],hf']
 done:=by
  ext ê;let#[xs,g1,hx]:=hg;let#[its,rv,q1]:=g1.of I;have l1:=ĸ4;let#[#[old,he],si]:=st;have hT:Ġ6 (Ä e) "enumerate":=#[_,he,rfl];unfold ů4;exact zeS (wpAny_attempt (zf5 (name:=Č4) hT F.slot_enumerate_next
   (zf0 F.slot_enumerate_next hT F.entry_enumerate_next ?_ (F.args_enumerate_next_1 _))))
  change î È (field (Ä e) 2 >>= _) Þ6;exact zeS (zeX he rfl (x:=Ä it) ś6);exact zeS (Y2 Èd si q1 Ø2 λ h' x he' hx'=>?_);let#[o,ho,hc]:=hx';exact zeS (ň9 ĩ1 ?_);show zD1 #[rfl,I.Zi (t':=Œ) (fp:=Äk) (λ b o hb q=>he' b o (Ũ4) q) hf]
 self:=λ _ _ _ _ _ st h=>let #[_,q]:=st.1;wpAny_pyIter_enum q h
def DD ñ (ta:TA):TI:=fun σ H R=>ta Ň λ vs H1=>∃ a k,vs=[Ú6]/\(∃ xs,oO K H1 k a xs)/\R (Mj K k a) H1
theorem IY {a:Expr}{ta:TA}{p pos pos':Pos}Ô7{kk} (hg:Gl X "enumerate") (hm:X.mg "enumerate"=none) ż4:
  PI Ģ5 ż1 (DD X.K ta):=by
 ext ĉ0;exact Call_ (gS I Ď4 boot_enumerate (à4 É4 (by rw[hs];rfl) rfl));let#[a1,k,rfl,#[xs,g1],q]:=q1;cases r1 with
 | cons r rr=>
  cases rr;cases r;let#[it1,_,q1]:=g1.of I1;have la:=q1.lt;exact ZP.BU q1 λ h' E S up=>wpAny_pyIter_enum E ?_;have nw:∀ b∈[ŵ+1,ŵ],ŵ<=b:=λ b hb=>by
   ext ç9;rcases hb with z | z <;> rw[z]
   .show Nat.le_succ _
   .show Ű6
  show#[_,[ŵ+1,ŵ],_,_,H1,rfl,I1.kept (t':=ÄW) up,LH (Nat.succ_ne_self _) (zcF (zd0 la)) (zB3 la),#[#[_,E],S],ŕ2,q]
end
end L2
namespace L5
open Ķ â L2 L3
open É hiding St
def jd ã0:ĝ0->ĝ0
 | []=>[]
 | d::ds=>ŀ [ä k,d]::jd ě9 ds
def fh ã0:ç->ç
 | []=>[]
 | d::ds=>ŀ [ä k,d]::fh ě9 ds
theorem Oe:∀ Ÿ5 (k i:Nat),(jd k ds)[i]?=(ds[i]?).map λ d=>D.tup [ä ((k+i:Nat):Int),d]
 | [],k,i=>by simp[jd]
 | d::ds,k,0=>by simp[jd]
 | d::ds,k,i+1=>by
  unfold jd;rw[zeI,zeI,Oe ds ě9 i,show k+1+i=k+ü8 from by lia]
theorem Od:∀ Ÿ5 ã0,(jd k ds).length=Ì3
 | [],k=>rfl
 | d::ds,k=>by unfold jd;rw[zC0,Od ds];rfl
theorem Su ř:∀ Ê1 ù ã0,Ś->zo S (fh k ts) (jd k ds)
 | [],ds,k,h=>by ext Ľ9;show zo.nil
 | Ĝ4,ds,k,h=>by
  ext ĵ;show ń1 (kT (ń1 (Æa) (ń1 h1 zo.nil))) (Su ě9 h2)
section
variable {þ}{a:Expr}{é7}{ÇT}{Ô7}{kk:Nat}
def QI ŉ8:oo:=fun L S R=>t L S λ ds S1=>∃ d xs,ds=[d]/\yI d S1=↑xs/\R #[jd 0 xs,λ S=>Ų0=↑xs] S1
def u7 (hm:X.mg "enumerate"=none) (ha:yH X [a] tA) (hg:Gl X "enumerate") (hs:ô7):
  yG Ģ5 ż1 (QI tA):=by
 exact#[fun L S Q Q' hq z=>à8 Ŧ (λ ds S1 #[d,xs,h1,h2,h4]=>#[d,xs,h1,h2,hq È h4]) z,PI.imp (IY Ď4 Ãb hs) Ĝ2];ext İ6;let#[d,xs,rfl,s1,h]:=h1;let#[v,rfl,d1]:=q1.one;ext ş0;exact#[a1,b6 d,rfl,#[us,g1],h ī8];let#[b1,us2,q1,m1,m2]:=yI.k (Į5 x1 d d1) x2 hk;cases q1;have l1:=m2.length;exact#[λ dd hd=>?_,λ hl=>#[us2,m1,?_]]
 .rw[Oe,zdO] at hd;let#[dx,hx,rfl]:=Þ3 hd;let#[x,hx',rx]:=m2.get hx;exact#[#[us2,x,m1,hx'],λ v H' q=>?_];let#[pp,x',rfl,hp,rfl,f1]:=q;ext Ō9
  subst ex;ext ū9;show#[pp,_,rfl,ű9,í4 Ļ _ (Ī (Ø) (Ī rx Á5))]
 .have hl':(jd 0 xs).length<=i:=hl;rw[Od] at hl';lia
@[simp] def Y0:ń3
 | [x]=>(wy x).map λ xs=>fh 0 xs
 | _=>none
def rl {g:ĥ}ÇF:jV Ç (xW Y0 g) (QI tA):=λ S Z L J ts Q hE e hq=>by
 ext Ą2;unfold Y0 at e2;ext đ1
 .let#[xs,e3,rfl]:=Þ3 e2;let#[d,rfl,h1]:=m8 r1;let#[es,g1,g2]:=h1.seq e3;show#[d,es,rfl,g1,hq ŗ1 (Su 0 g2) λ S'' s=>yI.sx g1 s]
 ext ÆT
end
end L5
namespace TM
open Ķ É
def Ah ĵ5 Ä1:
  Meets Ĩ6 (λ _ R s=>Ė7/\R (.ok (.ret ŝ3)) s):=
 .of_wp λ prog w A R s h=>by
  ext ĉ6
  wp_walk
  show é2
def mulL Ň4 (ā1:zAV) Ï7 (x:Int) (u:Tok) (dd:đ4) (sl:Ē3) (hc0:¬(!Builtin.List.listFitsIndex x)=true) (hc1:¬ ý*x.toNat>(2 ^ 63-1)/8) (hc2:¬ Û1 (ý*x.toNat)=true):
  Meets (Builtin.«list.__mul__» #[[Ä l,ä x u],[]]) (λ _ R s=>Ė7/\R (.ok (.ret (ķ À))) { s with heap:=è { cls:=Á9,data:=Ġ0 (List.foldl (λ x1 x2=>x1++x2) ø (ė (if Ņ2=true then 0 else x.toNat) ā1)) } }):=
 .of_wp λ prog w A R s h=>by
  ext ĉ6
  have hsz:=AutoListH.joined_fits hc2
  wp_walk;exact wpAny_ite_false (zeW (Nat.not_lt.mpr hsz)) ?_;wp_walk;show é2
section
variable {Æ}
def LV Ģ0 Ŗ4{k:Int}{t:Tok}Ð9(ht:PlainL ó l ĕ) (hne:its≠[]) (h0:0<=k) (hz:å1*Ë6<=Ê)  (hk:k<=1000000)
  (more:Q ä3 { s with heap:=è { cls:=Á9,data:=Ġ0 õ3 } }):
  Ŭ9:=by
 let#[â9,n,ho,hc,he,hd]:=id ht;simp only at hc hd he;subst hc hd he;have hl:ù1:=rfl;have hem:ą4=Ç:=by cases its with
  | nil=>show ŗ rfl hne
  | cons a r=>rfl
 have hf:List.foldl (λ x1 x2=>x1++x2) ø (ė (if ą4=true then 0 else Ë6) ĕ)=õ3:=by
  rw[hem,à ()];have:=Vr its Ë6 ø;ext Ŋ0
 exact wpAny_binaryOp_repeat_ref (T:="list") (U:="int") () ù3 (λ s'=>typeIs_int s' k t) noFill_list_mul F.fills_int_mul ÆD repeat_list F.slot_int_index.lookup
  (å2 Ā3 (Ah k t l ĕ n none sl)
   #[ho,rfl,ù3,å2 F.slot_list_mul ù3 F.entry_list_mul (F.args_list_mul_2 È)
    (mulL l ĕ n k t none sl (by simp[Builtin.List.listFitsIndex];lia) Ø2 (by simp[Û1];lia)) #[ho,?_]])
 rw[hf];show more
end
end TM
namespace L2
open Ķ â É
def Wf ñ:R2:=λ x y H Q=>∃ a k xs,ŋ0/\ÅW/\ş4/\xs≠[]/\0<=k/\k<=1000000/\Ó*Ë6<=Ê/\∀ p,Đ5->Q ó9 (upd H p (ú Ħ9))
theorem GA þ:yT X (å8 .Mult) (Wf X.K):=by
 ext Ĥ;let#[a,k,xs,rfl,rfl,hx,hne,h1,h2,hz,q]:=h;ext Áq;let#[its,r,ht,_]:=ā0 hx;have hl:=á8;exact TM.LV Ŵ1 h2 ?_;have hlen:þ0<=Ê:=by
  ext ÇQ
 show#[Ä _,_,ċ5 (t':=Œ) (o:=ú Ħ9) (ß5) İ #[hlen,_,0,r.rep Ë6,Á1],rfl,Ĺ4]
end L2
namespace L5
open Ķ â L2 L3
open É hiding St
section
variable {þ}{ģ}{ß8}{î1}{ŏ}
def Vc:D->Bool
 | ŀ _=>true
 | _=>Ç
def Yx:xQ:=λ x y S Q=>∃ k ds,ÅW/\Vc x=Ç/\yI x S=↑ds/\(ds≠[]/\0<=k/\k<=1000000/\Ì3*Ë6<=Ê)/\∀ p,ĭ0->Q ó9 (ups S p (ú (ė Ë6 ds).flatten))
def iC:xQ:=λ x y S Q=>jc x y S Q\/Yx x y S Q
def qK:Å1
 | í6,ä k=>if ts≠[]/\0<=k/\k<=1000000/\Ç0*Ë6<=Ê then ↑(ú (ė Ë6 ts).flatten) else none
 | x,y=>ir x y
theorem iC.mo:vy iC:=λ x y S Q Q' hq h=>by
 rcases h with h | ⟨k,ds,h1,h2,h3,h4,h5⟩
 .show ē (jc.mo x y S Q Q' hq h)
 .show ħ #[k,ds,h1,h2,h3,h4,λ p hp=>hq È (h5 p hp)]
def Yx.fits:ve K Yx (Wf K):=λ x y d e H S Q h1 h2 h3 h=>by
 let#[k,ds,rfl,ht,hs,Ş3,h]:=h;simp![zj] at h2;let#[a,xs,rfl,g1,g2]:=jz h1 h3 hs λ ts z=>by subst z;cases ht
 have hl:=Ę9;exact#[a,k,xs,rfl,h2,g1,ı0,c2,c3,by rw[<- hl];show c4,đ3];show h p (h3.none hp) Ğ1 Ļ (h3.ups Ļ #[_,yO,í4 Ļ _ (zv.rep g2 _)])
theorem iC.fits:ve K iC (λ x y H Q=>(Ş2)\/Wf K á4):=λ x y d e H S Q h1 h2 h3 h=>by
 rcases h with h | h
 .show ē (jc.fits Ź5 h)
 .show ħ (Yx.fits Ź5 h)
def qU:ŝ9 zl qK iC:=λ S Z x y z d e Q hz hx hy ef hq=>by
 unfold qK at ef;ext ŏ7
 .rename_i ts k;ext ŏ7
  .rename_i hc;cases ef;let#[ds,g1,g2]:=hx.seq (ts:=ts) rfl;cases hy.int;have hl:=g2.len;exact ħ #[_,ds,rfl,?_,g1,#[š0,hc.2.1,hc.2.2.1,by rw[hl];show hc.2.2.2],λ p hp=>hq È Ļ (ly hz hp (zo.rep g2 _))];cases d with
   | tup es=>show ŗ hx (by
     intro q;rcases q with q | ⟨us,p,es',_,q,_⟩ | ⟨_,_,_,_,q,_⟩
     ext ĝ2
     .cases q
     .cases q)
   | _=>rfl
  .cases ef
 .show ē (v8 S Z x y z d e Q hz hx hy ef hq)
def uZ Õ:PD X (ÁB a .Mult Çm) (yX iC Ù9):=ik ((GB.or G9).or GA) iC.fits iC.mo ha hb
end
end L5
namespace L3
open Ķ â É L2
section
variable {þ}{ģ}{e o:Expr}{te to:zA}{Ė0}
def iL (to te:zA):zA:=fun L S Q=>to L S λ x S1=>match x with
 | Â1=>Ŧ6/\te ŭ5 λ y S2=>∃ q ds es,y=Ä q/\S2 p=↑ Þ9/\S2 q=↑(ú es)/\Âd
 | _=>Ń
def iL.mo ì2:yE (iL to te):=fun L S Q Q' hq z=>h Ŧ (λ x S1 z=>by
 cases x with
 | ref p=>show#[z.1,h' Ý8 (λ y S2 #[q,ds,es,a,b,c,d,w]=>#[q,ds,es,a,b,c,d,hq È w]) z.2]
 | _=>show z) z
theorem Gh {e0:Expr}(hpe:PE X e0 (gs X.K "list" Rz Çx)) ì2:PD X e0 (iL to te):=by
 exact#[iL.mo h h',ã8 hpe ĝ];ext ŭ7;cases x with
 | ref p=>
  ext Â5;exact Ø6 h' Â8;let#[q,ds',es,rfl,b1,b2,b3,b4]:=h2;simp![zj] at q2;subst q2;let#[xs',g3,g4]:=p2 È b1;let#[ys',g5,g6]:=p2 È b2;ext À9
 | _=>show ą8
def tp É3 É2
  ÇK
  Á:
  PD X ŭ1 (iL to te):=
 Gh (ZK ă3 Eb ÅX Ī6) Ħ3 ĥ9
end
end L3
namespace L5
open Ķ L2 L3
@[simp] def iE ċ á7:Sm:=fun J=>match Ĵ1 with
 | Ö2=>Á3 λ y=>match y with
  | ú us=>ĝ3
  | _=>none
 | _=>none
section
variable {ç2}{Ð0}
def sT ċ (hf:wt f te):yy R (iE i f) (dJ (iL ğ4 te)):=λ S0 Z0 S Z L J o E F e P=>by
 unfold iE at e;ext ġ8
 .ext œ1
  .rename_i us;ext đ1
   .ext ř0;ext Ô4;obtain⟨ds,rfl⟩:Š4:=by
     cases ob with
     | lst ds=>show ŧ8
     | _=>show ŧ5
    ext ŏ8;change iL ğ4 te L S _;unfold iL yM;ext Ť5;let#[q,es,rfl,g1,g2,g3]:=r1.2 us rfl;have F1:=Ă0;have g4:zo (yk S1 Z) us es:=Ē7 (mR λ a z=>ē z) us g3;exact#[q,ds,es,rfl,s1 Çv,g2,Èl,æ7]
   ext ÆT
  ext ÆT
 .cases e
end
end L5
namespace L2
open Ķ â É
def md Ï7 (k:Int):Ė1:=sliceRange (Ů3).1 (Ů3).2.1 (Ů3).2.2
def wG Å2 ņ2 (k:Int):Ü3:=(md Ó k).filterMap (xs[·]?)
theorem Wm Å5 Ð3(r:Ú7):∀ is:Ė1,Vals (į1 (xs[·]?)) (į1 (us[·]?))
 | []=>Á5
 | i::is=>by
  cases h:Ň6 with
  | none=>simpa [zcH,h,r.none_of h] using Wm r is
  | some x=>
   ext œ2;show Ī h2 (Wm r is)
end L2
namespace L5
open Ķ â L2 L3
open É hiding St
section
variable {ģ}{ts:zA}
theorem Wo ĺ ù Å5(r:Ä3):∀ is:Ė1,zv ŋ (į1 (ds[·]?)) (į1 (xs[·]?))
 | []=>Á5
 | i::is=>by
  cases h:ds[i]? with
  | none=>
   have:Ň6=none:=by
    have:=á8;rw[zdV] at h ⊢;lia
   simpa [zcH,h,this] using Wo r is
  | some x=>
   ext œ2;show Ī h2 (Wo r is)
theorem Wn ř Ê1 ù(r:Ś):∀ is:Ė1,zo S (į1 (ts[·]?)) (į1 (ds[·]?))
 | []=>Á5
 | i::is=>by
  cases h:ds[i]? with
  | none=>
   have:ts[i]?=none:=by
    have:=r.len;rw[zdV] at h ⊢;lia
   simpa [zcH,h,this] using Wn r is
  | some x=>
   let#[u,h1,h2]:=r.Yr h;simp![zcH,h,h1];show Ī h2 (Wn r is)
def Vw.F9 ř{Z:ŝ}Ê1 Ö3(h:Vw S Z Ãc d):Vc d=Ç:=by
 cases d with
 | tup es=>
  rcases h with q | ⟨us,p,es',_,q,_⟩ | ⟨_,_,_,_,q,_⟩
  ext ĝ2
  .cases q
  .cases q
 | _=>rfl
end
section
variable {Å2}{P:Ü3->Prop}
def Ul (h:∀ a,P [a]) (us:Ü3) (hl:Ë2=1):P us:=match us,hl with | [a],_=>h a
def Uk (h:∀ a b,P ð6) (us:Ü3) (hl:Ë2=2):P us:=match us,hl with | ð6,_=>h a b
def Uj (h:∀ a b c,P Ņ3) (us:Ü3) (hl:Ë2=3):P us:=match us,hl with | Ņ3,_=>h a b c
def NM (h:∀ a b c d,P Č5) (us:Ü3) (hl:Ë2=4):P us:=match us,hl with | Č5,_=>h a b c d
def NL (h:∀ a b c d e,P [a,b,c,d,e]) (us:Ü3) (hl:Ë2=5):P us:=match us,hl with | [a,b,c,d,e],_=>h a b c d e
end
end L5
namespace L5
open Ķ â L2 L3
open É hiding St
section
variable {æ}{ģ}{ü2}{ũ}{ç0}
def Fx ñ Ô5 Ě0:Prop:=∃ (f:Addr) (oc:Ñ) (od:đ4) (kV dc pm:Ñ) (an:đ4) (cd ct:Ñ) (sl:Ē3),
 ÀD=↑↑ à2/\Ċ3/\š2 K cd x=true/\Ň1
def Fx.i {f:Addr}{oc:Ñ}{od:đ4}{kV dc pm:Ñ}{an:đ4}{cd ct:Ñ}{sl:Ē3}(a:ÀD=↑↑ à2) (l:Ċ3) (c:š2 K cd x=true) (k:Ň1):Fx K x st:=#[f,oc,od,kV,dc,pm,an,cd,ct,sl,a,l,c,k]
def Fy ñ ņ3 Ô5 Ě0:Prop:=∃ (f:Addr) (fd:á9),ň7/\mg x=↑ à2
def Fx.mk (H:Fx K x st) Å0:Fy K mg x st:=by
 ext ĉ7;show#[f,_,Yu l c k,ġ3 X G a]
theorem Fx.law {fa:Addr}{p:Str}(H:Fx K "law" st) Å0 (hfa:mg "law"=↑(Ä fa)) (hb:∀ (kV dc pm:Ñ) (an:đ4) (cd ct:Ñ) ę8 (v:Ñ),BindsTo s (Ñ5 "law" "law" ľ9 dc pm an cd ct) #[[v],[]] [(p,v)]):∃ fd:á9,m7 K "law" "law" st fa fd/\∀ ę8 (v:Ñ),BindsTo s fd #[[v],[]] [(p,v)]:=by
 ext ĉ7;have e:=hfa.symm.trans (ġ3 X G a);cases e;show#[_,Yu l c k,hb kV dc pm an cd ct]
def Cn ñ Ô5 (t:V):Prop:=∃ u,ÀD=↑↑u/\ÆH
def Cn.i {t:V}Ĉ5(a:ÀD=↑↑u) (r:ÆH):Cn K x t:=#[u,a,r]
def Cn.mk {t:V}(H:Cn K x t) Å0:∃ u,mg x=↑u/\ÆH:=by
 let#[u,a,r]:=H;show#[u,ġ3 X G a,r]
def BB ç2 [Lo R] è3(F:Fy K mg x st) ç3
  (Ġ5:∀ î2 á Ě2,ō):FD Û x é8:=by
 let#[f,fd,F,hm]:=F;show BC F hm Sc hn hb (Ġ5 f)
end
end L5
namespace L3
open Ķ â L2
open É hiding St
section
def ME (_ j:Int):Prop:=0<j/\j<2 ^ 200
def MD ħ6:Prop:=i.natAbs<2 ^ 200/\j.natAbs<2 ^ 200
instance instDecidableCDivB ħ6:ċ8 (ME i j):=by unfold ME;ext ū4
instance instDecidableCMulB ħ6:ċ8 (MD i j):=by unfold MD;ext ū4
end
end L3
namespace L2
open Ķ â É
section
theorem Tq:∀ ĩ9 Ð3,Vals é3 us->∀ ċ y,us[i]?=↑y->∃ s t,ss[i]?=↑s/\y=ß s t
 | [],us,h,i,y,e=>by cases h;simp at e
 | s::ss,us,h,i,y,e=>by
  cases h with
  | cons r rr=>
   cases i with
   | zero=>
    ext ļ2;simp at e;show#[s,t,rfl,e.symm]
   | succ i=>show Tq rr i y (ė9)
end
end L2
namespace L3
open Ķ â L2
open É hiding St
section
variable {ģ}{ĺ}
def eU (d:D) ď6 (ss:Ö):Prop:=match d with
 | .pK es=>es=ú6
 | Ú6=>S a=↑(ú (ú6))
 | _=>Ń
theorem zv.strs:∀ ĩ9 Å5,zv ŋ (ú6) xs->xs=ss.map ŕ5
 | [],xs,h=>ģ4
 | n::ns,xs,h=>by
  ext Ą6;rw[zA6,zv.strs h3]
theorem eU.sq ř Ö3 ī4 ĩ9 č6 (h:eU d S ss):∃ a,v=Ú6/\yB ŋ a é3:=by
 unfold eU at h;ext ď7
 .subst h;ext Æ6;let#[a,xs,r1,r2,r3]:=r;rw[r3.strs] at r2;show#[a,r1,r2.sq]
 .rename_i a;ext Æ6;let#[xs,x1,x2]:=p a _ h;rw[x2.strs] at x1;show#[a,r,ē (ē x1)]
 ext Å4
end
end L3
namespace L5
open Ķ â L2 L3
open É hiding St
def ju:ç->Â (Ö)
 | []=>↑[]
 | ß s::ts=>(ju ts).map (s::·)
 | ÃX=>none
theorem XH:∀ Ê1 ĩ9,ju ts=↑ss->ts=ss.map T.str
 | [],ss,h=>Ĭ0
 | Ĝ4,ss,h=>by
  cases t with
  | str s=>
   let#[r,h1,rfl]:=Þ3 h;rw[XH h1];rfl
  | _=>cases h
theorem Zy ř:∀ ĩ9 ù,zo S ĕ4 ds->ds=ú6
 | [],ds,h=>Äf
 | s::ss,ds,h=>by
  rw[zA6] at h;simp![zo,Sn] at h;let#[d,r,rfl,rfl,h3]:=h;rw[zA6,Zy h3]
def Vw.strs ř{Z:ŝ}ĩ9 Ö3(h:Vw S Z (ú ĕ4) d):eU d S ss:=by
 rcases h with h | ⟨ts,p,ds,e,rfl,h1,h2,_⟩ | ⟨_,_,_,_,e,_⟩
 .ext Ĭ9;ext Ät;have e:=Zy h2;subst e;rcases h1 with ⟨rfl,_⟩ | ⟨a,rfl,h3⟩
  .rfl
  .show (nE h3).2
 .cases e;rw[Zy h2] at h1;show h1
 .cases e
end L5
namespace L2
open Ķ â É
section
variable {ď5}
variable {þ}
def Inv.FH į6 é6 ĺ Ħ Å5 į (h:ť3):Ġ6 Ā9 "tuple"/\∃ o,Þ a=↑o/\Ł5:=by
 let#[_,_,#[o,ho,hc,_],_]:=Ò7 h;exact#[#[o,ho,hc],?_];ext Ī1
 .show (h.ok I.zM).1.2
 .show#[o,I.vo a o hk,hc.2]
end
end L2
namespace L2
open Ķ â É
section
variable {Ó7}{Ä5}{ď5}
theorem QZ Ľ7 ĩ9{k:Str}{t:Tok}û0{Q:į2->ŉ}{body:Nat->į2->Sem (ForInStep (į2))}
  (hb:∀ ċ y,its[i]?=↑y->body i (none,ì8)=eqBool y (ß k t) >>= λ e=>if e=true then retInt (i:Int) >>= λ r=>pure (ForInStep.done (↑r,ì8)) else pure (ĥ7 (none,ì8)))
  (hi:Vals é3 Ř2) (hk:k∈ss) (h:Q (↑ ż2,ì8) { s with toks:=Œ+1 }):
  ∀ (m i:Nat),i+m=ss.length->i<=Ļ1->î Î (forIn (List.range' i m 1) ((none,ì8):į2) body) Í6
 | 0,i,h1,h2=>by have:=ÀE;lia
 | m+1,i,h1,h2=>by
  have hl:=hi.length;rw[zA7] at hl;have hil:i<its.toList.length:=⋯;let#[s',u,e0,hu]:=Tq hi i _ (zA1 hil);have hy:its[i]?=↑(ß s' u):=by rw[<- zD3,zA1 hil,hu]
  rw[List.range'_succ,zd4];exact ő0;rw[hb È hy];exact zeS (SeqAt.EqAt.str_str s' u k t Í3 È ?_);have hlt:=ÀE;have es:ss[i]'⋯=s':=by
   rw[zA1 ⋯] at e0;cases e0;rfl
  by_cases e:s'=k
  .have ei:Ļ1=i:=by
    rcases zcC i (Ļ1) with q | q
    .have:=List.not_of_lt_findIdx (p:=(· == k)) (xs:=ss) (i:=i) q;simp at this;show ŗ (es.trans e) this
    .lia
   rw[í (ė9)];exact zeS (zeS (wpAny_mkInt (zD1 ŵ1)));rw[ei] at h;show h
  .rw[à (ė9)];exact zD1 (QZ hb hi hk h m ü8 ⋯ ?_);rcases zcC i (Ļ1) with q | q
   .lia
   .have ei:i=Ļ1:=⋯;exact ŗ ?_ e;rw[<- es];subst ei;show List.getElem_idxOf hlt
def LJ Ģ0 Ŗ4 Ço Ë0 ĩ9{k:Str}{t:Tok}û0 ÀV(ho:Þ l=↑o) (hd:Ő2=Ř0) (hi:Vals é3 its) (hk:k∈ss)
  (h:P ż2 { s with toks:=Œ+1 }):î Î (Builtin.«tuple.index» #[[Ä l,ß k t],[]]) P E s:=by
 unfold Builtin.«tuple.index»;ext Ã3
 wp_walk using ő3 ho
 rw[hd];exact zD1 À7;exact zeS (m:=pure 0) À7;exact zeS (m:=pure Ð1) À7;exact ő0;rw[Nat.min_self,Std.Legacy.Range.forIn_eq_forIn_range'];have hl:=hi.length;rw[zA7] at hl;exact QZ (its:=ĕ) (t:=t) (λ i y h=>by rw[h]) Ċ8 hk ?_ _ 0 ?_ Ĝ3
 .show zD1 h
 .simp[Std.Legacy.Range.size];lia
variable {þ}
def Rx ñ:æ1:=λ x vs H Q=>∃ (l:Addr) (ns:Ö) (k:Str),x=Ä l/\vs=[ß k]/\yC ŋ l (Ę7 ŕ5)/\k∈ns/\Q ŕ6 H
def F_:kJ X "tuple.index" (Rx X.K):=by
 ext Ž;let#[l,ns,k,rfl,rfl,hq,hk,q]:=h;ext ĸ1;let#[t,rfl]:=ru;let#[its,r,#[o,ho,hc,n,hd],_]:=ÄV;show zf0 F.slot_tuple_index #[o,ho,hc] F.entry_tuple_index (LJ ho hd r hk #[_,rfl,ÆI]) (F.args_tuple_index_2 È)
def Kt ñ (to:TE) Çl:TE:=fun σ H Q=>to Ň λ x H1=>(∃ p,x=Â1/\∃ xs,yC K H1 p xs)/\t Ĉ9 λ xs H2=>Rx K x xs H2 Q
variable {o e:Expr}{to:TE}{t:TA}{Ė0}
def HD ţ2 (ha:PA X [e] t)
  (ÂV:À5 o "index" û3=ĸ:=by rfl)
  (hfew:þ6:=by rfl)
  (hline:È9=true:=by rfl) (hs:Ĥ1:=by rfl) (hplain:zEB X cpos []:=by rfl):
  PE X Ŷ2 (Kt X.K to t):=by
 ext č;exact zfA Š rfl (zI ž0 λ v s1 #[x,H1,I1,r1,#[p,e1,xs,sq],q1]=>?_);subst e1;cases r1;let#[h1,h2]:=I1.FH sq;exact#["tuple","tuple.index",PySem.F.plainAttrs_tuple,F.slot_tuple_index,F.type_tuple_index,h1,λ a e=>by cases e;show h2,?_];have hA:=ha cpos ã5;rw[hs] at hA ⊢;exact ô0 (by change (Ç||(ğ0 cpos (Ū [] Ë)).any đ)=Ç;rw[hplain] <;> rfl) (ÿ3 ?_);show zI hA λ us s2 #[vs,H2,I2,r2,q2]=>F_ î0 ó9 vs ó9 us Q I2 rfl r2 q2
end
end L2
namespace L3
open Ķ â L2
open É hiding St
section
variable {þ}{o e:Expr}{Ŝ6}{Ė0}
def O8 (to te:zA):zA:=fun L S Q=>to L S λ x S1=>∃ ns:Ö,x=ŀ (Ę7 D.str)/\te ŭ5 λ y S2=>∃ k,y=ß k/\k∈ns/\Q ŕ6 S2
def tN É3 É2
  (ÂV:À5 o "index" û3=ĸ)
  Á:
  PD X Ŷ2 (O8 to te):=by
 exact#[fun L S Q Q' hq z=>Ħ3 Ŧ (λ x S1 #[ns,h1,h2]=>#[ns,h1,ĥ9 Ý8 (λ y S2 #[k,h1,h2,h3]=>#[k,h1,h2,ŵ5]) h2]) z,ã8 (HD ÅX Ī6) ĝ];ext ś7;let#[ns,rfl,h1]:=h1;have q1':=q1;ext Ü4;let#[a,xs,rfl,sq,rd]:=q1;cases rd.strs;exact#[#[_,rfl,_,sq],?_];exact Ø6 ĥ9 Â8;let#[k,rfl,g3,g4]:=h2;have q3:=Į5 e2 _ q1';simp![zj] at q2 q3;subst q2;let#[b,xs2,eb,sq2,rd2]:=q3;cases eb;cases rd2.strs;show#[a,ns,k,rfl,rfl,sq2,g3,g4 _ H2 (Ø) (Ä9) p2]
end
end L3
namespace L5
open Ķ â L2 L3
open É hiding St
def bD:Å1
 | ā9,ß k=>(ju ts).bind λ ns=>if k∈ns then ↑ ŕ6 else none
 | _,_=>none
def qy {fa fb:zEO}î1 Ã6:wt (zc bD fa fb) (O8 Ù9):=λ S Z L J y Q hE e hq=>by
 unfold zc at e;ext Ŋ1;unfold bD at e;ext ġ8
 .let#[ns,i1,i2]:=Ċ;split at i2
  .rename_i hk;cases i2;have ei:=XH i1;subst ei;exact ha ŗ4 ĉ;let#[ds,rfl,r3]:=Vw.tup r1;cases Zy r3;exact#[ns,rfl,hb å5 È (Æc) e2 Ē8];cases r2.str;show#[_,rfl,hk,hq ÃF (ĺ2 ć oZ)]
  .cases i2
 .cases e
end L5
namespace L2
open Ķ â É Builtin Ũ6
section
variable {Æ}{ź4}{t u:Tok}
def KI Ð9(hy:(ĕ1 == 0)=Ç) (hsz:ñ0<=Ê) (hsz2:(į3 x (ŕ7) ĕ1).length<=Ê)
  (hq:∀ (l:ŕ8) ã0,l.map đ=Txt.split x y->Q ä3 { s with heap:=ŉ0,toks:=k }):
  î Î (call (ū "str.split") [ß x t,ß y u]) Í6:=by
 cases h1:Ŏ9
 .cases hf:(ŕ7).isEmpty
  .exact å2 Ŀ0 (meets_str_split_sep x y t u h1 hy hf hsz hsz2) ?_;change wants Q E _ { s with toks:=_,heap:=è { cls:=Á9,data:=Ġ0 (strsFrom Œ (į3 x (ŕ7) ĕ1)).toArray } };rw[strsFrom_eq];show Ó9
  .show å2 Ŀ0 (meets_str_split_not_found x y t u h1 hy hf)
    ă5
 .show å2 Ŀ0 (meets_str_split_cannot_occur x y t u h1)
   Âe
theorem X3:∀ (l:ŕ8),Vals ((l.map đ).map ŕ5) (ÆJ)
 | []=>Á5
 | (_,t)::l=>Ī ž9 (X3 l)
theorem TZ:∀ {xs:Ö}Ð3,Vals (ť ŕ5) us->∃ l:ŕ8,us=ÆJ/\l.map đ=xs
 | [],_,Á5=>#[[],rfl,rfl]
 | Åf,_,Ī #[t,e] h=>by
  let#[l,rfl,rfl]:=TZ h;show#[(x,t)::l,by rw[e];rfl,rfl]
variable {þ}
def eB ŷ5:Prop:=ń4 ≠0/\ë8<=Ê/\(į3 a (ú7 a b 0 ë8 (ë8+1)) ń4).length<=Ê/\(Txt.split a b).length<=Ê
def Rm:æ1:=λ x vs H Q=>∃ a b,x=ß a/\vs=[ß b]/\eB a b/\∀ l,ĩ0->Q Ø1 (upd H l (ú (Ć5 ŕ5)))
theorem Qs:kJ X "str.split" Rm:=by
 ext Ž;let#[a,b,rfl,rfl,#[h1,h2,h3,h4],q]:=h;ext ĉ8;exact KI ÂB h2 h3 λ l k e=>?_;exact#[ŝ5,_,ċ5 (t':=k) (o:=ú (Ć5 ŕ5)) Ķ3,rfl,Ĺ4]
def rJoin ñ:æ1:=λ x vs H Q=>∃ a p texts,x=ß a/\vs=[Â1]/\yB ŋ p (texts.map ŕ5)/\JoinOk a texts=true/\Q (ß (Txt.join a texts)) H
def FZ:kJ X "str.join" (rJoin X.K):=by
 ext Ž;let#[a,p,texts,rfl,rfl,hq,zM,q]:=h;ext È3;let#[_,rfl,e]:=rv.one;cases e;let#[its,r,pl,_]:=ÁA;let#[l,rfl,hl]:=TZ r;show SC.join í2 hl zM ĵ0
def Rj:æ1:=λ x vs H Q=>∃ a b,x=ß a/\vs=[ß b]/\Q ī1 H
def FW:kJ X "str.startswith" Rj:=by
 ext Ž;let#[a,b,rfl,rfl,q]:=h;ext ĉ8;show SC.startswith ä5
end
end L2
namespace L3
open Ķ â L2
open É hiding St
section
variable {þ}{ģ}{o e:Expr}{Ô7}{to:zA}{é7}{Ė0}{name:Str}{id:ý5}
def nW (f:xP) (to:zA) (tA:y9):zA:=fun L S Q=>to L S λ x S1=>(∃ y,x=ß y)/\tA ŭ5 λ ds S2=>f (x::ds) S2 Q
def nW.mo {f:xP}Ÿ8 (ho:yE to) (ha:nY tA):yE (nW f to tA):=fun L S Q Q' hq z=>ho Ŧ (λ x S1 #[h1,h2]=>#[h1,ha ÇL]) z
theorem Sy {f:xP}{r:æ1}Ÿ8 (hr:oV K f Âf) (ho:yE to) (ha:nY tA) Çs É5 č0 (hu:zZ K (nW f to tA) Ņ8):gs K "str" r (zZ K to) (wW K tA) Ņ8:=by
 ext Í;exact Ø6 ho á6 õ;let#[#[y,rfl],h2]:=h1;ext Ĳ2;exact#[rfl,wW.go ha (Ō) p1 h2 λ ds S2 xs H2 g q2 e2 p2=>?_];let#[x,rest,e,k]:=hr (ß y::xs) (ß y::ds) H2 S2 Q (Ī (Ø) q2) p2 (hf ô1 (λ d S h=>h.ext (Ä9)) g);cases (e);show k
def cX {f:xP}{r:æ1}(slot:Slot "str" name id) ĉ3 Ÿ8
  (hr:oV X.K f Âf) É3 Ã5
  Ú:
  PD X Ãn (nW f to tA):=by
 exact#[fun L S Q Q' hq z=>Ħ3 Ŧ (λ x S1 #[h1,h2]=>#[h1,à8 ÇL]) z,ã8 (ZK ď3 slot hty hm ÅX Ãb ã3) (Sy hf hr Ħ3 à8)]
def lH:xP:=λ ds S Q=>∃ a b,ds=ġ4/\eB a b/\∀ l,Áj->Q Ø1 (ups S l (ú (Ć5 D.str)))
def lH.mo:pM lH:=λ ds S Q Q' hq #[a,b,h0,h1,h2]=>#[a,b,h0,h1,λ l hl=>hq È (h2 l hl)]
theorem zv.eN ĺ:∀ (xs:Ö),zv ŋ (ť D.str) (ť ŕ5)
 | []=>by simp[zv]
 | Åf=>by rw[zA6,zA6];show Ī (Ø) (zv.eN xs)
def lH.fits:oV K lH λ xs H Q=>∃ x rest,Ļ2/\Rm Ŏ0:=λ xs ds H S Q h0 h2 h=>by
 let#[a,b,rfl,ok,h]:=h;ext Ą5;exact#[_,_,rfl,a,b,rfl,rfl,ok,λ l hf=>?_];have hx:Ext H (upd H l (ú (Ć5 ŕ5))):=ŵ3;show ē6
def iD:xP:=λ ds S Q=>∃ a d ss,ds=[ß a,d]/\eU d S ss/\JoinOk a ss=true/\Q (ß (Txt.join a ss)) S
def iD.mo:pM iD:=λ ds S Q Q' hq #[a,d,t,h0,h1,h2,h3]=>#[a,d,t,h0,h1,h2,ŵ5]
def iD.fits:oV K iD λ xs H Q=>∃ x rest,Ļ2/\rJoin K Ŏ0:=λ xs ds H S Q h0 h2 h=>by
 let#[a,d,ss,rfl,h3,ok,h]:=h;let#[x,y,rfl,q1,q2]:=h0.two;ext Ĳ2;let#[p,rfl,sq]:=eU.sq q2 h2 h3;show#[_,_,rfl,a,p,ss,rfl,rfl,sq,ok,Ų1]
def ky:xP:=λ ds S Q=>∃ a b,ds=ġ4/\Q ī1 S
def ky.mo:pM ky:=λ ds S Q Q' hq #[a,b,h0,h1]=>#[a,b,h0,hq È h1]
def ky.fits:oV K ky λ xs H Q=>∃ x rest,Ļ2/\Rj Ŏ0:=λ xs ds H S Q h0 h2 h=>by
 let#[a,b,rfl,h]:=h;ext Ą5;show#[_,_,rfl,a,b,rfl,rfl,Ų1]
def uM É3 ò8
  Ģ6
  Á:
  PD Ŀ1:=
 cX ñ5 Qs lH.mo lH.fits ho ha ã3
def tF É3 ò8
  (ÂV:À5 o "join" û3=ĸ)
  Á:
  PD X (À4 (Ĕ o "join" apos) [e] û7) (nW iD to tA):=
 cX PySem.F.slot_str_join PySem.F.type_str_join FZ iD.mo iD.fits ho ha ã3
def uK É3 ò8
  Ź7
  Á:
  PD X (À4 (Ĕ o "startswith" apos) [e] û7) (nW ky to tA):=
 cX ÆK ÆL FW ky.mo ky.fits ho ha ã3
end
end L3
namespace L5
open Ķ â L2 L3
open É hiding St
@[simp] def xM ÇE (g:zEO) (u:ĥ):zEO:=fun J=>í7 λ x=>match x with
 | ß y=>(u J).bind λ xs=>F (ß y::xs)
 | _=>none
def qc ç2 [Cl R] ÀZ{f:xP}{g:zEO}{u:ĥ}{tg:zA}{tu:y9}(hf:pS R F f) (hg:yU g tg) (hu:oQ u tu):zT R (xM F g u) (nW f tg tu):=λ S Z L J z Q hE e hq=>by
 ext ö6;cases x with
 | str y=>
  let#[xs,e2,e3]:=Ċ;exact hg ŗ4 ĉ;cases r1.str;exact#[Æ9,hu å5 xs Í8 Ļ3];show hf S2 Z (ß y::xs) z (ß y::ds) Q ġ1 #[_,ds,rfl,ē mD,r2] e3 λ c S' s r=>hq c ņ6
 | _=>cases e
instance zcp ŷ5:ċ8 (eB a b):=by unfold eB;ext ū4
theorem eG ř:∀ (ss:Ö),zo S ĕ4 (ú6)
 | []=>by simp[zo]
 | s::ss=>by
  rw[zA6,zA6];simp![zo,Sn];show#[_,_,rfl,rfl,eG ss]
@[simp] def vF:zLO
 | ġ4=>if eB a b then ↑(ú (Ć5 T.str)) else none
 | _=>none
def qQ:pS zl vF lH:=λ S Z ys z ds Q hz hv e hq=>by
 unfold vF at e;ext ġ8
 .ext ġ8
  .rename_i ok;ext Àc;show#[_,_,rfl,ok,Ũ7]
  .cases e
 .cases e
@[simp] def kY:zLO
 | [ß a,í6]=>(ju ts).bind λ ss=>if JoinOk a ss=true then ↑(ß (Txt.join a ss)) else none
 | _=>none
def q_:pS zl kY iD:=λ S Z ys z ds Q hz hv e hq=>by
 unfold kY at e;ext ġ8
 .let#[ss,e1,e2]:=Ċ;ext đ1
  .rename_i ok;cases e2;cases XH e1;ext Ö1;show#[_,_,ss,rfl,Vw.strs h2,ok,ù8]
  ext ÆT
 .cases e
@[simp] def ez:zLO
 | ġ4=>↑ ī1
 | _=>none
def qO:pS zl ez ky:=λ S Z ys z ds Q hz hv e hq=>by
 unfold ez at e;ext ġ8
 .ext Àc;show#[_,_,rfl,Ç8]
 .cases e
end L5
namespace L2
open Ķ â É Builtin Ũ6
section
variable {þ}
theorem AE:xT X (Ć "str") ò0:=by
 ext Ĳ;let#[i,rfl,hi,q]:=h;let#[_,rfl,t,rfl]:=r.one;exact P.str_of_int ?_ #[ß _,H,Û9,Æ9,q];have h1:i.natAbs<=1000000:=⋯;by_cases h0:i.natAbs=0
 .rw[h0];decide
 .show zcI ((Nat.log2_lt h0).mpr (show i.natAbs<2 ^ 20 by lia)) ()
end
end L2
namespace L5
open Ķ â L2 L3
open É hiding St
section
variable {þ}{ģ}{Ç6}{Ô7}{é7}{ļ6}
def i7:xP:=λ ds S Q=>∃ i:Int,ds=[ö7]/\(Ņ4)/\Q ÀF S
def i7.mo:pM i7:=λ ds S Q Q' hq #[i,h0,h1,h2]=>#[i,h0,h1,hq Çv]
def i7.fits:oV K i7 ò0:=λ xs ds H S Q h0 h2 h=>by
 let#[i,rfl,h1,h]:=h;let#[x,rfl,r]:=h0.one;ext ø7;show#[i,rfl,h1,Ų1]
def uI (hm:X.mg "str"=none) Ã5 (hg:Gl X "str") ô:PD X (À4 (Ĝ "str" p) Ŀ8) (p9 i7 tA):=
 kl (gD AE Ď4 PyProof.Rows.boot_str Ë7) i7.mo i7.fits à8
@[simp] def xB:zLO
 | [ö7]=>if Ņ4 then ↑ ÀF else none
 | _=>none
def qN:pS zl xB i7:=λ S Z ys z ds Q hz hv e hq=>by
 unfold xB at e;ext ġ8
 .ext ġ8
  .rename_i hi;cases e;ext Ä8;cases h1.int;show#[_,rfl,hi,ù8]
  .cases e
 .cases e
def Ct ñ Ô5 (ss:Ö):Prop:=∃ a,ğ7/\Ão
def Cq ñ ņ3 Ô5 (ss:Ö):Prop:=∃ a,mg x=↑ Ā9/\Ão
def tR ũ ĩ9(h:Cq X.K X.mg x ss) Ź8 Ñ7:PD È2 (dC (ŀ (ú6))):=by
 let#[a,h1,h2]:=h;show gE (v:=Ú6) (Wu (v:=Ú6) hg h1 rfl hd) λ H=>by
  ext ķ9;show#[a,_,rfl,h2 _,zv.eN _]
end
end L5
namespace L2
open Ķ â É Builtin Ũ6
section
variable {þ}
def nK Ű ă7 (t:TE):Prop:=
 ∀ Ì č0,0<Œ->ÃR
def aJ Ű ă7 (t:TE):Prop:=
 ∀ Ì č0,Ã->t Ņ8->î Å (Ā6) (λ v s'=>s'=s/\∃ x,ĭ7/\Q x H) ē9
def YX Ű Çg Çl:Prop:=
 ∀ (pos:Pos) Ì (Q:Ą->Ĭ),0<Œ->Ą9
def U0 Ű (st:ï5) (t:TS):Prop:=
 ∀ Ì (D:Ends),0<Œ->Ĳ5
def Uz Ű ă7 (t:TT):Prop:=
 ∀ Ì Çj,Ã->t Ņ8->î Å (isTrue e Ë (Ā6)) (λ b s'=>0<s'.toks/\TP ď Q b s') ē9
def Hf È1 ũ ŏ(hN:ć0) (hv:fC è7 x) Ñ7 Â6:aJ ŭ2:=by
 ext ö9;have fin:s=s/\∃ x,Ł3/\Q x H:=#[rfl,v,r,h];ext ķ3
 .show Ġ4
 .rcases hk with hk | hk
  .show ě5
  .show đ5
def RS Ç6 ÀO(ha:nK Ū0) (hs:Ĥ1:=by rfl):YX X [e] (cC te f_):=by
 intro pos gV s σ H Q tk I h;rw[hs];change î È (spliced (Ž6::ğ0 pos (Ū [] Ë))) È s;exact å9 (zI (ha Ü _ tk I h) λ u s1 Ė=>?_);show zI (jB pos ã5) ą5
variable {o e:Expr}{Ô7}{Ĕ5}
def Hk Â9 (ho:nK X o to) ĵ7
  Ú:
  nK á5:=by
 ext ı5;exact zfA Š rfl (zI (ho Ü _ tk I h) Ŏ4);ext ģ3
def Hj Â9 (ho:aJ X o to) (ha:YX X ī t)
  Ú:
  nK á5:=by
 ext ı5;exact zfA Š rfl (zI ž0 λ v s1 #[hs1,x,r1,ty,q1]=>?_);subst hs1;let#[h1,h2]:=X7 I r1 ty;exact ñ8;have hA:=ha cpos gV s1 Ň _ tk I q1;ext ą
section
variable {CX:ka}{Õ7}{Ą8}{ħ8}{ÀQ}{ũ}{p pos:Pos}
def Hi ä7 č2 É9 ĭ1 À8
  (ha:YX X ī t) ı4 ô:
  nK È4 (Zp sp dvs E t):=by
 ext ı5;exact ő2;exact Į0 ļ4 hk (zI (ha pos Ü _ tk I h) Ķ8) Ãy;show Z5 F hr hb hd hx I1 r q
end
def Kh (to:TE) (y z:Str):TE:=fun σ H Q=>to Ň λ x H1=>∃ a,x=ß a/\ë8<=1000000/\Q Ļ4 H1
def Hh Àf(ho:aJ X o to) ï:
  nK X Ě9 (Kh to y z):=by
 ext ı5;exact zfA Š rfl (zI ž0 λ v s1 #[hs1,x,r1,a,ea,la,q1]=>?_);subst hs1;subst ea;ext ÂC;exact#["str","str.replace",ď3,PySem.F.slot_str_replace,PySem.F.type_str_replace,Ĵ7,(Œ1),?_];rw[hs];exact ô0 rfl (ÿ3 ?_);change î È (spliced (æ8::(Ç,eval (ò1) Ë)::[])) Þ6;exact å9 (ĭ5 (å9 (ĭ5 (Ĺ2 ?_))));show SC.replaceW (zcF tk) (Nat.succ_ne_zero _) (Åd) hyz (zE0 la ()) hz λ t' k=>#[ß _,H,(Û9).tok k,#[t',rfl],q1]
def Ii Ç6 ÀO ŏ(he:nK Ū0) (hs:ź3):U0 X [ÄT] (TX te):=by
 intro gV s σ H D tk I h;have h1:î Å (exec (ÄT) Ë) (SP X gV D) ē9:=wpAny_Expr_any (zI (he Ü _ tk I h) Ž8) I.quiet hs;exact ÂO (zI h1 λ f s1 q=>?_);cases f with
 | next=>show zfC q
 | _=>show q
def JZ {y:Str}{j1:Nat}{p1:Pos}ţ2
  ě
  Þ0:
  Uz X (À4 ŕ) (fun σ H Q=>to Ň λ x H1=>∃ a,x=ß a/\Q (Txt.startswith a y) H1):=by
 ext č;exact isTrue_plain ?_ (he _);exact zfA Š rfl (zI ž0 λ v s1 #[x,H1,I1,r1,a,ea,q1]=>?_);subst ea;ext ÂC;exact#["str","str.startswith",ď3,ÆK,ÆL,Ĵ7,(Œ1),?_];rw[hs];exact ô0 rfl (ÿ3 ?_);change î È (spliced (æ8::[])) Þ6;exact å9 (ĭ5 (Ĺ2 ?_));show SC.startswith (zf2 #[Nat.succ_pos _,H1,I1.tok _,q1])
def Ip Ņ9{a b:ï5}{tc:TT}{t u:TS}ŏ(hc:Uz X c tc) (ha:pR X a t) (hb:U0 X b u):ź8:=by
 ext É6;exact wpAny_If (zI (hc ł) λ d s1 #[tk,H1,I1,q1]=>?_);cases d with
 | true=>show ha ļ D I1 q1
 | Ç=>show hb ļ D tk I1 q1
end
end L2
namespace L3
open Ķ â L2
open É hiding St
section
variable {þ}{ģ}{o e:Expr}{Ô7}{Ŝ6}{é7}{apos cpos pos p:Pos}
structure wq Ű ă7 (t:zA):Prop where
 mo:yE t
 pe:nK X e (zZ ÀT)
structure wV Ű ă7 (t:zA):Prop where
 mo:yE t
 pe:aJ X e (zZ ÀT)
structure vc Ű Çg ŉ8:Prop where
 mo:nY t
 pa:YX X es (wW ÀT)
structure vx Ű (st:ï5) (t:xA):Prop where
 mo:kK t
 ps:U0 X st (Zf ÀT)
structure vw Ű ă7 Çw:Prop where
 mo:nj t
 pt:Uz X e (pU ÀT)
def nK.imp {t t':TE}(h:nK Çk) (i:∀ σ H Q,t' Ņ8->t Ņ8):nK X e t':=λ gV s σ H Q tk I hu=>h Ü Q tk I (i Ņ8 hu)
def HP ċ ũ(h:aJ ŭ2) (m:yE ğ4):wV È2 ğ4:=by
 exact#[m,λ gV s σ H Q I hu=>h ũ6 ?_];ext Ő;unfold yM at h;ext ď7
 ext ī9
 ext Å4
def uE (he:wq Ū0) (hs:Ĥ1):vc X [e] (mv te kB):=by
 exact#[fun L S _ _ hq z=>ĥ9 Ŧ (λ x S1 z=>ą6) z,λ q gV s σ H Q tk I hu=>RS he.pe hs q Ü Q tk I ?_];ext Ő;show Ø6 ĥ9 Ý7 h λ x S1 v H1 h1 q1 e1 p1=>h1 [v] H1 (Ī q1 Á5) e1 p1
def Oz (to:zA) (y z:Str):zA:=fun L S Q=>to L S λ x S1=>∃ a,x=ß a/\ë8<=1000000/\Q Ļ4 S1
def uv Àf(ho:wV X o to) ï:
  wq X Ě9 (Oz to y z):=by
 exact#[fun L S _ _ hq w=>Ħ3 Ŧ (λ x S1 #[a,h1,h2,h3]=>#[a,h1,h2,ŵ5]) w,nK.imp (Hh ÅX hyz hz Š hs) ĝ];let#[L,S,r1,r2,w]:=hu;exact Ø6 Ħ3 Ý7 w õ;let#[a,rfl,la,h1]:=h1;ext Ĳ2;show#[a,rfl,la,h1 Ė9]
def uu (ho:wq X o to) ò8
  Ģ6
  Á:
  wq Ŀ1:=
 #[nW.mo lH.mo Ħ3 à8,nK.imp (Hk ď3 ñ5 Qs ÅX Ãb ã3) (Sy lH.mo lH.fits Ħ3 à8)]
def HX ũ Õ7 ß3 č2 (ha:vc X ī tA) É9 ı4
  ô:wq È4 ř8:=by
 ext ţ7;show#[fun L S Q Q' hq z=>à8 Ŧ (λ ds S1 z=>hm ds S1 È hq z) z,nK.imp (Hi (E:=E0) h1 hr hg h2 h3 h4 Á5 cY Ãb hdb Ãy) (OY hm à8)]
def v_ (ho:wV X o to) (he:wq Ū0) (hsw:å7 Û3 none Ô6=ó7)
  ÇB
  Á:
  vx X [.Expr Û3 pos] (dJ ř7):=by
 have hp:nK X Û3 (zZ X.K ř7):=nK.imp (Hj õ4 (RS he.pe hs) ã3) (NN Ħ3 ĥ9);have hm:=lO.mo Ħ3 ĥ9;exact#[λ E E' L S hE z=>hm Ŧ (λ _ _ q=>hE.nx È q) z,λ gV s σ H D tk I hu=>Ii hp hsw Ü D tk I ?_];ext Í;show Ø6 hm á6 ň3
def vK {y:Str}{j1:Nat}{p1:Pos}É3
  ě
  Þ0:
  vw X (À4 ŕ) (V4 ÆM):=by
 have hm:yE ÆM:=nW.mo ky.mo Ħ3 fun L S _ _ hq z=>ą6
 exact#[fun L S Q Q' hq h=>hm Ŧ (λ x S1 z=>ma.mo hq z) h,λ gV s σ H Q I hu=>JZ ÅX Š hs he ũ6 ?_];ext ś7;let#[#[a,rfl],a',b,e2,h2]:=h1;cases e2;ext Ü4;show#[a,q1,h2 ĉ4]
def uk Ņ9{q r:ï5}{tc:xx}{t u:xA}(hc:vw X c tc) (h:xl X q t) (h':vx X r u):zr X (.If c q r pos) (mZ tc t u):=by
 exact#[ñ9,Š1 (Ip hc.pt h.ps h'.ps) Ó1];ext Í;exact pU.go hc.mo á6 ċ9
 .show ÁI
 .show ſ6
end
end L3
namespace L5
open Ķ â L2 L3
open É hiding St
@[simp] def Wa (y z:Str) (g:zEO):zEO:=fun J=>í7 λ x=>match x with
 | ß a=>if ë8<=1000000 then ↑ Ļ4 else none
 | _=>none
def qg {y z:Str}{g:zEO}{tg:zA}(h:yU g tg):wt (Wa y z g) (Oz tg y z):=λ S Z L J w Q hE e hq=>by
 ext ö6;cases x with
 | str a=>
  dsimp only at e;ext ġ8
  .rename_i hl;cases e;exact h ŗ4 ĉ;cases r1.str;show#[a,rfl,hl,hq ŗ1 (ĺ2 ć mD)]
  .cases e
 | _=>cases e
end L5
namespace L2
open Ķ â É
section
variable {Æ}
def BJ {l b:Addr}{ā1:zAV}Ë0 Ço{Åi:zAV}{n2:Nat}ÀV(hl:Þ l=↑{ cls:=Á9,dict:=none,data:=Ġ0 ā1 n,slots:=ø })
  (hb:Á2) (hc:ÄR) (hd:Ő2=Ġ0 Åi n2) (hz:ý+Ŧ1<=Ê)
  (h:P (.done (.ret Ą3)) { s with heap:=ð9 l (Û0 λ x=>x++Åi) }):î Î (Builtin.«list.extend» #[[Ä l,Ä b],[]]) P E s:=by
 unfold Builtin.«list.extend»;exact zeS (m:=pure (ķ l,ķ b)) À7;change î È (Ó2 Ø1 ő4 Ą3) È s;unfold Ó2;exact zeS (zf7 (T:="tuple") #[o,hb,hc] ?_);rw[ŀ9];exact zeS (œ5 hb hd (zeS (œ5 (xs:=ā1) (n:=n) hl ś6)));have hlong:¬ (! Ņ2&&Û1 (ý+Ŧ1))=true:=by
  rw[Qg hz,zcV];show zc7
 rw[à hlong];show zeS (Ų5 (xs:=ā1) (n:=n) hl rfl (zD1 h) ⋯ (by change (ā1++Åi).size<=Ê+1;rw[Array.size_append];lia))
variable {þ}
def JP ñ:æ1:=λ x vs H Q=>∃ l b xs zs,x=Ä l/\vs=[Ä b]/\ž8/\yC ŋ b zs/\ĳ6
theorem Ea:kJ X "list.extend" (JP X.K):=by
 ext Ï9;let#[its2,r2,#[o,e2,hc,n2,hd],hz2]:=Ò7 hB;have l1:=á8;have l2:=Ű3;exact zf0 PySem.F.slot_list_extend #[_,e,rfl] PySem.F.entry_list_extend (BJ e e2 hc hd (by rw[zA0,zA0];lia) œ6) (PySem.F.args_list_extend_2 È);exact ÿ0;rw[zD7];lia
end
end L2
namespace L3
open Ķ â É L2
section
variable {þ}{e o:Expr}{te to:zA}{Ė0}
def fu (to te:zA):zA:=fun L S Q=>to L S λ x S1=>match x with
 | Â1=>Ŧ6/\te ŭ5 λ y S2=>∃ ds es,y=ŀ es/\S2 p=↑ Þ9/\Âd
 | _=>Ń
def fu.mo ì2:yE (fu to te):=fun L S Q Q' hq z=>h Ŧ (λ x S1 z=>by
 cases x with
 | ref p=>show#[z.1,h' Ý8 (λ y S2 #[ds,es,a,b,c,w]=>#[ds,es,a,b,c,hq È w]) z.2]
 | _=>show z) z
def tm É3 É2
  ÇK
  Á:
  PD X ŭ1 (fu to te):=by
 exact#[fu.mo Ħ3 ĥ9,ã8 (ZK ă3 Ea ÅX Ī6) ĝ];ext ś7;cases x with
 | ref p=>
  ext Â5;exact Ø6 ĥ9 Â8;let#[ds',es,rfl,b1,b3,b4]:=h2;simp![zj] at q2;let#[q,ys',rfl,g5,g6]:=q2;let#[xs',g3,g4]:=p2 È b1;ext À9
 | _=>show ą8
end
end L3
namespace L5
open Ķ L2 L3
@[simp] def bW ċ á7:Sm:=fun J=>match Ĵ1 with
 | Ö2=>Á3 λ y=>match y with
  | ŀ us=>ĝ3
  | _=>none
 | _=>none
def sS ç2 Ð0 ċ Ě5:yy R (bW i f) (dJ (fu ğ4 te)):=λ S0 Z0 S Z L J o E F e P=>by
 unfold bW at e;ext ġ8
 .ext œ1
  .rename_i us;ext đ1
   .ext ř0;ext Ô4;obtain⟨ds,rfl⟩:Š4:=by
     cases ob with
     | lst ds=>show ŧ8
     | _=>show ŧ5
    ext ŏ8;change fu ğ4 te L S _;unfold fu yM;ext Ť5;let#[es,rfl,g4]:=r1.tup;have F1:=Ă0;exact#[ds,es,rfl,s1 Çv,Èl,æ7]
   ext ÆT
  ext ÆT
 .cases e
@[simp] def dM (ss:Ö):zEO:=λ _=>↑(ŀ ĕ4)
def qE (ss:Ö):wt (dM ss) (dC (ŀ (ú6))):=λ S Z L J y Q hE e hq=>by
 cases e;show hq _ ę (ĺ2 ć (kT (eG ss)))
end L5
namespace L3
open Ķ â L2
open É hiding St
section
variable {þ}{Ç6}{Ô7}{é7}{ļ6}
def zh ċ ũ Ē Â6:PD È2 ğ4:=RK i (pv i Ū9)
def sf ũ{k k':Nat}ß3 ó6 Ã5 Ŀ2 É9 ı4
  ô:PD È4 ř8:=Gi F Âg ha hg hdb Ãy
end
def dD {N P:Ö}{sc:Ž7}(h1:sc.kind=Ę1:=by rfl) (h2:sc.isCoroutine=Ç:=by rfl) (h3:sc.isGenerator=Ç:=by rfl) (h4:N.Nodup:=by ext Ĳ1) (h5:N.take P.length=P:=by rfl) (h6:∀ x∈P,Ŋ7:=by ext Ĳ1) (h7:∀ y∈sc.names,y.2≠ ě3:=by ext Ĳ1):oU N P sc:=#[h1,h2,h3,h4,h5,h6,h7]
section
variable {þ}{Ç6}{Ô7}{é7}{ļ6}
def zg ċ ũ Ē Â6:wV È2 ğ4:=
 HP i (Hf Ū9) (RK i (Ws (pos:=pos) Ū9)).mo
def uw ũ{k k':Nat}ß3 ó6 (ha:vc X ī tA) Ŀ2 É9 ı4
  ô:wq È4 ř8:=HX F Âg ha hg hdb Ãy
end
end L3
namespace L5
open Ķ â L2 L3
open É hiding St
theorem Ct.mk ģ{mg:zSV}Ï8 ũ ĩ9(H:Ct K x ss) Å0:Cq K mg x ss:=by
 let#[a,h1,h2]:=H;let#[u,e1,e2]:=Cn.mk (t:=Ú6) #[Ú6,h1,rfl] X G;cases e2;show#[a,e1,h2]
def Ct.i ģ ũ ĩ9 Ħ Ço Ľ7 Ë0(h1:ğ7) õ8:Ct K x ss:=#[a,h1,ķ1]
end L5
namespace L3
open Ķ L2
def ud þ ŏ ź4 ß8 é7{px py pt pt2:Pos}{kt k2} ò4 ĕ9 ÃD ś0 ă
  ŷ8
  (hw:ł2 Ŋ Ë=pure ↑ Ĳ8)
  (hs:ł1 Ŋ Ô6=ó7):
  zr X (ą3 Ŋ pos) (vt (V9 tA) (i4 2 (bH ù5 (bH (hName j) Ym)))):=by
 exact#[vt.mo (v5 (pos:=pt2) (k:=k2) ha).mo ?_,Š1 (Io hc hN hi hj hij hx hy Ãb hw hs) Ó1]
 .intro d L S Q Q' hq z;cases d with
  | tup ds=>
   match ds,z with
   | ð6,#[h,_,q]=>show#[h,rfl,hq È q]
  | _=>show ű6
 .ext Í;exact wW.go à8 Ï2
  match ds,h1 with
  | [d,e],#[_,_,h3,h4]=>
   simp![zv] at q1;let#[v,_,rfl,qa,w,_,rfl,qb,rfl]:=q1;show#[v,w,rfl,h4 _ H1 (((Ō).set i qa).set j qb) e1 p1]
end L3
namespace L3
open Ķ â L2
open É hiding St
def lV ñ:Prop:=∃ C,ċ7/\l_ K C/\iW K C "kept"
def kN.eq ģ{c:Str}{C D:Addr}(h1:kN K c C) (h2:kN K c D):C=D:=by
 unfold kN at h1 h2;rw[h1] at h2;cases h2;rfl
def _root_.L2.Inv.Wb þ Ð Ħ{u v:HO}į (e:H a=↑u) (mu:dZ ↑u) (he:∃ o,Þ a=↑o) (h:wu Ĉ (upd H a v) ó a v):Inv ď (upd H a v) s:=
 I.write (x:=a) (e:=a) (h':=ó) (t':=Œ) (by rw[e];show mu) (Ď7) (λ b q _ z=>z) he h
def Vg æ ĺ Ï8 Ħ Ģ1(x:wu ġ6 Þ2):∃ o,Ő1:=by
 ext Þ4;show#[o,e]
theorem Ext.ins ĺ{p C dx:Addr}{fs:Đ0}(h:H p=↑ è8) (o:HO):Ĺ7:=
 Î8
theorem Ext.dS ĺ{p x:Addr}{kvs us:Ņ}(h:H p=↑(.dS x kvs)):Ext H (upd H p (.dS x us)):=
 #[λ b ys q=>å,λ b ob u q=>å,λ b u q=>å,λ b y u q=>by
  by_cases z:b=p
  .subst z;rw[h] at q;cases q;show#[us,yO]
  .show#[u,by rw[yA z];show q]]
def jh.Qk ģ ĺ{a x:Addr}{o:O}{vs:Ņ}(h:jh ŋ a o) (e:H a=↑(.dS x vs)):Ń:=by
 cases o with
 | lst ds=>ext ÇZ
 | xw ds=>ext ÇZ
 | il=>let#[_,_,_,h]:=h;rw[h] at e;cases e
 | zF ds=>let#[_,_,_,_,_,h,_]:=h;rw[h] at e;cases e
def yv.iJ ģ ò6 ř ß1{o:O}(r:Ó0) ħ9 (k:∀ b u,b≠p->(∀ vs,u≠.dS p vs)->H b=↑u->H' b=↑u) (hn:jh K H' p o):yv K H' (L3.ups S p o):=λ a o' h=>by
 by_cases ha:a=p
 ext Èg
 .rw[kQ ha] at h;have q:=r a o' h;exact q.keep e (λ u z=>k a u ha (λ vs y=>by subst y;show q.Qk z) z) λ b vs z=>k b _ ?_ (λ us y=>by cases y;show ha rfl) z;rintro rfl;cases hs:S b with
  | none=>
   cases o with
   | lst ds=>ext Èc
   | xw ds=>ext Èc
   | il=>let#[_,_,_,h]:=hn;ext ü3;cases y
   | zF ds=>let#[_,_,_,_,_,h,_]:=hn;ext ü3;cases y
  | some o2=>show (r b o2 hs).Qk z
section
variable {þ}{o ie v:Expr}{i j k:Nat}{pos pos' ap:Pos}
def O4 ċ:xA:=λ E L S=>∃ p,Ì7/\S p=↑.il/\E.nx L Ŷ3
theorem HV Âv (hs:å7 į4 ↑(Ă4) Ô6=ó7):zr X (ą3 [Ă4] į4 pos) (O4 i):=by
 exact#[λ E E' L S hE #[p,h1,h2,h3]=>#[p,h1,h2,hE.nx È h3],λ gV s σ H D I hu=>?_];let#[L,S,r1,r2,p,h1,h2,h3]:=hu;let#[C,dx,g1,g2]:=r2 Çv;let#[C',c1,c2,c3]:=hk;cases g1.eq c1;let#[w,w1,w2]:=r1.2 i _ h1;simp![zj] at w2;subst w2;exact zI (Iu ho RJ hs Ü { D with nx:=fun σ' H'=>σ'=σ/\∃ q,H q=none/\H'=upd Č6 p Ý5 } I ?_) λ f s' z=>?_
 .intro q hq;ext Ť3
  show#[Â1,w1,p,C,dx,[],rfl,ÂF,c2,c3,(),rfl,q,hq,rfl]
 .cases f with
  | next=>
   let#[σ',H',I',rfl,q,hq,rfl]:=z;ext Ť3
   have hqq:upd Č6 p Ý5 q=↑ Äe:=by rw[yA npq.symm,yO]
   have I2:=I'.Wb (v:=.dS p []) hqq Ò9 (Vg (I'.zM q _ hqq)) (I'.zM q _ hqq);have e1:Ext H Č6:=.new hq _;have e2:Ext Č6 (upd Č6 p Ý5):=.ins (ÂF) _;have e3:=ê6 (Ext.dK hqq (.dS p []));exact#[σ',_,I2,h3 σ' _ (r1.ext e3) e3 (r2.iJ e3 (λ b u hb hu z=>?_) #[C,dx,q,[],g1,?_,yO,Á5])]
   .have nbq:b≠q:=λ y=>by subst y;rw[z] at hq;cases hq
    rw[yA nbq,yA hb,yA nbq];show z
   .rw[yA npq,yO]
  | ret u=>show z
  | _=>show z
def O5 (i j k:Nat):xA:=λ E L S=>∃ p m x d,Ì7/\ó2/\ÀG/\L[k]?=↑↑d/\Äc<Ê/\E.nx L (ups S p (.zF (putD m Ğ9 d)))
def HW Ë0 Ò3 (hv:PE X v (nP k)) Ŀ3
  (hs:å7 v ↑(ŭ (Ă4) ie pos') Ô6=ó7):zr X (ą3 [ŭ (Ă4) ie pos'] v pos) (O5 i j k):=by
 exact#[λ E E' L S hE #[p,m,x,d,h1,h2,h3,h4,h5,h6]=>#[p,m,x,d,h1,h2,h3,h4,h5,hE.nx È h6],λ gV s σ H D I hu=>?_];let#[L,S,r1,r2,p,m,x,d,h1,h2,h3,h4,h5,h6]:=hu;ext þ9;cases g1.eq c1;ext Û8;let#[t,t1,t2]:=r1.2 k _ h4;ext Ň0;have npq:p≠q:=λ z=>by subst z;rw[g2] at g3;cases g3
 have kq:wu Ĉ (upd H q (.dK vs)) ó q (.dK vs):=I.zM q _ g3;have I1:=I.Wb (v:=.dK vs) g3 Ò9 (Vg kq) kq;exact zI (R8 (dm hr) (Wv ho hb) hi hv hs gV s σ _ { D with nx:=fun σ' H'=>σ'=σ/\H'=upd (upd H q (.dK vs)) q (.dK ÆN) } I1 ?_) λ f s' z=>?_
 .show#[t,t1,Â1,w1,p,C,dx,_,Ä q,rfl,ÂF,c2,c3,rfl,Ő0,y1,q,_,rfl,cu.k (k:=Ĳ3 x) yO (by rw[<- g4.len];show h5),rfl,rfl]
 .cases f with
  | next=>
   let#[σ',H',I',rfl,rfl]:=z;have I2:=I'.Wb (v:=.dS p ÆN) yO Ò9 (Vg (I'.zM q _ yO)) (I'.zM q _ yO);rw[T3,T3] at I2;have e3:Ext H (upd H q (.dS p ÆN)):=.dS g3;exact#[σ',_,I2,h6 σ' _ (r1.ext e3) e3 (r2.iJ e3 (λ b u hb hu z=>?_) #[C,dx,q,_,g1,?_,yO,(xZ.put g4 _ t2).ext e3])]
   .rw[yA (λ y=>by subst y;rw[g3] at z;cases z;show hu _ rfl)];show z
   .rw[yA npq];show g2
  | ret u=>show z
  | _=>show z
def Oq ģ ĺ ř ß1{m:Æ0}(r2:Ó0) (h2:ó2) (hk:lV K) Ô5:∃ C dx q o,H p=↑ Ý5/\l_ K C/\iW K C "kept"/\lZ H q (Ő0) o/\(vz m Ğ9=none/\o=none\/∃ d u,vz m Ğ9=↑d/\o=↑u/\zj ŋ d u):=by
 ext þ9;cases g1.eq c1;exact#[C,dx,q,xU vs Ğ9,g2,c2,c3,ē #[vs,ħ x,ħ #[p,g3],rfl,rfl],?_];rcases xZ.val g4 Ğ9 with ⟨n1,n2⟩ | ⟨d,u,n1,n2,n3⟩
 .show ē #[n1,n2]
 .show ħ #[d,u,n1,n2,n3]
def O7 ħ3:zA:=fun L S Q=>∃ p m x d,Ì7/\ó2/\ÀG/\vz m Ğ9=↑d/\Q d S
def tE Ë0 Ò3 Ŀ3 (hs:fL ie):PD X (ŭ (Ă4) ie pos) (O7 i j):=by
 exact#[fun L S Q Q' hq #[p,m,x,d,h1,h2,h3,h4,h5]=>#[p,m,x,d,h1,h2,h3,h4,hq È h5],ã8 (Ww (dm hr) (Wv ho hb) hi hs) ĝ];let#[L,S,r1,r2,p,m,x,d,h1,h2,h3,h4,h5]:=hu;ext Û8;ext Ň0;obtain⟨C,dx,q,o,g1,g2,g3,g4,⟨n1,_⟩ | ⟨d',u,n1,rfl,n3⟩⟩:=Oq r2 h2 hk x
 .rw[h4] at n1;cases n1
 .rw[h4] at n1;cases n1;show#[Â1,w1,p,C,dx,_,Ä q,rfl,g1,g2,g3,rfl,Ő0,y1,q,u,rfl,g4,h5 u H n3 Ĺ r2]
def O6 ħ3:xx:=fun L S Q=>∃ p m x,Ì7/\ó2/\ÀG/\Q (! ÀH) S
def vR Ë0 Ò3 Ŀ3 (hm:Ì4 Ő6 (Ă4)=Ç):zE X (Ì5 ie [Ő6] [Ă4] pos) (O6 i j):=by
 exact#[fun L S Q Q' hq #[p,m,x,h1,h2,h3,h5]=>#[p,m,x,h1,h2,h3,hq È h5],PT.imp (R7 (Gm (dm hr) hi (Wv ho hb)) hm) ĝ];let#[L,S,r1,r2,p,m,x,h1,h2,h3,h5]:=hu;ext Û8;ext Ň0;let#[C,dx,q,o,g1,g2,g3,g4,n]:=Oq r2 h2 hk x;exact#[Ő0,y1,Â1,w1,p,C,dx,_,Ä q,rfl,g1,g2,g3,rfl,q,o,rfl,g4,_,rfl,?_];have:o.isSome=ÀH:=by rcases n with ⟨n1,rfl⟩ | ⟨d,u,n1,rfl,_⟩ <;> rw[n1] <;> rfl
 rw[this];show h5 H Ĺ r2
end
structure fT ĝ9 Ŀ ñ Å8 (m:Str) ã0 Ū1 Çy:Prop where
 ex:∃ (f:Addr) (fd:á9),ou Û xD k Ō5/\Ĝ0/\∃ C,ċ7/\l_ K C/\Meth K C m f
 mo:iX sp
def oj Çy (to:zA) (tA:y9):zA:=fun L S Q=>to L S λ x S1=>∃ p v,x=Â1/\S1 p=↑(.zF v)/\tA ŭ5 λ ds S2=>sp (x::ds) S2 Q
section
variable {þ}{e o:Expr}{to:zA}{pos apos:Pos}{m:Str}{ÇS}{é7}{Ô7}{Õ7}{ħ8}{ņ1}
def oj.mo (h1:yE to) (h2:iX sp) (h3:nY tA):yE (oj sp to tA):=fun L S Q Q' hq z=>
 h1 Ŧ (λ x S1 #[p,v,a1,a2,a5]=>#[p,v,a1,a2,h3 Ý8 (λ ds S2 z=>h2 _ S2 È hq z) a5]) z
def wZ {k':Nat}(F:fT À0 m k ps sp) ó6 É3 Ã5 Ŀ2 (hm:("kept" == m)=Ç)
  (hst:Ē0) Ź9
  (ht:eval (À4 (Ĕ o m apos) Ŀ8) Ë=(do
   let ov <- ĸ
   Ž9 apos.atName
   let (f,first) <- ě6 [ov] (Ű0 ov m pl)
   Ļ5)):
  PD X (À4 (Ĕ o m apos) Ŀ8) (oj sp to tA):=by
 let#[#[f,fd,h1,h2,C',j4,j5,j6],hmo]:=F;exact#[oj.mo Ħ3 hmo à8,Ō0];ext Í;exact PySem.W.methodCall_KW (pl:=pl) (zI (ÅX Ü (λ x H1=>∃ a C dx fs,ŋ0/\H1 a=↑ è8/\l_ X.K C/\Meth X.K C m f/\Ű1 m=none/\wW X.K tA Ĉ9 λ vs H2=>nq X.K sp (Ú6::vs) H2 Q E0) I (Ø6 Ħ3 á6 λ x S1 v H1 g1 q1 e1 p1=>?_)) λ u s1 #[x,H1,I1,rx,a,C,dx,fs,ex,ea,c,me,l,q]=>?_) ht
 .let#[p,mm,rfl,g2,g5]:=g1;ext Ĳ2;let#[C,dx,q,vs,j1,j2,j3]:=p1 È g2;cases j1.eq j4;exact#[p,C',dx,_,rfl,j2,j5,j6,?_,L,S1,Ō,p1,à8 Ý8 (λ ds S2 z xs H2 a1 a2 a3=>#[Â1::ds,S2,Ī (Ø) a1,a3,hmo Ŭ0]) g5];rw[zc5];have:(m == ("kept":Str))=Ç:=by
   rw[Bool.eq_false_iff] at hm ⊢;show λ z=>hm (by rw[beq_iff_eq] at z ⊢;show z.symm)
  rw[this];rfl
 .ext Ø0;exact CL I1 ea c me l ?_;exact Į0 (first:=[Ú6]) ļ4 me.kp (zI (Ãb pos ļ _ I1 q) ĵ1) hst hpl;show Z5 (us:=Ú6::us) (vs:=Ú6::vs) (dvs:=[]) (E:=E0) h1 Âg h2 Á5 cY I2 (Ī rfl r) (by rw[zcA];show q2)
structure Xr ĝ9 Ŀ ñ Å8 ã0:Prop where
 ex:∃ (C f:Addr) (fd:á9),ou Û xD k f fd Ņ5 (nq K λ ds S Q=>∃ p,ds=[Â1]/\S p=↑.il/\Q .zJ Ŷ3)/\Binds K fd Ņ5 []/\ċ7/\Mk K C f/\mg "Desk"=↑ ċ4
def OA:zA:=λ _ S Q=>∀ p,ĭ0->Q ó9 Ŷ3
def Lq ř Ħ{o u:O}:ups (ups S a o) a u=ups S a u:=by
 funext b;unfold ups;split <;> rfl
theorem sd {k':Nat}{p:Pos}(F:Xr À0 k) ó6 (hk:k+1<=k':=by decide) (hg:Gl X "Desk":=by rfl):PD X (À4 (Ĝ "Desk" p) [] Ò2) OA:=by
 let#[C,f,fd,h1,h2,h3,h4,h5]:=F;exact#[fun L S Q Q' hq z p hp=>hq È (z p hp),ã8 (Hy (E:=E0) h4 h1 Âg hg h5 h2 Á5 cY) ĝ];ext Í;intro x dx hx hdx hne;have e0:Ext (upd H dx (Ŏ1 x)) ň0:=.new (by rw[yA (Ë9 hne)];show hx) _;have e2:=(Ext.new hdx (Ŏ1 x)).trans e0;exact#[[Ä x],ups S x .il,Ī (Ø) Á5,(r2.new hdx).ups e0 #[C,dx,h3,yO],x,rfl,kf,?_];rw[Lq];intro v H2 a1 a2 a3;simp![zj] at a1;show#[a1,z x (r2.none hx) (Ä x) H2 (Ø) (e2.trans a2) a3]
end
end L3
namespace L5
open Ķ â L2 L3
open É hiding St
def gZ:õ5->ç->Key->Â T
 | k::ks,Ĝ4,x=>if k=x then ↑t else gZ ks ts x
 | _,_,_=>none
theorem Vm ř{x:Key}:∀ {m:Æ0}Ê1,zo S ă1->gZ ô5 x=none/\vz m x=none\/∃ t d,gZ ô5 x=↑t/\vz m x=↑d/\æ5
 | [],ts,h=>ē #[by cases ts <;> rfl,rfl]
 | ŧ3::m,[],h=>by simp[zo] at h
 | ŧ3::m,Ĝ4,h=>by
  simp![zA6,zo] at h;let#[c,cs,e,h1,h2]:=h;cases (e);rw[Lp];simp![zA6,gZ];by_cases hk:k=x
  .rw[í hk,í hk];show ħ #[t,_,rfl,rfl,h1]
  .rw[à hk,à hk];show Vm h2
section
variable {ò4}{ř}{ì3}
@[simp] def WW ħ3:zEO:=fun J=>match Ĵ1,J[j]? with
 | some ↑(.im (á1)),↑↑(.im (Ő0))=>gZ ks ts Ğ9
 | _,_=>none
@[simp] def WU ħ3:ň:=fun J=>match Ĵ1,J[j]? with
 | some ↑(.im (á1)),↑↑(.im (Ő0))=>↑!(gZ ks ts Ğ9).isSome
 | _,_=>none
def ER.iJ {ks:õ5}Ê1(hE:Àm) (h:Ĵ1=↑↑(.im (á1))):∃ p m,Ì7/\ó2/\ŧ0/\zo Ç5 ă1:=by
 ext ķ5;simp![Sn] at h2;let#[p,m,#[rfl,h3],h4,h5]:=h2;show#[p,m,h1,(nE h4).2,h3,h5]
def xg:vD (WW i j) (O7 i j):=λ S Z L J y Q hE e hq=>by
 unfold WW at e;ext ġ8
 .ext ë5;ext Ás;rcases Vm g4 (x:=ħ x) with ⟨n,_⟩ | ⟨t,d,n1,n2,n3⟩
  .rw[e] at n;cases n
  .rw[e] at n1;cases n1;show#[p,m,x,d,g1,g2,k1,n2,hq d ę n3]
 .cases e
def qv:vd (WU i j) (O6 i j):=λ S Z L J y Q hE e hq=>by
 unfold WU at e;ext ġ8
 .ext ë5;ext Ás;cases e;exact#[p,m,x,g1,g2,k1,?_];have:ÀH=(gZ ô5 Ğ9).isSome:=by
   rcases Vm g4 (x:=ħ x) with ⟨n1,n2⟩ | ⟨t,d,n1,n2,_⟩ <;> rw[n1,n2] <;> rfl
  rw[this];show hq ę
 .cases e
end
@[simp] def iI ÇE:zLO
 | á1::xs=>F (á1::xs)
 | _=>none
def qp ç2 [Sr R] ÀZ ŗ0{g:ĥ}{to:zA}{u:y9}(hf:yU f to) (h:oQ g u):wt (iO (iI F) (za f g)) (oj ų6 to u):=λ S Z L J y Q hE e hq=>by
 ext ÇM;let#[x,e5,e6]:=õ0 e1;let#[zs,e7,e8]:=õ0 e6;cases e8;split at e3
 .ext Ŭ1
  cases x with
  | zF ks ts=>
   exact hf ŗ4 e5 λ d S1 s1 r1=>?_;let#[p,m,#[rfl,h2],h3,h4]:=Vw.zF r1;exact#[p,m,rfl,h3,h å5 zs _ (Æc) e7 Ļ3];have r3:lT S2 Z (á1::zs) (Â1::ds):=#[_,_,rfl,ń2,r2];exact#[λ a=>Z a/\D.ref a∉D.ref p::ds,_,_,λ a z=>ġ1 a z.1,r3.free (Àr) (λ a ha z=>z.2 ha),e4,λ d S' s r=>hq d S' (Û4 s) ?_];show ĺ2 (II hp) (Wj _ hp (Sr.sn r))
  | _=>cases e4
 .cases e3
@[simp] def Oi ċ:Sm:=fun J=>↑(.nx (Àp i ↑(Ŏ1 (.zF [] []))))
def sU ç2 ċ:yy R (Oi i) (vt OA ù5):=λ S0 Z0 S Z L J o E F e P=>by
 cases e;intro p hp;show P Þ6 (F.XT (ts:=.zF [] []) (ds:=.zF []) Ļ i hp kf #[rfl,Á5])
section
variable {æ}{ģ}{ü2}{m qual:Str}{ç0}
def Fk ñ (m qual:Str) Ě0:Prop:=∃ (f:Addr) (fd:á9) (C:Addr),m7 K m qual st f fd/\ċ7/\l_ K C/\Meth K C m f
def Fk.i {C f:Addr}Ö0 Ğ7 (b:Ø3 K ċ4 m=↑↑ à2) Ý1 (m2:ö2) (m3:Ň1) (l:ë6 f=↑#[oc,od,.func (Ñ5 m qual Ę ct),osl])
  (cd:ð3):š3:=#[f,_,C,Yu l cd m3,a,Ş3,b,m2,m3]
def Fi ñ Ě0:Prop:=∃ (C f:Addr) (fd:á9),m7 K Ą0 st f fd/\ċ7/\Mk K C f
def Fi.i {C f:Addr}Ö0 Ğ7 (b:Ę4) (l:ë6 f=↑#[oc,od,.func (Ñ5 Ą0 Ę ct),osl])
  (cd:š2 K cdv "Desk.__init__"=true) (k2:Ň1) (m1:ĸ9) (m2:ö2) (m3:ş8 K ċ4=true):Fi K st:=#[C,f,_,Yu l cd k2,a,m1,b,m2,m3]
def lV.i Ÿ0 Ğ7 Ý1 (n:Ø3 K ċ4 "kept"=↑none):lV K:=#[C,a,Ş3,n]
abbrev gj Ě0 (m qual:Str) Ū1:Prop:=∀ Æ5,Ë2=Î6->bindArgs (Ñ5 m qual Ę ct) Ĺ3=pure Ē2
variable {è3}
def B8 ç2 [Lo R] (F:š3) ū6 (hb:ÆO)
  (Ġ5:∀ î2 á Ě2,Ð5->
   ∃ t,xl ë2/\Ś1):fT Û m é8:=by
 let#[f,fd,C,F,hc]:=F;exact#[#[f,fd,Yt Án λ cdv A ð5 s H E hr=>?_,F.binds hb,C,hc],zR.mo];let#[t,h1,h2]:=Ġ5 f Ä7 hr;show Àt
end
def A4:Stmt->ï5
 | .ClassDef Þ6 b ô1 Þ6=>b
 | _=>[]
abbrev KF:=õ5->ç->ç->Â (T× õ5 × ç)
def pJ (F:KF):pE:=λ ds S Q=>∃ p m es ts ys r,(ds=Â1::es/\ó2)/\(zo S ă1/\xR ts=true)/\(zo S ys es/\xR ys=true)/\F ô5 ys=↑r/\
 â1
def pJ.mo {F:KF}:iX (pJ F):=λ _ _ _ _ hq #[p,m,es,ts,ys,r,h1,h2,h3,h4,h5]=>#[p,m,es,ts,ys,r,h1,h2,h3,h4,λ d S1 m' a b c e=>hq È (h5 d S1 m' a b c e)]
def pZ:KF:=λ ks ts ys=>match ys with
 | [Ő0,f]=>if (ks.any λ k=>Ď (k=ħ x))=true\/¬ ks.length<Ê then none else ↑(ĵ2,ks++[ħ x],ts++[f])
 | _=>none
def JU {m:Æ0}ũ4 Ö3(h:¬ ((m.map đ).any λ j=>Ď (j=k))=true):putD m k d=m++[ŧ3]:=by
 unfold putD;rw[ze9] at h;show à h
theorem E_ ţ1(hN:Ű4=3) ù ř Ź0(h:pJ pZ ū1):je (O5 0 1 2) (kA (dC (ĵ2))) Ê0:=by
 let#[p,m,es,ts,ys,r,#[rfl,h2],#[h3,h3'],#[h4,h4'],h5,h6]:=h;unfold pZ at h5;split at h5
 .rename_i x f;split at h5
  .cases h5
  .rename_i hn;cases h5;simp![not_or,Classical.not_not] at hn;simp![zo,Sn] at h4;let#[_,_,rfl,rfl,d,_,rfl,h7,rfl]:=h4;have hl:Äc<Ê:=by have:=hn.2;rwa [zA7] at this
   have e:=JU (d:=d) hn.1;exact#[p,m,x,d,rfl,h2,rfl,rfl,hl,?_];rw[e];exact h6 Þ6 (.refl S) mD #[] ?_;rw[zE7];show h3.append (Ī h7 Á5)
 .cases h5
def ER.Fw ř ţ1{ys:ç}ù(h:zo S ys ds):ER S (Àu) (oy N ds) Æi:=by
 exact#[λ _ z=>ű6,Æf,λ i c e=>?_]
 .let#[y,e1,e2]:=e9 e;cases e2;let#[d,e3,e4]:=h.Yq e1;show#[d,Sf e3,by rw[show yk S (Àu)=S from funext λ a=>ng (λ z=>z)];show e4]
 .let#[y,_,e2]:=e9 e;cases e2
def DG ř:yk S (Àu)=S:=funext λ a=>ng (λ z=>z)
@[simp] def gw Ám (F:KF) á7 (g2:Sm):Sm:=fun J=>match J[j]? with
 | some ↑(Ŏ1 (á1))=>Á3 λ y=>if xR (y::ts)=true then (F ks ts [y]).bind λ r=>if L3.eqT r.1 (ĵ2)=true/\xR (r.1::r.2.2)=true then g2 (Àp j ↑(Ŏ1 (.zF r.2.1 r.2.2))) else none else none
 | _=>none
def IJ {x:T}(h:L3.eqT x (ĵ2)=true):x=ĵ2:=by
 cases x <;> simp[L3.eqT] at h
 rw[h]
def sJ ç2 ĵ8{F:KF}Ð0{g2:Sm}{t1 t2:xA}İ2 (h2:yy R g2 t2):yy R (gw j F f g2) (mZ (oh (yX (pP true) (oj (pJ F) (yM j) (mv te kB)) (dC (ĵ2)))) t1 t2):=λ S0 Z0 S Z L J o E Fr e P=>by
 unfold gw at e;ext ġ8
 .rename_i ks ts h0;let#[y,e1,e]:=Ċ;ext ġ8
  .rename_i hp;let#[r,e2,e3]:=Ċ;split at e3
   .rename_i hq;let#[z,ks',ts']:=r;let#[hz,hp']:=hq;cases IJ hz;simp![xR,zE5] at hp hp';let#[p,ob,k1,k2,k3,k4]:=Fr.er.ow j _ h0;cases ob with
    | zF m=>
     let#[rfl,k6]:=k3;change oj (pJ F) (yM j) (mv te kB) L S _;unfold oj yM;rw[k1];exact#[p,m,rfl,k2,hf ö y _ Fr.er ĉ];exact#[p,m,[d],ts,[y],_,#[rfl,s1 È k2],#[ZI ts hp.2 k6,hp.2],#[Ī (Wj y hp.1 r1) Á5,by simp![xR,Bool.and_true];show hp.1],e2,λ c S2 m' b1 b2 b3 b4=>?_];simp![Sn] at b2;subst b2;exact#[ĵ2,ĵ2,mD,mD,by simp[dep],by simp[dep],?_];exact h2 Ľ2 _ Z L _ o E ((Fr.grow (Äi b1)).mut (us:=.zF ks' ts') (es:=.zF m') j h0 k1 #[b3,ZI ts' hp'.2 b4]) e3 P
    | _=>show k3.elim
   .cases e3
  .cases e
 .cases e
section
variable {æ}{ģ}{ü2}{m qual:Str}{ç0}{Ÿ1}{Õ7}
def PH {F:KF}(Fn:š3) (Sc:Ù2) (hb:ÆO) (hl:∀ ks ts ys r,F ks ts ys=↑r->Í1+1=Î6)
  (Ġ5:∀ î2 á Ě2,Ð5->
   ∃ t,xl ë2/\∀ ds S Q,pJ F ū1->t Ê0):fT Û m ě9 ps (pJ F):=by
 let#[f,fd,C,Fn,hc]:=Fn;exact#[#[f,fd,Yt Fn Sc (λ ds S Q h=>?_) λ cdv A ð5 s H E hr=>Ġ5 f Ä7 hr,Fn.binds hb,C,hc],pJ.mo];let#[p,mm,es,ts,ys,r,#[rfl,_],_,#[h3,_],h4,_]:=h;rw[<- hl ô1 h4,zC0,h3.len]
def BA (Fn:Fi K st) Å0 (Sc:oU Ņ5 Ņ5 Ĝ8) (hb:gj st Ą0 Ņ5)
  (Ġ5:∀ î2 á Ě2,xl (wj xD Û Ņ5 "Desk.__init__" é).wJ (wF st) (O4 0)):Xr Û ě9:=by
 let#[C,f,fd,Fn,hc,hk]:=Fn;exact#[C,f,fd,Yt Fn Sc (λ ds S Q #[p,h,_]=>by rw[h];rfl) λ cdv A ð5 s H E hr=>#[_,Ġ5 f Ä7,λ ds S Q #[p,e,h1,h2]=>?_],Fn.binds hb,hc,hk,ġ3 X G hc];subst e;show#[p,rfl,h1,h2]
end
end L5
namespace L3
open Ķ â L2
open É hiding St
section
variable {þ}{o e:Expr}{È1}{pos ap:Pos}
def zf ċ ũ Ē Â6:PE ŭ2:=Ws Ū9
structure hZ ĝ9 Ŀ ñ Å8 (m:Str) ã0 Ū1 Çy:Prop where
 k:fT Û m k ps sp
variable {to:zA}{é7}{ÇS}{Õ7}{ħ8}{Ô7}{ņ1}
def ug {k':Nat}{rpos:Pos}(F:hZ À0 "keep" k ps sp) ó6 É3 Ã5 Ŀ2
  (hst:Ē0) Ź9
  (ht:eval (À4 (Ĕ o "keep" ap) Ŀ8) Ë=(do
   let ov <- ĸ
   Ž9 ap.atName
   let (f,first) <- ě6 [ov] (Ű0 ov "keep" pl)
   Ļ5)):
  zr X (.Return ↑(À4 (Ĕ o "keep" ap) Ŀ8) rpos) (kA (oj sp to tA)):=vj (wZ F.k hr ho ha hk () hst hpl ht)
def uf {k':Nat}{cp2 cp3 ip:Pos}Ë0{p q:ï5}{t u:xA}ŗ7(F:hZ À0 "say" k ps sp) ó6 É3 (ha:PD Ū0) (h:xl X p t) (h':xl X q u) Ŀ2
  (hst:Ĥ1) İ7
  (ht:eval ò2 Ë=(do
   let ov <- ĸ
   Ž9 ap.atName
   let (f,first) <- ě6 [ov] (Ű0 ov "say" pl)
   ķ2)):
  zr X (.If ŏ0 p q ip) (mZ ģ2 t u):=
 yV (Ĝ9) h h'
end
end L3
namespace L5
open Ķ â L2 L3
open É hiding St
section
variable {æ}{ģ}{ü2}{ç0}{Õ7}
def B9 (hk:lV K) (F:Fi K st) Å0 {pos' ap pos sp:Pos}(e:wF st=[ą3 [ÆP] į4 pos]:=by rfl) (Sc:oU Ņ5 Ņ5 Ĝ8:=by show dD) (hb:gj st Ą0 Ņ5:=by show λ _ _ _ _ _ _=>Ul Ř3) (hl:ğ8 ("self":Str)=↑ ø8:=by rfl)
  (hs:∀ env:Env,å7 į4 ↑(ÆP) pos.line env=ó7:=by show Ř3):Xr Û ě9:=by
 exact BA F X G Sc hb λ f cdv A ð5 s H E=>?_;rw[e];show vi (HV hk (zf 0 rfl (Or.inl hl)) (hs _))
def B7 (hk:lV K) (F:Fk K "keep" "Desk.keep" st) {p1 p2 p3 p4 p5 p6 p7 p8:Pos}Ë0(e:wF st=[ą3 [Ī0] (Ĝ "floor" p5) p6,.Return ↑(È5 (ĵ2) n p7) p8]:=by rfl) (Sc:oU ú8 ú8 Ĝ8:=by show dD)
  (hb:gj st "keep" "Desk.keep" ú8:=by show λ _ _ _ _ _ _=>Uj λ _ _ _=>rfl) (hl:ğ8 ("self":Str)=↑ ø8/\ğ8 ("name":Str)=↑ ø8/\ğ8 ("floor":Str)=↑ ø8:=by show Ŷ4)
  (hs:∀ env:Env,å7 (Ĝ "floor" p5) ↑(Ī0) p6.line env=ó7:=by show Ř3):hZ Û "keep" ě9 ú8 (pJ pZ):=by
 exact#[PH F Sc hb (λ ks ts ys r h=>?_) λ f cdv A ð5 s H E hr=>#[_,?_,λ ds S Q h=>E_ rfl h]]
 .unfold pZ at h;ext ď7
  .rfl
  .cases h
 .rw[e];show wI (HW hr hk (zf 0 rfl (Or.inl hl.1)) (zf 1 rfl (Or.inl hl.2.1)) (zf 2 rfl (Or.inl hl.2.2)) rfl (hs _)) (vi (vj wY))
def HR þ{sts:ï5}:xl X sts VB:=Ă3
end
def ki (N:Ö) (f1 f2:zEO) (c:ň) (ga:ĥ) (c2:ň) (ga2:ĥ):KF:=λ ks ts ys=>if (Í1=1/\Ű4=4) then
 (f1 (wM N (á1::ys))).bind λ w=>(f2 (Ŷ5)).bind λ v=>
  (c Å7).bind λ b=>if Ţ4 then
   (ga Å7).bind ř1
  else (c2 Å7).bind λ b=>if Ţ4 then
   (ga2 Å7).bind ř1
  else none
 else none
def SG Ÿ6{J:Ev}{S S3:SS}ß1{m:Æ0}{ts zs:ç}{ga:ĥ}{ua:y9}{r:T× õ5 × ç}Ź0(ha:oQ ga ua) (e0:L[0]?=↑↑ ó9) (g1:ó2) (g2:zo S ă1) (g2':xR ts=true) (s:Sx S S3) (E:ER S3 (Àu) L J) (a4:ga J=↑zs) (hp:xR zs=true) (g4:pZ ô5 zs=↑r)
  (g5:â1):oj Ň5 ua L S3 Q:=by
 unfold oj yM;rw[e0];exact#[p,m,rfl,s È g1,ha S3 Þ6 zs _ E a4 λ xs S4 s4 r4=>?_];have s14:=s.trans s4;exact#[p,m,xs,ts,zs,r,#[rfl,s14 È g1],#[Ē7 s14 ts g2,g2'],#[?_,hp],g4,λ d S5 m' b1 b2 b3 b4=>g5 d S5 m' (s14.trans b1) b2 b3 b4];have:=r4.free (Z':=Àu) (λ a z=>z) (λ a _ z=>z)
 rwa [DG] at this
def Jp ţ1 è6{te1 te2:zA}{tc tc2:xx}{ua ua2:y9}{tx ty:xA}(h1:vD f1 te1) (h2:vD f2 te2) Âq (ha:oQ ga ua) (hc2:vd c2 tc2) (ha2:oQ ga2 ua2) ù ř Ź0(hs:pJ (ki Áf) ū1):
  je (vt te1 (hName 2)) (je (vt te2 (hName 3)) (je ÆQ (je Ãp ty))) Ê0:=by
 let#[p,m,es,ts,ys,r,#[rfl,g1],#[g2,g2'],#[g3,g3'],g4,g5]:=hs;unfold ki at g4;split at g4
 .rename_i hl;let#[hl1,hl2]:=hl;let#[w,a1,g4]:=õ0 g4;let#[v,a2,g4]:=õ0 g4;let#[b,a3,g4]:=õ0 g4;have hd:Sn S (.zF ô5) ó9:=by ext Ķ4;show#[p,m,Ę2,g1,g2]
  have E0:ER S (Àu) (š4) (Ŷ6):=ER.Fw (Ī hd g3);have L0:(š4).length=(Ŷ6).length:=by simp[oy,wM,g3.len]
  exact h1 S Þ6 w _ E0 a1 λ d1 S1 s1 r1=>?_;have E1:=(E0.grow s1).gu L0 2 r1;have L1:((š4).set 2 ↑d1).length=((Ŷ6).set 2 ↑(.im w)).length:=by simp![zdC];show L0
  exact h2 S1 Þ6 v _ E1 a2 Ē8;have E2:=(E1.grow s2).gu L1 3 r2;have e0:(((š4).set 2 ↑d1).set 3 ↑d2)[0]?=↑↑ ó9:=by
   rw[nh (),nh ()];rfl
  exact hc S2 Þ6 b _ E2 a3 Æg;have s13:=Û4 s3;split at g4
  .ext ĉ2;ext ÃI
   .rename_i hp;show SG ha e0 g1 g2 g2' s13 (E2.grow s3) a4 hp g4 g5
   .cases g4
  .ext Ċ9;let#[b2,a5,g4]:=õ0 g4;split at g4
   .rename_i hb2;ext ÃI
    .rename_i hp;exact hc2 S3 Þ6 b2 _ (E2.grow s3) a5 λ S4 s4=>?_;rw[í hb2];show SG ha2 e0 g1 g2 g2' (s13.trans s4) ((E2.grow s3).grow s4) a4 hp g4 g5
    .cases g4
   .cases g4
 .cases g4
def Jr ţ1 è6{ks:õ5}{ts ys:ç}{r:T× õ5 × ç}(h:ki Áf ks ts ys=↑r):Í1+1=2:=by
 unfold ki at h;ext ď7
 .rename_i hl;rw[hl.1]
 .cases h
section
variable {æ}{ģ}{ü2}{ç0}{Õ7}
def B6 ţ1 è6 ÃJ(F:Fk K ś8 st) (Sc:oU N ă6 Ĝ8) (hb:gj st ś8 ă6) Ág
  (Ġ5:∀ î2 á Ě2,Đ):
  ī2:=by
 exact#[PH F Sc hb (λ ks ts ys r h=>Jr h) λ f cdv A ð5 s H E hr=>?_];let#[te1,te2,tc,ua,tc2,ua2,tx,#[h1,h6,h7,h8],h2,h3,h4,h5,h9,Vi]:=Ġ5 f Ä7 hr;rw[he];show#[_,wI h1 (wI h6 (wI h7 (wI h8 HR))),λ ds S Q h=>Jp h2 h3 h4 h5 h9 Vi h]
end
end L5
namespace L3
open Ķ â L2
open É hiding St
section
variable {þ}{o e:Expr}{pos ap:Pos}{Ŝ6}{ÇS}{Õ7}{ħ8}{ņ1}
def vM {k':Nat}{cp2 cp3:Pos}Ë0(F:hZ À0 "say" k ps sp) ó6 É3 (ha:PD Ū0) Ŀ2
  (hst:Ĥ1) İ7
  (ht:eval ò2 Ë=(do
   let ov <- ĸ
   Ž9 ap.atName
   let (f,first) <- ě6 [ov] (Ű0 ov "say" pl)
   ķ2)):
  zE X ŏ0 ģ2:=
 Ĝ9
end
end L3
namespace L5
open Ķ â L2 L3
open É hiding St
@[simp] def cM (c1 c2:ň) (g:Sm):Sm:=fun J=>(c1 J).bind λ b1=>if b1=true then none else (c2 J).bind λ b2=>if b2=true then none else g J
def sI ç2{c1 c2:ň}{ta tb tc:xx}{g:Sm}{t1 t2:xA}(h1:vd c1 ta) (h2:vd c2 tb) (hg:yy R g (mZ tc t1 t2)):yy R (cM c1 c2 g) (mZ (fj ta (fj tb tc)) t1 t2):=λ S0 Z0 S Z L J o E Fr e P=>by
 let#[b1,e1,e]:=Ċ;ext ġ8
 .cases e
 .rename_i hb1;let#[b2,e2,e]:=Ċ;ext ġ8
  .cases e
  .rename_i hb2;exact h1 ö b1 _ Fr.er ż9;rw[à hb1];exact h2 å5 b2 _ (Fr.er.grow s1) e2 λ S2 s2=>?_;rw[à hb2];show hg Ľ2 S2 Z L J o E (Fr.grow (ğ)) e P
end L5
namespace L2
open Ķ â É
def lx Ô5:Ö:=x.cps.toList.map λ c=>#[[c].toArray]
def U5 Ô5:It:=#[λ i _=>i<x.cps.size,λ i H v H'=>H'=H/\∃ c,x.cps[i]?=↑c/\v=Ė8,λ i _=>x.cps.size<=i]
def LD æ ģ Ě1 Ô5 ũ5 (it:Addr):Turn P w K tg (U5 x) [it] it (λ i h=>h.IsStrIter it "str_ascii_iterator" x t i) where
 mem:=#[]
 obj:=λ i h st b hb=>by
  ext Ây
  ext â6
 keep:=λ i h h' st k=>by
  let#[o,e,c,d]:=st;show#[o,k it #[] o e,c,d]
 item:=by
  ext ê;ext ş;have hx:x.cps[i]?=↑(x.cps[i]'hg):=zB8 hg;exact wpAny_pyNext_ascii_item st hx λ h' st' sb=>?_;have I1:Inv ď H { s with heap:=h',toks:=Œ+1 }:=I.turned (t':=Œ+1) ŀ1;let#[o,e,c,d]:=id st';show#[_,rfl,Yp (s:={ s with heap:=h',toks:=Œ+1 }) e c d () #[ß #[[x.cps[i]'hg].toArray],H,I1,Æ9,#[rfl,_,hx,rfl],st',ĩ5]]
 done:=by
  ext ê;ext ş;show wpAny_pyNext_ascii_end (Ó6) st (zcY hg) Á6
 self:=λ _ _ _ _ _ st h=>wpAny_pyIter_striter_ascii st h
section
variable {þ}{Ě1}
def DB (tl:TE):TI:=fun σ H R=>tl Ň λ v H1=>∃ x,v=Ő0/\ō1/\R (U5 x) H1
def IU {l:Expr}{tl:TE}(hl:PE X l tl):PI X tg l (DB tl):=by
 ext ĉ0;exact zI (hl ł) ť6;let#[x,e,ha,q]:=q1;subst e;ext ÂC;exact wpAny_pyIter_ascii ha ?_;exact#[ŵ,[ŵ],_,_,H1,rfl,I1.kept (t':=ÄW) Ü0,LD x t _,â0,ģ5,q];have e:b=ŵ:=ć1
 subst e;show ž1
end
end L2
namespace L3
open Ķ â L2
open É hiding St
section
variable {þ}{tg l:Expr}{ŗ7}
def aN.text ģ{H1:Hp}ũ:aN K H1 (U5 x) #[Ãq,Ħ0]:=λ i H S _ x2 _=>by
 exact#[ſ8,λ hl=>show x.cps.size<=i by simpa [lx] using hl];have hd':(Ãq)[i]?=↑d:=hd;unfold lx at hd';rw[zD6,zA3] at hd';let#[c,e1,rfl]:=Þ3 hd';have hi:i<x.cps.size:=Èb
 exact#[hi,λ v H' q=>?_];let#[rfl,c',e2,rfl]:=q;rw[zD3,e2] at e1;cases e1;show#[ĳ8,x2,by simp![zj,Function.comp]]
def QH ū0:oo:=fun L S R=>te L S λ d S1=>∃ x,d=Ő0/\ō1/\R #[Ãq,Ħ0] S1
def u3 (h:PD X l te):yG X tg l (QH te):=by
 exact#[fun L S Q Q' hq z=>h.mo Ŧ (λ d S1 #[x,a,b,c]=>#[x,a,b,hq È c]) z,PI.imp (IU h.pe) Ĝ2];ext Í;exact Ø6 h.mo Ò1;let#[x,rfl,a,b]:=h1;ext Ü4;show#[x,q1,a,b _ ĉ4 .text]
end
end L3
namespace L5
open Ķ â L2 L3
open É hiding St
@[simp] def QR á7:ĥ:=fun J=>Á3 λ y=>match y with
 | Ő0=>if ō1 then ↑((lx x).map T.str) else none
 | _=>none
theorem Ss ř:∀ ss:Ö,zo S ĕ4 (ú6)
 | []=>Á5
 | s::ss=>Ī mD (Ss ss)
def rb ı3 Ð0 Ě5:jV b (QR f) (QH te):=λ S Z L J ts Q hE e hq=>by
 ext ō4;ext đ1
 .rename_i x;ext đ1
  .rename_i ha;cases e2;cases ų4;show#[x,rfl,ha,hq ŗ1 (Ss _) Às]
  ext ÆT
 ext ÆT
end L5
namespace L2
open Ķ â É Builtin Ũ6
section
variable {Æ}{ź4}{t u v:Tok}{k:Int}
def KN Ð9(hy:(ĕ1 == 0)=Ç) (hk:(Ď (k < -(2 ^ 63:Int))||Ď (k≥2 ^ 63))=Ç) (hsz:ñ0<=Ê) (hsz2:(į3 x (ħ0) ĕ1).length<=Ê)
  (hq:∀ (l:ŕ8) Ï7,l.map đ=Txt.splitMax x y k->Q ä3 { s with heap:=ŉ0,toks:=n }):
  î Î (call (ū "str.split") [ß x t,ß y u,ä k v]) Í6:=by
 cases h1:Ŏ9
 .cases hf:(ħ0).isEmpty
  .exact å2 Ķ2 (meets_str_split_sep_max ÇN hy hf hsz hsz2) ?_;change wants Q E _ { s with toks:=_,heap:=è { cls:=Á9,data:=Ġ0 (strsFrom Œ (į3 x (ħ0) ĕ1)).toArray } };rw[strsFrom_eq];show Ó9
  .show å2 Ķ2 (meets_str_split_max_not_found ÇN hy hf)
    ă5
 .show å2 Ķ2 (meets_str_split_max_cannot_occur ÇN)
   Âe
variable {þ}
def Zx ŷ5 (k:Int):Prop:=ń4 ≠0/\(0<=k/\k<=1000)/\ë8<=Ê/\(į3 a (ú7 a b 0 ë8 (limitOf a k)) ń4).length<=Ê/\(Txt.splitMax a b k).length<=Ê
def Rl:æ1:=λ x vs H Q=>∃ a b k,x=ß a/\vs=[ß b,ä k]/\Zx a b k/\∀ l,ĩ0->Q Ø1 (upd H l (ú (í8 ŕ5)))
theorem FX:kJ X "str.split" Rl:=by
 ext Ž;let#[a,b,k,rfl,rfl,#[h1,h0,h2,h3,h4],q]:=h;ext È3;cases rv with
 | cons r1 rv=>
  let#[_,rfl,u2,rfl]:=(show Vals [V.int k] _ from rv).one;let#[u,rfl]:=r1;exact KN ÂB (by rw[Bool.or_eq_false_iff,decide_eq_false_iff_not,decide_eq_false_iff_not];lia) h2 h3 λ l n e=>?_;show#[ŝ5,_,ċ5 (t':=n) (o:=ú (í8 ŕ5)) Ķ3,rfl,Ĺ4]
def gI ŷ5:Ö:=match ú7 a b 0 ë8 1 with
 | i::_=>[strSub a 0 i,b,strSub a (i+ń4) ë8]
 | []=>[a,Str.empty,Str.empty]
def Rr:æ1:=λ x vs H Q=>∃ a b,x=ß a/\vs=[ß b]/\ń4 ≠0/\ë8<=Ê/\∀ l,ĩ0->Q Ø1 Ŷ7
theorem FY:kJ X "str.partition" Rr:=by
 ext Ž;let#[a,b,rfl,rfl,h1,h2,q]:=h;ext ĉ8;exact å2 F.slot_str_partition (Ĵ7) F.entry_str_partition (F.args_str_partition_2 È) (meets_str_partition a b t u ÂB h2) ?_;have fr:Ŝ0:=Ã7;have hq:=q _ fr;unfold gI at hq;have key:∀ ý4 (xs:Ö) Ï7,Vals (ť ŕ5) us->Ó<=3->Q ä3 (upd H À (ŀ (ť ŕ5)))->
   ∃ v H',Inv ď H' { s with toks:=n,heap:=è { cls:=À1,data:=Ġ0 us.toArray } }/\RelV v ä3/\Q v H':=λ us xs n r hl z=>
  #[ŝ5,_,ċ5 (t':=n) (o:=ŀ (ť ŕ5)) (Ü0) İ #[#[by rw[zA7];show zE0 hl (),.new _],us,r,Ę6],rfl,z]
 cases ho:ú7 a b 0 ë8 1 with
 | nil=>rw[ho] at hq;show Ļ6
 | cons i r=>rw[ho] at hq;show Ļ6
def AX:xT X (Ć "int") (λ xs H Q=>∃ a n,xs=[ß a]/\Ãr=↑n/\ë8<=640/\Q (ä n) H):=by
 ext Ĳ;let#[a,n,rfl,h1,h2,q]:=h;let#[_,rfl,t,rfl]:=r.one;show PySem.W.KIN.call_text ħ5 ÆI
end
end L2
namespace L5
open Ķ â L2 L3
open É hiding St
section
variable {þ}{ģ}{a b e:Expr}{Ô7}{î1}{é7}{ļ6}
def k7:xQ:=λ x y S Q=>(∃ u v,x=ß u/\y=ß v/\Q Ļ7 S)\/k8 Ç x y S Q
def Ry:R2:=λ x y H Q=>∃ u v,x=ß u/\y=ß v/\Q Ļ7 H
def Qa:yT X (Î4 .In) Ry:=by
 ext ÇO;let#[u,z,rfl,rfl,q]:=h;ext ä6;show PySem.P.in_str ä5
theorem k7.mo:vy k7:=λ x y S Q Q' hq h=>Åm (λ#[u,v,a,b,c]=>ē #[u,v,a,b,hq È c]) λ h=>ħ (k8.mo x y S Q Q' hq h)
theorem k7.fits:ve K k7 (λ x y H Q=>Ry á4\/ZD K Ç á4):=λ x y d e H S Q h1 h2 h3 h=>by
 rcases h with ⟨u,v,rfl,rfl,c⟩ | h
 .ext Ë1;show ē #[u,v,h1,h2,c Ï1 h3]
 .show ħ (k8.fits Ź5 h)
def tP ű Õ (hm:Ì4 .In b=Ç):PD X (Ì5 a [.In] û1) (yX k7 Ù9):=eM Ŭ2
def vT ű Õ (hm:Ì4 .In b=Ç):zE X (Ì5 a [.In] û1) (oh (yX k7 Ù9)):=jA Ŭ2
def yJ:Å1:=λ x y=>match x,y with
 | ß u,ß v=>↑ Ļ7
 | x,y=>nD Ç x y
def ph:ŝ9 zl yJ k7:=λ S Z x y z d e Q hz hx hy ef hq=>by
 unfold yJ at ef;ext ŏ7
 .cases ef;cases hx.str;cases hy.str;show ē #[_,_,rfl,rfl,Ç8]
 .show ħ (v9 S Z È z d e Q hz hx hy ef hq)
def PM:xP:=λ ds S Q=>∃ a n,ds=[ß a]/\Ãr=↑n/\ë8<=640/\Q (ä n) S
def tL (hm:X.mg "int"=none) Ã5 (hg:Gl X "int") ô:PD X (À4 (Ĝ "int" p) Ŀ8) (p9 PM tA):=
 kl (gD AX Ď4 PyProof.Rows.boot_int Ë7) (λ ds S Q Q' hq #[a,n,h0,h1,h2,h3]=>#[a,n,h0,h1,h2,ŵ5]) (λ xs ds H S Q h0 h2 h=>by
  let#[a,n,rfl,h1,h3,h]:=h;let#[x,rfl,r]:=h0.one;ext ø7;show#[a,n,rfl,h1,h3,Ų1]) à8
@[simp] def dg:zLO
 | [ß a]=>if ë8<=640 then (Ãr).map ä else none
 | _=>none
def pd:pS zl dg PM:=λ S Z ys z ds Q hz hv e hq=>by
 unfold dg at e;ext ġ8
 .ext ġ8
  .rename_i hl;let#[n,e1,rfl]:=Þ3 e;ext Ä8;cases h1.str;show#[_,n,rfl,e1,hl,Ñ6]
  .cases e
 .cases e
def i8:xP:=λ ds S Q=>∃ a b k,ds=[ß a,ß b,ä k]/\Zx a b k/\∀ l,Áj->Q Ø1 (ups S l (ú (í8 D.str)))
def i8.mo:pM i8:=λ ds S Q Q' hq #[a,b,k,h0,h1,h2]=>#[a,b,k,h0,h1,λ l hl=>hq È (h2 l hl)]
def i8.fits:oV K i8 λ xs H Q=>∃ x rest,Ļ2/\Rl Ŏ0:=λ xs ds H S Q h0 h2 h=>by
 let#[a,b,k,rfl,ok,h]:=h;simp![zv,zj] at h0;let#[_,_,rfl,rfl,_,_,rfl,rfl,_,_,rfl,rfl,rfl]:=h0;exact#[_,_,rfl,a,b,k,rfl,rfl,ok,λ l hf=>?_];have hx:Ext H (upd H l (ú (í8 ŕ5))):=ŵ3;show ē6
def iB:xP:=λ ds S Q=>∃ a b,ds=ġ4/\ń4 ≠0/\ë8<=Ê/\Q (ŀ ((gI a b).map D.str)) S
def iB.mo:pM iB:=λ ds S Q Q' hq #[a,b,h0,h1,h2,h3]=>#[a,b,h0,h1,h2,ŵ5]
def iB.fits:oV K iB λ xs H Q=>∃ x rest,Ļ2/\Rr Ŏ0:=λ xs ds H S Q h0 h2 h=>by
 let#[a,b,rfl,h1,h3,h]:=h;ext Ą5;exact#[_,_,rfl,a,b,rfl,rfl,h1,h3,λ l hf=>?_];have hx:Ext H Ŷ7:=ŵ3;show h È (by ext ķ9;show#[l,_,rfl,ē (ē yO),zv.eN _]) hx (h2.new hf)
end
section
variable {þ}{o e e2:Expr}{to:zA}{é7}{Ė0}
def uL É3 (ha:yH X [e,e2] tA)
  Ģ6
  (hfew:((ğ0 cpos (Ū [e,e2] Ë)).all ń0&&ā
   && Ď ([e,e2].length+é9+ŷ<30))=true)
  Ĭ4 (hs:Ū [e,e2] Ë=Ž6::Ū [e2] Ë) (hplain:zEB X cpos [e2]):
  PD X (À4 (Ĕ o "split" apos) [e,e2] û7) (nW i8 to tA):=
 cX ñ5 FX i8.mo i8.fits ho ha ã3
def uS É3 ò8
  (ÂV:À5 o "partition" û3=ĸ)
  Á:
  PD X (À4 (Ĕ o "partition" apos) [e] û7) (nW iB to tA):=
 cX PySem.F.slot_str_partition PySem.F.type_str_partition FY iB.mo iB.fits ho ha ã3
instance zco ŷ5 (k:Int):ċ8 (Zx a b k):=inferInstanceAs (ċ8 (_/\_))
@[simp] def Zw:zLO
 | [ß a,ß b,ä k]=>if Zx a b k then ↑(ú (í8 T.str)) else none
 | _=>none
def qP:pS zl Zw i8:=λ S Z ys z ds Q hz hv e hq=>by
 unfold Zw at e;ext ġ8
 .ext ġ8
  .rename_i ok;cases e;let#[_,_,rfl,h1,_,_,rfl,h2,_,_,rfl,h3,rfl]:=hv;cases h1.str;cases h2.str;cases h3.int;show#[_,_,_,rfl,ok,Ũ7]
  .cases e
 .cases e
@[simp] def cZ:zLO
 | ġ4=>if ń4 ≠0/\ë8<=Ê then ↑(ŀ ((gI a b).map T.str)) else none
 | _=>none
def qT:pS zl cZ iB:=λ S Z ys z ds Q hz hv e hq=>by
 unfold cZ at e;ext ġ8
 .ext ġ8
  .rename_i ok;ext Àc;show#[_,_,rfl,ok.1,ok.2,hq _ ę (ĺ2 ć (kT (eG _)))]
  .cases e
 .cases e
end
end L5
namespace L3
open Ķ â L2
open É hiding St
def h_ Ŀ (q:Str× Ñ) (e:DictEntry):Prop:=∃ t,e=#[PyData.keyHash ű4 q.1,ß q.1 t,q.2]
def KTab ñ Ŀ ņ3 Ô5 Äz:Prop:=∃ a es ep,mg x=↑ Ā9/\Ō1
abbrev cw Äz:Š3:=ya.map λ q=>(ħ q.1,q.2)
theorem PY æ:∀ {ya:Õ2}{es:List DictEntry},ã6 (h_ w) ya es->(∀ e∈es,∃ k,(vn P w).is k e.key=true/\e.hash=(vn P w).hash k)/\Pairs Äd es (cw ya)
 | _,_,Á5=>#[λ _ h=>(nomatch h),Á5]
 | q::ya,e::es,Ī r t=>by
  let#[tk,rfl]:=r;let#[h1,h2]:=PY (P:=P) t;exact#[λ e he=>?_,Ī (bz q.1 tk) rfl h2];rcases ã7 he with rfl | he
  .show#[ħ q.1,bz q.1 tk,rfl]
  .show h1 e he
def Lm Äz (h:ē7):((cw ya).map đ).Nodup:=by
 rw[zD6];have:ya.map ((λ(q:Key× Ñ)=>q.1) ∘ λ q=>(Ĳ3 q.1,q.2))=(Ŷ8).map Ĳ3:=Ær
 rw[this];show List.Pairwise.map _ (λ a b hab z=>hab (Sum.inr.inj z)) h
theorem KTab.at þ Ð Ħ ī7{ya:Õ2}į (h:X.K.lookup a=↑ ï8) (r:ã6 (h_ X.w) ya ĉ9) (nd:ē7):s.heap.DictOf (vn Ĉ) a (cw ya):=by
 let#[h1,h2]:=PY (P:=X.prog) r;show#[_,es,ep,I.vo a _ h,Ŷ4,rfl,λ e he=>h1 e (by exists he),h2,Lm ya nd]
def xE Äz Ô5:Â Ñ:=(ya.find? λ q=>Ď (q.1=x)).map ſ
def Tz Äz Ô5:ŧ1 (cw ya) Ğ9=xE ya x:=by
 unfold ŧ1 xE cw;rw[List.find?_map,Option.map_map];congr 1;congr 1;funext q;simp
section
variable {þ}{i:Expr}{ti:zA}{pos p cpos:Pos}{ũ}{ya:Õ2}
def Tg į6 ď5 é6 ĺ Ð9{t:TE}ÇU (hi:PE X i t) į (h:t Ň λ v H1=>∃ y u,v=ß y/\xE ya y=↑u/\∀ s1,Inv ď H1 s1->Q u s1)
  É9 ÇC ı4:î Å (eval Ć6 Ë) Q ē9:=by
 ext ŗ8;exact TY Ż3 hs (eX I hg h1 (zI (hi ł) λ iv s2 #[v,H2,I2,rv,y,u,ey,eu,q]=>?_) hdb);subst ey;let#[t,rfl]:=rv;have dd:=KTab.at I2 h2 h3 h4;show#[ÅT,wpAny_getItem_of (k:=Ĳ3 y) (bz y t) dd.mapOf (by rw[Tz];show eu) (q _ (I2.tok _))]
def VA (ks:Ö) (ti:zA):xx:=fun L S Q=>ti L S λ d S1=>∃ y,d=ß y/\Q (!(ks.any λ k=>Ď (k=y))) S1
def HQ ÇU (hi:PD X i ti) É9 (hm:Ì4 Ő6 (Ĝ x p)=Ç) ı4:zE X (Ì5 i [Ő6] [Ĝ x p] pos) (VA (Ŷ8) ti):=by
 exact#[fun L S Q Q' hq z=>Ŧ9 Ŧ (λ d S1 #[y,a,b]=>#[y,a,hq È b]) z,PT.imp (R7 (t:=fun σ H Q=>zZ X.K ti Ň λ v H1=>∃ y,v=ß y/\Q (.bl (!((Ŷ8).any λ k=>Ď (k=y)))) H1) (λ gV s σ H Q I h=>?_) hm) ĝ]
 .ext ŗ8;exact zI (hi.pe ł) λ iv s1 #[v,H1,I1,rv,y,ey,q]=>eX I1 hg h1 ?_ hdb;subst ey;let#[t,rfl]:=rv;have dd:=KTab.at I1 h2 h3 h4;exact wpAny_notIn_of (k:=Ĳ3 y) (bz y t) h0 dd.mapOf #[.bl _,H1,I1.tok _,?_,q];rw[Tz];have:(xE ya y).isSome=(Ŷ8).any λ k=>Ď (k=y):=by
   unfold xE;rw[ze1,ze9,zC7,List.find?_isSome,zD0];rfl
  rw[this];rfl
 .ext Í;exact Ø6 Ŧ9 Ò1;let#[y,rfl,h1]:=h1;ext Ü4;show#[y,q1,_,rfl,h1 ĉ4]
def Xd ñ Ŀ ņ3 Ô5 (tab:ø1):Prop:=∃ ya,Ãs/\Ņ6
def Ow (tab:ø1) (ti:zA):zA:=fun L S Q=>ti L S λ d S1=>∃ y ss,d=ß y/\ó4 y=↑ss/\Q (ŀ (ú6)) S1
theorem Pp ģ{y:Str}ĩ9:∀ ź0{ya:Õ2},Ņ6->ó4 y=↑ss->∃ a,xE ya y=↑ Ā9/\Ão
 | _,_,Á5,h=>nomatch h
 | (k,us)::tab,(k',v)::ya,Ī #[e,a,ea,hs] t,h=>by
  dsimp only at e ea hs;subst e ea;rw[zc5] at h;unfold xE;rw[zcO];cases q:(y == k) with
  | true=>
   ext ı9;rw[beq_iff_eq] at q;subst q;simp![decide_true,Ù3];show#[a,rfl,hs]
  | Ç=>
   rw[q] at h;have hne:¬ k=y:=λ z=>by subst z;simp at q
   simp![hne,decide_false];show Pp t h
theorem uG Ĩ4 É9 ÇC ı4:PD X Ć6 (Ow tab ti):=by
 let#[ya,hk,hp]:=hk;exact#[fun L S Q Q' hq z=>Ŧ9 Ŧ (λ d S1 #[y,ss,a,b,c]=>#[y,ss,a,b,hq È c]) z,Ō0];ext Í;exact Tg hk ÇP;let#[y,ss,rfl,h2,h3]:=h1;ext Ü4;let#[a,e2,e3]:=Pp hp h2;show#[y,_,q1,e2,λ s1 I1=>#[Ú6,H1,I1,rfl,h3 _ H1 (by ext ķ9;show#[a,_,rfl,e3 _,zv.eN _]) e1 p1]]
def vW Ĩ4 É9 (hm:Ì4 Ő6 (Ĝ x p)=Ç) ı4:zE X (Ì5 i [Ő6] [Ĝ x p] pos) (VA (Ũ8 đ) ti):=by
 let#[ya,hk,hp]:=hk;have e:Ũ8 đ=Ŷ8:=by
  clear hk
  induction hp with
  | nil=>rfl
  | cons r _ ih=>rw[zA6,zA6,ih,r.1]
 rw[e];show HQ hk hi Ď4 hdb
structure U4 ĝ9 Ŀ ñ Å8 Ô5 ã0 Ū1 (tab:List (Str×pE)):Prop where
 ex:∃ ya,Ãs/\∀ y sp,ó4 y=↑sp->∃ f fd kk,(xE ya y=↑ à2/\kk<=k)/\ou Û xD kk Ō5/\Ĝ0/\Ň1
 mo:∀ y sp,ó4 y=↑sp->iX sp
def OE (tab:List (Str×pE)) (ti:zA) (tA:y9):zA:=fun L S Q=>ti L S λ d S1=>∃ y sp,d=ß y/\ó4 y=↑sp/\tA ŭ5 λ ds S2=>sp ds S2 Q
def su {tab:List (Str×pE)}Ç6 Ô7 é7{k k':Nat}ħ8(F:U4 À0 x k ps tab) ó6 (hi:PD X i ti) Ã5 Ŀ2 É9 ÇC ı4
  (he:Ē0) (hpl:zEB X cpos es)
  (hc:eval (À4 Ć6 ī û7) Ë=(do callWith cpos (<- eval Ć6 Ë) [] (ğ0 cpos (Ū ī Ë)) (backToKw cpos Ũ9))):
  PD X (À4 Ć6 ī û7) (OE tab ti tA):=by
 let#[#[ya,hk1,hk2],hmo]:=F;exact#[fun L S Q Q' hq z=>Ŧ9 Ŧ (λ d S1 #[y,sp,a,b,c]=>#[y,sp,a,b,à8 Ý8 (λ ds S2 z=>hmo y sp b _ S2 È hq z) c]) z,Ō0];ext Í;exact Call_ (Tg hk1 ÇP) hc;let#[y,sp,rfl,h2,h3]:=h1;ext Ü4;let#[f,fd,kk,#[g1,g0],g2,g3,g4]:=hk2 y sp h2;exact#[y,_,q1,g1,λ s1 I1=>?_];have q:wW X.K tA Ĉ9 λ vs H2=>nq X.K sp vs H2 Q E0:=#[L,S1,Ō,p1,à8 Ý8 (λ ds S2 z xs H2 a1 a2 a3=>#[ds,S2,a1,a3,hmo y sp h2 Ŭ0]) h3];exact Į0 (h₀:=Áu) I1.ok.mod.e_ g4 (zI (Ãb cpos ļ _ I1 q) ĵ1) Ãy;show Z5 (dvs:=[]) (E:=E0) g2 (hr.mono (zE0 g0 hk)) g3 Á5 cY I2 r (by rw[zcA];show q2)
end
end L3
namespace L5
open Ķ â L2 L3
open É hiding St
section
variable {Ð0}
@[simp] def XB (ks:Ö) á7:ň:=fun J=>Á3 λ y=>match y with
 | Ő0=>↑!(ks.any λ k=>Ď (k=x))
 | _=>none
def rS {ks:Ö}ū5:vd (XB ks f) (VA ks te):=λ S Z L J y Q hE e hq=>by
 ext ŀ2
 .cases e2;show h ŗ4 e1 λ d S1 s1 r1=>#[_,ų4,Č2]
 ext ÆT
@[simp] def Zm (tab:ø1) á7:zEO:=fun J=>Á3 λ y=>match y with
 | Ő0=>(ó4 x).map λ ss=>ŀ ĕ4
 | _=>none
def rV ź0 ū5:wt (Zm tab f) (Ow tab te):=λ S Z L J y Q hE e hq=>by
 ext ŀ2
 .let#[ss,e3,rfl]:=Þ3 e2;show h ŗ4 e1 λ d S1 s1 r1=>#[_,ss,ų4,e3,hq ŗ1 (ĺ2 ć (kT (eG _)))]
 ext ÆT
@[simp] def Uq (tab:Äl) á7 (g:ĥ):zEO:=fun J=>Á3 λ y=>match y with
 | Ő0=>(ó4 x).bind λ F=>í7 F
 | _=>none
theorem Ya į5(h:α->β) (y:Str):∀ tab:List (Str × α),(Ũ8 λ q=>(q.1,h q.2)).lookup y=(ó4 y).map h
 | []=>rfl
 | (k,v)::tab=>by
  rw[zA6,zc5,zc5];cases (y == k) with
  | true=>rfl
  | Ç=>show Ya h y tab
def yo ç2 [Lo R] {tab:Äl}Ź1 Ě5 (h:fJ g u):zT R (Uq tab f g) (OE ÆW te u):=λ S Z L J y Q hE e hq=>by
 ext ŀ2
 .let#[F,e3,e4]:=õ0 e2;let#[xs,e5,e6]:=õ0 e4;exact hf ŗ4 e1 λ d S1 s1 r1=>#[_,_,ų4,(Ya Þ6).trans (å6 _ e3),?_];exact h å5 xs _ (Æc) e5 Ļ3;show#[Z,xs,y,ġ1,r2,e6,λ d S' s r=>hq d ņ6]
 ext ÆT
end
section
variable {ģ}{ŗ5}{mg:zSV}{Ï8}{ũ}{ya:Õ2}
def jk ñ Ŀ Ô5 Äz:Prop:=∃ a es ep,ğ7/\Ō1
def jk.mk (H:Ņ7) Å0:Ãs:=by
 let#[a,es,ep,h1,h2]:=H;show#[a,es,ep,ġ3 X G h1,h2]
def P_ {a:Str}{b:Ñ}{t:Tok}{es:List DictEntry}(h:ã6 (h_ w) ya es):ã6 (h_ w) ((a,b)::ya) (#[PyData.keyHash ű4 a,ß a t,b]::es):=Ī ž9 h
def PZ:ã6 (h_ w) [] []:=Á5
def jk.i Ħ ī7(h1:ğ7) (h2:ë6 a=↑ ï8) (h3:ã6 (h_ w) ya ĉ9) (h0:Ò6) (h4:ē7):Ņ7:=#[a,es,ep,h1,h0,h2,h3,h4]
def aG ñ (q:Str× Ö) (r:Str× Ñ):Prop:=á2
def d_ ñ Ŀ Ô5 (tab:ø1):Prop:=∃ ya,Ņ7/\ÀI
theorem d_.mk ź0(H:d_ K w x tab) Å0:Xd K w mg x tab:=by
 let#[ya,h1,h2]:=H;show#[ya,h1.mk X G,h2]
def LQ {k:Str}ĩ9 Ħ Ço Ľ7 Ë0 ź0 õ8 (h:ÀI):ã6 (aG K) ((k,ss)::tab) ((k,Ú6)::ya):=
 Ī #[rfl,a,rfl,ķ1] h
def LP:ã6 (aG K) [] []:=Á5
def d_.i ź0(h1:Ņ7) (h2:ÀI):d_ K w x tab:=#[ya,h1,h2]
def cb ñ Ŀ Ô5 (ys:Ģ8):Prop:=∃ ya,Ņ7/\∀ q∈ys,∃ f,L3.xE ya q.1=↑ à2/\Ô0 K Ţ q.2=↑↑ à2
def cb.i {ys:Ģ8}(h1:Ņ7) (h2:ys.all (λ q=>match L3.xE ya q.1 with | some à2=>Ô0 K Ţ q.2 == ↑↑ à2 | _=>Ç)=true):cb K w x ys:=#[ya,h1,λ q hq=>by
 have:=zE4.mp h2 q hq;split at this
 .rename_i f e;show#[f,e,beq_iff_eq.mp this]
 .cases this]
def Xt ĝ9 Ŀ ñ Å8 (ys:Ģ8) ã0 Ū1 Âp (tab:Äl):Prop:=∀ y F,ó4 y=↑F->∃ d kk,(y,d)∈ys/\kk<=k/\FD Û d kk ps ų6
def zaB ĩ3 Õ7 ħ8 ç2:Xt Û ys k ps R []:=λ _ _ e=>nomatch e
def NR ĩ3{k kk:Nat}ħ8 ç2{tab:Äl}{y d:Str}ÀZ(hf:FD Û d kk ps ų6) (h:Xt Û ys k ps R tab) (h0:(y,d)∈ys) (hk:kk<=k):Xt Û ys k ps R ((y,F)::tab):=λ x G e=>by
 rw[zc5] at e;cases q:(x == y) with
 | true=>ext Ů2;rw[beq_iff_eq] at q;subst q;show#[d,kk,h0,hk,hf]
 | Ç=>rw[q] at e;show h x G e
theorem cb.mk ĩ3{tab:Äl}Õ7 ħ8 ç2(H:cb K w x ys) Å0
  (hd:Xt Û ys k ps R tab):U4 Û x k ps ÆW:=by
 let#[ya,h1,h2]:=H;exact#[#[ya,h1.mk X G,λ y sp e=>?_],λ y sp e=>?_]
 .ext ÄA;let#[d,kk,m1,m2,#[f,fd,g1,g2,g3,g4],_]:=hd y F e1;let#[f',e2,e3]:=h2 _ m1;have:=ġ3 X G e3;rw[g2] at this;cases this;show#[f,fd,kk,#[e2,m2],g1,g4,g3]
 .ext ÄA;show zR.mo
end
end L5
namespace L3
open Ķ â L2
open É hiding St
def O2 ź6 ċ:zA:=fun L S Q=>∃ s y,L[i]?=↑↑(ß s)/\ó4 s=↑y/\Q Š8 S
inductive Lit:ı8->Ģ->Ģ8->Prop
 | nil:Lit [] [] []
 | cons {a u:Str}{n m:Nat}{p q:Pos}{ks:ı8}{vs:Ģ}{tab:Ģ8}(h:Lit ks vs tab):Lit (↑(È5 (ß a) n p)::ks) (È5 (ß u) m q::vs) ((a,u)::tab)
abbrev Yb ź6:Ņ:=Ũ8 λ q=>(ħ q.1,ß q.2)
theorem Q1 {s:Str}:∀ ź6 (acc:Ņ),(Ũ8 đ).Nodup->xU (gK acc (Yb tab)) (ħ s)=match ó4 s with | some y=>↑ Š8 | none=>xU acc (ħ s)
 | [],acc,_=>rfl
 | (k,v)::r,acc,hn=>by
  rw[zA6,zcB] at hn;change xU (gK (putK acc (ħ k) (ß v)) (Yb r)) (ħ s)=_;rw[Q1 r _ hn.2,zc5];by_cases h:s=k
  .subst h;rw[ň2];have:r.lookup s=none:=by
    cases e:r.lookup s with
    | none=>rfl
    | some z=>
     rw[List.lookup_eq_some_iff] at e;let#[l1,l2,rfl,_]:=e;show ŗ #[] hn.1
   rw[this];ext ų;rw[Tu,Ā4]
  .rw[Ò5 h];ext ų;rw[Tu,à (λ z=>h (Sum.inr.inj z))]
section
variable {þ}{keys:ı8}{values:Ģ}{tab:Ģ8}{ũ}{i k:Nat}{dp xp pos:Pos}
abbrev Q3 ź6:ŀ4:=Ũ8 λ q=>(tC (ß q.1),tC (ß q.2))
def Lit.IC (h:Lit Ğ2 tab):aI X dp Ğ2 (Q3 tab):=by
 induction h with
 | nil=>show IA
 | cons h ih=>show IB Wt Wt ih
def Lit.len (h:Lit Ğ2 tab):ÅV=values.length/\ÅV=tab.length/\keys.all (λ x=>x.isSome)=true:=by
 induction h with
 | nil=>show Ŷ4
 | cons h ih=>show#[å6 (· + 1) ih.1,å6 (· + 1) ih.2.1,by rw[zcQ,ih.2.2];rfl]
theorem Q2 é6:∀ ź6 ĺ{Q:ÅU->Ĭ},Q ((Yb tab).map ŋ4) H->Zo (Q3 tab) Ņ8
 | [],_,_,h=>h
 | (a,u)::r,H,Q,h=>Q2 r (Q:=λ ps H3=>Q ((ß a,ß u)::ps) H3) h
def DE Ä5 Õ7(hr:y4 k A):Ü1+1<ð7:=by have:=hr.un;lia
theorem t7 č2 (hl:Lit Ğ2 tab) (hi:PE X (Ĝ x xp) (nP i)) (hn:(Ũ8 đ).Nodup) (h0:0<tab.length/\tab.length<=15):PD X (ŭ (.Dict Ğ2 dp) (Ĝ x xp) pos) (O2 tab i):=by
 let#[l1,l2,l3]:=hl.len;exact#[fun L S Q Q' hq #[s,y,h1,h2,h3]=>#[s,y,h1,h2,ŵ5],ã8 (Ww (DE hr) (HF hl.IC l3 l1 (λ z=>by rw[z] at l2;rw[<- l2] at h0;show ŗ h0.1 #[]) (by rw[l2];show h0.2)) hi (Àx)) ĝ];let#[L,S,r1,r2,s,y,h1,h2,h3]:=hu;intro p hp;exact Q2 tab #[yO,Yb tab,rfl,by rw[zA7];show h0.2,?_];let#[z,w1,w2]:=r1.2 i _ h1;simp![zj] at w2;subst w2;have e:∀ A B:HO,upd (upd H p A) p B=upd H p B:=λ A B=>funext λ z=>by unfold upd;split <;> rfl
 exact#[_,w1,p,ß y,rfl,ē #[_,ħ s,ē (ē yO),rfl,?_],?_]
 .rw[Q1 tab [] hn,h2]
 .rw[e];show h3 Ğ1 Ļ (r2.new hp)
end
end L3
namespace L5
open Ķ â L2 L3
open É hiding St
@[simp] def litS ź6 ċ:zEO:=fun J=>match Ĵ1 with
 | some ↑(.im (ß s))=>(ó4 s).map T.str
 | _=>none
def qt {tab:Ģ8}È1:wt (litS tab i) (O2 tab i):=λ S Z L J y Q hE e hq=>by
 unfold litS at e;ext ġ8
 .rename_i s h;let#[t,e1,rfl]:=Þ3 e;let#[d,k1,k2]:=hE.im i _ h;ext Ás;show#[s,t,k1,e1,ù8]
 .cases e
mutual
def nF:T->Bool
 | ā9=>jP ts
 | í6=>jP ts
 | .zF È=>Ç
 | _=>true
def jP:ç->Bool
 | []=>true
 | Ĝ4=>nF t&&jP ts
end
def WA:T->Bool
 | ú _=>Ç
 | _=>true
@[simp] def kF ÇE (g:ĥ):zEO:=fun J=>í7 λ ys=>(F ys).bind λ y=>if ys.all WA=true/\nF y=true then ↑y else none
def Sn.seen ř Ŗ9 Ħ(h:Sn Ç5 y Ā9):¬ Z a:=by
 cases y with
 | lst ts=>
  ext Ĭ9;let#[ds,h1,_]:=h;rcases h1 with ⟨h1,_⟩ | ⟨b,h1,h3⟩
  .cases h1
  .cases h1;show (nE h3).1
 | zF ks ts=>ext Ĭ9;let#[b,m,#[h1,_],h3,_]:=h;cases h1;show (nE h3).1
 | tup ts=>ext Ĭ9;let#[_,h,_]:=h;cases h
 | _=>ext Ĭ9;cases h
theorem lT.iJ ř{Z:ŝ}Ħ(z:Z a):∀ Ê1 ù,lT S Z ts ds->ts.all WA=true->D.ref a∈ds->∃ m,S a=↑(.zF m)
 | [],ds,h,_,m=>by cases h;show nomatch m
 | Ĝ4,ds,h,hn,m=>by
  ext ä2;rw[zcQ,zE5] at hn;rcases ã7 m with e | m
  .subst e;rcases h1 with h1 | ⟨_,_,_,rfl,_⟩ | ⟨_,_,_,mm,_,e,h1,_⟩
   .show ŗ z (Sn.seen h1)
   .show ŗ hn.1 zc7
   .cases e;show#[mm,h1]
  .show lT.iJ z h2 hn.2 m
mutual
theorem Px ř Ğ8:∀ (t:T) Ö3,nF t=true->Sn (yk S Z') t d->Sn Ç5 t d
 | .zJ,d,_,q=>Á8
 | đ2,d,_,q=>Á8
 | ö7,d,_,q=>Á8
 | Ő0,d,_,q=>Á8
 | ā9,d,h,q=>by
  ext â5;show#[ds,q1,š5]
 | í6,d,h,q=>by
  ext â5;exact#[ds,?_,š5];ext ÄE
  .show ē q1
  .exact ħ #[a,q1,?_];rw[ng]
   .show (nE q3).2
   .intro z;let#[m,e]:=hz a _ q3 z;cases e
 | .zF È,d,h,q=>by simp![nF] at h;cases h
theorem Vx ř Ğ8:∀ ņ5 ù,jP ts=true->zo (yk S Z') ts ds->æ6
 | [],ds,_,q=>ŋ5
 | Ĝ4,ds,h,q=>by
  simp![jP,zE5] at h;ext Đ2;show#[c,cs,q1,Px hz t h.1 q2,Vx hz ts h.2 q3]
end
def zW ç2 [Sr R] ÀZ Ź1(h:oQ g u):vD (kF F g) (iM ų6 u):=λ S Z L J y Q hE e hq=>by
 ext ÇM;split at e3
 .ext Ŭ1
  exact h ö xs Ñ0;exact#[λ a=>Z a/\D.ref a∉ds,xs,_,λ a z=>(Æc).zd a z.1,r1.free (Àr) (λ a ha z=>z.2 ha),e4,λ d S' s r=>hq d S' (Äi s) ?_];exact Px (λ a o q z=>?_) _ hp.2 (Sr.sn r);let#[nz,q]:=nE q;let#[m,e5]:=r1.iJ z hp.1 (Classical.byContradiction λ k=>nz #[z,k]);have:=s a _ e5;rw[q] at this;cases this;show#[m,rfl]
 .cases e3
end L5
namespace L2
open Ķ â É
section
variable {þ}{e st:Expr}{te ts:TE}{Çr}
def Kc ñ (te ts:TE):TE:=fun σ H Q=>te Ň λ x H1=>ts Ĉ9 λ y H2=>∃ a xs k,ŋ0/\ÅW/\k≠0/\yB K H2 a xs/\(wG xs k).length<=Ê/\∀ p,H2 p=none->Q ó9 (upd H2 p (ú (wG xs k)))
theorem Hn ĕ8 (hst:PE X st ts):PE X (ŭ e Ĳ0 pos) (Kc X.K te ts):=by
 ext č;exact Subscript_ (zI ÄU λ v s1 #[x,H1,I1,r1,q]=>?_);exact wpAny_Slice ?_;rw[evalPart_none];exact Į2;rw[evalPart_some];exact Į2;exact zI (hst ļ _ I1 q) λ u s2 í1=>?_;let#[a,xs,k,rfl,rfl,hk,hq,hn,q]:=q2;cases r1;let#[tk,rfl]:=r2;have I4:Inv ď H2 { s2 with heap:=Đ6 }:=I2.kept (t':=s2.toks) ß5;let#[its,r,ht,hz]:=I4.list hq;have hl:=á8;change î Å (Ű7 e Ĳ0 Ā9 (Ä s2.heap.objs.size)) Ë3 { s2 with heap:=Đ6 };exact tail_any (ops:=[Ú6,Ä s2.heap.objs.size]) ht.isList.typeIs Ĺ5 ?_ (by ext Äp);exact wpAny_getItem_list_slice ht.isList (Heap.IsSliceOf.new ..) Ą3 Ą3 (ä k tk) (by intro z;cases z;lia) ?_ Ē4;have e1:slicePick ĕ none none ↑k=(wG its k).toArray:=by
  unfold slicePick wG md;simp
 rw[e1];have rv:Vals (wG xs k) (wG its k):=by unfold wG;rw[<- hl];show Wm r _
 show#[Ä _,_,I4.laid (t':=s2.toks) (o:=ú (wG xs k)) (ß5) İ #[hn,_,0,rv,Á1],rfl,q _ (I4.zM.fresh İ)]
end
end L2
namespace L5
open Ķ â L2 L3
open É hiding St
section
variable {þ}{ģ}{e st:Expr}{te ts:zA}{Çr}
def Ox (te ts:zA):zA:=fun L S Q=>te L S λ x S1=>ts ŭ5 λ y S2=>∃ ds k,ÅW/\k≠0/\Vc x=Ç/\yI x S2=↑ds/\(wG ds k).length<=Ê/\∀ p,S2 p=none->Q ó9 (ups S2 p (ú (wG ds k)))
theorem uJ É2 (hs:PD X st ts):PD X (ŭ e Ĳ0 pos) (Ox te ts):=by
 exact#[fun L S Q Q' hq z=>ĥ9 Ŧ (λ x S1 z=>hs.mo Ý8 (λ y S2 #[ds,k,a,b,c,d,n,w]=>#[ds,k,a,b,c,d,n,λ p hp=>hq È (w p hp)]) z) z,ã8 (Hn he.pe hs.pe) ĝ];ext Í;exact Ø6 ĥ9 á6 õ;exact Ø6 hs.mo Â8;let#[ds,k,rfl,hk,ht,hsq,hn,q]:=h2;simp![zj] at q2;let#[a,xs,rfl,g1,g2]:=jz ű5 p2 hsq λ ts z=>by subst z;cases ht
 have hl:=Ę9;have rr:zv X.K H2 (wG ds k) (wG xs k):=by unfold wG;rw[hl];show Wo g2 _
 exact#[a,xs,k,rfl,q2,hk,g1,by rw[<- rr.length];show hn,đ3];show q p (p2.none hp) Ğ1 (ê6 Ļ) (p2.ups Ļ #[_,yO,í4 Ļ _ rr])
@[simp] def cF ÇD:zEO:=fun J=>Á3 λ x=>í7 λ y=>match x,y with
 | í6,ä k=>if k≠0/\(wG ts k).length<=Ê then ↑(ú (wG ts k)) else none
 | _,_=>none
def r_ {f g:zEO}Ě5 (hg:yU g ts):wt (cF f g) (Ox te ts):=λ S Z L J y Q hE e hq=>by
 unfold cF at e;ext Ŋ1;exact hf Ģ2;exact hg å5 z Í8 Ē8;cases x with
 | lst us=>
  cases z with
  | int k=>
   dsimp only at e;ext ġ8
   .rename_i hc;cases e;cases (show Vw S2 Z (ä k) d2 from r2).int;have r1':Vw S2 Z (ú us) d:=ń2;let#[ds,g1,g2]:=r1'.seq (ts:=us) rfl;have hl:=g2.len;have rr:zo (yk S2 Z) (wG us k) (wG ds k):=by unfold wG;rw[hl];show Wn g2 _
    exact#[ds,k,rfl,hc.1,r1'.F9,g1,by rw[rr.len];show hc.2,λ p hp=>hq È (Û4 Ļ) ?_];show Cl.cl (ğ) (ly ġ1 hp rr)
   .cases e
  | _=>cases e
 | _=>cases e
end
end L5
namespace L5
open Ķ â L2 L3
open É hiding St
def Cm ņ3 Ô5 (t:V):Prop:=∃ u,mg x=↑u/\ÆH
def Hs (_:İ9):Prop:=True
def Hq (s:Ž7) (n:Ö):Bool:=s.names.all (λ y=>!(ŏ1)||y.1 == ".0"||n.elem y.1)&&(s.names.filter λ y=>ŏ1).length == n.length+1
def Ht (_:Ö) (_:ı):Prop:=True
section
variable {n:Ö}{p:ı}{x y z:Ö × ı}{r:İ9}
def Hs.a (_:Hs ((n,p)::r)):Ht n p:=Ò9
def Hs.b (_:Hs (x::(n,p)::r)):Ht n p:=Ò9
def Hs.c (_:Hs (x::y::(n,p)::r)):Ht n p:=Ò9
def Hs.d (_:Hs (x::y::z::(n,p)::r)):Ht n p:=Ò9
end
section
variable {þ}{N' N:Ö}{Ě3}{Î7 esc:Ž7}{tg iter elt:Expr}{ifs:Ģ}{ţ6}{tcc:xx}{ŗ7}{ŏ}
def pl Ť1 (Sc:Ý4) (_:Hq Î7 N'=true) Ê9 ă (hs:ţ):
  PD X ã è5:=Gb Ú5 hs
def vI ß8 Õ7{t:oq}(h:fH X ð6 t) ă (hn:(Ó5 ð6 Ë).length=2) (hst:(Ó5 ð6 Ë).findIdx? đ=none):mz X (ş5 ð6 k pos) (i4 2 t):=Wx h hc hn hst
def vH {a b c:Expr}Õ7{t:oq}(h:fH X Ņ3 t) ă (hn:(Ó5 Ņ3 Ë).length=3) (hst:(Ó5 Ņ3 Ë).findIdx? đ=none):mz X (ş5 Ņ3 k pos) (i4 3 t):=Wx h hc hn hst
def vG {a b c d:Expr}Õ7{t:oq}(h:fH X Č5 t) ă (hn:(Ó5 Č5 Ë).length=4) (hst:(Ó5 Č5 Ë).findIdx? đ=none):mz X (ş5 Č5 k pos) (i4 4 t):=Wx h hc hn hst
def tS ź4(h:Cm X.mg x Š8) Ź8 Ñ7:PD È2 (dC Š8):=let #[_,a,b]:=h;Ge a b hg hd
def tT ũ{n:Int}(h:Cm X.mg x (ä n)) Ź8 Ñ7:PD È2 (dC (ä n)):=let #[_,a,b]:=h;Gg a b hg hd
def zU È1 Ŗ7 Ť1 (hn:X.N.Nodup) (Sc:Ý4)
  (hsw:ø6) (_:Hq Î7 N'=true)
  Ê9 ă Ď5
  (hfn:ľ2) (hs:ţ):
  zr X Ń0 (vt è5 ù5):=HU Ú5 hn hy hx hsw hfn hs
end
abbrev MF ĝ9 Ŀ ñ Å8 (N:Ö) Ô5 Ě0 ã0 (hs:İ9) (Φ:Cx->Prop):Prop:=
 ∀ î2 á Ě2,Hs hs->N.Nodup->(Č7).wJ.N=N->(Č7).wJ.env.scope=yj st->ŕ9->Φ (Č7).wJ
abbrev Tc (x q:Str) Ě0 Ū1:Prop:=∀ Æ5,Ë2=Î6->bindArgs (Ñ5 x q Ę ct) Ĺ3=pure Ē2
def bA {x q:Str}ç0 ħ8(h:Tc x q st ps:=by ext ï7):Tc x q st ps:=h
section
variable {æ}{ģ}{Þ5}{ũ}{ç0}{è3}{ç2}[Lo R]
def yx (hs:İ9) (F:Fy K mg x st)
  (Ġ5:MF Û N x ź7)
  ŀ3
  (hb:Tc x x st ps:=by show bA):FD Û x é8:=
 BB F Sc hn hb Ø7
def Py {m qual:Str}(hs:İ9) (F:š3)
  (Ġ5:MF Û N qual ź7)
  ŀ3
  (hb:ÆO:=by ext ï7):fT Û m é8:=
 B8 F Sc hn hb Ø7
def Bz è6 ÃJ(hs:İ9) (F:Fk K ś8 st) Ág
  (Ġ5:∀ î2 á Ě2,Hs hs->N.Nodup->(Û6).wJ.N=N->(Û6).wJ.env.scope=yj st->Đ)
  (Sc:oU N ă6 Ĝ8:=by show dD) (hb:gj st ś8 ă6:=by intro _ _ _ _ _ _;show Uk Àx):ī2:=
 B6 F Sc hb he Ø7
def Bu Ą8(hs:İ9) (F:ň7)
  (Ġ5:∀ Är á Ě2,Hs hs->N.Nodup->(Č7).wJ.N=N->(Č7).wJ.env.scope=yj st->ō)
  ŀ3:ĺ5:=
 Pw F Sc hn λ cdv A ð5 s H E hr=>Ġ5 Ä7 Ò9 Sc.nd ħ4 hr
end
end L5
namespace zP
open Ķ L2 L3 L5
abbrev MP:Sm:=
 (retS (pQ (instS "int" Ù) (Qf (instS "bool" Ù))))
def fQ:zLO:=z_ ŗ9 MP
abbrev aw:zEO:=
 yS Ň2 (xW kO (za Ù (za (o_ Ù Ť4) ze))) ů xo (zc oA Ù ĭ)
abbrev Td:Sm:=
 (retS (zm Ã9 (za aw ze)))
def fS:zLO:=z_ ["things"] 1 Td
abbrev zbZ:Sm:=
 (retS (pQ (instS "str" Ù) (zc yJ Ù (tupS (za Û7 Ă5)))))
def UQ:zLO:=z_ ŗ9 zbZ
abbrev MJ:Sm:=
 (retS ũ0)
def jX:zLO:=z_ ["floor"] 1 MJ
abbrev MU:Sm:=
 (retS (pQ (zc dw ò é4) (zc dw ÿ ĵ3)))
def fR:zLO:=z_ ["pair","other"] 2 MU
abbrev aC:Sm:=
 (ym (oa (va (xF ĭ)) (yd (zc oA ÆX (zc zk (zc zk ĭ (jG À2)) À2)))) (pD 1 š6) yw)
abbrev MM:Sm:=
 (zw (pC 1 ē8)
 (zw (wC [2] (yP (zm lr (za Ù ze))) (zC 2) aC)
 (retS (zm wL Ö8))))
def fO:zLO:=z_ ["pairs","least","pair"] 1 MM
abbrev N8:Sm:=
 (zw (pD 4 (i0 (yd (zc Ì8 Ù8 À3)) (tupS (za (zu 5) š7)) (tupS (za (zu 6) (za (zu 5) ze)))))
 (zw (zY 5 (zc ye ŉ1 š8))
 (zY 6 (zm gL (za À3 (za (zc oY ÆY (zc zk ĭ ŉ2)) ze))))))
abbrev zbH:Sm:=
 (zw (zY 3 ĵ3)
 (zw (pC 4 ē8)
 (zw (zY 5 (zc zk Á4 Ù8))
 (zw (zY 6 (zc zk Á4 (zc oY À2 Ù8)))
 (zw (Xy 1000000 [] (yd (zc mK ŉ1 (zc zk Ù Ù8))) N8)
 (g9 4))))))
def UE:zLO:=z_ ["brims","stall","pair","purse","pairs","given","got"] 3 zbH
abbrev zbz:Sm:=
 (retS (zc ye (zc ye (zc ye (zc ye (zc ye (zc ye Ŷ9 (cS (ß ">"))) (zm xB å4)) Ŵ) (zm xB Ĥ3)) Ŵ) (zm xB ħ1)))
def UA:zLO:=z_ ["way"] 1 zbz
abbrev zbA:Sm:=
 (retS (zc ye (zc ye (zc ye (zc ye (zc ye (zc ye (zc ye (cS (ß "stall ")) Ŷ9) Ŵ) (zc zk Ãt ÿ)) Ŵ) (zm xB Ĥ3)) Ŵ) (zm xB ħ1)))
def UB:zLO:=z_ ["stall"] 1 zbA
abbrev Uc:Sm:=
 (ym (yd (zc Ì8 Ù (zm xB Ö8))) ġ5 yw)
abbrev MH:Sm:=
 (zw (ym (yd (zc yJ Ù Ãt)) (retS (zc bD Ãt Ù)) yw)
 (zw (wC [1] (xW gz (za (jG ÀJ) (za (zc ye ÀJ À2) ze))) (zC 1) Uc)
 (retS ų2)))
def Xf:zLO:=z_ ["word","number"] 1 MH
abbrev Nr:zEO:=
 yS ı1 (QR Ù) Ê2 (zc yJ Ù ĭ)
abbrev zb2:Sm:=
 (retS (pQ (f7 mK mK À2 Ó4 Á4) (zm Ã9 (za Nr ze))))
def Xm:zLO:=z_ ["word","signs","most"] 3 zb2
abbrev zbB:Sm:=
 (retS (zc ye (zc ye Ŷ9 (cS (ß ","))) (zm xB å4)))
def UC:zLO:=z_ ["pair"] 1 zbB
abbrev zbQ:Sm:=
 (zw (zY 2 À3)
 (zw (ym (yd (zc oA ĭ Ó4)) (zY 2 (zc yQ (zc zk Ù ĭ) (zc cV ï3 (cI 64)))) yw)
 (retS (zc x9 (zc yQ (zc ye (zc ye (zc qK Á4 (cI 46337)) (zc qK (zc qK (cI 2741) ĭ) ĭ)) (zc qK (cI 59) ĭ)) (cI 2147483629)) ï3))))
def jn:zLO:=z_ ["_law_script","_law_k","_law_cell"] 2 zbQ
abbrev Ue:Sm:=
 (zw (ym (fk (yd (zc Ì8 (zc zk ĭ Ù8) Û7)) (yd (zc Ì8 (zc yQ Ù ï3) À2))) (pD 2 (tupS (za Âh (za (zc yQ (zc x9 Ù ï3) ï3) (za (zc ye À2 (zc yQ (zc x9 Ù ŷ0) ÀJ)) (za (zc yQ (zc x9 Ù (cI 48)) (cI 13)) ze)))))) yw)
 (zY 0 (zc x9 Ù (cI 624))))
abbrev zbN:Sm:=
 (zw (pC 2 ē8)
 (zw (wC [3] (xW o7 (za ÆZ ze)) (zC 3) Ue)
 (retS (zm wL ħ2))))
def UK:zLO:=z_ ["_law_cell","_law_owners","_law_found","_law_place"] 2 zbN
abbrev YT:Sm:=
 (pD 1 (zc ye (zc ye (zc ye (zc ye (zc ye (zc ye (zm xB (za á3 ze)) (cS (ß ">"))) (zm xB (za ÆX ze))) Ŵ) (zm xB (za (zc zk Á4 ï3) ze))) Ŵ) (zm xB (za (zc zk Á4 ŉ2) ze))))
abbrev YO:Sm:=
 (pD 1 (xM kY Ŵ (za (xC (za (cS (ß "stall")) (za (zm xB (za Ŗ0 ze)) (za (zc zk (cS (ß "ab")) Ça) (za (zm xB (za (zc zk Ù8 ï3) ze)) (za (zm xB (za (zc zk Ù8 ŉ2) ze)) ze)))))) ze)))
abbrev MN:Sm:=
 (zw (pC 1 (zc ye Ô1 (zm listS å4)))
 (zw (wC [2] (yP Ũ) (zC 2) YT)
 (zw (wC [3] (yP Ä4) (zC 3) YO)
 ŷ1)))
def aU:zLO:=z_ ["_law_floor_here","_law_parts","_law_way","_law_stall"] 1 MN
abbrev ND:Sm:=
 (zw (ic (xM cZ Á4 (za (cS (ß ",")) ze)) (wc 3 (y8 (zC 3) (y8 (zC 4) (y8 (zC 5) wK)))))
 (pD 1 (tupS (za (zm dg Çb) (za (zm dg (za ŉ1 ze)) ze)))))
abbrev zbW:Sm:=
 (zw (ym ŷ2 (retS ē8) yw)
 (zw (pC 1 ē8)
 (zw (wC [2,3,4,5] (yP (xM vF Ù Ĥ4)) (zC 2) ND)
 (g9 1))))
def aV:zLO:=z_ ["_law_text_here","_law_found","_law_word","_law_first","_law_sign","_law_second"] 1 zbW
abbrev Nn:zEO:=
 yS [none,none,↑1] (yP Ù) ů xo (pQ (zc dw á3 Ù) (zc dw ÆX ĭ))
abbrev zbS:Sm:=
 (retS (zm (oJ λ bs=>ÅC) (za Nn ze)))
def UO:zLO:=z_ ["_law_border_here","_law_pair"] 2 zbS
abbrev Nj:zEO:=
 yS Ŵ3 (xW o7 (za ũ0 ze)) (zC 0) (yd (zc Ì8 (zc zk ĵ3 Ù) Á4)) ê7
abbrev zbL:Sm:=
 (zw (zY 3 Nj)
 (zw (ym (oa (yd (zc Ì8 Ù8 ē8)) (yd (zc bJ (zm xy Ĥ3) (cI 22)))) (retS ê7) yw)
 (zw (zY 4 (tupS (za (zc zk Ù8 (zc yQ ĭ (zm xy Çb))) (za (zc yQ (zc x9 ĭ ŷ0) ũ0) (za (zc oY (zc yQ (zc x9 ĭ (cI 16)) (cI 7)) ŉ2) (za (zc oY (zc yQ (zc x9 ĭ (cI 112)) (cI 7)) ŉ2) ze))))))
 (retS (tupS (za ò (za ÿ (za (zm wL (za (zm kS (za (zc ye (zm listS Ĥ3) (xC ĕ5)) ze)) ze)) ħ1))))))))
def aR:zLO:=z_ ["_law_floor_here","_law_number","_law_owner","_law_some","_law_way"] 3 zbL
abbrev Np:zEO:=
 yS Ŵ3 (xW o7 (za (zm xy Ĥ3) ze)) (zC 0) (yd (zc ĝ5 Ù Á4)) (zc zk š8 Ù)
abbrev zbU:Sm:=
 (zw (zY 2 (zc yQ ĭ (zm xy Ĥ3)))
 (zw (ic (zc zk Ũ Á4) (wc 4 (y8 (zC 3) (y8 (zC 4) (y8 (zC 5) (y8 (zC 6) wK))))))
 (zw (zY 7 (tupS (za Âh (za (zu 4) (za (zm lB (za ÀJ (za (zc ye ŉ1 (zc yQ (zc x9 ĭ (cI 24)) ŉ2)) ze))) (za (zm lB (za ÀJ (za (zc ye ÆY (zc yQ (zc x9 ĭ (cI 72)) ŉ2)) ze))) ze))))))
 (zw (zY 8 Np)
 (retS (tupS (za ò (za ÿ (za (zm wL (za (zm kS (za (zc ye (zb 8) (xC (za (zu 7) ze))) ze)) ze)) ħ1)))))))))
def UP:zLO:=z_ ["_law_floor_here","_law_number","_law_at","_law_start","_law_end","_law_first","_law_second","_law_way","_law_rest"] 2 zbU
abbrev MO:Sm:=
 (retS (pQ (zm fQ Ź) (f7 mK mK ĭ Ù Á4)))
def fP:zLO:=z_ ["thing","least","most"] 3 MO
abbrev Nv:zEO:=
 yS Ķ7 ÿ9 (zm UQ Ź)
abbrev zce:Sm:=
 (zw (ym (oa (va (xF Č8)) (va (yd (f7 mK mK À2 Ó4 (cI 8))))) Ã2)
 (retS (zm Ã9 (za Nv ze))))
def Xq:zLO:=z_ ŗ9 zce
abbrev Nt:zEO:=
 yS Ķ7 ÿ9 (tupS (za ò (za À3 å4)))
abbrev Na:zEO:=
 yS Ķ7 (yP ĭ) Ê2 (tupS (za ò (za À2 å4)))
abbrev NF:Sm:=
 (zw (V5 3 ÆY (zm lB (za ŉ3 (za (V7 3 ÆY (zu 7)) ze))))
 (ym (yd (zc Ì8 (Y3 3) ï3)) (pD 4 (tupS (za (zu 5) (za (zm gL (za (ag 3 À3) (za (ag 3 À2) ze))) ze)))) yw))
abbrev zb5:Sm:=
 (zw (zY 2 (zc ye Nt Na))
 (zw (Oj 3)
 (zw (pC 4 ē8)
 (zw (wC [5,6,7] (yP (zm lr ħ2)) Ļ8 NF)
 (Ys 4 (retS (zm fO ĕ5)))))))
def Xo:zLO:=z_ ["border","other","steps","lows","shared","first","side","second"] 2 zb5
abbrev MS:Sm:=
 (retS (zm fO (za (zc ye (zm listS (za Ù ze)) (zm listS Ö8)) ze)))
def i_:zLO:=z_ ["border","other"] 2 MS
abbrev VW:zEO:=
 yS ı1 (yP Á4) Ê2 (tupS (za (zm gL (za À3 (za (zc oY ò š8) ze))) (za (zm gL (za À3 (za (zc oY ÿ (zc zk ĭ ŉ2)) ze))) ze)))
abbrev zae:zEO:=
 yS [none,↑0] (yP Ù8) (zC 0) (xF (zm fR Ţ6)) ê7
abbrev zb9:Sm:=
 (zw (zY 3 VW)
 (retS (zm fO (za zae ze))))
def UW:zLO:=z_ ["brims","way","border","pairs"] 3 zb9
abbrev VS:zEO:=
 yS Ķ7 (yP Ũ) Ê2 (zm UA Ź)
abbrev VO:zEO:=
 yS Ķ7 (yP Ä4) Ê2 (zm UB Ź)
abbrev MG:Sm:=
 (zw (pC 1 Ô1)
 (zw (bW 1 ÿ)
 (zw (iE 1 VS)
 (zw (iE 1 VO)
 ŷ1))))
def aO:zLO:=z_ ["floor","parts"] 1 MG
abbrev Ng:zEO:=
 yS Ķ7 ÿ9 (zm Xf Ź)
abbrev zbE:Sm:=
 (retS (zm wL (za Ng ze)))
def fM:zLO:=z_ ["words"] 1 zbE
abbrev YH:zEO:=
 yS Ķ7 ÿ9 (zm fQ Ź)
abbrev MQ:Sm:=
 (retS (pQ Č8 (pQ (zc Ì8 Ó4 ŷ0) (zm Ã9 (za YH ze)))))
def Xk:zLO:=z_ ŗ9 MQ
abbrev YG:zEO:=
 yS ı1 (yP Ù) (zC 0) (xF (zm fR Ţ6)) ê7
abbrev MK:Sm:=
 (retS (zm wL (za YG ze)))
def fN:zLO:=z_ ["border","brims"] 2 MK
abbrev zb1:Sm:=
 (retS (pQ (zm Xm (za ê7 (za (cS (ß "0123456789")) (za ŷ0 ze)))) (ZO (zc Ì8 Ù (cS (ß "0"))) (zc ĝ5 ò (cS (ß "0"))))))
def Xl:zLO:=z_ ["word"] 1 zb1
abbrev Nd:zEO:=
 yS Ķ7 ÿ9 (zm UC Ź)
abbrev zbC:Sm:=
 (retS (i0 (xF Ù) (xM kY Ŵ (za Nd ze)) (cS (ß "none"))))
def UD:zLO:=z_ ["border"] 1 zbC
abbrev Ud:Sm:=
 (zw (zY 7 (zm jn (za ê7 (za (zc ye ĭ ÆY) ze))))
 (zw (zY 8 (zc yQ ŉ3 Á4))
 (zw (ym (yd (zc oA ÆY Á4)) (zY 8 (zu 6)) yw)
 (zw (pC 9 (xC (za (zc oY (zc yQ (zc x9 ŉ3 (cI 64)) Çc) Ļ9) (za (zc oY (zc yQ (zc x9 ŉ3 (cI 2048)) Çc) Ļ9) ze))))
 (zw (ym (yd (zc Ì8 (zc yQ (zc x9 ŉ3 (cI 65536)) (cI 5)) À3)) (bq 9 (zc yQ (zc x9 ŉ3 (cI 327680)) ï3) À3) yw)
 (pD 5 (tupS (za (zu 8) (za (zc yQ (zc x9 ŉ3 (cI 8)) Á4) (za (zc zk (zb 9) À3) (za (zc zk (zb 9) À2) ze)))))))))))
abbrev zbK:Sm:=
 (zw (pC 5 ē8)
 (zw (wC [6,7,8,9] (xW o7 (za (zc ye Á4 Ù8) ze)) (zC 6) Ud)
 (retS (zm wL (za (zm kS (za ŉ1 ze)) ze)))))
def UI:zLO:=z_ ["_law_script","_law_at","_law_many","_law_more_here","_law_span","_law_found","_law_k","_law_number","_law_start","_law_coins"] 5 zbK
abbrev zbO:Sm:=
 (zw (ym (fk (xF Á4) (yd (zc oA ĭ Ó4))) (retS (zc yQ (zc zk Ù ĭ) (zc cV (cI 10) (cI 64)))) yw)
 (zw (zY 3 (zm jn Ş))
 (retS (zc ye (zc qK (zc qK Ù8 Ù8) Ù8) (zc qK (cI 104729) Ù8)))))
def UL:zLO:=z_ ["_law_script","_law_at","_law_digits","_law_mixed_here"] 3 zbO
abbrev Nl:zEO:=
 yS Ķ7 (xW o7 (za (cI 13) ze)) Ê2 (zm xB (za Ù ze))
abbrev NB:Sm:=
 (zw (ic (xM cZ Ļ9 (za (cS (ß ",")) ze)) Ļ8)
 (ym (oa (yd (zc (nD true) ŉ1 Ù8)) (yd (zc (nD true) ŉ3 Ù8))) Ã2))
abbrev N7:Sm:=
 (zw (ym (oa (yd (zc bJ (zb 9) é4)) (oa (yd (zc bJ (zb 10) ĵ3)) (oa (yd (zc mK (zb 9) (zc zk (zb 8) À3))) (yd (zc dw (zb 10) (zc zk (zb 8) À2)))))) Ã2)
 (zY 8 (tupS (za (zu 9) (za (zu 10) ze)))))
abbrev zbR:Sm:=
 (zw (ym ŷ2 ÀK yw)
 (zw (zY 2 (xM vF Ù Ĥ4))
 (zw (zY 3 Nl)
 (zw (wC [4,5,6,7] (yP š6) (zC 4) NB)
 (zw (zY 8 (tupS (za (zc oY À3 À2) (za (cI 99) ze))))
 (zw (wC [9,10] (yP (zm aV Ź)) (wc 2 (y8 (zC 9) (y8 (zC 10) wK))) N7)
 ÀK))))))
def UN:zLO:=z_ ["_law_text_here","_law_brims","_law_pairs","_law_known","_law_word","_law_first","_law_sign","_law_second","_law_ahead","_law_x","_law_y"] 2 zbR
abbrev NA:Sm:=
 (pD 6 (tupS (za (zu 4) (za (zu 7) (za (zm gL (za À2 (za (zc oY (zb 8) (zc yQ Ù8 ï3)) ze))) (za (zm lB (za ÀJ (za (zc ye (zb 9) Çd) ze))) ze))))))
abbrev zbP:Sm:=
 (zw (zY 2 (zc yQ ĭ (cI 5)))
 (zw (zY 3 (zc x9 ĭ (cI 5)))
 (zw (ym (yd (zc Ì8 Á4 À3)) (retS (zm aR (za ê7 (za Âh (za Û7 ze))))) yw)
 (zw (ym (yd (zc Ì8 Á4 À2)) (retS (zm UP (za ê7 ĵ4))) yw)
 (zw (ym (yd (zc Ì8 Á4 ï3)) (zw (zY 4 (zc yQ Ù8 ũ0))
 (retS (tupS (za ò (za (zc ye (zc ye (o_ ÿ none ↑ Ļ9) (tupS (za Û7 ze))) (o_ ÿ ↑(zc ye Ļ9 À2) none)) (za Ũ ħ1)))))) yw)
 (zw (ym (yd (zc Ì8 Á4 ŉ2)) (zw (zY 5 (tupS (za (zm lB (za ŷ0 (za (zc ye Ţ7 (zc yQ Ù8 ï3)) ze))) (za (zm lB (za ŷ0 (za (zc ye Ţ8 Çd) ze))) ze))))
 (retS (tupS (za (zu 5) (za ÿ (za Ũ ħ1)))))) yw)
 (zw (pC 6 ē8)
 (zw (wC [4,7,8,9] (yP Ä4) (wc 4 (y8 (zC 4) (y8 (zC 7) (y8 (zC 8) (y8 (zC 9) wK))))) NA)
 (retS (tupS (za ò (za ÿ (za Ũ (za (zm wL (za ÆY ze)) ze))))))))))))))
def UM:zLO:=z_ ["_law_floor_here","_law_number","_law_way","_law_rest","_law_place","_law_brims","_law_stalls_here","_law_purse","_law_give","_law_got"] 2 zbP
abbrev Nk:zEO:=
 yS ı1 ÿ9 (zm UO Ţ6)
abbrev zbM:Sm:=
 (retS (zm Ã9 (za Nk ze)))
def UJ:zLO:=z_ ["_law_less","_law_more_here"] 2 zbM
abbrev Nq:zEO:=
 yS Ň2 (xW kO (za Ù Ö8)) ů xo (zm fP (za ê7 (za é4 (za ĵ3 ze))))
abbrev zbY:Sm:=
 (zw (ym (oa (va (xF Č8)) (yd (zc ĝ5 Ó4 ÆZ))) Ã2)
 (retS (zm Ã9 (za Nq ze))))
def aX:zLO:=z_ ["thing","bounds"] 2 zbY
abbrev zb4:Sm:=
 (ym (va (xF (zm fP (za (zu 1) (za À3 (za (zc oY (zm jX Ź) À2) ze)))))) l6 yw)
def cn:zLO:=z_ ["floor","place"] 2 zb4
abbrev NG:Sm:=
 (zY 1 (zm i_ ī3))
abbrev zb7:Sm:=
 (zw (zY 1 (tupS ze))
 (zw (wC [2] (yP ê7) (zC 2) NG)
 ġ5))
def UT:zLO:=z_ ŷ3 1 zb7
abbrev NH:Sm:=
 (zY 1 (zm Xo ī3))
abbrev zb8:Sm:=
 (zw (zY 1 ŉ4)
 (zw (wC [2] (yP ê7) (zC 2) NH)
 ġ5))
def UU:zLO:=z_ ŷ3 1 zb8
abbrev aB:Sm:=
 (ym (yd (zc yJ Ļ9 (tupS (za Û7 Ă5)))) (pD 1 (zu 4)) (ym (xF (xM ez Ļ9 (za (cS (ß "stall ")) ze))) (pD 3 (zm fM (za (o_ (xM vF Ļ9 Ĥ4) Ť4) ze))) (pD 2 (zm fM (za (xM vF (Wa ">" " " Ļ9) Ĥ4) ze)))))
abbrev MI:Sm:=
 (zw (pC 1 ē8)
 (zw (pC 2 ē8)
 (zw (pC 3 ē8)
 (zw (wC [4] (yP (o_ Ù Ť4)) (zC 4) aB)
 (zw (zY 5 (zm fM (za (o_ (xM vF ò Ĥ4) Ť4) ze)))
 (retS (tupS (za (zu 5) (za (zm wL Ö8) (za (zm wL ħ2) (za (zm wL Çb) ze)))))))))))
def Xg:zLO:=z_ ["parts","owners","ways","stalls","part","brims"] 1 MI
abbrev aZ:Sm:=
 (zw (ym (yd (zc Ì8 Ù ĭ)) (retS (cS (ß "alike"))) yw)
 (zw (zY 2 (zm i_ Ş))
 (zw (ym (yd (zc Ì8 Á4 Ù)) (retS (cS (ß "first"))) yw)
 (zw (ym (yd (zc Ì8 Á4 ĭ)) (retS ŷ4) yw)
 (retS (cS (ß "neither")))))))
def jm:zLO:=z_ ["border","other","joined"] 2 aZ
abbrev zb0:Sm:=
 (zw (ym (yd (zc Ì8 ĭ (cS (ß "text")))) ÀK yw)
 (zw (ym (yd (zc Ì8 ĭ (cS (ß "number")))) (retS (zm Xl Ź)) yw)
 (retS (zm Xm (za ê7 (za (cS (ß "abcdefghijklmnopqrstuvwxyz")) (za (cI 8) ze)))))))
def iZ:zLO:=z_ ["word","form"] 2 zb0
abbrev Ug:Sm:=
 (pD 6 (zc zk (xC (za Û7 Ă5)) (zc Ub (zc XS ŉ1 ŉ3) À2)))
abbrev zbT:Sm:=
 (zw (zY 5 (zm jn Ş))
 (zw (pC 6 ē8)
 (zw (wC [7] (xW o7 ħ2) (zC 7) Ug)
 (zw (zY 8 (zc zk (xC (za À2 (za ï3 (za ŉ2 Č9)))) (zc yQ (zc x9 ŉ1 (cI 256)) ŷ0)))
 (zw (zY 9 (tupS ze))
 (zw (ym (yd (zc Ì8 (zc yQ (zc x9 ŉ1 (cI 1024)) ŉ2) À2)) (Ys 6 (zY 9 (zm UK (za (zm UL (za ê7 (za (zc ye ĭ À2) (za (zc Ì8 (zc yQ (zc x9 ŉ1 (cI 3072)) ï3) À2) ze)))) š7)))) yw)
 (retS (tupS (za Âh (za (zm wL (za ÆY ze)) (za (zm UI (za ê7 (za (zc ye ĭ ï3) (za š6 (za (zu 4) (za (zu 8) ze)))))) (za (zu 9) ze))))))))))))
def Xj:zLO:=z_ ["_law_script","_law_at","_law_many","_law_brims","_law_more_here","_law_number","_law_owners","_law_place","_law_span","_law_stalls_here"] 5 zbT
abbrev zcj:Sm:=
 (zw (ym (yd (zc Ì8 Á4 (cS (ß "number")))) (retS (zm dg Ö8)) yw)
 (zw (ym (yd (zc ĝ5 Á4 (cS (ß "floor")))) ġ5 yw)
 (zw (ym (WU 0 1) l6 yw)
 (retS (WW 0 1)))))
def nZ:zLO:=z_ ["self","word","form"] 3 zcj
abbrev Nu:zEO:=
 yS ı1 ÿ9 (zm aX Ş)
abbrev zcd:Sm:=
 (retS (pQ Č8 (zm Ã9 (za Nu ze))))
def Xp:zLO:=z_ ["thing","bounds"] 2 zcd
abbrev zcg:Sm:=
 (retS (zm aX (za ê7 (za (tupS (za ũ1 (za ũ1 ze))) ze))))
def Ta:zLO:=z_ ŗ9 zcg
abbrev zag:zEO:=
 yS [none,none,↑1] (xW Y0 Ĥ3) ů (yd (zc Ì8 é4 Á4)) ê7
abbrev zbx:Sm:=
 (zw (ae (zm cn Ş))
 (retS zag))
def U8:zLO:=z_ ["floor","place"] 2 zbx
abbrev YR:Sm:=
 (ym (yd (zc Ì8 á3 ĭ)) (retS š6) yw)
abbrev zby:Sm:=
 (zw (ae (zm cn Ş))
 (zw (wC [2] (yP Ä4) (zC 2) YR)
 (retS ų2)))
def U9:zLO:=z_ ["floor","place","stall"] 2 zby
abbrev Nw:zEO:=
 yS Ň2 (xW kO (za Ù Ö8)) ů xo (zm iZ Ş)
abbrev zcf:Sm:=
 (retS (pQ (zc Ì8 Ó4 ÆZ) (zm Ã9 (za Nw ze))))
def U_:zLO:=z_ ["words","forms"] 2 zcf
abbrev zaj:zEO:=
 yS Ķ7 ÿ9 ò
abbrev Nb:zEO:=
 yS [none,↑4] (xW o7 Ö8) Ê2 (zc yJ Ù ĭ)
abbrev zcb:Sm:=
 (zw (zY 2 (tupS (za À3 (za (zc oY ĭ À2) ze))))
 (zw (zY 3 (tupS (za (jG ÀJ) Č9)))
 (zw (ym (va (xF (zm Xp (za ê7 (za (tupS (za š6 (za š6 (za Âh ĵ4)))) ze))))) Ã2)
 (zw (zY 4 zaj)
 (retS (pQ (zc mK Ó4 (cI 24)) (pQ (zm fS Ź) (zm Ã9 (za Nb ze)))))))))
def UY:zLO:=z_ ["thing","places","place","coins","starts"] 2 zcb
abbrev zak:zEO:=
 yS Ķ7 ÿ9 ò
abbrev Nc:zEO:=
 yS ı1 ÿ9 (zc Ì8 (zc zk ĭ ò) Û7)
abbrev zcc:Sm:=
 (zw (zY 2 (tupS (za À3 (za (zc oY ÆZ À2) ze))))
 (zw (ym (va (xF (zm Xp (za ê7 (za (tupS (za š6 (za (tupS (za À3 (za À2 ze))) (za (tupS (za À2 Č9)) (za ũ1 ze))))) ze))))) Ã2)
 (retS (pQ (zm fS (za zak ze)) (zm Ã9 (za Nc ze))))))
def UZ:zLO:=z_ ["thing","owners","place"] 2 zcc
abbrev NI:Sm:=
 (iE 4 (zm UE (za ò (za Âh (za (zu 5) ze)))))
abbrev zca:Sm:=
 (zw (zY 3 (zm U9 Ş))
 (zw (ym (yd (zc (gU Ç) Ù8 ų2)) (retS š6) yw)
 (zw (pC 4 ē8)
 (zw (wC [5] (yP š6) (zC 5) NI)
 (Ys 4 (retS (zm fO ĕ5)))))))
def UX:zLO:=z_ ["floor","place","border","stall","pairs","pair"] 3 zca
abbrev ku:ø1:=[("floor",["name","text"]),("show",["floor"]),("mirror",["name","floor"]),("border",["floor","number"]),("lasts",Ô2),("deed",Ô2),("way",Ô2),("alone",["floor","number"]),("cheapest",Ô2),("brims",["floor","number","number"]),("compare",["floor","floor"])]
abbrev zbF:Sm:=
 (zw Ş4
 (zw (zY 1 (i0 (xF (xM ez Ù (za (cS (ß "floor ")) ze))) (xM Zw Ù (za Ŵ (za ï3 ze))) (xM vF Ù Ĥ4)))
 (zw (ym (oa (XB (ku.map đ) é4) (va (xF (zm U_ (za (o_ ĭ Ť4) (za (Zm ku é4) ze)))))) l6 yw)
 ġ5)))
def iY:zLO:=z_ ["row","words"] 1 zbF
abbrev zb3:Sm:=
 (zw (ym (oa (va (xF Č8)) (yd (zc ĝ5 Ó4 ŷ0))) Ã2)
 (zw (ym (oa (va (xF (zm Ta (za ò ze)))) (va (xF (zm Xq å4)))) Ã2)
 (retS (pQ (zm UY (za Ũ (za ũ0 ze))) (zm UZ (za Ä4 å4))))))
def jY:zLO:=z_ ŗ9 zb3
abbrev Ni:zEO:=
 yS [none,↑0] (yP (zm U8 Ş)) Ê2 (zc zk š8 Ù)
abbrev O_:zEO:=
 yS Ŵ3 (yP Ù8) Ê2 (zm UW (za é4 (za ê7 (za (zc zk Á4 ÿ) ze))))
abbrev ML:Sm:=
 (zw (zY 3 Ni)
 (zw (zY 4 O_)
 (zw (ym (yd (zc Ì8 (zc zk ÿ ĭ) Û7)) (retS (zm UX (za ê7 (za (zu 1) (za (zm UT ĕ5) ze))))) yw)
 (retS (zm UU ĕ5)))))
def UH:zLO:=z_ ["floor","place","last","ways","ahead"] 3 ML
abbrev Nh:zEO:=
 yS [none,↑2] (yP Ũ) (zC 0) (yd (zc yJ ÿ ĭ)) ò
abbrev N9:Sm:=
 (bq 3 Ļ9 (zm UH (za ê7 (za (zu 4) é5))))
abbrev zbI:Sm:=
 (zw (pC 3 (zm listS Ö8))
 (zw (wC [4] (yP (zm kS (za Nh ze))) (zC 4) N9)
 (g9 3)))
def UG:zLO:=z_ ["floor","last","fresh","following","place"] 3 zbI
abbrev zbG:Sm:=
 (zw Ş4
 (zw (zY 1 (zm Xg (za (xM vF Ù (za (cS (ß "; ")) ze)) ze)))
 (zw (ym (oa (va (xF (zm jY é5))) (yd (zc ĝ5 (zm aO é5) Ù))) l6 yw)
 ġ5)))
def cj:zLO:=z_ ["text","floor"] 1 zbG
abbrev YI:zEO:=
 yS Ķ7 (yP (zc ye Á4 Ù8)) Ê2 (zm Xk Ź)
abbrev MR:Sm:=
 (zw (ym (va (xF (zm Ã9 (za YI ze)))) l6 yw)
 (zw (zY 4 (tupS (za ê7 (za (zm wL Ö8) (za (zm wL (za (zm lr ħ2) ze)) (za (zm wL (za (zm lr Çb) ze)) ze))))))
 (zw (ym (va (xF (zm jY ĕ5))) l6 yw)
 (retS (zu 4)))))
def Xn:zLO:=z_ ["brims","owners","ways","stalls","floor"] 4 MR
abbrev Nf:zEO:=
 yS [none,none,↑3] (xW Y0 (za Ļ9 ze)) ů (yd (zc ĝ5 ĭ (zc zk Á4 Ù))) ê7
abbrev YS:Sm:=
 (zw (zY 3 (zc zk ĭ (jG À2)))
 (zw (zY 4 (zm UG (za ê7 (za Âh (za š6 ze)))))
 (zw (zY 2 Nf)
 (ym (xF Á4) (pD 1 (zu 4)) yw))))
abbrev zbD:Sm:=
 (zw (pC 1 (xC (za (zc qK (xC (za ŉ4 ze)) (zm jX Ź)) ze)))
 (zw (zY 2 (zm Z_ (za (zm jX Ź) ze)))
 (zw (Xy 1000000 [3,4] (xF Á4) YS)
 (g9 1))))
def lj:zLO:=z_ ["floor","told","fresh","last","following"] 1 zbD
abbrev VT:zEO:=
 yS Ķ7 (yP Ũ) Ê2 (tupS (za ò (za ÿ (za Ä4 Ĥ3))))
abbrev VP:zEO:=
 yS Ķ7 (yP Ä4) Ê2 (tupS (za ò (za (zc oY À2 ÿ) (za Ũ ħ1))))
abbrev zbJ:Sm:=
 (zw (zY 1 VT)
 (zw (zY 2 VP)
 (retS (zm Xn (za (tupS (za Ţ8 (za Ţ7 ze))) (za ÿ ī3))))))
def aQ:zLO:=z_ ["floor","ways","stalls"] 1 zbJ
abbrev zb6:Sm:=
 (retS (zc zk (zm lj Ź) (jG À2)))
def hJ:zLO:=z_ ["floor"] 1 zb6
abbrev YJ:zEO:=
 yS [none,↑2] (yP (zm hJ Ź)) Ê2 (zm fN Ş)
abbrev YF:zEO:=
 yS [none,↑2] (yP (zm hJ é5)) Ê2 (zm fN Ş)
abbrev YE:zEO:=
 yS Ň2 (xW kO (za Ù8 (za Ļ9 ze))) ů xo (zm jm Ş)
abbrev MT:Sm:=
 (zw (ym (yd (zc ĝ5 (zm jX Ź) (zm jX é5))) l6 yw)
 (zw (zY 2 (tupS (za (zm lB (za Ţ7 (za (zc zk é4 À3) ze))) (za (zm lB (za Ţ8 (za (zc zk é4 À2) ze))) ze))))
 (zw (zY 3 YJ)
 (zw (zY 4 YF)
 (retS YE)))))
def kL:zLO:=z_ ["one","other","brims","held","held_there"] 2 MT
abbrev zci:Sm:=
 (zw (ae (zm cn (za ò å4)))
 (retS (zm UD (za (zc zk (zm hJ (za ò ze)) ÿ) ze))))
def cq:zLO:=z_ ["things"] 1 zci
abbrev zch:Sm:=
 (retS (xM kY Ŵ (za (zm kL (za ò å4)) ze)))
def cp:zLO:=z_ ["things"] 1 zch
abbrev Uo:Äl:=[("border",cq),("compare",cp)]
abbrev VX:zEO:=
 yS [none,none,↑0] (xW kO (za (o_ Á4 Ť4) (za (Zm ku á3) ze))) ů xo (iO (iI nZ) (za Á4 (za Ù Ö8)))
abbrev zck:Sm:=
 (zw (zY 2 (zm iY é5))
 (zw (zY 3 VX)
 (zw (ym ũ2 l6 yw)
 (zw (ym Ţ9 l6 yw)
 (retS (Uq Uo á3 ĵ4))))))
def kM:zLO:=z_ Ş5 2 zck
def dU:KF:=ki Ş5 (zm iY é5) VX ũ2 (za Ŗ0 (za (zm cj (za Ça ze)) ze)) Ţ9 (za Ŗ0 (za (zm aQ (za Ça ze)) ze))
abbrev NC:Sm:=
 (zw (zY 6 (iO (iI kM) (za Ù (za (zc ye (zc ye (zc ye (cS (ß "border ")) ĭ) Ŵ) (zm xB (za ŉ1 ze))) ze))))
 (zw (ym (oa (va (xF (instS "str" ÆY))) (va (xF (zm UN (za (zu 6) ĵ4))))) (retS ų2) yw)
 (pD 4 (zm aV š7))))
abbrev zbV:Sm:=
 (zw (pC 4 ē8)
 (zw (wC [5,6] (xW o7 ħ2) (zC 5) NC)
 (g9 4)))
def jo:zLO:=z_ ["_law_desk","_law_name","_law_many","_law_brims","_law_found","_law_place","_law_text_here"] 4 zbV
abbrev YU:Sm:=
 (zY 5 (zm UM (za (zu 5) (za (zm jn (za ê7 š7)) ze))))
abbrev YQ:Sm:=
 (gw 7 dU (zc ye (zc ye (zc ye (cS (ß "floor ")) (zb 8)) Ŵ) (zm aU (za (zu 9) ze))) yw)
abbrev VU:zEO:=
 yS [none,↑4] (yP (zb 10)) Ê2 (zc yJ Ù (xC (za (cS (ß "alike")) é5)))
abbrev VQ:zEO:=
 yS Ķ7 (yP (zb 10)) Ê2 (litS [("alike","alike"),("first","second"),("second","first")] 0)
abbrev YN:Sm:=
 (ym (va (xF (zm UJ (za (zc zk (zb 13) (zb 14)) (za (zc zk (zb 12) (zb 14)) ze))))) Ã2)
abbrev zac:zEO:=
 yS Ň2 (yP (cF Ù (jG À2))) ů xo (tupS Ţ6)
abbrev YD:zEO:=
 yS Ķ7 (yP (zb 16)) Ê2 zac
abbrev zbX:Sm:=
 (zw (zY 1 (zm jn (za ê7 (za À3 ze))))
 (zw (zY 2 (zc ye À2 (zc yQ ĭ ŉ2)))
 (zw (zY 3 (zm Xj (za ê7 (za ï3 (za š6 (za (tupS (za (zc yQ (zc x9 ĭ ŷ0) ŷ0) (za (zc yQ (zc x9 ĭ (cI 20)) ŷ0) ze))) (za (zc yQ (zc x9 ĭ (cI 100)) (cI 6)) ze)))))))
 (zw (zY 4 (cS (ß "first")))
 (zw (zY 5 Âh)
 (zw (ym (yd (zc Ì8 (zc yQ (zc x9 ĭ (cI 600)) ŉ2) À2)) (zw (zY 4 ŷ4)
 (zY 5 (zm aR (za Âh (za (zm jn (za ê7 (za (cI 30) ze))) Ă5))))) (wC [6] (xW gz (za (cI 30) (za (cI 36) ze))) (zC 6) YU))
 (zw (Oi 7)
 (zw (wC [8,9] (yP (xC (za (tupS (za (cS (ß "fa")) (za (zu 5) ze))) (za (tupS (za (cS (ß "fb")) ĵ4)) ze)))) (wc 2 (y8 (zC 8) (y8 (zC 9) wK))) YQ)
 (zw (zY 10 (xM vF (iO (iI kM) (za ŉ3 (za (cS (ß "compare fa fb")) ze))) Ĥ4))
 (zw (zY 11 (xM vF (iO (iI kM) (za ŉ3 (za (cS (ß "compare fb fa")) ze))) Ĥ4))
 (zw (ym (oa (yd (zc ĝ5 (zm xy (za (zb 10) ze)) Á4)) (va (xF (zm Ã9 (za VU ze))))) Ã2)
 (zw (ym (yd (zc ĝ5 (zb 11) VQ)) Ã2)
 (zw (zY 12 ú9)
 (zw (zY 13 (kF jo (za ŉ3 (za (cS (ß "fb")) (za Á4 (za Ŗ0 ze))))))
 (zw (cM (yd (zc (gU Ç) (zb 12) ų2)) (yd (zc (gU Ç) (zb 13) ų2)) (gw 7 dU (cS (ß "mirror fc fa")) yw))
 (zw (ym (yd (zc Ì8 Ļ9 ŷ4)) (ic (tupS (za (zu 13) (za (zu 12) ze))) (wc 2 (y8 (zC 12) (y8 (zC 13) wK)))) yw)
 (zw (wC [14] (xW o7 ħ2) (zC 14) YN)
 (zw (zY 15 (kF jo (za ŉ3 (za (cS (ß "fc")) (za Á4 (za (tupS (za (zc zk Çe À2) (za (zc zk Çe À3) ze))) ze))))))
 (zw (zY 16 ú9)
 (retS (zc Ì8 (zb 15) YD)))))))))))))))))))))
def aW:zLO:=z_ ["_law_script","_law_number","_law_many","_law_floor_here","_law_word","_law_other","_law_k","_law_desk","_law_name","_law_told","_law_words","_law_back","_law_more_here","_law_less","_law_place","_law_turned","_law_due"] 1 zbX
end zP
namespace PySem.W.Fast
def te14368902547192427675:=0
)
local macro_rules|`(command|example:=$s:str)=>do
 let mut r:Array Lean.Syntax:=.empty
 let mut n:=0
 let mut k:=0
 for c in s.getString.toList do
  let a:=c.toNat
  n:=n*62+(if a>96 then a-61 else if a>64 then a-55 else a-48)
  k:=k+1
  if k==11 then
   let i:=Lean.mkIdent (.mkSimple s!"tw{n}")
   r:=r.push (<-`(command|theorem $i:ident:True:=trivial))
   n:=0
   k:=0
 return Lean.mkNullNode r
example:="4qG34w15puoDhBvQyDmyN42R550tZx6Ct02XH2XEaYCo4pP1Ecmv3iR6mO8lW1jKVn5h6sS6zsx7mFvTsx9G6L1222vJFU8gbsWJ6dTRneigA6AarNHqeTMzGH0lprpTo4NaF9jIVOD28NAISjqe30dSz6KehXicgJV6MLxoEQnfnmBz8K6SFkxnA0U7fwKDMqpv0C6l2eLKBmXhl6ZYvhGnxs93FebQvoeocIz3w7hMFLhSx13a8jOETHarDLkWIMbmIKzwLMa61VEbTwb0yyrSUTx5CuHSLOIEc1BEt0JE6ZKzXcumHBzwCU6PIJJ9Z686GTUaJgKGOXUmylZHo5kL16aiVkTg3Zn3sg67mLLKORalKpburIKEHB0P9RrNkDhjmBtSzTk0EbSECjQ6Ohy1J1vKpsEtyAB9MysOAqVG463yXC7iZjVRBeI7JDNq95qKV92B9dkPsSJh0TyLpq5hYFIiFvrGgS6o7Ft2ZHWwLvJKHWYUvkOnWS5x7HiSxFpBSGdoN8yuit7b806DPBY1mDG3AQB7fejJWhKtcto3ZRebvIl54GsxDj6w7rRYogg8x2e0FwgLBBu9A9JQWwr6sMsSgBIe08i7KYwaF2frhDnV0IxBzoISWGsxmHLfH3jxtPS9tGt87gGXOq5h7grrKC9VcCD34pguaiA0OrLcOtpprepowHUOiGklMO2i6OvMtMyMrXaLpQEjQGT8IC33fSM1yMbA085mgjFTQCkJBc38YD3conD66tCly0WJrv2eKEArqOuV25k3zjWsxHrf2X9bVTqyf38JEAyHwj3j9H4McJRIJj3mG8sadu8rCSyPCr3cC9lv2bi2ptTnyfxaMfIiJhAhYqaybAzc7AR7qjB6KrjJJjutjsl3bWvV7CQzgn1F6nlIKBz085RoCXyyz4j1Afh4zlQjLNp5qX61E9VwJ51Megv3g6wZt44ovFO7plfbJbDicbW1EHe3yzhO2YXKMxFsu28483JWv260uSsW2zckEO2tBR72aQo9UAtfeH5FBQLBxJ1WjqCXW16wpaLASHAYHaUR1PPPSjKGQfUlSmY2XbJwx1Bo0euJnCQsU6nmNP2yGY1srFUf3pQ29mBK1wwlGc7m8KB04D9PR7dwZFlKkOa5FlvHnU7mAvS8wCj34PqHscIpmDNUARhonFP2Fgf0HNAN2x3uOYD9dWI1hgelYWYiudFOLxtrp6GRSEc7PFATTffrH97FJgI9axh4oQKK43lhqZEka80WjbYVmLVFz7JOpQUF7AvbQsncGUVK3dmjV9EXerKkhRnT8N8S86cc0Z1ovHQi0zoZiFXpjflECROiNgDMrpHmpdU3itHedGSrSi6qgQVtCWAsbnukyWKGFo8z7Ik0VF9jboF9pWeXA0MgVnLLDTBX0tzWRmby5AR4WEKQ6mlxfVFhoOUdCD4C7776HICPDgaT0HHXQICU6ivBlcorY2dXi6LueP8xWNNyhD7OPRaNlp0N33FXLBTrWXnKfgUUgaCOxW5yUMl0ZHXEbK3JbO9bTWQK38fgExDXQYH02IaM9V3vey9h2x4zyP5fk0XeZ8ClC6Ke7aQcCiL0lyWBLnP7uJVW4aGfVZlcG1JPoBPDKZWAckWG7PHeiNiPYd0GOnDw0gJbXSEo7Cz0NCDBzGE8ln879axhGAow7c7l6BW7oKowp91hu6BnZ9k51T6m2FOvao72QPG1L4ZpksP0riT57qA7L8dqeNIb2aze3UpGQCzwkDBsgarS9L3hUovHUmC5xTY2XDilje1B3os2fTq8p4rNIWfAN7ID2XLMDcV9iJfHhcrDxRqG7sLawt7JiG1wfGDF12AomqeWGkpl3c3Q1tyHaZYK04YaXBB7HxCV1LyUfK3kar4yxOTV1EA3laXsorV06AkDr2T9TnJWmWmjzfO6C9hydMchKUXIJrZyfd7n8PCEJU3xXSkyVsDktEtZxqDodAGFsBsG2Wpy55Qe0YZplOLFlIv5oR3okK9lXWX8FbAT10Of4ZWcRaHT4Voa5dyJd92JFIlkwv9Da8B5v5aZfbwBz5bVDDscp3JCKItIhidBDVODLVatpsRMaV323T4FC8gdIBK10SFEtakn5XoYNdU9kPUAuCGNLGT7wb6bfhiEnU0VNFlaOx1LjpTHJHxo3lSY7UACJi0CdFYheA4MVgsZ2ISUUEMAO68WZcqL1pXDD5JZvkh9ABS3zZtE3wCB4tsqVosNy9I0Qj9mQhpnGPMNiXGlBsCIclDFivp4Ec0H32w1vFafZLLFQZ1Z8zMq007QwVR74cVIMKZNnxOL27Fk7zRGpF6QL8QKKeiy6NGW5opZwEfAFRp7DPJqDhHODPEfl7GmEmhxuLTDfZjsF0nRJk8Pv9k1uoh1XZIouC3Cgu8fBQnMZnKnm5YzQsyjiQuTGq2zwc3OHBYKIykMA63Fck5ZMfuIKuuyj5fLgaWE0iWWKpJ9R3ABsvxCzh5k3hjqhQJsczTCX2Myr3WjXOJgIIZDFmbs9E1R1IwGFRrtl2qGA8AkVQefvpJAG6w7a74Pe7lW6P9Y3Dp6MLIGiP1c3PXXZM7aD6SjvHulXEa3wWZyzm6BAK9Coh7ZF0b43YsXpCSIjfK7oBbn3s4GjDYXyhbfGeH47bdfI55fM8eHqc3Qi8RsI68ZSdfrZmpELFb1uuvLC7KbFiIGoNYGFMPEAXklDuo3qh7W0ERKmKrYv0iJJB7jZlp5GjQNIC4diLdKpqquJl8hEBHLLBuDN6mkYKv6OjliUpfoCeQANsGMwgd1uflhir6nEdHgvdTBqGFmt17HAtoG95xz8lS1MsxhO8uEbY6SjnTElY849mcKeyuIGE2B7Z9d5OTpJMX3hUQbGv8DXQsXEjJIEw6kch36BRhRv5sLVL9hdSG66lhkbunPnK81IB4lYDjgLO8pn16InqugJHWsehtpbZKvAplekpAexkT3RPO3XiagPmGKUb8SQ8INdCB1a6COFmPdDR9yuNO3Pnu42E7Axrl5Kq9N8Z2GFDByv8L20HXuBVRP82bUnRhrdFFIFdSB5rT7PP48U1LevF53tBUEMiOBA3Q34LFmKNTg1Wp9psKbcrN3wUE7CiQiJn8aaCTOK8tFaWu4ANtP48qfLCW9IuWNO3KHJb9ymSgKk613x5AwriM3k1ExEWp6akT3VqNIXglqqVXnto19hTzjy8HgA4k5f3znO9cE3SSFwfS7egpKm3ssGZVBw3KASfewLVvhGDf3Wj22ezA80Z5jQdF6TR1CwXsPOtQu147d5Gc5tQCyI0KAvm3JrCTK15mhNpCPgxKKxe0tRd4jNk8myW0oNMWB8FGGwNh5xsGX0LVg8nGSnCj6E9v601yVsvDXPZoCORGWl0wYREYVtU1f6cBRlwRIsj9K3DmBlyXAYn0De2xdiskLL4el1lVrVohn0HZjIHkTbTEFYA9KpbHDau8Fxn7FdcZTLIsYutSjkwW3LwZK2ekNmP5ESFthMcGYh2I3KJBTNXreB4Yqq5xGb2mfDhNgG74gQU00Vga9I0gmrz92QIk5IiKck7LAQ09DMVPNELOshk1UwF408a6sJyF0T1GNsBLPuZt6QAh7qe8rjC4q644Kxp8Df4WDQQ9Syj4yJfAizjP3jtjhrGNLGUYUF9j04vBBYi7762z8GtNxWEKRzU6gfTrB9MGwzK0PkbObKetzJZgtZgpE6oo52GxdggFodtDJzUPaFyCjLLi2dgmngNrc4cjjl3tUqGJ77Y93KUFldN7eXsWPTH8UgH3nQZiWQOscIYp1xhfpWSgJwg4GskqYP5B8l8QlAbTMIG1e9uTB1LXXEGa8Natz4KBGftgErNVder0tMw792vKop7qN5gtbi2VuLoqjTJdTebE7VKENQbkPO59yJXXkxn985L1YvSE6C1ypAAoMiXcw4ZmF2fufKvbswG3I2Qnk5T8zu4I0MtUaaMvv96cWAQPrNc8Do4Eh5g9EpH3NsMig1m4NbF3tF9oXwhMc5tud1ZkRqJUJOnW4Afb2wJD0nde9HwF2eBzHJFvqhVdG6cbgnT5L1kdCcjLwUBFo3jFVoxQukv6EnFkQPmAW54i9DYqVGJ0LGaL5KJWnRVlw53Lp590ybcghMBjguABiamftEaEwnCm8jcz2oPixqpw9Ap0g59XD7XNZ7IfPrlVrkuRMAKDStF3eiif5JOg1nFSZVo0CtFXf4pxUwL6VAfkscFaLIKINBDlOldeK9Zi4NBU7fc2imj81wggOz4JGyqsv8jTl5POhzriUX1ML0swIRzRv0WHX8agicpzt1Ah6h9HwLIQr0ESGZlmWslvDevuR6CAvBFAIxwJwRDBinJZFTloknJb2GLGGH4G601y7wH3L6G4azW9Urs3RB3ZoXFNtnqyEcZaM3QRfAYY95qAIL51dIcPeYA4FOn9I8ZtYRHnzV7LW8XDyL2SgInA0tzj74ZvTT5eQNm6eq8Ns0yyYrGLVNgvTDktq27Ed7nCLvH47EDrJpfG4bj0rzBe5WtrD587TrUJOxrtk2yW5ejkxqVg9sS1MPmqZgG4JQl2ATfo9c6iqaioJGHLAFi4XNPhbqbW1r0aBIHgXhc2pbw5SgNFuG1pHQbkErnzsAgwQcEBGdW1LZbDGEMvl6MHug7NfDhOAnGC6qt6jYw0zL5bWls5ascZIGit8AAuRAVBTqzESqMlHP6NbOcfUirbaDrKd33vrqvq0XU0xf4td3D8UyoikR30DoKmMawj1cS1tJSSVIJs03CzAIOAJ5IiWI26aFPcNx4IdUHvDnSa3mHuI6wfku31gM2N4YVSx6RSft9BXAFrtTbpbdIDtATDxmt8gKj6sJrv39pc9TcEGczh09wDsiteZJuhXC2Cp68jpDzpJ2kRQK2PNPz4DauHFEksxQ689uYqyuQ4xuCcjLlbFl2ID1yVrNAHVL5D2jhGbRXIbrXJnIANwqqP0i4wkhSiPN5ly55LBr1hHz0BAnhPnStw5XVCUMTyG7UQ7sIfATU421D83CtbwoHHtEoy4lpuvtbh6yv57qZdE6ljMQDLoQoOzHAgDL5SzeOnjabRAYL507lzdbD88A4bqFfdLEKEpXfkuGUdm4BHnv8g17vVB6L5j7ZzpBz7UrmMSEIAbFDXLMysxiJ4B2ybuGazsRLsLkYt36c3AHV6szlUUveco76Md7Pn72kQ6BpNNEgVgPweG2Jdyafqzg2ApmFla1245t3rEFe8gJgilDftQsgRKRFmLU8jzySjzw3GZKpy8Wf2mnLQCJcgEXlHu3Yk825aoAIV1g5iuSnrombCAMzsUIa31CEeMPZfJzrQc3ICPn5fGL2sBQwqlUSBY5yEgzmuWgmHkZBfL5Ku3btGM43MeJX5tqFpKT9s35ZdGXqIvupokaDJF09Z6TzGwuVzxFDgJSJfg9iHLiO6PuA9MrxE5nwcwWXGicLvrqWc10llO4y9szweQx8eLKoUMBaMn0OJEZwx3urI1gHwzhmGCE2zBEDv6VJdWlbSBJ8Ioq5xwdi6uosjXbVy9T4ZsiDm4NJLHBWBKxKcwWag3RBHfxXrzhb98lbknMhoQYLqclRZJ1LmH9lrXdInj6qhIPsbO0NGjB8EXaEbAOcqp29iTG7Lc5bMOGeIvbEOLehc1raXD4HxUfN08jq6fVQZB2C9HdSwDmqf0JgqMkJeE6Gg0DhUdT2Qp7jA5ipzETozqp7kcvQJ3df782YQD2HQ3LzY8Ayg7m5JVrt8n6ASEp3xbPEQ8ZKoFip5L6aIS0vIXnXk4rZBH3iuXZREWTjT4xAYW7DFbdh1fXo093LFEieoVtZQBM0mhFPcGKQ9g4pGzQnLlTAS6cbVu1fy96dIBtgWCfV64HjJb1lc9V5HJmwic8wpD70rojCZCU3k113Mx1Tzmkwo017xO4gDuf58d2UQasMQTrEtaklMcI6ou71f9rI9KqY74jZuQlu9TG2IvOjBcmGQCw5MGiZZoTvc5BthW9JHin0R4hI4L3Nrey6D8MgYhR787ZJcjCyk2ELzl9mVeQq5F2rBL6gVtMzvR3DENQkL6LkibI89ZlFFEEW1lKlMJxBIF3rBDnev01lsGDPKnZjZCHB0332YFFCkUNlnW0WSCLFhe0ZMIO3KvvbGn8c83SGvoMhC4FIfDx4cOTEVj8trmG6MHRUoLwSJXxv1p4ZHUE7PfhUOGq8iDjT4FO2BPDg9J3c9aIjD9Zt4EYHzdUG7Oiu66ts4pi19ZVsHM4aLyDCplum1MVA0AeJEkCwaE0NE7DirV0z2TgHTd6ZUQDCio3hOhytKAwEnGhU2BqTj1ErLN2pXxJ22be9bqbocpz2QZB49D2qVIvwzEDHYpbGAUw39R2l3yyOzLlGxjHrGlGQVyDzdqW4MyU3u3LKPBjJL3JT5K71CryQ1x776G2C6xl82xCongcqZj50g9db1ppIra76GLwyeSj2xAe5anjW5xcFhP8hy46FUMChK5QtJWG9BDcxERpWczxbmw8Bg6jLzULuO0DW1RmB32VEyI3ubvTvNlF32tqH4vewnKo2BIgPzKJTbWGFcQA3jhE9f1h2uc1Uhimt3PJuO8Wszr3AV4DsdfCCA4FtUCyXR9ZgsAcRuFV8ABmY9eecYES5lud054qlAz3FJU2hszMhYj7cvLDIm2bktOdAFoEJCcBQZyLFebOPGFy2kzLKHyuMyJUldKeyHwdQes58EfRvxr0w3yv1EcOBxOpxIT8qdDg0fkyN2ADDZCYxYXly6Zi0gdnID6O49sF3Bh3DXFHM5psSCxEbQLvjXMykifl5BIn0ZvxSmHqA2dK5U9EN5VFH0srEa0c5kDyjMNaAvIlkIoG1azhZ3xI9zqsLp5SbXEBz94SM5vzCq3n8JPHs6cTO4dtJ6flxofWDWRtBOCH3PN71rfhplwIppBU7vlhyKz0oBHzxOli2B7pLPxD6Eo5LRR65zE0iefe849KAAGEzOvPF8UglnnFmvTg9ww8Sbp11SRLHT3kd0H2Tq9KBvobH6vJD14Y9w7cRUPKDfSASu3wdmf7AvyN50VsGSIcXcz35F0d8Lk35L2sGkYpECHfNZMm7ob14gl6AeX3jH0N0y0LpE3QULHVZi3IukqR2at287ACJ5yCkYIS09n2CGD6wy2GlhRADA40Ual8IdJrF3a7cnj595QFKvyTTcPEy3HHiOEP6r0fIKdusFO3YeOJB9AApZoQXCR2EHMQoIw3roEyUCmFOHJOoHbAZOxzcFloAZnXy6L8B703eBqsNo0xj604nRmxa5mfcJ5MuTaanfMn7LuiJiCEKTj1Ddb7XSZYU1AmChhYhHbjnCJZXDqsMito7y9OVAF8bXh3DYxE3mbMst03Tu5IziF269IWDl3UvxrUJqi36qp2h40KwGTr70BiVKIfHp5Rnv8pP1gLqvpVXxWyL7TrV55Xb10K9mTSic8MNxKCYea0ydRZN4poo95ewnLNKJxaQAi0dS8Kzm9EgfZkdPDtYW7bDmggBD5VnhDgTZFw5rN0SS5SSAy3cvpDyPSOV89qf7AsKVdNK6xjsRUesRuo7KUw700Q8uxGbxUIelNzjE8t6JwV12zFPCbMkGaLiSduJ9rYbx5MJ4BF3b2UwcE8so2UXylaWbuPPA5DxMIsKaFLCI9oG2o0x12CX1YoCeopsdBwkK6SBSLW2I3SB0ZRWKArEAxQBbLVwQm9sX7E5fk0s9Jgpl9EEwEs1GXLPikp3etQHV4HGNUMCvB36dGQTDdmSm6hlzEC0nUfZ5m9SCamGS9O5PA9npGHrqaEXCm5Pi8pyPAb96fXxEgH96GVwrlLw7R306t6jOou42zH4rfy7iyZLn51f0RMuumK5HFXzck9TSo46ZM5UL1SCqHAL5ygMMuwUkJgQRZpJFBEs2uH6IYNxrQHBGWueHJ3pbk"
example:=`(
example À _:=x K mainGlobals
example Á:=PySem.W.nsIn
end PySem.W.Fast
namespace zP
open PySem L2 L3 L5
open PyProof.Rows hiding St
def top (i:Nat):Stmt:=PySem.Challenge.pw_purseborder_k97_whole_more_never_harms.main.body.getD i (.Pass #[0,0,0,0])
def met (i j:Nat):Stmt:=(A4 (top i)).getD j (.Pass #[0,0,0,0])
set_option maxHeartbeats 0
structure HH (K:zFr) (w:World):Prop where
 h0:Fx K "is_whole" (top 14)
 h1:Fx K "is_whole_within" (top 15)
 h2:Fx K "is_row_within" (top 17)
 h3:Fx K "are_rows_within" (top 18)
 h4:Fx K "are_rising" (top 19)
 h5:Fx K "are_brims" (top 20)
 h6:Fx K "is_owner" (top 21)
 h7:Fx K "are_owners" (top 22)
 h8:Fx K "are_ways" (top 23)
 h9:Fx K "are_stalls" (top 24)
 Vi:Fx K "is_floor" (top 25)
 CH:Fx K "places_of" (top 26)
 bI:Fx K "check_place" (top 27)
 CG:Fx K "ways_from" (top 29)
 CF:Fx K "stall_at" (top 30)
 Vh:Fx K "at_or_above" (top 32)
 Pe:Fx K "least_pairs" (top 33)
 CD:Fx K "both" (top 35)
 CB:Fx K "either" (top 36)
 CA:Fx K "border_ahead_of_way" (top 38)
 C9:Fx K "pairs_ahead_of_changes" (top 39)
 C8:Fx K "border_ahead_of_changes" (top 40)
 Yn:Fx K "border_of_either" (top 41)
 C7:Fx K "border_of_all" (top 42)
 C6:Fx K "next_border" (top 43)
 C5:Fx K "next_round" (top 44)
 C4:Fx K "rounds" (top 45)
 C3:Fx K "borders" (top 53)
 C2:Fx K "show_way" (top 66)
 C1:Fx K "show_stall" (top 67)
 C0:Fx K "show_floor" (top 68)
 Cz:Fx K "read_word" (top 69)
 du:Fx K "read_words" (top 70)
 Cy:Fx K "read_parts" (top 71)
 Cw:Fx K "read_floor" (top 72)
 Cv:Fx K "is_row" (top 78)
 Cu:Fx K "floor_of" (top 79)
 Cs:Fx K "mirrored" (top 81)
 Cr:Fx K "pairs_inside" (top 82)
 Cp:Fx K "word_for" (top 83)
 Co:Fx K "compare" (top 84)
 Ck:Fx K "is_made_of" (top 97)
 Cj:Fx K "is_number" (top 98)
 Ci:Fx K "is_of_form" (top 99)
 Cg:Fx K "are_of_forms" (top 100)
 Cf:Fx K "read_row" (top 101)
 Ce:Fx K "show_pair" (top 102)
 Cd:Fx K "show_border" (top 103)
 Cc:Fx K "answer_border" (top 106)
 Cb:Fx K "answer_compare" (top 113)
 Ca:Fx K "_law_mixed" (top 117)
 D_:Fx K "_law_ways" (top 118)
 DZ:Fx K "_law_stalls" (top 119)
 DY:Fx K "_law_stall_cell" (top 120)
 DX:Fx K "_law_floor" (top 121)
 DW:Fx K "_law_text" (top 122)
 DV:Fx K "_law_border" (top 123)
 DU:Fx K "_law_held" (top 124)
 DT:Fx K "_law_is_border" (top 125)
 DS:Fx K "_law_way_more" (top 126)
 DR:Fx K "_law_coins_more" (top 127)
 DQ:Fx K "_law_more" (top 128)
 DP:Fx K "_law_under" (top 129)
 DN:Fx K "_law_borders" (top 130)
 pL:Fx K "law" (top 131)
 Be:Cn K "ALIKE" (.str "alike")
 Bc:Cn K "FIGURES" (.str "0123456789")
 Bb:Cn K "FIRST" (.str "first")
 Ba:Cn K "KEEPER" (.str "keeper")
 C_:Cn K "LETTERS" (.str "abcdefghijklmnopqrstuvwxyz")
 CZ:Cn K "MOST_COINS" (.int 12)
 CY:Cn K "MOST_FIGURES" (.int 4)
 CW:Cn K "MOST_LETTERS" (.int 8)
 CV:Cn K "MOST_PLACES" (.int 8)
 CU:Cn K "MOST_WAYS" (.int 24)
 CT:Cn K "NEITHER" (.str "neither")
 CS:Ct K "PURSES" ["a","b"]
 CQ:Cn K "SECOND" (.str "second")
 CP:Cn K "TAKER" (.str "taker")
 Es:Fi K (met 115 0)
 Qv:Fk K "say" "Desk.say" (met 115 1)
 Ep:Fk K "thing_for" "Desk.thing_for" (met 115 2)
 Er:Fk K "keep" "Desk.keep" (met 115 3)
 hk:lV K
 fo:d_ K w "FORMS" ku
 ax:cb K w "ANSWERS" [("border","answer_border"),("compare","answer_compare")]
 y0:Á À "set"=↑none
 y1:Á À "zip"=↑none
 y2:Á À "enumerate"=↑none
 z0:Á À "len"=↑none
 z1:Á À "range"=↑none
 z2:Á À "any"=↑none
 z3:Á À "all"=↑none
 z4:Á À "sorted"=↑none
 z5:Á À "isinstance"=↑none
 z6:Á À "bool"=↑none
 z7:Á À "int"=↑none
 z8:Á À "str"=↑none
 z9:Á À "list"=↑none
 MZ:Á À "tuple"=↑none
 MY:Á À "max"=↑none
 MX:Á À "min"=↑none
abbrev HypoOfLaw:Prop:=∀ {q:Program}{loose:List Str}{XP:(Str->Option Value)->Heap->Prop}{YP:World->Heap->Prop}{d:DefRec}{K:Params->zFr},d.params.defaults=[]->(∀ (w:World) (h:Heap),YP w h->(K w.params).In h)->d.name=("law":Str)->(∀ w:World,HH (K w.params) w)->
  PySem.W.WalkO q loose XP YP (PySem.Challenge.rw_purseborder_k97_whole_more_never_harms).row.toRowW d [] (λ f vs=>PySem.call f vs)
end zP
section
open PySem PySem.W PyProof.Rows
)
set_option maxHeartbeats 0 in
theorem PySem.Challenge.headOfLaw (hy:zP.HypoOfLaw):PySem.Challenge.rw_purseborder_k97_whole_more_never_harms.Holds:=by
 w_on;o_law
 simp (disch:=show hy) only [@id (PySem.Challenge.rw_purseborder_k97_whole_more_never_harms.row.Holds) (by k_head;(case hw=>w_witness2);k_fill;rcases (_:zP.HypoOfLaw) with hy;(exact hy rfl (λ w h Y=>PySem.W.kIn_of Y) rfl ?F);(case F=>(intro w;refine' #[?_,?_,?_,?_,?_,?_,?_,?_,?_,?_,?_,?_,?_,?_,?_,?_,?_,?_,?_,?_,?_,?_,?_,?_,?_,?_,?_,?_,?_,?_,?_,?_,?_,?_,?_,?_,?_,?_,?_,?_,?_,?_,?_,?_,?_,?_,?_,?_,?_,?_,?_,?_,?_,?_,?_,?_,?_,?_,?_,?_,?_,?_,?_,?_,?_,?_,?_,?_,?_,?_,?_,?_,?_,?_,?_,?_,?_,?_,?_,?_,?_,?_,?_,?_,?_,?_,?_,?_,?_,?_,?_,?_,?_,?_,?_,?_,?_,?_,?_,?_,?_,?_];(all_goals first | show L5.Fx.i (by k_is) (by k_is) (by k_is) (by k_is) | k_is | show L5.Cn.i (by k_is) (by show#[_,rfl]) | show L5.Ct.i (by k_is) (by k_is) #[rfl,rfl] rfl () (.cons #[_,rfl] (.cons #[_,rfl] .nil)) | show L5.Fk.i (by k_is) (by k_is) (by k_is) (by k_is) (by k_is) (by k_is) (by k_is) (by k_is) (by k_is) (by k_is) | show L5.Fi.i (by k_is) (by k_is) (by k_is) (by k_is) (by k_is) (by k_is) (by k_is) (by k_is) | show L5.lV.i (by k_is) (by k_is) (by k_is) (by k_is) (by k_is) (by k_is) | show L5.d_.i (L5.jk.i (by k_is) (by k_is) (by repeat first | show L5.PZ | apply L5.P_) () ()) (by repeat first | show L5.LP | exact L5.LQ (by k_is) #[rfl,rfl] rfl () (by repeat first | show .nil | exact .cons #[_,rfl] ?_) ?_) | show L5.cb.i (L5.jk.i (by k_is) (by k_is) (by repeat first | show L5.PZ | apply L5.P_) () ()) (by kernel_rfl)))))]
example:=`(
example Ą5:=by assumption
example È1:=(by ext Ą5)
example É _:=x rfl rfl
example Í9:=by decide +kernel
example Ą7:=by show zx hS hN;ext Í9
example å5:=.Attribute
example Ù2:=.Subscript
example õ _:=x none none
example ø:=T.str
example Ñ _:=x _ _ _
example ņ:=T.int
example ý2:=.Compare
example Đ4 _:=x zS zS fit_le fit_le zK.mo zK.mo
example À:=by (change PD Ñ;first | (change PD _ (.Name _ _) _;first | show zh 0 | show zh 1 | show zh 2 | show zh 3 | show zh 4 | show zh 5 | show zh 6 | show zh 7 | show zh 8 | show zh 9 | show zh 10 | show zh 11 | show zh 12 | show zh 13 | show zh 14 | show zh 15 | show zh 16 | show tR È1 | show tS È1 | show tT È1) | show tM | show sg | show wY | show uW | (change PD _ (Ù2 (.Name "lows" _) _ _) _;apply tY hr) | (change PD _ (.Call _ [.Name "lows" _] _ _) _;apply tX T.len) | show tZ | apply t_ hr | (change PD _ (Ù2 (å5 _ "kept" _) _ _) _;apply tE hr È1) | (change PD _ (Ù2 (.Name "FORMS" _) _ _) _;apply uG;ext Ą5) | (change PD _ (Ù2 (.Name "_law_border_here" _) (.Slice õ ↑_ _) _) _;apply uJ) | (change PD _ (Ù2 (.Dict Ñ) _ _) _;apply t7 hr) | apply uP | apply tG | apply v5 | apply t5 | (change PD _ (.Call (å5 _ "extend" _) [Ù2 Ñ] _ _) _;apply tm) | apply uM | apply tF | apply uK | apply tN | apply uL | apply uS | (change PD _ (.Call (å5 Ñ) Ñ) _;apply wZ;ext Ą5) | (change PD _ (.Call (Ù2 (.Name _ _) _ _) Ñ) _;apply su;ext Ą5) | show sd È1 hr | (change PD _ (.Call Ñ _) _;first | (apply sf;ext Ą5) | apply uI ø | apply t9 T.len | apply t6 T.list T.range | apply t8 T.list | apply uF T.tuple | apply tj T.max | apply tf T.min | apply sk T.any | apply sy T.all | apply uN hr T.sorted U.set | apply uO T.sorted | apply tL ņ | apply tJ T | apply tK T | apply tI T | apply tH T | apply tq | apply tp) | (change PD _ (.BinOp Ñ _) _;first | apply sA | apply uH | apply u_ | apply tV | apply uZ | apply uR | apply uQ | apply sj) | (change PD _ (ý2 Ñ _) _;first | apply t4 hr | apply tW hr | apply uY hr | apply tD | apply tU | apply tP hr | apply se Đ4) | apply sv | apply uT | apply uU | apply uV | apply uX | apply tQ | (apply pl (Hs.a hc) hS hN;ext Ą7) | (apply pl (Hs.b hc) hS hN;ext Ą7) | (apply pl (Hs.c hc) hS hN;ext Ą7) | (apply pl (Hs.d hc) hS hN;ext Ą7) | (apply pl (Hs.a hc) É;show zX;ext Í9) | (apply pl (Hs.b hc) É;show zX;ext Í9) | (apply pl (Hs.c hc) É;show zX;ext Í9) | (apply pl (Hs.d hc) É;show zX;ext Í9))
example ï2:=by show zx hS hN;rfl;ext Í9
example ö8 _:=x ?_ ?_
example Ð8:=(.Call (å5 _ "say" _) Ñ)
example Á:=by (change zr Ñ;first | (change zr _ (.Return ↑(.Call (å5 _ "keep" _) Ñ) _) _;first | (apply ug;ext Ą5) | show xb) | (change zr _ (.If (ý2 Ð8 Ñ) Ñ) _;apply uf;ext Ą5) | (change zr _ (.If (.BoolOp _ [_,_,ý2 Ð8 Ñ] _) Ñ) _;exact yV (yN.pt (zV ?_ (zV ?_ (y_ ?_)))) ö8) | apply vj | apply yV | apply um zeU rfl | apply uc zeU | (apply zU (Hs.a hc) hS hN nd;ext ï2) | (apply zU (Hs.b hc) hS hN nd;ext ï2) | (apply zU (Hs.c hc) hS hN nd;ext ï2) | (apply zU (Hs.d hc) hS hN nd;ext ï2) | (change zr _ (.Assign [Ù2 (.Name "lows" _) _ _] _ _) _;apply uq hr) | apply ue | apply uh | apply uo | apply ur | show (xb:zr _ (.Raise Ñ) _))
example Ø4:=(by with_reducible first | show yp | show yq | show yt | show yu)
example Â:=by ((try first | exact zT.fr ?_ | exact zT.fe ?_);with_reducible first | apply qp | apply rV | exact yo (R:=zl) ö8 | show qw _ | exact yg (R:=zl) (by with_reducible first | show good_add | show yp | show pj | show ph | show v9 | show pb | show yq | show yt | show yu | show qU | show v8) ö8 | exact yn (R:=zl) ?_ | exact qG (R:=zl) (by with_reducible first | show qZ | show qM | show qY | show qW | show qV | show pk | show qS | show qR | show qX | show qN | show pd) ?_ | apply rO | apply rW | apply qo | apply q8 | apply qq | show qH _ | show rZ _ | show ql | apply qu | apply qx | apply qm | exact qF Ø4 Ø4 ö8 ?_ | apply qh | apply qd | apply r_ | show qD _ | apply qe | apply qI | apply qy | show qE _ | show qt | apply qg | exact qc (R:=zl) (by with_reducible first | show qQ | show q_ | show qO | show qP | show qT) ö8)
example Ã:=by (change zE Ñ;first | (change zE _ (ý2 _ [.NotIn] [å5 _ "kept" _] _) _;apply vR hr È1) | (change zE _ (ý2 _ [.NotIn] [.Name "FORMS" _] _) _;apply vW;ext Ą5) | (change zE _ (ý2 Ñ _) _;first | apply vP hr | apply vX hr | apply vh hr | apply vQ | apply vV | apply vU | apply vT hr | apply vN hr | apply vS | apply vY Đ4) | apply vO | (apply yN.pt;first | apply zV | apply xa) | apply vL)
example Ä:=by with_reducible first | show xf _ | exact zW (R:=zl) ?_ | exact zW (R:=zq) ?_ | show xg | exact yo (R:=zq) ö8 | exact yg (R:=zq) xk ö8 | exact yn (R:=zq) ?_ | apply xh | apply xi
example ï:=List Str
example Å:=(_:ï)
example Æ:=by (with_reducible first | show rK | apply rL | show rH | apply rJ | apply rP | apply rR | apply qB | apply qA | apply qC | show rQ | show qv | apply rS | show rq _ | show rm | apply rn | show r9 | apply rA | apply rb | apply rj | apply rh | apply rf | apply rg | apply rl | apply ra | show rE | apply rD)
example Ç:=by (with_reducible first | apply sH | apply sZ | apply sP | show sE | apply sL | apply s_ | apply sY | apply sR | apply sC | show xc _ | apply sV | show sN | apply sQ | apply sD | apply sT | apply sS | show sX _ | apply sW | apply sO | show sU _ | apply sJ | apply sI)
example È:=by (change PE Ñ;first | show zf 0 | show zf 1 | show zf 2 | show zf 3 | show zf 4 | show zf 5 | show zf 6 | show zf 7 | show zf 8 | show zf 9 | show zf 10 | show zf 11 | show zf 12 | show zf 13 | show zf 14 | show zf 15 | show zf 16)
example Ê:=by (change wV Ñ;first | show zg 0 | show zg 1 | show zg 2 | show zg 3 | show zg 4 | show zg 5 | show zg 6 | show zg 7 | show zg 8 | show zg 9 | show zg 10 | show zg 11 | show zg 12 | show zg 13 | show zg 14 | show zg 15 | show zg 16)
example Ë:=by (change yG Ñ _;first | apply u6 T.range | apply u5 T.range | apply u0 U.zip | apply u7 U.enumerate | apply u4)
example Ì:=zr _ (.Assign [.Tuple [.Name _ _,.Name _ _] _ _] (.Tuple [_,_] _ _) _) _
example Í:=zE _ (ý2 Ð8 [.NotEq] _ _) _
example Î:=by (change zr _ (.If (.Call (å5 _ "startswith" _) Ñ) Ñ) _;apply uk)
example Ï _:=x P w K mg base
example Ð:=F.os.length
example Ò:=by (with_reducible first | show rN _ | apply qJ | apply qj | apply qk | apply qz)
example ċ:=#[(),()]
example ë:=if_pos
example Ó:=(zL (xj (xv É ċ) (zL (zL É (ë (e:=none) cm)) É) ps) É)
example Ô:=false
example â1:=by cases C;cases d1;cases d2;cases d3
example Õ:=by ext â1;cases d4;cases d5
example Ö:=.int
example Ø:=by (change wq Ñ;first | apply uu | apply uv | (apply uw;ext Ą5))
example Ù:=Int×Int
example Ú:=by intro f cdv A outer s H E hc nd hN hS hr
example Ú2:=(zL É rfl)
example û:=(zi Ú2 rfl)
example Ò6:=of_decide_eq_true
example ā:=(Ò6 rfl)
example Û:=(oM rfl (xm (zi rfl (zi (xj (xv É ċ) rfl pm) (zi Ú2 û))) ā) ⋯)
example Ü:=congrArg
example Ý:=by (change Lit Ñ;first | show Lit.nil | apply Lit.cons)
example Þ:=List Int
example ß:=.str
example à:=.lst
example â9:=by ext Õ;cases d6;cases d7;cases d8
example á:=by ext â9;cases d9;cases d10
example â _:=x l.prog base T U H C X G d1
example ã:=by (change xl Ñ;first | show vZ | apply vi | apply wI)
example ä:=os.length
example å _:=x x y os ws qs
example æ:=yG _ _ (.Name "word" _) _
example ç:=(k:Int)
example è:=Option
example é:=#[rfl,rfl,rfl,rfl]
example ê:=by (change yH Ñ;first | show vk | apply vm)
example Ā1 _:=x rfl ()
example Ŧ:=(xj (xv É ċ) Ā1)
example ë5:=eq_int
example Î7:=(ë5 _ _ Ô)
example ì:=(yh (zL Ŧ rfl Î7)).trans
example í:=List.range
example î:=decide
example ð:=Str.join
example ñ:=by (exact zT.er ?_;ext Ä)
example ò:=by (first | show rC _ | apply rp | apply rB)
example ó:=List Bd
example ô:=.tup
example Ù4:=by ext á;cases d11;cases d12;cases d13
example ö:=by ext Ù4;cases d14;cases d15
example ù:=by let#[a,b,c,d,rfl,ha,hb,hc,hd]:=h
example ç7 _:=x â d2 d3 d4 d5
example ú _:=x ç7 d6 d7 d8 d9
example ç8 _:=x d2 d3 d4 d5 d6
example ü _:=x ç8 d7 d8 d9 d10
example ý:=by (change Í;apply vM;ext Ą5)
example þ:=List T
example ÿ:=#[A,B,os,ws,ss]
example Ā:=[a,b,c,d]
example Ă:=by (change vw Ñ;apply vK)
example À5:=(zi É)
example ă:=(zi rfl À5)
example Ą:=(rfl:Å[10]?=_)
example ą:=(rfl:Å[11]?=_)
example Ć:=(rfl:Å[12]?=_)
example ć:=(rfl:Å[13]?=_)
example Ĉ:=(rfl:Å[14]?=_)
example ĉ:=(rfl:Å[15]?=_)
example Ċ:=(rfl:Å[16]?=_)
example Č:=by simp;lia
example č:=zB0.mp
example Ď:=by (change vx Ñ;apply v_)
example ď:=decide_eq_true_eq
example ì7:=fr.contains w.t
example Đ:=(F.ws.filter λ w=>ì7).map λ w=>(w.f:Int)
example đ:=List Nat
example Ē:=(rfl:Å[0]?=_)
example ē:=(rfl:Å[1]?=_)
example Ĕ:=(rfl:Å[2]?=_)
example ĕ:=(rfl:Å[3]?=_)
example Ė:=(rfl:Å[4]?=_)
example ė:=(rfl:Å[5]?=_)
example Ę:=(rfl:Å[6]?=_)
example ę:=(rfl:Å[7]?=_)
example Ě:=(rfl:Å[8]?=_)
example ě:=(rfl:Å[9]?=_)
example Ĝ:=by (change vc Ñ;apply uE)
example ĝ{J:Ev}:=0
example Ğ _:=x F last
example Œ:=.zF ks ts
example ù5:=(wM N [Œ,row]).set 2 ↑(.im w)
example ğ:=((ù5).set 3 ↑(.im v))
example Ġ:=if_neg
example ġ:=List (Þ)
example Ģ:=by rw[e];simp
example ģ:=by intro _ _ _ _ _ nd
example Ĥ:=λ _ _=>rfl
example À9 _:=x s n sec F G
example ĥ:=ev À9 d10 d11 (im (eT P)) (im (eT Q)) õ none dk
example Ħ:=ts.length
example ħ:=(f J).bind _=_
example Ĩ:=(.bl true)
example ĩ:=(zy É rfl)
example Ī:=ws.map
example ī:=λ _=>rfl
example Ĭ:=yy.fv (xc _)
example ĭ:=(by change 2<=100;decide)
example Ű{F:zD}:=0
example Į Ű(ok:F.Ok):=0
example į:=(λ b=>↑(T.bl b))
example ď7{J J':Ev}:=0
example Ï4{f:zEO}:=0
example Ã6{g:T->Ev->è Ev}:=0
example õ7{pick:List (è Nat)}:=0
example İ õ7 Ã6 Ï4 ď7{y t:T}(hg:g y (kX pick J)=↑J') (hf:f J'=↑t):=0
example ù8 _:=x s sub hi
example ı:=forIn (List.range' cur m) st (occBody ù8 limit)
example ō:=.own
example Ĳ:=(λ l:þ=>↑(Out.nx (_::_::_::_::_::_::_::_::_::[↑(ō (à l))])))
example ĳ:=(qs.getLast?.map (·.2))
example Ĵ _:=x F.A F.B
example ç9:=zA5.mp
example ĵ:=by rcases ç9 hp with rfl | hp
example č6:=zt F
example Ķ:=(č6)
example È6 _:=x d11 d12 d13 d14 d15
example ķ _:=x ú d10 È6 d16
example ĸ:=(à ((w::ws).map ø))
example Ĺ _:=x ú d10 È6
example ĺ _:=x ú d10 È6 d16 d17
example Ļ _:=x È6 d16
example ļ _:=x d10 È6
example Ľ _:=x È6
example ľ:=by rw[zA7];lia
example ď8{x y:Int}:=0
example Ŀ ď8{os:ï}{ws qs:ġ}:=0
example ŀ:=by (change Ì;apply ud)
example Ł:=List (Ù)
example ł(F:zD):=0
example ì0:=eq_str
example Ä2:=(λ z=>↑(T.bl z))
example Ń:=(ì0 _ _ Ô).trans (Ü Ä2 ())
example ń{n:Int}(h0:0<=n) (h1:n<=13):=0
example Ņ:=F.ws.length
example Ň{c0:Nat}{yr:đ}(hy:L y=c0::yr):=0
example ň:=ows.map yL
example ŉ:=Or.inl rfl
example Ŋ:=Or.inr rfl
example ŋ:=Bool.false
example Ō{α:Type}:=0
example í2:=zG X mX
example í3:=zG Y mY
example Ŏ:=(((í3).map (xr X.A X.B)).zip ((í2).map (xr X.A X.B))).map λ p=>î (p.1=p.2)
example Ì8:=([],[],[])
example ŏ _:=x (mi p0) (ps.foldl wX Ì8)
example Ő:=List.length
example ő:=p.length
example č4:=ws.zip fs
example ç0:=∀ p∈ č4,iZ [ß p.1,ß p.2]=↑ Ĩ
example Á2:=ws.length
example Ā4(hl:Á2=fs.length) (hm:Á2<=100):=0
example œ(hw:((ku.map (·.1)).any λ k=>î (k=w))=true) (hk:ku.lookup w=↑fs) Ā4 (hf:ç0):=0
example Ŕ:=os.map
example ö3:=(yi É)
example ŕ:=yb (zp ö3 (zp ö3 (zp ö3 (yK rfl)))) rfl
example Ŗ:=λ p _ h h'=>(by dsimp only at h h';rw[h] at h';cases h')
example ŗ:=by (change æ;apply u3)
example Æ4:=List Bool
example ë0:=List Sl
example Ï3:=List Wy
example Ř{os:Æ4}{ws:Ï3}{ss:ë0}:=0
example ř{A B:Int}:=0
example Ś:=(yi (pX (w_ (wa (iy rfl))) (yh (zL (zN À5 rfl) rfl (ë5 4 4 true)))) rfl)
example ś:=(by change 4<=100;decide)
example ā0:=os.getD
example Ŝ(on:∀ p<ä,o p<ä) (inj:∀ p<ä,∀ q<ä,o p=o q->p=q) (cE:∀ j<ä,∃ p<ä,o p=j) {os':Æ4}(hn:os'.length=ä) (ho:∀ p<ä,os'.getD (o p) Ô=ā0 p Ô):=0
example ŝ:=zB0.mpr
example Ş:=(b.map λ q=>(q.2,q.1)).reverse
example ş:=xs.length
example ĉ9:=r.length
example ä1:=bs.length
example Š:=ĉ9=ä1/\∀ (i:Nat) x b,r[i]?=↑x->bs[i]?=↑b->b.1<=x/\x<=b.2
example ì8:=im (ß (oK bb))
example ò9:=λ x=>ø (wA x)
example Å6:=im (à (bb.map ò9))
example Ź:=zB (A,B)
example Ê9:=(à ((kn 13).map ø))
example š:=[ì8,im (Ź),Å6,im Ê9,none,none,none,none,none,none,none]
example Ţ _:=x (w_ (wa (zN (zi rfl (zi (xm rfl ā) rfl)) hw))) rfl
example ú3:=by ext ö;cases d16;cases d17
example ţ:=by ext ú3;cases d18;cases d19
example Ť:=(zb 0)
example ť:=#[⋯,⋯]
example ì2:=(zO Ô)
example ë9:=(Ö n)
example ü7:=im Ķ
example ä2:=(zb 2)
example ý0:=im (Ö (n%5))
example ŧ:=yd (zc ì2 ä2 (cS (Ö j))) (ü7::im ë9::ý0::J)
example Ũ:=by constructor
example ß8:=fresh
example ũ{last:ó}{ß8:đ}(s:St Ğ ß8):=0
example Ý3:=by dsimp only
example Ū:=by ext Ý3;lia
example ū:=rs.map zH
example Ŭ:=b.length
example ë2:=l.getD
example ŭ:=ë2 w.t []
example Ů:=qs.map
example ů:=λ _=>T.bl true
example ű:=by rintro⟨p,hp,h1,h2⟩
example Ų _:=x pu yz give get
example ų:=x.length
example Ŵ:=last.getD
example ŵ:=λ w h _=>#[w,h,.refl w]
example Ŷ:=by change ((e J).bind _).bind o7=_;rw[h];change (if inR (n:Int)=true then ↑(rangeT 0 (n:Int).toNat) else none)=_;rw[ë (by unfold inR;simp;lia),Ri];congr 1;show zc9 λ k _=>by rw[ze8]
example ŷ:=F.os.getD p Ô
example Ÿ:=List α
example ź(p:Nat):=0
example Ż:=(ō (à ts))
example ż:=∃ w∈F.ws,w.f=p
example Ž:=((yh (zL (zL É hs) rfl (ì0 s kk Ô))).trans (Ü some hq))
example ž:="floor "++w++" "++t
example ſ:=Ev->è Bool
example À0:=wR Ğ ß8
example À1:=by obtain⟨m,rfl⟩:∃ k,m=k+1:=#[m-1,⋯]
example À2(G:Gf os ws ss):=0
example À3 _:=x (yd (zc ì2 (zb 4) (cS (ß "second")))) (ic (tupS (za (zu 13) (za (zu 12) ze))) (wc 2 (y8 (zC 12) (y8 (zC 13) wK)))) yw
example ï0:=F.yz s.pu
example À4 _:=x s.pu (ï0) s.gv s.gt
example Č7:=(zi rfl û)
example À6:=(zQ (zN Č7 hmx))
example À7:=y.length
example æ9:=(cS (ß " "))
example À8:=(za æ9 ze)
example Á0:=ps.length
example Á1:=(xt F l p)
example Ø8{r:è T}:=0
example Á3{x y:T}Ø8(h1:fa J=↑x) (h2:fb J=↑y) (h:f x y=r):=0
example Á4:=by let#[w,hw,rfl]:=č hc
example Þ6:=(ß w)
example Á5:=(.im Þ6)
example Á6:=λ k:Nat=>nT k
example Á7:=#[[c].toArray]
example Á8:=RN.start
example Á9:=zG F m
example Â0:=F.os.map kt
example Â1:=(ň++oss.map pV).map
example Ò4:=(L x).drop
example Ĉ3:=by rw[strSub_toList];change (Ò4 a).take _=_
example Ā3:=by exact ext ?_
example Â2:=by congr 1;ext Ā3;change (strSub x a _).cps.toList=_;ext Ĉ3;rw[e,Nat.add_sub_cancel_left,List.take_left]
example Ċ4:=Str×Str
example Ë9:=plainT
example Â3(hk:ku.lookup w=↑fs) (hm:Á2<=100) (g:Ċ4->T) (h:∀ p∈ č4,nZ [Œ,ß p.1,ß p.2]=↑(g p)/\Ë9 (g p)=true):=0
example Ü8{ts:þ}:=0
example Â4{ks:List Key}Ü8:=0
example ó6:=.inr
example Â5:=(zp (eS Ó Ó 9) (zp (xu (ì (Ü some (zeV h5))) ((ZE rfl Ŧ rfl (ó6 h2)).trans (Ü Ĳ (Ġ ⋯)))) Û))
example à2:=(.im (ß row))
example Â6:=[↑(.im (Œ)),↑ à2,↑(.im ĸ),v]
example Â7{s:Sl}(hs:1<=s.gv/\0<=s.gt):=0
example ÿ9 _:=x x hx
example Â8:=by have nn:∀ w∈F.ws,∀ x∈ ŭ,0<=x.1/\0<=x.2:=λ w hw x hx=>#[((hl w hw).yJ ÿ9).1.1,((hl w hw).yJ ÿ9).2.1]
example Â9:=(zy É (jb F))
example Ã0:=(xC (za (tupS (za (cS (ß "fa")) (za (zu 5) ze))) (za (tupS (za (cS (ß "fb")) (za (zu 3) ze))) ze)))
example Ã1:=J=[ü7,im ë9,ý0,im (Ö (n/5)),im (nT q),none,none,none,none,none]
example Ã2:=F.ws.filter λ w=>î (w.f=p)
example Ã3:=[Ö a,Ö b,Ö c,Ö d]
example ü5:=F.ss.map
example Ã4:=ü5 λ s=>xq (lq x y s)
example Ã5:=lj [č6]=↑(kh (nr F m))
example Ã7:=Int.le_trans
example Ã8:=ŝ #[w,hw,rfl]
example Ã9:=[(0,12),(0,12)]
example Ä0:=by rcases hb with rfl | rfl <;> decide
example Ä1:=("floor":Str)
example í4:=zG F mF
example Û4:=zG G mG
example Ä3:=∀ t,y6 ((cond sec (Û4) (í4)).getD t []) ((cond sec (í4) (Û4)).getD t [])
example Ä4(pu:Bool):=0
example Ä5:=p.getLast?.getD (-1,99)
example Ä6:=(zy É (jQ F))
example Ù6:=zC6 _
example Ä7:=xn.mpr #[p,hp,Ù6,Ù6]
example Ä8:=by let#[r,hr,rfl]:=č hp
example Ä9:=by rename_i hdp;rw[ë hdp];simp![cond_true,cond_false,Option.some.injEq,T.bl.injEq] at this ⊢
example ô2:=(ô ts)
example Å0:=[↑(.im ô2),↑(.im (ô (bs.map zB)))]
example Å1:=by split <;> lia
example Å2:=by cases pu <;> rfl
example Å3:=sizeLine=16777216
example Å4:=(num n)
example Å5:=ð "; " (wH å)
example æ8:=HT.lexLt
example Å7:=(λ a b=>æ8 b a=Ô/\a≠b)
example ø0{p:Nat}:=0
example Å8 ø0(hp:p<Ð):=0
example à1:=L2.yD
example Å9:=zy É (by change à1 ((w::ws).map ø) 0=_;unfold à1 L2.oE;simp)
example ú6:=.inl
example Æ0:=(zp (eS Ó Ó 9) (zp (xu (ì (Ü some (zeV h5))) ((ZE rfl Ŧ rfl (ú6 h2)).trans (Ü Ĳ (ë h2)))) Û))
example Æ1:=[ó6 "fa",ó6 "fb"]
example É7:=ss.map
example Û0:=(Ŕ kt)
example Æ2:=by have e:zt ÿ=ô [Ź,ô Û0,ô ((Ī yL).map zH),ô ((É7 pV).map zH)]:=by rw[<- jZ,<- eJ];rfl
example Æ3:=(∀ x∈xs,∃ J',xO is J'=J0/\turn g b (enc x) J0=↑(if test x=true then .rt (ret x) else .nx J'))
example Ā2 _:=x ?_ rfl
example Æ5:=(zi (zN (zi rfl (zi (x:=Ö a) Ā2)) rfl) (zi (zN (zi rfl (zi (x:=Ö b) Ā2)) rfl) rfl))
example Æ6(hl:Ħ+us.length<=10000):=0
example Æ7:=by let#[x,hx,hp]:=zcG.mp hp
example Æ8:=Ev->è (þ)
example Æ9:=Builtin.Str.strKind
example Ç0:=List.cons.inj
example Ç1:=l.length
example û6:=(zQ rfl)
example Ç2:=(xu (yh (zL É (Ü į (zeV hk)))) û6)
example ß1:=mq (l s) x.2
example Ç3:=∃ w∈j7 (l (!s)) sh x.1 (ß1),(w.1<=y.1\/w.1<=z.1)/\(w.2<=y.2\/w.2<=z.2)
example Ì6:=F.stall p
example Ç4:=∀ p s,Ì6=↑s->∃ s',G.stall p=↑s'/\s'.pu=s.pu/\s'.gv<=s.gv/\s.gt<=s'.gt
example Ç5:=Txt.split
example Ç6:=(ð y (ps++[r]))
example Ù5:=zB6.mp
example Ç7:=#[[],last,rfl,λ r hr=>by cases Ù5 hr;show#[s.len,s.gd],rfl,zD4 _]
example Ç8:=(m.map (xr A B))
example Ç9:=#[_,rfl]
example È0:=(b.map zB)
example È2 _:=x (pX (w_ (wa (iy rfl))) hn) rfl
example Ć8:=Txt.contains s c
example È3:=((lx w).map λ c=>T.bl (Ć8))
example ç1:=(ps.map zB)
example È4:=(.im (à ç1))
example È5:=λ s=>s == ("keeper":Str)
example È7:=(zt G)
example õ4(x y:Int):=0
example È8 õ4 (os:ï) (ws qs:ġ):=0
example ß7:=(i:Int)
example È9:=(í Ņ).filter λ k:Nat=>! î (ç=ß7)
example É0:=by congr 1;ext Ā3;change (strSub x a ų).cps.toList=_;ext Ĉ3;rw[zeB (by rw[zcM,ot];show zA4 _),e]
example ĉ0:=by have:=Ü Ő e;simp at this
example É1:=by ext ĉ0;lia
example û7:=è Int
example É2:=List (û7)
example É3:=yF s.pu q
example Ù9:=l.map
example É4:=(Ù9 (xr A B))
example Ö9:=(cI 0)
example ý1:=(zc zk (zb 5) Ö9)
example É5:=(kF jo (za (zb 7) (za (cS (ß "fa")) (za ä2 (za ý1 ze)))))
example É6:=λ r hr=>?_
example ï5:=by change ħ;rw[h]
example É8:=by ext ï5;rfl
example É9:=by have ok:=g.ok;show#[λ q hq=>W5 ok (hg.yJ q hq),by have:=hg.pY ok.a0;have:=g.a;lia,hg.jL]
example ď3 _:=x s.pu x
example Ê0:=(ï0+1-yF ď3).toNat
example ą6{os:Æ4}{ws ws':Ï3}{ss:ë0}:=0
example Ê1 ą6{v:Wy}(hm:∀ w,w∈ws'↔w∈ws\/w=v):=0
example Ê2:=by rw[zdS,zdT];lia
example Ê3:=(ts.zip bs).all λ p=>wh p.1 p.2.1 p.2.2
example Ê4:=(ō (à []))
example Ê5:=Txt.replace p ">" " "
example Ê6:=(zc zk (zb f) Ö9)
example Ê7:=(č4).map
example Ê8:=F.ws.map y7
example Ë0(n:Nat):=0
example Ë1(last:ó):=0
example Ë2{f g:zEO}:=0
example Ë3{r:Þ}(h:jt r):=0
example Ë4:=by rw[zA6,WN,h];let#[J',h1,h2]:=ht x zc1;rw[h2,zcO];by_cases c:test x=true
example Ć4:=wO ns
example Ë5:=(.im (Ć4))
example Ë6:=(yi (yh (zL É (Ü į (zeW hk)))) rfl)
example Ë7:=(.im (zt å))
example Ë8:=absurd
example Ì0:=(y8 (zC 8) (y8 (zC 9) wK))
example Ì1:=decide_eq_decide.mpr
example Ì2:=(.nx (J.set i ↑(ō (à (ts++us)))))
example Ì3:=ô [Ö F.A,Ö F.B]
example Ì4:=(g J).bind _=_
example Ì5:=ë (zE0 hl ())
example Ì7:=s.1.length+s.2.1.length+s.2.2.length
example Ì9:=(zy É (kx F))
example Í0:=(nU À9 none ↑(ō (.zF [] [])) õ)
example Í1{q:Ù}:=0
example Í2:=by simp![zE5,ď,zeC,List.contains_eq_mem,decide_eq_false_iff_not] at hk
example Í3:=Gd A B b
example ê8:=zC8.mp
example Í4:=by let#[w1,w2]:=ê8 hw
example Í5:=(ns.map ņ)
example Í6:=rows.length
example ĉ8:=List.map
example Í7:=↑(T.bl ((ĉ8 _ _).all id))=_
example Í8:=by intro h;exact#[OH.mpr #[hq.1.1,hq.2.1],λ c hc=>?_];unfold xt at hc;ext Á4
example Î0:=∀ p∈ps,c0∉L p
example Ý9 _:=x (Ö i) (Ö j)
example Î1:=zO neg Ý9=↑(.bl (cond neg (! î (i=j)) (î (i=j))))
example Î2:=Option.map_some
example Î3:=(cI 1)
example Î4:=(.im (Ö many))
example Î5:=(.im (Ö more))
example Î6:=(zQ (xj É pm))
example Î8:=by change (if ß7<0 then (ß7+(ş:Int)).toNat else min (i:Int).toNat ş)=i;rw[Ġ ⋯];lia
example Î9:=by .rw[Ġ c];rw[zE9] at c;rw[c];show bu enc ret test J0 xs J' h1 λ y hy=>ht y (zc2 _ hy)
example æ7:=last.length
example Ï0{last fo:ó}(hl:fo.length=æ7):=0
example ï9(k:Nat):=0
example ø3(ns:Þ):=0
example Ï1 ø3 ï9:=0
example Ï2:=zc zk ä2 Ö9 [↑(.im (Œ)),↑ à2,↑(.im ĸ),u]
example Ï5:=os.all ml=true
example Ï6:=iz (pu:=s.pu).mp
example Ï7:=by simp![zA5,zc6,or_false] at hk;rcases hk with rfl | rfl | rfl | rfl <;> lia
example Č5:=xs.map
example Ï8:=(Č5 λ x=>T.bl (g x))
example Ï9(q:Ù):=0
example Ð0:=beq_eq_false_iff_ne.mpr
example Ð1:=[↑ Á5,none]
example ë8:=(k:Nat)
example Ð2:=fr.map λ ë8=>ņ ç
example Ð3:=(Á9).getD p []
example Ð4:=(q::b).map wA
example Ð5:=(zi (zy É (bR F)) rfl)
example Ð6:=λ b=>ø (wd sec b)
example Ð7:=(Ŕ _).length
example Ð9 _:=x ⋯ ⋯
example Ñ0:=by .rintro⟨k,h1,_⟩;exfalso;have:0<=ç*give:=zdR Ð9;lia
example Ñ1(I:nk F G o sw):=0
example Ñ2 _:=x (is:=[2]) (g:=zC 2)
example ć8(hA:0<=A/\A<=12):=0
example Ñ3 ć8 (hB:0<=B/\B<=12):=0
example Đ0 _:=x r hr
example Ñ4:=by let#[a,b,c,d,rfl,h1,h2,h3,h4,_]:=cL Đ0;rw[zA7] at h1
example Ñ5(gF:Good F) (gG:Good G):=0
example ć2:=λ a b=>a.p≠b.p
example Ñ6:=F.ss.Pairwise (ć2)
example Ñ7:=#[F.A,F.B,F.os,ws',F.ss]
example Ñ8:=m/2048%(2*span+1)-span
example Ñ9:=λ q hq=>h q (zc2 _ hq)
example Ò0:=(.im (à (bs.map bT)))
example Ò1:=(qL (nG É ċ) Ā1)
example Ò2 _:=x hA hB hl' (λ x hx=>gb x (zc2 _ hx)) (λ x hx=>gc x (zc2 _ hx)) hs
example Ò3:=by rw[oB,hg,zC9,xo,zC9,hf];rfl
example Ò5:=λ p hp=>?_
example Ò7:=zE4.mpr
example Ò8:=ô (Ů zH)
example Ò9:=(p:Int)
example Ó0:=(yK (xm (zi rfl (zi rfl (zi (zN Č7 w1) À5))) ā))
example Ó1:=Str.length_append
example Ó2:=p++[rk s x]
example Ó3:=ows.map y7
example Ó4:=#[p,t,n/16%7-3,n/112%7-3]
example Ó5:=ß "floor"
example Ó6:=Txt.startswith
example Ó7:=G.os.length=Ð
example Ó8:=G.os.getD p Ô
example Ó9:=(.im (Ö at'))
example Ô0:=(zp (eS Ó Ó 9) (zp (yi (ì (Ü some (zeW h5))) rfl) Û))
example Ô1:=(Ð:Int)
example ú4:=λ _ h=>h
example Ô2 _:=x (ú4) (λ _ _ _ _ h=>h) (λ j hj=>#[j,hj,rfl]) rfl (Ĥ)
example Ô3:=(zb 1)
example Ô4:=ns.length
example Ô5:=Bool->û7
example Ô6:=by change (fa J).bind _=_;rw[ha];change (fb J).bind _=_;rw[hb];change (f x y).bind _=_;rw[hf]
example Đ8:=x8 s.pu q
example Ô7:=min (Đ8+s.gt) (F.yz (!s.pu))
example ö0:=Ŵ p []
example Ô8{last:ó}(hg:∀ p,Gd Ĵ (ö0)):=0
example Ô9:=∀ ts,t=ô ts->∀ r∈ts,v7 r=true
example Õ0:=List (ó)
example Õ1:=[none,↑1]
example Õ2{r:Þ}(h:ig r):=0
example Õ3:=by intro q hq;unfold lR at hq ⊢;rw[dQ] at hq ⊢;exact#[hq.1,λ c hc=>?_]
example ê9:=zB9.mp
example Õ4:=by rcases ê9 hp with hp | hp
example Õ5 _:=x n (g+give) (xV (t-get))
example Õ6:=kj F.os o
example ý4{x y:Str}:=0
example Õ7 ý4(hy:1<=À7):=0
example Õ8(b:Bd):=0
example Õ9(he:nc t=Ô):=0
example Ö0{ts us:þ}(h0:J[i]?=↑↑ Ż):=0
example Ö1:=(zQ (zL (x:=à [Ö 1,Ö 2,Ö 3,Ö 12]) rfl Ŧ s3))
example Ö2:=(w.f<ä/\w.t<ä)/\(-12<=w.a/\w.a<=12)/\-12<=w.b/\w.b<=12
example Ö3:=by let#[t,ht]:=(fA (pY hy)).mp h.2.1
example Ö4:=by have g2:Gd A B x:=h x (Ģ);have l1:=g1.pY hA.1;have l2:=g2.pY hA.1
example Ö5 _:=x (Ć4) n Ô F F õ õ
example Ö6{n:Int}(h:Nm n):=0
example ă4:=ð y [p,r]
example Ö7:=occurrences (ă4) y 0 (ă4).length 1
example Ö8:=zG F k
example Ø0:=(λ k:Nat=>ņ (0+ç))
example Ø1:=m/64%(2*span+1)-span
example Ø2:=à ((p0::ps).map ø)
example Ø3:=es.map
example Ø5 _:=x (w:="mirror") (ws:=["fc","fa"]) (fs:=["name","floor"])
example Ø6:=(rows.map zH)
example Ø7:=[zt G,č6]
example Ø9:=(cB " " 1)
example Ù0:=ws'.map y7
example Ù1:=(zc ì2 (zc yQ (zc x9 Ô3 (cI 600)) (cI 3)) Î3)
example Đ9:=kb many r
example Ù3(hw:∀ r∈ws,Đ9) (hq:∀ r∈qs,jw (Ŕ ø) r):=0
example Ù7:=Gd Ĵ b
example Ù8:=λ s=>î (s.p=p)
example Ú0:=(í Ð).map
example Ú1:=by simpa [ZH] using hk
example Ú3:=(ô (ū))
example Ú4:=(zQ (xm (zi rfl (zi (zL (zN À5 rfl) É) rfl)) ā))
example Ú5:=L4.xN (wQ rows)
example Ú6:=ß "keeper"
example Ú7:=è L5.W
example Ú8:=((L w).all λ c=>î (c<128))
example ċ3:=by rw[zD6];rfl
example Ú9:=by ext ċ3
example Û1:=(pl.length:Int)
example Û2:=(zQ (qL É ()))
example Û3:=(zQ (nG É d5))
example Û5(h:jl å):=0
example Û6:=by ext ï5;show h'
example æ2 _:=x p hp
example Û7:=by have p0:=hb æ2;have g0:0<=yF s.pu p/\0<=x8 s.pu p:=by unfold yF x8;ext Å1
example Û8:=∀ r,qs++xX r ĳ=xX (p++r) none
example Û9{b c:Bd}(h:Í3) (h':Gd A B c):=0
example ì3:=(.im a)
example Ü0:=[↑ ì3,↑ Ż,v,↑(.im (zH [p,b,c,d]))]
example Ü1{b:Int}(h:b=0\/b=1):=0
example Ü2 _:=x (w:="border") (ws:=[w,num p]) (fs:=["floor","number"])
example Ü3:=(fA (pY hy)).mpr #[_,fq e]
example Ü4:=by exact zc8.mpr #[λ c hc=>?_,ih];rcases ç9 hc with rfl | hc
example ă1(ha:P a) (hb:P b):=0
example Ü5{P:Str->Prop}{a b c:Str}ă1 (hc:P c):=0
example Ü6:=L4.xN (wQ (ň))
example Ü7:=F.os.set q true
example Ü9 _:=x "keeper" "taker"
example Ý0:=by let#[x,_,rfl]:=č hr
example Ý1 _:=x "second" "first"
example Ý2:=(pX (w_ (wa (zN û brims))) (w_ (wa (zN û own))))
example Ý4:=oB pick g xo f J y=↑↑t
example Ý5:=(ts.all λ r=>wg r (sb ä))
example Ý6:=[↑ Á5,↑(.im ë9)]
example č1:=num (ç-12)
example Ý7:=(L (č1)).contains
example Ý8{f:T->T->è T}{fa fb:zEO}:=0
example Þ0(hm:1<=many) (hm8:many<=8):=0
example Þ1 _:=x (by rw[zC5];lia) λ k hk=>?_
example Þ2:=ŝ #[r,hr,rfl]
example Þ3:=α->Bool
example Þ4:=(zm xy (za Ť ze))
example Þ5:=(Č5 enc)
example Þ7:=os++(Ī vf++Ů pW)
example Þ8:=(" ":Str).length=1
example ă6:=(zH r)
example Þ9:=(.im ă6)
example ß0:=w.length
example ß2:=[ô [Ö 0,Ö 0]]
example ß3:=by simp[zt]
example ß4{F G:zD}:=0
example ß5:=(u J).bind _=_
example ß6:=zC8.mpr
example ß9:=T.tup
example à0:=yb (wN (xu (W2 (w_ (wa (b:=Ô) rfl))) rfl)) rfl
example à3:=zB (F.A,F.B)
example à4:=#[mn.2.2 _ ⋯ (),mn.1]
example à5:=#[(),(),(),(),()]
example à6:=λ k=>vg ((Á9).getD k [])
example ñ7:=m.getD
example à7(h:∀ t<Ð,ñ7 (o t) []=ox sw (ë2 t [])):=0
example à8:=by let#[a,b,c,d,rfl,h1,h2,h3,h4]:=cv Đ0
example ċ6:=partsFrom
example à9:=by subst hc;have e2:=fq (fq e);rw[ot y] at e2;change strSub x a _::ċ6 x À7 _ cs=_
example ĉ2:=k_ (pu:=s.pu).mpr
example á0:=by rw[jN,gW] at h2;show#[p,hp,ĉ2 (by rw[jN,gW];lia)]
example á1:=by unfold wD at hq ⊢;rw[dF] at hq ⊢;rcases hq with x | ⟨c,hc,x⟩
example á2:=[↑a0,↑a1,none,none,none,none,none,none]
example á3{b:Bd}:=0
example á4 _:=x (w:="compare") (ws:=[a,b]) (fs:=["floor","floor"])
example á5{i j:Int}(h1:fa J=↑(Ö i)) (h2:fb J=↑(Ö j)):=0
example á6:=(ts.all λ r=>wg r (wb n))
example á7:=(wH å).length
example á8:=by let#[a,b,c,d,rfl,h1,h2,h3,h4]:=hw Đ0
example á9:=#[F.A,F.B,F.os,F.ws,ü5 (lq x y)]
example â0 _:=x [6] (xW gz (za (cI 30) (za (cI 36) ze))) (zC 6) YU
example â2:=by change (fa J).bind _=_;rw[h1];change (fb J).bind _=_;rw[h2];show h
example â3:=∃ k:Nat,yc b (wz s.pu (É3-k*s.gv) (Đ8+k*s.gt))=true
example â4 _:=x [(["word","form","self"],[none,none,↑0])] H.Qv
example â5:=by have h3:(wU a b q).1<=A/\(wU a b q).2<=B:=by simpa [i6] using h2
example â6:=(["floor",w]:ï)
example â7:=m x<=k/\(g x).length<=m x
example â8(n:Int):=0
example ú9:=hb.yJ æ2
example ø7:=k_ (pu:=s.pu).mp
example ã0:=by have h2:=ø7 h1;have h3:=Ï6 (show m6 F p from ú9)
example ã1:=by change (start F).getD t []=_;unfold start;rw[zB1,zd3,ë ht];rfl
example ã2:=[none]
example ã3{i j:Int}(h1:f J=↑(Ö i)) (h2:g J=↑(Ö j)):=0
example ã4:=∀ k,f<=k->¬ At x y ų k
example ã5:=Gd.vB ok.a0 ok.b0
example ã6:=by exists w2
example ã7:=(k+1:Nat)
example ã8:=#[A,B,os,ws',ss]
example ã9:=λ w h _=>#[w,(hm w).mpr (ú6 h),.refl w]
example ä0:=oX o sw w
example ä3:=many+more
example ä4:=qs.length
example ä5:=à (Ī ø)
example ä6:=(k9 a s ↑(.im (ß p)))
example ä7:=zB (x,y)
example ä8:=L (num ç)
example ä9:=List.Pairwise.imp_of_mem
example å0:=oK (q::b)
example å1:=(xr a c b).map zB
example å2:=oss.map xq
example å3:=ß "mirror fc fa"
example å4:=["mirror","fc","fa"]
example å6{o:è Out}:=0
example å7(t:T):=0
example å8(sw:Bool):=0
example å9 _:=x (ts:=[ô (Ŕ ø),ô (Ī zH),Ò8]) h.x h.y rfl
example æ0(g:Good F):=0
example æ1:=[↑ Á5,↑(.im (ß s)),↑(.im (Ö m))]
example æ3:=by let#[w,hw,rfl]:=I.w2 v hv
example æ4 _:=x (x:=lW È7 Ķ) rfl
example æ5:=(Ŵ w.t [])
example æ6:=(wD Á1)
example ç2:=Option.bind
example ç3:=by simp[dep]
example ç4:=pre++[last]
example ç5(b c:Bd):=0
example ç6 _:=x mainGlobals mg
example è0:=((r::rs).map zH)
example è1:=pH (Ů fst)=true
example è2:=(yi (nn e0) rfl)
example è3{xs:þ}{y:T}(h:g J=↑xs) (hF:F xs=↑y):=0
example è4:=occurrences x y 0 ų n
example è5:=∀ w∈F.ws,Gd Ĵ (ŭ)
example è6:=î (1<=Ħ)&&î (Ħ<=8)
example è7:=(ts.map rowOf).map fst
example è8:=StrLaws.join_length_le
example è9:=yb (zp û6 (zp (vp rfl h1) rfl)) rfl
example é0:=(xor sw s.pu)
example é1:=by have:=L.it (mF+mG) t;rw[sF,ze3 mF mG,sG] at this;show this
example é2 _:=x À5 (by change 1<=100;decide)
example é3:=[ü7,im (nT p),im (rT l),none,none]
example é4(A B:Int):=0
example é5{p:Str}(h:g J=↑(ß p)) (hp:ő<=1000000):=0
example é6:=by rw[<- ot,hy];simp
example é7:=y6 ((Ö8).getD t []) ((zG G k).getD t [])
example Ď0:=(bT b)
example Ă3:=(a,c)
example é8:=[↑(.im Ď0),↑(.im (zB Ă3))]
example é9:=(zi rfl (zi rfl (zi (zy É (kx G)) rfl)))
example ê0{b:Sm}(enc ret:α->T) (test:Þ3) (J0:Ev):=0
example ê1 _:=x () ()
example ê2{g:Ù->Bd}{m:Ù->Nat}:=0
example ê3:=by rcases r3 with rfl | ⟨ws',v,rfl,hm,ho⟩
example ê4:=(F.ws.zipIdx).filter λ wi=>î (wi.1.f=p)
example ê5(hg:∀ k:Nat,k<many->∃ r∈ws,fst r=ç):=0
example ê6:=partsBetween_eq
example ê7:=(lb A B a b bd)
example ë1:=(xt Ğ p)
example ë3:=(í Ð)
example ë4:=I.step okF h hw
example ë6:=rs.length
example ë7:=["thing"]
example ì1:=(.im (Ö span))
example ì4:=(gN (zi hb rfl) (Nat.le_add_left 1 99))
example ì5:=L " "
example ì6:=(wN (xu É))
example ì9:=G.sr s hs
example í0:=(yY Â9 (eV kt F.os))
example í1:=(yY Ä6 (eV y7 F.ws))
example í5:=λ b=>ø (wd (!sec) b)
example í6{n:Nat}:=0
example í7(hA:A<=12) (hB:B<=12):=0
example í8(xs:Ÿ):=0
example í9{r:Þ}(h:ĉ9=4):=0
example î0 _:=x rfl ⋯
example î1:=by rw[zD6];exact zc9 É6
example î2:=beq_iff_eq
example î3:=yW F l p
example î4:=(xm ă ĭ)
example î5:=#[e3,e4]
example î6:=ô [Ö w.f,Ö w.t,Ö w.a,Ö w.b]
example î7:=(Ņ:Int)
example î8:=ki N f1 f2 c ga c2 gb ks ts [row]=↑r
example î9:=K w.params
example ï1:=by have hp':p∈ Ş:=hp;rw[zeQ] at hp';let#[r,hr,rfl]:=č hp'
example ï3(yz give get:Int):=0
example ï4:=[none,none]
example ï6:=by generalize fN=ff,bT b=bt,Ź=pp at *;simp[this]
example ï7{row w:Str}{ws fs:ï}:=0
example ï8:=(À0).getD p []
example ð0:=(many:Int)
example ð1(b:Bool):=0
example ð2(R:lg F m):=0
example ð3:=by rintro⟨h2,h3⟩;rcases ç9 h2 with rfl | h2
example ð4:=by unfold xV;ext Å1
example ð5:=î (a<=i)&&î (i<=b)
example ð6:=(λ a b=>ß9 [a,b])
example ð7:=(oJ λ bs=>bs.all id)
example ð8:=(b.flatMap g).length
example ð9:=ss.any λ s=>î (s=x)
example ñ0:=[(("fa":Str),G),(("fb":Str),F)]
example ñ1:=["border","other"]
example ñ2:=[(["way"],ã2),(["stall"],ã2)]
example ñ3:=by rw[<- zcZ,Za,List.zip_map_left,zD6];rfl
example ñ4{a0 a1 a2:W}{d:List (Key×T)}{S:þ}:=0
example ñ5(h5:xR zs=true) (h6:pZ ks ts zs=↑r):=0
example ñ6:=g J=↑(.bl b)
example ñ8:=(told++[last])
example ñ9:=zC1.mp
example ò0:=List.replicate
example ò1:=(0<=q.1/\q.1<=F.A)/\0<=q.2/\q.2<=F.B
example ò2:=Yf (hg w.t) hq
example ò3:=(za (cS (ß k)) (za (cS (ß l)) ze))
example ò4:=Builtin.bitAnd
example ò5:=(.im (Ö num))
example ò6:=(zc zk Ť Î3)
example ò7:=ð " " (w::ws)
example ò8:=(mq (l s) y.2)
example ó0:=λ a b=>a.p<b.p
example ó1:=(à ((["floor",w,t]:ï).map ø))
example ó2:=by dsimp only at h1 h2
example ó3:=by simp![dep];lia
example ó4:=by let#[x,hx,rfl]:=č hp
example ó5:=[x,y]
example ó7:=vA Ų n g t
example ó8:=yW Ğ p
example ó9:=(q.1+w.a,q.2+w.b)
example ô0:=lp sw q
example ô1:=okF.ws w hw
example ô3:=ts.all λ r=>wg r bs
example ô4:=p.toNat
example ô5:=(0:Int)
example ô6:=(∀ r∈qs,jw os r)
example ô7:=l7 h0 (k:=0) rfl ha
example ô8:=l7 h0 (k:=2) rfl hc
example ô9:=l7 h0 (k:=3) rfl hd
example õ0:=by cases sw <;> cases s.pu <;> rfl
example ċ7:=(b::l)
example õ1:=by have h':î (a<b)=true/\pH ċ7=true:=by simpa [pH] using h
example õ2:=by .intro r hr;let#[q,_,rfl]:=č hr;show XU q
example õ3:=lB [Ö y,(xE d (ú6 k)).getD (Ö y)]
example õ5:=[↑(.im Ķ),↑(.im (Ö p)),none]
example õ6{ps:ï}(h0:ps≠[]):=0
example õ8:=a+(L p).length
example õ9:=by change (g J).map _=_;rw[h];rfl
example ö1:=by simp[h]
example ö2:=∀ k:Nat,k<many->∃ r∈rs,fst r=ç
example ö4:=bd.map (wU w.a w.b)
example ö5:=["_law_floor_here","_law_number"]
example ö6:=["floor","place"]
example ö7{xs:þ}(hu:u J=↑xs) (hl:ş<=100):=0
example ö9{b c:Bd}(h:y6 b c):=0
example ø1(enc:α->T):=0
example ø2 _:=x (λ r:T=>r) _ ts (Ü some (zcS ts).symm)
example ø4(w:Str):=0
example ø5:=by .rcases ZN (h.o æ2) with rfl | rfl <;> decide
example ø6:=by have h1:=(o9 ha).1;have h2:=(o9 hc).1;have h3:=(o9 hd).1
example ø8:=by change (c J).bind _=o;rw[e];show e'
example ø9:=[none,↑0,↑2]
example ù0(x:Int):=0
example ù1 _:=x id true
example ù2{r:T×List Key× þ}:=0
example ù3:=(yh (zL (xj É ()) rfl Î7)).trans
example ù4:=(zy (x:=zt å) É (om (k:=1) rfl))
example ù6:=(ev À9 (im (à (Ø3 Ð6))) Ļ dk)
example ù7:=λ p:Str×zD=>ß9 [ß p.1,zt p.2]
example ù9 _:=x _ _ Gd.nil
example ú0:=by rw[zC7,xn,xn];ext Ũ
example ú1:=by let#[b,_,rfl]:=č hp
example ú2:=by let#[r,hr,rfl]:=č h
example ú5:=r.1<=p.1/\r.2<=p.2
example ú7:=by unfold wU xV;ext Ý3;ext Å1
example ú8:=λ i h1 h2=>?_
example û0:=Nat->Nat
example û1:=ŝ #[w,ß6 #[hw,zeV e],rfl]
example û2:=yb (zp (yi È2) (yK (aE hc))) rfl
example û3:=(Ö k)
example û4:=(.im (à os))
example û5:=(ô [br,ô os,ô (ū),Ò8])
example û8:=λ n=>w == num n
example û9:=m_ x y
example ü0:=pC i f J=↑(.nx (J.set i ↑ Ż))
example ü1:=[clip a,↑b,clip c,clip d]
example ü2:=(.bl Ô)
example ü3:=((h0 _ _).mpr rfl)
example ü4:=gF f (w,"floor")
example ü6:=[č6,Ö p]
example ü8:=wR Ğ fr
example ü9:=F.ws.getD k w
example ý3 _:=x f g J
example ý5(s:Sl):=0
example ý6:=by split <;> assumption
example ý7{l m:ó}:=0
example ý8(hl:ë6<64) (hn:∀ r∈rs,r≠[]):=0
example ý9(h:f J=↑(à ts)):=0
example þ0 _:=x (c0:=32) (yr:=[]) ()
example þ1(h:o8 q):=0
example þ2:=(0<=p.1/\p.1<=A)/\0<=p.2/\p.2<=B
example þ3:=(0<=q.1/\q.1<=A)/\0<=q.2/\q.2<=B
example þ4:=(Pn rfl hz' λ r h=>(hr r h).2.1)
example þ5:=à1 Í5 ç=↑(Ö (ns.getD k 0))
example þ6:=by change (c J).bind _=_;rw[h];show h'
example þ7 _:=x (yF s.pu p) (x8 s.pu p)
example þ8:=by have:=h.ln;simp![wH,zC0,zD7,zA7];lia
example þ9:=xX (p++[x]++r) none
example ÿ0:=λ c hc=>h c (by rw[e];simp[hc])
example ÿ1:=by ext ţ;cases d20;cases d21
example ÿ2:=λ _=>true
example ÿ3(g t:Int):=0
example ÿ4:=by unfold z_;rw[ë hn,h];rfl
example ÿ5:=PyProof.Rows.split_weight x y hy
example ÿ6:=by rcases h with rfl | rfl <;> decide
example ÿ7:=#[F.A,F.B,Ü7,F.ws,F.ss]
example ÿ8:=[ó6 "fa",ó6 "fb",ó6 "fc"]
example Ā0 _:=x pu (wz pu x y)
example Ā5 _:=x fd ["_law_script"] (nq K (zR zl aW))
example Ā6 _:=x ĺ d18 d19 d20
example Ā7:=ð y (p::qs++[r])
example Ā8:=zC1.mpr
example Ā9:=lD last fo
example ā1:=wD (xt G m (o p))
example ā2:=a::b::l
example ā3:=λ a b=>æ8 b a=Ô
example ā4:=(zQ (xv É d624))
example ā5:=ß "taker"
example ā6:=(zm xB (za (zc zk Ê6 Ö9) ze))
example ā7:=(zm xB (za (zc zk Ê6 Î3) ze))
example ā8:=L4.xN rows
example ā9:=(wi.2:Int)
example Ă0:=(yh (zy (zy ĩ rfl ho) rfl tk))
example Ă1:=hg.yJ ÿ9
example Ă2:=a.toNat
example Ă4:=(nT Ð)
example Ă5{i:Nat}:=0
example Ă6(bs:ó):=0
example Ă7(told:Õ0):=0
example Ă8{f g:T->T->è T}{fa fb fc:zEO}:=0
example Ă9(neg:Bool):=0
example ă0(p:Str):=0
example ă2 _:=x 2000 [] (Á8 F) ë3
example ă3:=Ë8 (WI e h.1 z ht) (hf p zc1)
example ă5:=yc b q
example ă7:=ô [a,ô os,ô ws,ô ss]
example ă8:=ç<(Ô4:Int)
example ă9:=(zb 3)
example Ą0:=("a":Str) == w
example Ą1:=ë rfl
example Ą2:=[↑(.im (ß t)),↑(.im V)]
example Ą3:=tab.lookup w
example Ą4:=(ō (.xw d))
example Ą6 _:=x (yF s.pu r) (x8 s.pu r)
example Ą8:=by have:=WC b d;unfold zO at this ⊢;split at this
example Ą9:=by change (f J).map _=_;rw[h];rfl
example ą0:=if (q.2 == Ä1)=true then G else ß q.1
example ą1:=by cases b <;> decide
example ą2:=∀ s∈os,s="keeper"\/s="taker"
example ą3{last:ó}{w:Wy}(hb:Gd Ĵ æ5):=0
example ą4{w:Str}:=0
example ą5{m:Nat}:=0
example ą7:=by simp[zO,dep,eqT]
example ą8(s:Rd):=0
example ą9(hn:n<=1000) (h:e J=↑(nT n)):=0
example Ć0:=PySem
example Ć1:=∀ i,y6 (ë2 i []) (ñ7 i [])
example Ć2:=nofun
example Ć3:=keeps
example Ć5:=[↑ ì3,↑ Ż,↑ Þ9,w]
example Ć6:=(by rw[h1];rfl)
example Ć7:=Ī (·.map clip)
example Ć9:=(à ((b.map (rk Ô)).map zH))
example ć0:=ô [Ö A,Ö B]
example ć1:=ô [Ö a,Ö b]
example ć3:=(Â0).drop (q+1)
example ć4:=(yi (nn e1) rfl)
example ć5 _:=x hs.1 hs.2 100
example ć6(ha:fa J=↑x) (hb:fb J=↑y):=0
example ć7(hv:v J=↑z) (hf:f J=↑ û3):=0
example ć9(h:∀ x∈b,o8 x) (hl:Ŭ<=20):=0
example Ĉ0 _:=x È7 Ķ (zt M)
example Ĉ1 _:=x rfl (zy É (VY F s.pu))
example Ĉ2:=by have e2:HT.yf ş ş none=ş:=rfl;rw[e,e2]
example Ĉ4:=by rw[e (by rw[I.n];show I.on æ2),e hp]
example Ĉ5:=sw=true
example Ĉ6(l:ó):=0
example Ĉ7:=by .dsimp only at ho;rw[hk] at ho;cases ho
example Ĉ8:=(if r.gt+y<12 then r.gt+y else 12)
example Ĉ9:=by unfold kZ;exact zD0.mpr #[w,w1,?_]
example ĉ1:=by change Ì4;rw[h]
example ĉ3:=(à ((o.map (rk true)).map zH))
example ĉ4:=g_ Ñ _ (by rw[s.len];show hp)
example ĉ5:=Eq.trans
example ĉ6:=wU a b r
example ĉ7:=bs.foldl
example Ċ0:=(Ħ:Int)
example Ċ1:=m/8%many
example Ċ2:=32∉L p
example Ċ3:=λ c=>î (c∈L "0123456789")
example Ċ5:=PySem.W.KIN.num_reads h0 ⋯
example Ċ6:=d.length
example Ċ7:=(à ((gr W A B l m).map ø))
example Ċ8:=(zD.mk A B os ws ss).stall p
example Ċ9:=by rw[h0];ext Ý3
example ċ0:=by let#[h1,h2]:=ê8 hp
example ċ1(ß8:đ):=0
example ċ2(hs1:1<=span) (hs2:span<=12):=0
example ċ4(b o:Ł) (hl:Ŭ+o.length<64):=0
example ċ5(b d:Bd) (hb:x_ b) (hd:x_ d):=0
example ċ8:=y6.refl _
example ċ9:=m6 F q
example Č0:=(wD (xt G m p))
example Č1:=by unfold yW;rw[ë hF,hs]
example Č2:=(p.2,p.1)
example Č3:=(q.1+(ä0).a,q.2+(ä0).b)
example Č4:=((ô0).1+w.a,(ô0).2+w.b)
example Č6:=r.getD
example Č8:=Ö (0+ç)
example Č9:=(ô os)
example č0:=["a","b"]
example č2:=by rw[zc4,zc4,zcA];rfl
example č3:=(fs.map ø)
example č5:=(yh (zy É ht))
example č7:=(p.foldl lM [])
example č8:=(zN rfl (aP F))
example č9:=(zN rfl h1)
example Ď1:=b.Pairwise (λ x y=>m x<m y)
example Ď2:=Á8 F::more
example Ď3:=ss.Pairwise
example Ď4:=kS [à (Ó3)]=↑(à (Ù0))
example Ď5:=if x<c then x else c
example Ď6:=ß "fc"
example Ď7:=es.length
example Ď8:=(by ext Å1)
example Ď9:=["floor"]
example ď0:=by have e1:(ã7:Int)*s.gv=k*s.gv+s.gv:=Ê2
example ď1:=by change ß5;rw[hu];show Ì5
example ď2:=n_ Ú3 many=true
example ď4:=by rw[zD7,zD7,ot,ot y] at this;lia
example ď5:=(p.foldl kG vB)
example ď6:=if s.gt+y<12 then s.gt+y else 12
example ď9(w:Wy):=0
example Đ1 _:=x G.A G.B
example Đ2(r:Þ):=0
example Đ3(os:þ):=0
example Đ5:=by have:=(hm ÿ9).2.2;have:=(hm y hy).2.2
example Đ6:=mf (Ò8) os=true
example Đ7:=by change (v J).bind _=_;rw[hv];change ħ
example đ0:=(if r.gv-x>1 then r.gv-x else 1)
example đ1:=by rintro p x r e J rfl;have hx:x∈bb:=Ģ
example đ2:=by change Í7;rw[zcJ];show Ü į (Ò7 Ĥ)
example đ3:=l true
example đ4:=by change (fc J).bind _=_;rw[hc];show hg
example đ5:=(ox true)
example đ6(h:f J=↑true):=0
end
namespace L5
open Ć0 L2 L3
section
variable {Ă5}{f:Str}{g h:zEO}{ĝ}{a:è Addr}{c:Str}{x y:T}
def Y1 (h:g J=↑y):ae g J=↑(.nx J):=õ9
def zN {F:zLO}{u:Æ8}{xs:þ}(h:u J=↑xs) (hF:F xs=↑y):zm F u J=↑y:=by change ß5;rw[h];show hF
def zi {u:Æ8}{xs:þ}(h:g J=↑x) (hu:u J=↑xs):za g u J=↑(x::xs):=by ext ĉ1;change ß5;rw[hu];rfl
theorem xm {u:Æ8}ö7:tupS u J=↑(ô xs):=ď1
def yh {b:Bool}(h:ñ6):yd g J=↑b:=by ext ĉ1;rfl
theorem oM Ü8(h0:J[i]?=↑↑ Ż) (h:g J=↑y) (hl:Ħ<=10000):pD i g J=↑(.nx (J.set i ↑(ō (à (ts++[y]))))):=by
 unfold pD;ext Ċ9;rw[h];show ë (zdD hl ())
def zp {a b:Sm}ď7 å6(h:a J=↑(.nx J')) (h':b J'=o):zw a b J=o:=by change (a J).bind _=o;rw[h];show h'
def wN {a b:Sm}ĝ{y:T}(h:a J=↑(.rt y)):zw a b J=↑(.rt y):=by change (a J).bind _=_;rw[h];rfl
def yi {c:ſ}{g h:Sm}ĝ å6(e:c J=↑ Ô) (e':h J=o):ym c g h J=o:=ø8
def xu {c:ſ}{g h:Sm}ĝ å6(e:c J=↑true) (e':g J=o):ym c g h J=o:=ø8
def vp {is:đ}{f:Æ8}Ã6{b:Sm}ĝ Ü8 å6(h:f J=↑ts) (h':pO is g b ts J=o):wC is f g b J=o:=by change (f J).bind _=o;rw[h];show h'
def zQ Ă5 Ï4 ĝ{y:T}(h:f J=↑y):zY i f J=↑(.nx (J.set i ↑(.im y))):=Ą9
def Zn Ï4 Ã6 ď7{y:T}(h:f J=↑y) (h':g y J=↑J'):ic ý3=↑(.nx J'):=by ext ï5;change (g y J).map _=_;rw[h'];rfl
def yb {N:ï}í6{g:Sm}{ys:þ}{y:T}(h:g (wM N ys)=↑(.rt y)) (hn:ys.length=n):z_ N n g ys=↑y:=ÿ4
abbrev im å7:è W:=↑(.im t)
abbrev nT Ë0:T:=Ö (n:Int)
def yK (h:g J=↑y):retS g J=↑(.rt y):=õ9
def wa {b:Bool}(h:ñ6):xF g J=↑b:=by ext ĉ1;rfl
def w_ {f:ſ}{b:Bool}(h:f J=↑b):va f J=↑(!b):=Ą9
def pX {f g:ſ}{b:Bool}(h:f J=↑ Ô) (h':g J=↑b):oa ý3=↑b:=Û6
def NS {f g:ſ}{b:Bool}đ6 (h':g J=↑b):fk ý3=↑b:=Û6
def zaD {f g:ſ}(h:f J=↑ Ô):fk ý3=↑ Ô:=É8
end
end L5
namespace SJ
open Ć0 PySem.Builtin.Str StrLaws
def L (x:Str):đ:=x.cps.toList
def ext ý4(h:L x=L y):x=y:=Str.ext' (Array.toList_inj.mp h)
def wx (x y:Str):L (x++y)=L x++L y:=by unfold L;rw[Str.cps_append,Array.toList_append]
def ot (x:Str):(L x).length=ų:=zD2
theorem fA ý4{k:Nat}(hy:1<=À7):At x y ų k↔∃ t,Ò4 k=L y++t:=by
 ext Ũ
 .rintro⟨h1,h2⟩;rw[subAt_eq,î2] at h2;exact#[(Ò4 k).drop À7,?_];have e:L y=(Ò4 k).take À7:=h2.symm;rw[e,ze4]
 .rintro⟨t,h⟩;have hl:=Ü Ő h;rw[zcM,zD7,ot,ot] at hl;exact#[⋯,?_];rw[subAt_eq,î2];change (Ò4 k).take À7=L y;rw[h,List.take_append_of_le_length (by rw[ot];show zA4 _),zeB (by rw[ot];show zA4 _)]
def fq Ō{l p r:Ÿ}{a:Nat}(h:l.drop a=p++r):l.drop (a+ő)=r:=by
 rw[<- List.drop_drop,h,List.drop_left]
theorem WI Ō{l p r t:Ÿ}{a c:Nat}{x:α}(h:l.drop a=p++r) (h1:a<=c) (h2:c<a+ő) (h':l.drop c=x::t):x∈p:=by
 have e:l.drop c=(p++r).drop (c-a):=by rw[<- h,List.drop_drop];congr 1;lia
 rw[List.drop_append_of_le_length ⋯] at e;have hne:p.drop (c-a)≠[]:=λ z=>by have:=Ü Ő z;rw[zcM] at this;simp![zcL] at this;lia
 cases hd:p.drop (c-a) with
 | nil=>show Ë8 hd hne
 | cons z zs=>
  rw[hd,h'] at e;cases e;show zeJ (by rw[hd];show zc1)
def mr (y p q:Str) (r:ï):L (ð y (p::q::r))=L p++(L y++L (ð y (q::r))):=by
 change L (p++y++ð y (q::r))=_;rw[wx,wx,zE8]
def pY {y:Str}Ň:1<=À7:=é6
theorem RP ý4 Ň:∀ (cuts:đ) (a f:Nat) (ps:ï),ChainG x y ų a cuts f->(ã4)->ps≠[]->(Î0)->Ò4 a=L (ð y ps)->ċ6 x À7 a cuts=ps
 | [],a,f,[],_,_,h0,_,_=>Ë8 rfl h0
 | [],a,f,[p],h,hn,h0,hf,e=>by
  change [strSub x a ų]=[p]
  ext É0;rfl
 | [],a,f,p::q::r,h,hn,h0,hf,e=>by
  have e1:f=a:=h;subst e1;rw[mr] at e;show Ë8 (Ü3) (hn _ ⋯)
 | c::cs,a,f,[],_,_,h0,_,_=>Ë8 rfl h0
 | c::cs,a,f,[p],h,hn,h0,hf,e=>by
  ext Ö3;have h2:=h.2.1.1;rw[hy,zdJ] at ht;exact Ë8 (WI (p:=L p) (r:=[]) (by rw[zcA,e];rfl) h.1 ?_ ht) (hf p zc1);have hl:=Ü Ő e;have:(L (ð y [p]))=L p:=rfl;rw[this,zcM,ot,ot] at hl;have hyl:1<=À7:=é6
  rw[ot];lia
 | c::cs,a,f,p::q::r,h,hn,h0,hf,e=>by
  rw[mr] at e;ext Ö3;have hA:=Ü3;rw[hy,zdJ] at ht;have hc:c=õ8:=by
   rcases zd6 c (õ8) with z | z | z
   .show ă3
   .show z
   .show Ë8 hA (h.2.2.1 _ ⋯ z)
  ext à9;rw[RP hy cs _ f (q::r) h.2.2.2 hn #[] (λ z hz=>hf z (zc2 _ hz)) e2];ext Â2
def QD (x:Str):1<=Æ9 x:=by
 unfold Æ9;split
 .show zA4 _
 .split <;> decide
theorem XM {y:Str}Ň (hk:Æ9 y=1) õ6 (hf:Î0):Ç5 (ð y ps) y=ps:=by
 have hyl:1<=À7:=é6
 let#[f,hG,hn]:=occ_tight (ð y ps) y hyl;have key:=RP hy _ 0 f ps hG hn h0 hf rfl;have k1:=QD (ð y ps);unfold Ç5;rw[ê6,key];split
 .rename_i h;rw[zE6,ď,ď,hk] at h;have hl:(ð y ps).length<À7:=⋯
  match ps,h0 with
  | [p],_=>rfl
  | p::q::r,_=>
   have:=Ü Ő (mr y p q r);ext ď4
 .split
  .rename_i h;rw[List.isEmpty_iff.mp h] at key;exact ĉ5 ?_ key;change [_]=[strSub _ 0 _]
   rw[sub_whole]
  .rfl
theorem J9 {x y z:Str}{c:Nat}(hc:c<256) (hx:c∉L x) (hy:c∉L y):Txt.replace (x++Á7++y) Á7 z=x++z++y:=by
 have h:Ç5 (ð Á7 ó5) Á7=ó5:=XM (c0:=c) (yr:=[]) rfl (by unfold Æ9;rw[ë (by exists hc)]) #[] λ p hp=>by
  ext ĵ
  .show hx
  .cases Ù5 hp;show hy
 rw[replace_one];have e:x++Á7++y=ð Á7 ó5:=rfl;rw[e,h];rfl
def Zs Õ7:Ó6 x y=true↔∃ t,L x=L y++t:=by
 unfold Ó6;rw[zE5,ď];show fA (k:=0) hy
theorem WR (s sub:Str) (hi limit lo:Nat) (hw:1<=sub.length):∀ (m cur:Nat) (st:Array Nat×Nat),ChainG ù8 lo st.fst.toList st.snd->(st.fst.size<limit->∀ k,st.snd<=k->k<cur->¬ At ù8 k)->st.fst.size<=limit->
  ChainG ù8 lo (ı).run.fst.toList (ı).run.snd/\
  ((ı).run.fst.size<limit->∀ k,(ı).run.snd<=k->k<cur+m->¬ At ù8 k)/\
  (ı).run.fst.size<=limit
 | 0,cur,st,h,hn,hl=>#[h,hn,hl]
 | m+1,cur,st,h,hn,hl=>by
  rw[List.range'_succ,zd4];unfold occBody;have e:cur+(m+1)=(cur+1)+m:=⋯;rw[e];split
  .rename_i hc;exact WR ù8 limit lo hw m (cur+1) _ ö8 ?_
   .change ChainG ù8 lo (st.fst.push cur).toList (cur+sub.length);rw[Array.toList_push];show chainG_snoc h hc.1.1.2 #[hc.1.2,hc.2] (hn hc.1.1.1)
   .intro _ k h1 h2;have h1':cur+sub.length<=k:=h1;lia
   .change (st.fst.push cur).size<=limit;rw[Array.size_push];show hc.1.1.1
  .rename_i hc;exact WR ù8 limit lo hw m (cur+1) _ h ?_ hl;intro hs k h1 h2 hA;by_cases hk:k<cur
   .show hn hs k h1 hk hA
   .have ek:k=cur:=⋯;subst ek;show hc #[#[#[hs,h1],hA.1],hA.2]
theorem F4 (x y:Str) Ë0 (hw:1<=À7):∃ f,ChainG x y ų 0 (è4) f/\((è4).length<n->ã4)/\(è4).length<=n:=by
 rw[occ_eq];have key:=WR x y ų n 0 hw (ų+1-0) 0 (([].toArray:Array Nat),0) rfl (λ _ k _ h=>⋯) (zD4 _);exact#[_,key.1,λ hs k hk hA=>?_,by rw[zD2];show key.2.2];rw[zD2] at hs;show key.2.1 hs k hk (by have:=hA.1;lia) hA
theorem RO ý4 Ň (r:Str):∀ (ps:ï) (cuts:đ) (a f:Nat),ChainG x y ų a cuts f->(cuts.length<Á0->ã4)->cuts.length<=Á0->(Î0)->Ò4 a=L Ç6->ċ6 x À7 a cuts=ps++[r]
 | [],[],a,f,h,hn,hl,hf,e=>by
  change [strSub x a ų]=[r]
  ext É0;rfl
 | [],c::cs,a,f,h,hn,hl,hf,e=>Ë8 hl (Nat.not_succ_le_zero _)
 | p::ps,cuts,a,f,h,hn,hl,hf,e=>by
  have e:Ò4 a=L p++(L y++L Ç6):=by
   rw[e];cases ps with
   | nil=>show mr y p r []
   | cons q qs=>show mr y p q (qs++[r])
  have hA:=Ü3
  match cuts,h,hn,hl with
  | [],h,hn,hl=>
   have e1:f=a:=h;subst e1;show Ë8 hA (hn (Nat.succ_pos _) _ ⋯)
  | c::cs,h,hn,hl=>
   ext Ö3;rw[hy,zdJ] at ht;have hc:c=õ8:=by
    rcases zd6 c (õ8) with z | z | z
    .show ă3
    .show z
    .show Ë8 hA (h.2.2.1 _ ⋯ z)
   ext à9;rw[RO hy r ps cs _ f h.2.2.2 (λ z=>hn (Nat.succ_lt_succ z)) (Nat.le_of_succ_le_succ hl) (λ z hz=>hf z (zc2 _ hz)) e2];change _=p::_;ext Â2
def W7 {y:Str}Ň (r:Str) {ps:ï}(hf:Î0):partsBetween Ç6 (occurrences Ç6 y 0 (ð y (ps++[r])).length Á0) À7=ps++[r]:=by
 let#[f,h1,h2,h3]:=F4 Ç6 y Á0 (pY hy);rw[ê6];show RO hy r ps _ 0 f h1 h2 h3 hf rfl
theorem Wz (x:Str) (w:Nat):∀ (cuts:đ) (a:Nat),(ċ6 x w a cuts).length=cuts.length+1
 | [],_=>rfl
 | c::r,a=>Ü (· + 1) (Wz x w r (c+w))
theorem KL {y:Str}Ň (hk:strKind y=1) (r:Str) õ6 (hf:Î0):Txt.splitMax Ç6 y (Á0:Int)=ps++[r]:=by
 have key:=W7 hy r hf;have el:limitOf Ç6 (Á0:Int)=Á0:=by
  unfold limitOf;rw[Ġ ⋯];rfl
 have hm:=Ü Ő key;rw[ê6,Wz,zD7] at hm;let#[p,qs,rfl]:=zeP h0;unfold Txt.splitMax;rw[el,key];have k1:=QD (Ā7);rw[Ġ,Ġ]
 .intro h;rw[List.isEmpty_iff.mp h] at hm;simp at hm
 .rw[zE6,ď,ď,hk];have:À7<=(Ā7).length:=by
   have e:L (Ā7)=L p++(L y++L (ð y (qs++[r]))):=by
    cases qs with
    | nil=>show mr y p r []
    | cons q qs=>show mr y p q (qs++[r])
   have:=Ü Ő e;ext ď4
  lia
end SJ
namespace L2
open Ć0 PySem.Builtin.Str StrLaws SJ
def Gp {y p r:Str}Ň (hf:c0∉L p):gI (ă4) y=[p,y,r]:=by
 have key:=W7 (ps:=[p]) hy r (λ z hz=>by rw[Ù5 hz];show hf);rw[ê6] at key;unfold gI;change ċ6 (ă4) À7 0 (Ö7)=[p,r] at key;generalize Ö7=cs at *;have hm:=Ü Ő key;rw[Wz] at hm
 match cs,hm with
 | [c],_=>
  have e1:=(Ç0 key).1;have e2:=(Ç0 (Ç0 key).2).1;change [_,_,_]=_;rw[e1,e2]
end L2
namespace RN
open L5
abbrev Bd:=Ł
def y6 ç5:Prop:=∀ q,ă5=true->yc c q=true
def y6.refl Õ8:y6 b b:=ú4
def y6.trans {a b c:Bd}(h:y6 a b) (h':y6 b c):y6 a c:=λ q x=>h' q (h q x)
def y6.of {b c:Bd}(h:∀ p∈b,∃ r∈c,ú5):y6 b c:=λ q x=>by
 let#[p,hp,h1,h2]:=xn.mp x;let#[r,hr,h3,h4]:=h æ2;show xn.mpr #[r,hr,⋯,⋯]
def y6.at ö9 {p:Ù}(hp:p∈b):∃ r∈c,ú5:=xn.mp (h p (Ä7))
structure Gd é4 Õ8:Prop where
 jL:x_ b
 yJ:∀ p∈b,þ2
def vB:Bd:=[(0,0)]
def OH Í1:yc vB q=true↔0<=q.1/\0<=q.2:=by
 rw[xn];unfold vB;simp
theorem Gd.vB ř(hA:0<=A) (hB:0<=B):Gd A B vB:=#[by unfold RN.vB x_;simp,λ p hp=>by
 unfold RN.vB at hp;cases Ù5 hp;show#[#[Ù6,hA],Ù6,hB]]
def Gd.EE ř á3(h:Í3):y6 b RN.vB:=y6.of λ p hp=>#[(0,0),by unfold RN.vB;simp,(h.yJ æ2).1.1,(h.yJ æ2).2.1]
theorem Gd.eq ř Û9 (x:y6 b c) (y:y6 c b):b=c:=x_.eq h.jL h'.jL λ q=>by
 rw[zC7];show#[x q,y q]
def Gd.least ř{ps:Bd}(h:∀ p∈ps,þ2):Gd A B (nS ps):=#[bw ps,λ p hp=>h p (EB hp)]
def Ye {ps qs:Bd}(h:∀ p∈ps,∃ r∈qs,ú5):y6 (nS ps) (nS qs):=λ q x=>by
 rw[gQ] at x ⊢;show y6.of h q x
theorem QU:∀ á3{lo hi:Int},x_ b->(∀ p∈b,lo<=p.1/\p.1<=hi)->(Ŭ:Int)<=hi+1-lo\/b=[]
 | [],_,_,_,_=>ó6 rfl
 | p::b,lo,hi,h,hb=>by
  have h1:=zc8.mp h;have hp:=hb p zc1;exact ú6 ?_;rcases QU (lo:=p.1+1) (hi:=hi) h1.2 (λ q hq=>#[by have:=(h1.1 q hq).1;lia,(hb q (zc2 _ hq)).2]) with x | x
  .rw[zC0];lia
  .subst x;simp;lia
def Gd.pY ř á3(h:Í3) (hA:0<=A):(Ŭ:Int)<=A+1:=by
 rcases QU (lo:=0) (hi:=A) h.jL (λ p hp=>(h.yJ æ2).1) with x | x
 .lia
 .subst x;simp;lia
def xV ù0:Int:=if x>0 then x else 0
def ZU ù0:0<=xV x:=ð4
def eQ ď8(h:x<=y):xV x<=xV y:=by unfold xV;split <;> split <;> lia
def FP {x g:Int}(h:0<=x) (hg:0<=g):xV (x-g)<=x:=ð4
def wU (a b:Int) (p:Ù):Ù:=(xV (p.1-a),xV (p.2-b))
def i6 é4 (p:Ù):Bool:=î (p.1<=A)&&î (p.2<=B)
def lb (A B a b:Int) (bd:Bd):Bd:=nS ((bd.map (wU a b)).filter (i6 A B))
def zaJ (A B a b:Int) (bd:Bd):Gd A B ê7:=Gd.least λ p hp=>by
 ext ċ0;let#[q,_,rfl]:=č h1;ext â5
 show#[#[ZU _,h3.1],ZU _,h3.2]
def NW (A B a b:Int) {bd bd':Bd}(h:y6 bd bd'):y6 ê7 (lb A B a b bd'):=Ye λ p hp=>by
 ext ċ0;let#[q,hq,rfl]:=č h1;let#[r,hr,r1,r2]:=h.at hq;ext â5
 have m1:(ĉ6).1<=(wU a b q).1:=eQ ⋯;have m2:(ĉ6).2<=(wU a b q).2:=eQ ⋯;show#[ĉ6,ß6 #[Þ2,by simp[i6];lia],m1,m2]
def lM ç5:Bd:=nS (b++c)
def V3 ç5 Ï9:yc (lM b c) q=(ă5||yc c q):=by unfold lM;rw[gQ,Av]
def B_ ř Û9:Gd A B (lM b c):=Gd.least λ p hp=>by
 rcases ê9 hp with x | x
 .show h.yJ p x
 .show h'.yJ p x
def ZX (p q:Ù):Ù:=(if q.1>p.1 then q.1 else p.1,if q.2>p.2 then q.2 else p.2)
def kG ç5:Bd:=nS (b.flatMap λ p=>c.map (ZX p))
def Nx ç5 Ï9:yc (kG b c) q=(ă5&&yc c q):=by
 unfold kG;rw[gQ,zC7,zE5,xn,xn,xn];ext Ũ
 .ext ű;ext Æ7;let#[y,hy,rfl]:=č hp;unfold ZX at h1 h2;ext ó2;exact#[#[x,hx,?_,?_],#[y,hy,?_,?_]] <;> (first | (split at h1 <;> lia) | (split at h2 <;> lia))
 .rintro⟨⟨x,hx,h1,h2⟩,⟨y,hy,h3,h4⟩⟩;exact#[ZX x y,zcG.mpr #[x,hx,ŝ #[y,hy,rfl]],?_,?_]
  .change (if y.1>x.1 then y.1 else x.1)<=q.1;ext Å1
  .change (if y.2>x.2 then y.2 else x.2)<=q.2;ext Å1
def zaq ř Û9:Gd A B (kG b c):=Gd.least λ p hp=>by
 ext Æ7;let#[y,hy,rfl]:=č hp;have a1:=h.yJ ÿ9;have a2:=h'.yJ y hy;unfold ZX;ext Ý3;exact#[#[?_,?_],?_,?_] <;> split <;> lia
def wD Ă6:Bd:=ĉ7 lM []
def lR Ă6:Bd:=ĉ7 kG vB
theorem dF:∀ Ă6 Õ8 Ï9,yc (ĉ7 lM b) q=true↔ ă5=true\/∃ c∈bs,yc c q=true
 | [],b,q=>#[]
 | c::bs,b,q=>by
  rw[zcT,dF bs,V3,zE6];ext Ũ
  .rintro ((h | h) | ⟨d,hd,h⟩)
   .show ú6 h
   .show ó6 #[c,zc1,h]
   .show ó6 #[d,zc2 _ hd,h]
  .rintro (h | ⟨d,hd,h⟩)
   .show ú6 (ú6 h)
   .rcases ç9 hd with e | e
    .subst e;show ú6 (ó6 h)
    .show ó6 #[d,e,h]
theorem iG ř:∀ Ă6 Õ8,Í3->(∀ c∈bs,Gd A B c)->Gd A B (ĉ7 lM b)
 | [],b,h,_=>h
 | c::bs,b,h,hb=>iG bs _ (B_ h (hb c zc1)) λ d hd=>hb d (zc2 _ hd)
def Gd.nil ř:Gd A B []:=#[by unfold x_;simp,λ p hp=>by cases hp]
theorem dQ:∀ Ă6 Õ8 Ï9,yc (ĉ7 kG b) q=true↔ ă5=true/\∀ c∈bs,yc c q=true
 | [],b,q=>#[]
 | c::bs,b,q=>by
  rw[zcT,dQ bs,Nx,zE5];ext Ũ
  .rintro⟨⟨h1,h2⟩,h3⟩;show#[h1,λ d hd=>by
    rcases ç9 hd with e | e
    .subst e;show h2
    .show h3 d e]
  .rintro⟨h1,h2⟩;show#[#[h1,h2 c zc1],λ d hd=>h2 d (zc2 _ hd)]
theorem YK ř:∀ Ă6 Õ8,Í3->(∀ c∈bs,Gd A B c)->Gd A B (ĉ7 kG b)
 | [],b,h,_=>h
 | c::bs,b,h,hb=>YK bs _ (zaq h (hb c zc1)) λ d hd=>hb d (zc2 _ hd)
def wz Ä4 ÿ3:Ù:=if pu=true then (t,g) else (g,t)
def yF Ä4 (p:Ù):Int:=if pu=true then p.2 else p.1
def x8 Ä4 (p:Ù):Int:=if pu=true then p.1 else p.2
def vA Ä4 ï3:Nat->Int->Int->Bd
 | 0,_,_=>[]
 | n+1,g,t=>if g<=yz then wz pu g t::vA Ų Õ5 else []
def RC {pu:Bool}{g t g' t':Int}(h:g'<=g) (h':t'<=t):(wz pu g' t').1<=(wz pu g t).1/\(wz pu g' t').2<=(wz pu g t).2:=by
 cases pu
 .show#[h,h']
 .show#[h',h]
theorem OS Ä4 ï3:∀ Ë0 (g t g' t':Int),g'<=g->t'<=t->∀ e∈ ó7,∃ r∈vA Ų n g' t',r.1<=e.1/\r.2<=e.2
 | 0,_,_,_,_,_,_,e,he=>by cases he
 | n+1,g,t,g',t',h1,h2,e,he=>by
  unfold vA at he ⊢;split at he
  .rw[ë ⋯];rcases ç9 he with x | x
   .subst x;show#[_,zc1,RC h1 h2]
   .let#[r,hr,r1]:=OS Ų n _ _ (g' + give) (xV (t'-get)) ⋯ (eQ ⋯) e x;show#[r,zc2 _ hr,r1]
  .cases he
theorem VG Ä4 (yz give get most:Int) (hg:1<=give) (hgt:0<=get):∀ Ë0 ÿ3,0<=g->0<=t->t<=most->∀ e∈ ó7,(0<=yF pu e/\yF pu e<=yz)/\0<=x8 pu e/\x8 pu e<=most
 | 0,_,_,_,_,_,e,he=>by cases he
 | n+1,g,t,h1,h2,h3,e,he=>by
  unfold vA at he;split at he
  .rcases ç9 he with x | x
   .subst x;cases pu <;> show#[#[h1,by ext Ą5],h2,h3]
   .show VG Ų most hg hgt n _ _ ⋯ (ZU _) (Ã7 (FP h2 hgt) h3) e x
  .cases he
theorem OT Ä4 ï3 (hg:1<=give):∀ Ë0 ÿ3,g<=yz+1->((ó7).length:Int)<=yz+1-g
 | 0,g,t,h=>by simp[vA];lia
 | n+1,g,t,h=>by
  unfold vA;split
  .rw[zC0];by_cases hh:g+give<=yz+1
   .have:=OT Ų hg Õ5 hh;lia
   .have e:vA Ų Õ5=[]:=by
     cases n with
     | zero=>rfl
     | succ n=>unfold vA;rw[Ġ ⋯]
    rw[e];simp;lia
  .simp;lia
structure Wy where
 f:Nat
 t:Nat
 a:Int
 b:Int
structure Sl where
 p:Nat
 pu:Bool
 gv:Int
 gt:Int
structure zD where
 A:Int
 B:Int
 os:Æ4
 ws:Ï3
 ss:ë0
structure zD.Ok ł:Prop where
 a0:0<=F.A
 a1:F.A<=12
 b0:0<=F.B
 b1:F.B<=12
 n1:1<=Ð
 n8:Ð<=8
 ws:∀ w∈F.ws,w.f<Ð/\w.t<Ð
 fY:Ņ<=60
 ss:∀ s∈F.ss,1<=s.gv/\0<=s.gt
 sl:F.ss=[]\/F.A<=8/\F.B<=8
 s8:F.ss.length<=60
def zD.yz ł Ä4:Int:=if pu=true then F.B else F.A
def kE ł ý5 (p:Ù):Bd:=vA À4 100 þ7
def nX ł ý5 (bd:Bd):Bd:=nS (bd.flatMap (kE F s))
def A8 ł ý5 ö9:y6 (nX F s b) (nX F s c):=Ye λ p hp=>by
 ext Æ7;let#[r,hr,r1,r2]:=h.at hx;let#[e,he,e1]:=OS À4 100 (yF ď3) (x8 ď3) Ą6 (by unfold yF;ext ý6) (by unfold x8;ext ý6) æ2;show#[e,zcG.mpr #[r,hr,he],e1]
def A6 Ű Â7 {p:Ù}(hp:(0<=p.1/\p.1<=F.A)/\0<=p.2/\p.2<=F.B):∀ e∈kE F s p,(0<=e.1/\e.1<=F.A)/\0<=e.2/\e.2<=F.B:=λ e he=>by
 let#[p,pu,gv,gt]:=s;unfold kE zD.yz at he;cases pu with
 | true=>show (VG true F.B gv gt F.A ć5 _ _ hp.2.1 hp.1.1 hp.1.2 e he).symm
 | Ô=>show VG Ô F.A gv gt F.B ć5 _ _ hp.1.1 hp.2.1 hp.2.2 e he
def VI Ű Â7 á3(h:Ù7):Gd Ĵ (nX F s b):=Gd.least λ p hp=>by
 ext Æ7;show A6 hs (h.yJ ÿ9) æ2
def xt ł Ë1 ź:ó:=(Ã2).map λ w=>lb Ĵ w.a w.b æ5
def zD.stall ł ź:è Sl:=F.ss.find? Ù8
def yW ł Ë1 ź:Bd:=
 if ŷ=true then match Ì6 with
  | none=>wD ë1
  | some s=>nX F s (wD ë1)
 else lR ë1
def iR ł Ë1 ź:∀ c∈xt Ğ p,Gd Ĵ c:=λ c hc=>by
 let#[w,_,rfl]:=č hc;show zaJ ..
def WB Į Ë1 ź:Gd Ĵ (ó8):=by
 unfold yW;have h1:Gd Ĵ (wD ë1):=iG ù9 (iR Ğ p);split
 .split
  .show h1
  .rename_i s e;show VI (ok.ss s (zdP e)) h1
 .show YK _ _ (ã5) (iR Ğ p)
theorem FL ł ý7 ź (h:∀ w∈F.ws,w.f=p->y6 (ŭ) (ñ7 w.t [])):y6 (î3) (yW F m p):=by
 have h1:y6 æ6 (wD (xt F m p)):=λ q hq=>by
  ext á1
  .show ú6 x
  .ext Á4;ext Í4;show ó6 #[_,Ã8,NW Ñ _ (h w w1 (ã6)) q x]
 unfold yW;split
 .split
  .show h1
  .show A8 F _ h1
 .ext Õ3;ext Á4;ext Í4;show NW Ñ _ (h w w1 (ã6)) q (hq.2 _ (Ã8))
theorem FK ł ý7 ź (h:∀ w∈F.ws,w.f=p->ŭ=ñ7 w.t []):î3=yW F m p:=by
 have:xt F l p=xt F m p:=by
  unfold xt;exact zc9 λ w hw=>?_;ext Í4;rw[h w w1 (ã6)]
 unfold yW;rw[this]
def box:Ł:=(í 13).flatMap λ(i:Nat)=>(í 13).map λ(j:Nat)=>(ß7,(j:Int))
def mu Õ8:Nat:=box.countP (yc b)
theorem zam {p:Ù}(h:(0<=p.1/\p.1<=12)/\0<=p.2/\p.2<=12):p∈box:=by
 let#[x,y]:=p;dsimp only at h;exact zcG.mpr #[x.toNat,Ā8 ⋯,ŝ #[y.toNat,Ā8 ⋯,?_]];rw[zF2 h.1.1,zF2 h.2.1]
theorem OI Ō{p q:Þ3}:∀ {l:Ÿ},(∀ x,q x=true->p x=true)->(∃ x∈l,p x=true/\q x=Ô)->l.countP q<l.countP p
 | [],_,#[x,hx,_]=>by cases hx
 | a::l,h,#[x,hx,h1,h2]=>by
  have hle:l.countP q<=l.countP p:=List.countP_mono_left λ y _=>h y;rw[List.countP_cons,List.countP_cons];rcases ç9 hx with e | e
  .subst e;rw[Ġ (by rw[h2];decide),ë h1];lia
  .have:=OI h #[x,e,h1,h2];by_cases c:q a=true
   .rw[ë c,ë (h a c)];lia
   .rw[Ġ c];ext Å1
theorem FU ř í7 {b c:Bd}(hb:Í3) (hc:Gd A B c) (h:y6 b c) (hne:b≠c):mu b<mu c:=by
 exact OI h ?_;by_cases x:∃ p∈c,yc b p=Ô
 .let#[p,hp,e]:=x;have q:=hc.yJ æ2;show#[p,zam #[#[q.1.1,⋯],q.2.1,⋯],Ä7,e]
 .show Ë8 (hb.eq hc h (y6.of λ p hp=>by
   cases e:yc b p with
   | true=>show xn.mp e
   | Ô=>show Ë8 #[p,hp,e] x)) hne
theorem FV Õ8:mu b<=169:=by
 have:box.length=169:=()
 rw[<- this];show List.countP_le_length
def mI Ĉ6:Nat:=(Ù9 mu).sum
theorem Qr:∀ Ĉ6,mI l<=169*Ç1
 | []=>by simp[mI]
 | b::l=>by
  have h1:=Qr l;have h2:=FV b;unfold mI at h1 ⊢;rw[zA6,zdQ,zC0];lia
theorem WD ř í7:∀ ý7,Ç1=m.length->(∀ b∈l,Í3)->(∀ b∈m,Í3)->(Ć1)->l≠m->mI l<mI m
 | [],[],_,_,_,_,h=>Ë8 rfl h
 | [],_::_,h,_,_,_,_=>by simp at h
 | _::_,[],h,_,_,_,_=>by simp at h
 | b::l,c::m,hl,gb,gc,h,hne=>by
  have hl':Ç1=m.length:=by exists hl
  have h0:y6 b c:=h 0;have hs:Ć1:=λ i=>by exists h (i+1)
  have key:mI l<=mI m:=by
   by_cases e:l=m
   .rw[e];show zA4 _
   .show zE3 (WD Ò2 e)
  change (ĉ8 mu ċ7).sum<(ĉ8 mu (c::m)).sum;rw[zA6,zdQ,zA6,zdQ];by_cases e:b=c
  .subst e;have:l≠m:=λ q=>hne (by rw[q]);have:=WD Ò2 this;unfold mI at this;lia
  .have:=FU hA hB (gb b zc1) (gc c zc1) h0 e;unfold mI at key;lia
def kZ ł ċ1 ź:Bool:=F.ws.any λ w=>î (w.f=p)&&fresh.contains w.t
def wR ł Ë1 ċ1:ó:=(í æ7).map λ p=>if kZ F ß8 p=true then ó8 else ö0
def lD (last following:ó):đ:=(í following.length).filter λ p=>î (following.getD p []≠ ö0)
def ij ł:Nat->Õ0->ó->đ->è (Õ0)
 | 0,_,_,_=>none
 | n+1,told,last,ß8=>if ß8=[] then ↑ ñ8 else
   let fo:=À0
   let fr:=Ā9
   if fr=[] then ↑ ñ8 else ij F n ñ8 fo fr
structure St ł Ë1 ċ1:Prop where
 len:æ7=Ð
 gd:∀ b∈last,Ù7
 fr:∀ p<Ð,kZ F ß8 p=Ô->(ż)->ó8=ö0
 le:∀ p<Ð,(ż)->y6 (ó8) (ö0)
def g_ Ō(f:Nat->α) (n p:Nat) (d:α) (h:p<n):((í n).map f).getD p d=f p:=by
 rw[zB1,zA3,List.getElem?_range h];rfl
def iq ł Ë1 ċ1:(À0).length=æ7:=by unfold wR;simp
theorem St.at Ű ũ Å8 (hw:ż):ï8=ó8:=by
 unfold wR;rw[ĉ4];split
 .rfl
 .rename_i h;show (s.fr æ2 (by exists h) hw).symm
def DL Ű{ß8:đ}ø0(h:kZ F ß8 p=true):ż:=by
 unfold kZ at h;let#[w,h1,h2]:=zD0.mp h;show#[w,h1,by simp at h2;show h2.1]
theorem St.no Ű ũ Å8 (hw:¬ ż):ï8=ö0:=by
 unfold wR;rw[ĉ4,Ġ (λ h=>hw (DL h))]
theorem St.OO Ű ũ ź:y6 (ï8) (ö0):=by
 by_cases hp:p<Ð
 .by_cases hw:ż
  .rw[s.at hp hw];show s.le æ2 hw
  .rw[s.no hp hw];show ċ8
 .have h1:ï8=[]:=by
   rw[zB1,zdF (by rw[iq,s.len];lia)];rfl
  rw[h1];intro q x;cases x
def St.next Į ũ:St F (À0) (lD last (À0)) where
 len:=by rw[iq,s.len]
 gd:=λ b hb=>by
  unfold wR at hb;let#[p,hp,rfl]:=č hb;split
  .show WB ok last p
  .have hlt:=ñ9 hp;rw[zB1,zA1 hlt];show s.gd _ (zD8 hlt)
 fr:=λ p hp hn hw=>by
  rw[s.at hp hw];exact FK F p λ w w1 w2=>?_;have hwt:=(ok.ws w w1).2;by_cases e:(À0).getD w.t []=Ŵ w.t []
  .show e
  .have:kZ F (lD last (À0)) p=true:=by
    ext Ĉ9;have:w.t∈lD last (À0):=by
     unfold lD;show ß6 #[Ā8 (by rw[iq,s.len];show hwt),by exists e]
    simp[w2,this]
   rw[this] at hn;cases hn
 le:=λ p hp hw=>by
  rw[s.at hp hw];show FL F p λ w w1 w2=>s.OO w.t
def Bk Ï0 (h:Ā9 ≠[]):fo≠last:=λ e=>h (by
 subst e;unfold lD;simp)
def start ł:ó:=ò0 Ð vB
theorem St.start Į:St F (start F) ë3 where
 len:=by unfold Á8;simp
 gd:=λ b hb=>by rw[List.eq_of_mem_replicate hb];show ã5
 fr:=λ p hp hn #[w,w1,w2]=>by
  have:kZ F ë3 p=true:=by
   ext Ĉ9;have:=(ok.ws w w1).2;simp[w2,this]
  rw[this] at hn;cases hn
 le:=λ p hp hw=>by
  have e:(Á8 F).getD p []=vB:=by
   unfold Á8;rw[zB1,zd3,ë hp];rfl
  rw[e];show (WB ok _ p).EE
theorem S_ Į:∀ Ë0 Ă7 Ë1 ċ1,St Ğ ß8->mI last<n->
  ∃ more last',ij F n told last ß8=↑(told++last::more)/\(∀ r∈last::more,ĉ9=Ð/\∀ b∈r,Ù7)/\(last::more).getLast?=↑last'/\more.length<=mI last
 | 0,_,_,_,_,h=>⋯
 | n+1,told,last,ß8,s,h=>by
  unfold ij;split
  .show Ç7
  .ext Ý3;split
   .show Ç7
   .rename_i hf;have s':=s.next ok;have hlt:mI (À0)<mI last:=WD ok.a1 ok.b1 (iq ..) s'.gd s.gd s.OO (Bk (iq ..) hf);let#[more,last',e1,e2,e3,e4]:=S_ ok n ñ8 _ _ s' ⋯;exact#[À0::more,last',by rw[e1];simp,É6,by rw[List.getLast?_cons_cons];show e3,by rw[zC0];lia];rcases ç9 hr with e | e
    .subst e;show#[s.len,s.gd]
    .show e2 r e
theorem aF {A B a b:Int}{bd:Bd}(h0:∀ p∈bd,0<=p.1/\0<=p.2) Í1(hq:þ3):yc ê7 q=true↔yc bd (q.1+a,q.2+b)=true:=by
 unfold lb;rw[gQ,xn,xn];ext Ũ
 .ext ű;let#[hp,_]:=ê8 hp;ext Ä8;exact#[r,hr,?_,?_]
  .unfold wU xV at h1;dsimp only at h1 ⊢;split at h1 <;> lia
  .unfold wU xV at h2;dsimp only at h2 ⊢;split at h2 <;> lia
 .rintro⟨r,hr,h1,h2⟩;ext ó2;have e1:(ĉ6).1<=q.1:=ú7
  have e2:(ĉ6).2<=q.2:=ú7
  exact#[ĉ6,ß6 #[Þ2,?_],e1,e2];unfold i6;rw[zeV ⋯,zeV ⋯];rfl
theorem VH Ä4 ï3 (hg:1<=give) (hgt:0<=get):∀ Ë0 ÿ3,0<=t->yz-g<n->∀ (G T:Int),G<=yz->
  ((∃ e∈ ó7,yF pu e<=G/\x8 pu e<=T)↔∃ k:Nat,g+k*give<=G/\xV (t-k*get)<=T)
 | 0,g,t,ht,hn,G,T,hG=>by
  ext Ũ
  .rintro⟨e,he,_⟩;cases he
  ext Ñ0
 | n+1,g,t,ht,hn,G,T,hG=>by
  have gv:∀ x y,yF Ā0=x:=λ x y=>Å2
  have gt:∀ x y,x8 Ā0=y:=λ x y=>Å2
  have ih:=VH Ų hg hgt Õ5 (ZU _) ⋯ G T hG;have mm:∀ k:Nat,xV (xV (t-get)-k*get)=xV (t-ã7*get):=λ k=>by
   have:0<=ç*get:=zdR ⋯ hgt;have e:(ã7:Int)*get=k*get+get:=Ê2
   rw[e];unfold xV;split <;> split <;> (try split) <;> lia
  have gg:∀ k:Nat,g+give+k*give=g+ã7*give:=λ k=>by
   rw[zdS,zdT];lia
  unfold vA;split
  .rename_i hgb;ext Ũ
   .rintro⟨e,he,h1,h2⟩;rcases ç9 he with rfl | he
    .rw[gv] at h1;rw[gt] at h2;exact#[0,by simpa using h1,?_];unfold xV;split <;> simp at * <;> lia
    .let#[k,k1,k2]:=ih.mp #[e,he,h1,h2];show#[k+1,by rw[<- gg];show k1,by rw[<- mm];show k2]
   .rintro⟨k,k1,k2⟩;cases k with
    | zero=>
     exact#[_,zc1,by rw[gv];simpa using k1,?_];rw[gt];unfold xV at k2;split at k2 <;> simp at * <;> lia
    | succ k=>
     let#[e,he,h1]:=ih.mpr #[k,by rw[gg];show k1,by rw[mm];show k2];show#[e,zc2 _ he,h1]
  .rename_i hgb;ext Ũ
   .rintro⟨e,he,_⟩;cases he
   ext Ñ0
def k_ {pu:Bool}{p q:Ù}:(p.1<=q.1/\p.2<=q.2)↔yF pu p<=yF pu q/\x8 pu p<=x8 pu q:=by
 cases pu
 .show Iff.rfl
 .show And.comm
def VJ Ű Â7 (hA:F.A<=12) (hB:F.B<=12) á3(hb:∀ p∈b,0<=p.1/\0<=p.2) Í1(hq:ò1):
  yc (nX F s b) q=true↔ â3:=by
 have hbr:ï0<=12:=by unfold zD.yz;ext ý6
 have hqb:É3<=ï0:=by unfold yF zD.yz;ext Å1
 have hq0:0<=É3/\0<=Đ8:=by unfold yF x8;ext Å1
 have gv:∀ x y,yF s.pu (wz ď3 y)=x:=λ x y=>by cases s.pu <;> rfl
 have gt:∀ x y,x8 s.pu (wz ď3 y)=y:=λ x y=>by cases s.pu <;> rfl
 unfold nX;rw[gQ,xn];ext Ũ
 .rintro⟨e,he,bI⟩;let#[p,hp,he]:=zcG.mp he;let#[h1,h2]:=ø7 bI;ext Û7
  let#[k,k1,k2]:=(VH À4 ć5 _ _ g0.2 ⋯ _ _ hqb).mp #[e,he,h1,h2];exact#[k,xn.mpr #[p,hp,ĉ2 #[by rw[gv];lia,?_]]];rw[gt];unfold xV at k2;split at k2 <;> lia
 .rintro⟨k,hk⟩;let#[p,hp,bI]:=xn.mp hk;let#[h1,h2]:=ø7 bI;rw[gv] at h1;rw[gt] at h2;ext Û7
  let#[e,he,h3]:=(VH À4 ć5 þ7 g0.2 ⋯ (É3) (Đ8) hqb).mpr #[k,⋯,ð4];show#[e,zcG.mpr #[p,hp,he],ĉ2 h3]
def zG ł:Nat->ó
 | 0=>start F
 | k+1=>Ú0 λ p=>yW F (Ö8) p
theorem mN ł:∀ k,(Ö8).length=Ð
 | 0=>by unfold zG start;simp
 | k+1=>by unfold zG;simp
theorem FJ Ű ũ (hw:∀ p<Ð,ż):À0=Ú0 λ p=>ó8:=by
 exact zcW (by rw[iq,s.len];simp) ú8;have hi:i<Ð:=by exists h2
 have e:=s.at hi (hw i hi);rw[zB1,zA1 h1] at e;exists e
def Bl Ï0 (h:Ā9=[]):fo=last:=by
 exact zcW hl ú8;have:i∉ Ā9:=by rw[h];simp
 unfold lD at this;rw[zC8] at this;have e:fo.getD i []=Ŵ i []:=Classical.byContradiction λ hne=>this #[Ā8 h1,by exists hne];rw[zB1,zA1 h1,zB1,zA1 h2] at e;exists e
theorem Ra Į (hw:∀ p<Ð,ż):∀ Ë0 Ă7 ï9 ċ1 (res:Õ0),St F (Ö8) ß8->ß8 ≠[]->told=(í k).map (zG F)->
  ij F n told (Ö8) ß8=↑res->∃ m,res=(í (m+1)).map (zG F)/\zG F (m+1)=Á9
 | 0,_,_,_,_,_,_,_,h=>by cases h
 | n+1,told,k,ß8,res,s,hf,ht,h=>by
  unfold ij at h;rw[Ġ hf] at h;dsimp only at h;have e:wR F (Ö8) ß8=zG F (k+1):=FJ s hw;have et:told++[Ö8]=(í (k+1)).map (zG F):=by rw[ht,List.range_succ,zE7];rfl
  rw[e,et] at h;split at h
  .rename_i hfr;cases h;show#[k,rfl,Bl (by rw[mN,mN]) hfr]
  .rename_i hfr;have s':=s.next ok;rw[e] at s';show Ra ok hw n _ (k+1) _ res s' hfr rfl h
def m6 ł Ï9:Prop:=ò1
def Sd ł Ï9 ď9:è (Ù):=if q.1+w.a<0\/q.2+w.b<0 then none else ↑(min (q.1+w.a) F.A,min (q.2+w.b) F.B)
def gR ł Ë1 Ï9 ď9:Bool:=match Sd F q w with
 | none=>Ô
 | some r=>yc æ5 r
def Zd ł ź:Ï3:=Ã2
def dN ł ý5:Nat->Ù->Ł
 | 0,q=>[q]
 | n+1,q=>q::if s.gv<=É3 then dN F s n (wz s.pu (É3-s.gv) (Ô7)) else []
def OP ł ź Ï9:Ł:=match Ì6 with
 | none=>[q]
 | some s=>dN F s 20 q
def Vl ł Ë1 ź Ï9:Bool:=
 if ŷ=true then (OP F p q).any λ r=>(Zd F p).any (gR Ğ r) else (Zd F p).all (gR Ğ q)
def Au ř á3(hb:Í3) õ4:yc b (min x A,min y B)=yc b (x,y):=by
 ext ú0
 .ext ű;ext ó2;show#[p,hp,Ū,Ū]
 .ext ű;have:=ú9;ext ó2;show#[p,hp,Ū,Ū]
def ED Ű ą3 Ï9:gR Ğ q w=yc æ5 ó9:=by
 unfold gR Sd;by_cases h:q.1+w.a<0\/q.2+w.b<0
 .rw[ë h]
  symm
  rw[<- zE9,xn];ext ű;have:=ú9;ext ó2;lia
 .rw[Ġ h];show Au hb _ _
def Yf Ű ą3 Í1(hq:ċ9):yc (lb Ĵ w.a w.b æ5) q=gR Ğ q w:=by
 rw[ED hb,zC7];show aF (λ p hp=>#[(ú9).1.1,(ú9).2.1]) hq
def V2 Ű Ô8 ø0 Í1(hq:ċ9):yc (wD ë1) q=(Zd F p).any (gR Ğ q):=by
 rw[zC7,wD,dF,zD0];ext Ũ
 .rintro (h | ⟨c,hc,h⟩)
  .cases h
  .unfold xt at hc;ext Á4;show#[w,hw,by rw[<- ò2];show h]
 .rintro⟨w,hw,h⟩;show ó6 #[_,Ã8,by rw[ò2];show h]
def zap Ű Ô8 ø0 Í1(hq:ċ9):yc (lR ë1) q=(Zd F p).all (gR Ğ q):=by
 rw[zC7,lR,dQ,zE4];ext Ũ
 .rintro⟨_,h⟩ w hw;rw[<- ò2];show h _ (Ã8)
 .ext Í8;rw[ò2];show h w hw
def jN Ä4 õ4:yF Ā0=x:=Å2
def gW Ä4 õ4:x8 Ā0=y:=Å2
def ZH Ä4 Ï9:wz pu (yF pu q) (x8 pu q)=q:=Å2
def iz Ű{pu:Bool}Í1:ċ9 ↔(0<=yF pu q/\yF pu q<=F.yz pu)/\0<=x8 pu q/\x8 pu q<=F.yz (!pu):=by
 unfold m6 zD.yz;cases pu
 .show Iff.rfl
 .show And.comm
theorem VF Ű Â7:∀ Ë0 Í1,ċ9->∀ r∈dN F s n q,m6 F r
 | 0,q,h,r,hr=>by cases Ù5 hr;show h
 | n+1,q,h,r,hr=>by
  unfold dN at hr;rcases ç9 hr with rfl | hr
  .show h
  .split at hr
   .rename_i hg;exact VF hs n ?_ Đ0;have h':=Ï6 h;rw[iz (pu:=s.pu),jN,gW];lia
   .cases hr
theorem OQ Ű Â7 á3(hb:Ù7):∀ Ë0 Í1,ċ9->É3<n->
  ((â3)↔(dN F s n q).any (yc b)=true)
 | 0,q,h,hn=>by
  have:=(Ï6 h).1.1;lia
 | n+1,q,h,hn=>by
  have h':=Ï6 h;have cut:∀ x y,yc b (wz ď3 y)=yc b (wz ď3 (min y (F.yz (!s.pu)))):=λ x y=>by
   ext ú0
   .rintro⟨p,hp,h1⟩;ext ã0;ext á0
   .rintro⟨p,hp,h1⟩;have h2:=ø7 h1;ext á0
  unfold dN;rw[zcE,zE6];by_cases hg:s.gv<=É3
  .rw[ë hg];have hi:m6 F (wz s.pu (É3-s.gv) (Ô7)):=by
    rw[iz (pu:=s.pu),jN,gW];lia
   have ih:=OQ hs hb n hi (by rw[jN];lia);rw[jN,gW] at ih;have sh:∀ k:Nat,yc b (wz s.pu (É3-s.gv-k*s.gv) (Ô7+k*s.gt))=yc b (wz s.pu (É3-ã7*s.gv) (Đ8+ã7*s.gt)):=λ k=>by
    ext ď0
    have e2:(ã7:Int)*s.gt=k*s.gt+s.gt:=Ê2
    have k0:0<=ç*s.gt:=zdR ⋯ hs.2;rw[e1,e2,cut,cut (É3-(k*s.gv+s.gv))];congr 2
    .lia
    .lia
   rw[<- ih];ext Ũ
   .rintro⟨k,hk⟩;cases k with
    | zero=>show ú6 (Ú1)
    | succ k=>show ó6 #[k,by rw[sh];show hk]
   .rintro (hk | ⟨k,hk⟩)
    .show#[0,Ú1]
    .show#[k+1,by rw[<- sh];show hk]
  .rw[Ġ hg];ext Ũ
   .rintro⟨k,hk⟩;cases k with
    | zero=>show ú6 (Ú1)
    | succ k=>
     exfalso;let#[p,hp,h1]:=xn.mp hk;ext ã0;rw[jN] at h2;ext ď0
     have k0:0<=ç*s.gv:=zdR Ð9;rw[e1] at h2;lia
   .rintro (hk | hk)
    .show#[0,Ú1]
    .cases hk
theorem FI Į Ô8 ź Í1(hq:ċ9):yc (ó8) q=Vl Ğ p q:=by
 have ge:Gd Ĵ (wD ë1):=iG ù9 (iR Ğ p);unfold yW Vl OP;by_cases ho:ŷ=true
 .rw[ë ho,ë ho];cases hs:Ì6 with
  | none=>simp![zcE,List.any_nil,Bool.or_false];show V2 hg hq
  | some s=>
   have hs':=ok.ss s (zdP hs);have hgv:É3<20:=by
    have:=Ï6 hq;have:ï0<=12:=by have:=ok.a1;have:=ok.b1;unfold zD.yz;ext ý6
    lia
   rw[zC7];ext Ý3;rw[VJ hs' ok.a1 ok.b1 (λ p hp=>#[(ge.yJ æ2).1.1,(ge.yJ æ2).2.1]) hq,OQ hs' ge 20 hq ⋯,zD0,zD0];ext Ũ
   .rintro⟨r,hr,h⟩;show#[r,hr,by rw[<- V2 hg (VF hs' 20 hq Đ0)];show h]
   .rintro⟨r,hr,h⟩;show#[r,hr,by rw[V2 hg (VF hs' 20 hq Đ0)];show h]
 .rw[Ġ ho,Ġ ho];show zap hg hq
def zaI {A B A' B' a b a' b':Int}(hA:A<=A') (hB:B<=B') (ha:a<=a') (hb:b<=b') {bd bd':Bd}(h:y6 bd bd'):y6 ê7 (lb A' B' a' b' bd'):=Ye λ p hp=>by
 ext ċ0;let#[x,hx,rfl]:=č h1;let#[r,hr,r1,r2]:=h.at hx;have e1:(wU a' b' r).1<=(wU a b x).1:=eQ ⋯;have e2:(wU a' b' r).2<=(wU a b x).2:=eQ ⋯;exact#[wU a' b' r,ß6 #[Þ2,?_],e1,e2];unfold i6 at h2 ⊢;simp![zE5,ď] at h2 ⊢;lia
theorem OU Ä4 {yz brim' give give' get get':Int}(hb:yz<=brim') (hg:give'<=give) (ht:get<=get'):∀ Ë0 (g t g' t':Int),g'<=g->t'<=t->∀ e∈ ó7,∃ r∈vA pu brim' give' get' n g' t',r.1<=e.1/\r.2<=e.2
 | 0,g,t,g',t',_,_,e,he=>by simp[vA] at he
 | n+1,g,t,g',t',h1,h2,e,he=>by
  unfold vA at he ⊢;split at he
  .rw[ë ⋯];rcases ç9 he with rfl | he
   .show#[_,zc1,RC h1 h2]
   .let#[r,hr,h]:=OU pu hb hg ht n _ _ (g' + give') (xV (t'-get')) ⋯ (eQ ⋯) e he;show#[r,zc2 _ hr,h]
  .cases he
def fB (w v:Wy):Prop:=v.f=w.f/\v.t=w.t/\w.a<=v.a/\w.b<=v.b
structure oW (F G:zD):Prop where
 len:Ó7
 a:F.A<=G.A
 b:F.B<=G.B
 own:∀ p,ŷ=true->Ó8=true
 kw:∀ w∈F.ws,G.os.getD w.f Ô=true->∃ v∈G.ws,fB w v
 tw:∀ v∈G.ws,G.os.getD v.f Ô=Ô->∃ w∈F.ws,fB w v
 any:∀ p<Ð,ŷ=Ô->Ó8=true->ż
 st:Ç4
def A9 ß4(hA:F.A<=G.A) (hB:F.B<=G.B) {s s':Sl}(h1:s'.pu=s.pu) (h2:s'.gv<=s.gv) (h3:s.gt<=s'.gt) ö9:y6 (nX F s b) (nX G s' c):=Ye λ p hp=>by
 ext Æ7;let#[r,hr,r1]:=h.at hx;have hb:ï0<=G.yz s.pu:=by
  unfold zD.yz;split
  .show hB
  .show hA
 have hg:=(k_ (pu:=s.pu)).mp r1;let#[e,he,e1]:=OU s.pu hb h2 h3 100 Ñ _ hg.1 hg.2 æ2;exact#[e,zcG.mpr #[r,hr,?_],e1];unfold kE;rw[h1];show he
def A7 {G:zD}ý5 {c:Bd}(hc:Gd Đ1 c):y6 c (nX G s c):=λ q hq=>by
 unfold nX;rw[gQ];let#[r,hr,r1,r2]:=xn.mp hq;exact xn.mpr #[r,zcG.mpr #[r,hr,?_],r1,r2];have h:=hc.yJ Đ0;unfold kE;have hb:yF s.pu r<=G.yz s.pu:=by
  unfold yF zD.yz;ext Å1
 have e:wz s.pu Ą6=r:=by
  unfold wz yF x8;split <;> rfl
 change r∈vA s.pu (G.yz s.pu) s.gv s.gt (99+1) Ą6;unfold vA;rw[ë hb,e];show zc1
theorem FN ß4(L:oW F G) ý7 Å8 (h:∀ t,y6 (ë2 t []) (ñ7 t [])):y6 (î3) (yW G m p):=by
 have h0:∀ {w v:Wy},fB w v->y6 (lb Ĵ w.a w.b (ŭ)) (lb Đ1 v.a v.b (ñ7 v.t [])):=λ{w v} g=>by
  rw[g.2.1];show zaI L.a L.b g.2.2.1 g.2.2.2 (h w.t)
 have hk:Ó8=true->y6 æ6 Č0:=λ ho q hq=>by
  ext á1
  .show ú6 x
  .ext Á4;ext Í4;have w2:w.f=p:=ã6
   let#[v,v1,v2]:=L.kw w w1 (by rw[w2];show ho);show ó6 #[_,ŝ #[v,ß6 #[v1,by rw[v2.1,w2];simp],rfl],h0 v2 q x]
 have up:Ó8=true->y6 Č0 (yW G m p):=λ ho=>by
  unfold yW;rw[ë ho];split
  .show ċ8
  .show A7 _ (iG ù9 (iR G m p))
 by_cases hF:ŷ=true
 .have hG:=L.own p hF;cases hs:Ì6 with
  | none=>
   have e:î3=wD Á1:=Č1
   rw[e];show (hk hG).trans (up hG)
  | some s=>
   let#[s',g1,g2,g3,g4]:=L.st p s hs;have e:î3=nX F s æ6:=Č1
   have e':yW G m p=nX G s' Č0:=by unfold yW;rw[ë hG,g1]
   rw[e,e'];show A9 L.a L.b g2 g3 g4 (hk hG)
 .have hF':ŷ=Ô:=by exists hF
  have e:î3=lR Á1:=by unfold yW;rw[Ġ hF]
  rw[e];by_cases hG:Ó8=true
  .let#[w,w1,w2]:=L.any æ2 hF' hG;exact y6.trans (λ q hq=>?_) ((hk hG).trans (up hG));unfold lR at hq;unfold wD;rw[dQ] at hq;rw[dF];have hm:lb Ĵ w.a w.b (ŭ)∈xt F l p:=ŝ #[w,ß6 #[w1,ã6],rfl];show ó6 #[_,hm,hq.2 _ hm]
  .have hG':Ó8=Ô:=by exists hG
   have e':yW G m p=lR (xt G m p):=by unfold yW;rw[Ġ hG]
   rw[e'];ext Õ3;let#[v,hv,rfl]:=č hc;let#[v1,v2]:=ê8 hv;have v2:v.f=p:=by exists v2
   let#[w,w1,w2]:=L.tw v v1 (by rw[v2];show hG');show h0 w2 q (hq.2 _ (ŝ #[w,ß6 #[w1,by rw[<- w2.1,v2];simp],rfl]))
theorem QN ß4(L:oW F G):∀ (k t:Nat),é7
 | 0,t=>by
  change y6 ((Á8 F).getD t []) ((Á8 G).getD t []);unfold Á8;rw[L.len];show ċ8
 | k+1,t=>by
  change y6 ((Ú0 (yW F (Ö8))).getD t []) (((í G.os.length).map (yW G (zG G k))).getD t []);rw[L.len];by_cases ht:t<Ð
  .rw[g_ Ñ _ ht,g_ Ñ _ ht];show FN L ht (QN L k)
  .have e:∀ f:Nat->Bd,(Ú0 f).getD t []=[]:=λ f=>by
    rw[zB1,zdF (Č)];rfl
   rw[e,e];show ċ8
def fB.refl ď9:fB w w:=#[rfl,rfl,Ù6,Ù6]
def cJ ß4(h:∀ p,G.stall p=Ì6):Ç4:=λ p s e=>#[s,by rw[h,e],rfl,Ù6,Ù6]
def oW.way ř Ê1 (hk:ā0 v.f Ô=true):oW ÿ ã8:=
 #[rfl,Ù6,Ù6,ú4,ã9,λ w h ho=>#[w,(by
  rcases (hm w).mp h with x | rfl
  .show x
  ext Ĉ7),.refl w],Ŗ,cJ ī]
def oW.LA ř Ê1 (hk:ā0 v.f Ô=Ô):oW ã8 ÿ:=
 #[rfl,Ù6,Ù6,ú4,λ w h ho=>#[w,(by
  rcases (hm w).mp h with x | rfl
  .show x
  ext Ĉ7),.refl w],ã9,Ŗ,cJ ī]
def oW.coins ř ą6{w v:Wy}(hw:w∈ws) (g:fB w v) (hm:∀ x,x∈ws'↔(x∈ws/\x≠w)\/x=v):oW ÿ ã8:=
 #[rfl,Ù6,Ù6,ú4,λ x h _=>(by
  by_cases z:x=w
  .subst z;show#[v,(hm v).mpr (ó6 rfl),g]
  .show#[x,(hm x).mpr (ú6 #[h,z]),.refl x]),λ x h _=>(by
  rcases (hm x).mp h with y | rfl
  .show#[x,y.1,.refl x]
  .show#[w,hw,g]),Ŗ,cJ ī]
def Pk {os:Æ4}{q p:Nat}:(os.set q true).getD p Ô=if p=q/\q<ä then true else ā0 p Ô:=by
 rw[zB1,zB1,zdE];by_cases h:q=p
 .subst h;by_cases h2:q<ä
  .simp[h2]
  .simp[h2]
 .rw[Ġ h,Ġ (λ z=>h z.1.symm)]
def oW.owner ř Ř{q:Nat}(hw:∀ p<ä,∃ w∈ws,w.f=p):oW ÿ #[A,B,os.set q true,ws,ss]:=
 #[#[],Ù6,Ù6,λ p h=>(by
  dsimp only at h ⊢;rw[Pk];split
  .rfl
  .show h),ŵ,ŵ,λ p hp _ _=>hw æ2,cJ ī]
def oW.brims {A B A' B':Int}Ř(hA:A<=A') (hB:B<=B'):oW ÿ #[A',B',os,ws,ss]:=
 #[rfl,hA,hB,ú4,ŵ,ŵ,Ŗ,cJ ī]
def lp å8 Ï9:Ù:=if Ĉ5 then (q.2,q.1) else q
def ox å8 Õ8:Bd:=if Ĉ5 then Ş else b
def Y9 å8 Õ8 Ï9:yc (ox sw b) q=yc b (ô0):=by
 cases sw with
 | Ô=>rfl
 | true=>
  ext ú0
  .ext ű;ext ï1;show#[r,hr,h2,h1]
  .ext ű;exact#[Č2,?_,h2,h1];change Č2 ∈ Ş;rw[zeQ];show ŝ #[p,hp,rfl]
def K4 {sw:Bool}á3(h:x_ b):x_ (ox sw b):=by
 cases sw with
 | Ô=>show h
 | true=>
  change x_ Ş;unfold x_ at h ⊢;rw[List.pairwise_reverse,zcD];show h.imp λ hab=>#[hab.2,hab.1]
def oX (o:û0) å8 ď9:Wy:=#[o w.f,o w.t,if Ĉ5 then w.b else w.a,if Ĉ5 then w.a else w.b]
def mC (o:û0) å8 ý5:Sl:=#[o s.p,xor sw s.pu,s.gv,s.gt]
structure nk (F G:zD) (o:û0) å8:Prop where
 n:Ó7
 A:G.A=if Ĉ5 then F.B else F.A
 B:G.B=if Ĉ5 then F.A else F.B
 on:∀ p<Ð,o p<Ð
 inj:∀ p<Ð,∀ q<Ð,o p=o q->p=q
 cE:∀ j<Ð,∃ p<Ð,o p=j
 os:∀ p<Ð,G.os.getD (o p) Ô=ŷ
 w1:∀ w∈F.ws,ä0 ∈G.ws
 w2:∀ v∈G.ws,∃ w∈F.ws,v=ä0
 st:∀ p<Ð,G.stall (o p)=(Ì6).map (mC o sw)
def cg é4 Ï9:Prop:=þ3
section
variable {ß4}{o:û0}{sw:Bool}{ý7}
def nk.box Ñ1 Í1(h:cg Đ1 q):cg Ĵ (ô0):=by
 unfold cg at *;rw[I.A,I.B] at h;unfold lp;cases sw <;> simp_all
def nk.gd Ñ1 á3(h:Ù7):Gd Đ1 (ox sw b):=by
 exact#[K4 h.jL,Ò5];rw[I.A,I.B];cases sw with
 | Ô=>show h.yJ æ2
 | true=>
  ext ï1;show#[(h.yJ Đ0).2,(h.yJ Đ0).1]
def nk.eqB Ñ1 {b c:Bd}(hb:Gd Đ1 b) (hc:Gd Ĵ c) (h:∀ q,cg Đ1 q->(ă5=true↔yc c (ô0)=true)):b=ox sw c:=by
 have hs:=I.gd hc;exact Gd.eq hb hs (y6.of Ò5) (y6.of Ò5)
 .have:=(h p (ú9)).mp (Ä7);rw[<- Y9] at this;show xn.mp this
 .exact xn.mp ((h p (hs.yJ æ2)).mpr ?_);rw[<- Y9];show Ä7
def Og (hl:è5) ø0 Í1(hq:cg Ĵ q):
  yc æ6 q=true↔∃ w∈F.ws,w.f=p/\yc (ŭ) ó9=true:=by
 ext Â8;rw[wD,dF];ext Ũ
 .rintro (h | ⟨c,hc,h⟩)
  .cases h
  .unfold xt at hc;ext Á4;let#[hw1,hw2]:=ê8 hw;show#[w,hw1,Ò6 hw2,(aF (nn w hw1) hq).mp h]
 .rintro⟨w,hw,e,h⟩;show ó6 #[_,û1,(aF (nn w hw) hq).mpr h]
def NT (hl:è5) ø0 Í1(hq:cg Ĵ q):
  yc (lR Á1) q=true↔∀ w∈F.ws,w.f=p->yc (ŭ) ó9=true:=by
 ext Â8;rw[lR,dQ];ext Ũ
 .rintro⟨_,h⟩ w hw e;show (aF (nn w hw) hq).mp (h _ (û1))
 .ext Í8;let#[hw1,hw2]:=ê8 hw;show (aF (nn w hw1) hq).mpr (h w hw1 (Ò6 hw2))
def K3 å8 Ï9 ď9:lp sw Č3=Č4:=by cases sw <;> rfl
def nk.step Ñ1 (okF:F.Ok) à7 {w:Wy}(hw:w∈F.ws) Ï9:
  yc (ñ7 (ä0).t []) Č3=yc (ŭ) Č4:=by
 change yc (ñ7 (o w.t) []) _=_;rw[h w.t (ô1).2,Y9,K3]
def nk.next Ñ1 (okF:F.Ok) (okG:G.Ok) (hl:∀ t<Ð,Gd Ĵ (ë2 t [])) à7 Å8:
  yW G m (o p)=ox sw (î3):=by
 have hlF:è5:=λ w hw=>hl w.t (ô1).2;have hlG:∀ w∈G.ws,Gd Đ1 (ñ7 w.t []):=λ v hv=>by
  ext æ3;change Gd _ _ (ñ7 (o w.t) []);rw[h w.t (ô1).2];show I.gd (hlF w hw)
 have gF:Gd Ĵ æ6:=iG ù9 (iR F l p);have gG:Gd Đ1 (ā1):=iG ù9 (iR G m (o p));have eE:ā1=ox sw æ6:=I.eqB gG gF λ q hq=>by
  rw[Og hlG hq,Og hlF (I.box hq)];ext Ũ
  .rintro⟨v,hv,e,c⟩;ext æ3;rw[ë4] at c;show#[w,hw,I.inj _ (ô1).1 _ hp e,c]
  .rintro⟨w,hw,e,c⟩;show#[_,I.w1 w hw,by rw[<- e];rfl,by rw[ë4];show c]
 unfold yW;rw[I.os æ2];by_cases ho:ŷ=true
 .rw[ë ho,ë ho,I.st æ2];cases hs:Ì6 with
  | none=>show eE
  | some s=>
   have hs':=okF.ss s (zdP hs);have ht':1<=(mC o sw s).gv/\0<=(mC o sw s).gt:=hs';change nX G (mC o sw s) (ā1)=ox sw (nX F s æ6);rw[eE];exact I.eqB (VI ht' (I.gd gF)) (VI hs' gF) λ q hq=>?_;rw[VJ ht' okG.a1 okG.b1 (λ x hx=>#[((I.gd gF).yJ ÿ9).1.1,((I.gd gF).yJ ÿ9).2.1]) hq,VJ hs' okF.a1 okF.b1 (λ x hx=>#[(gF.yJ ÿ9).1.1,(gF.yJ ÿ9).2.1]) (I.box hq)];have e1:∀ x y,lp sw (wz é0 x y)=wz ď3 y:=λ x y=>õ0
   have e2:yF é0 q=yF s.pu (ô0):=õ0
   have e3:x8 é0 q=x8 s.pu (ô0):=õ0
   exact exists_congr λ k=>?_;change yc (ox sw æ6) (wz é0 (yF é0 q-k*s.gv) (x8 é0 q+k*s.gt))=true↔_;rw[Y9,e1,e2,e3]
 .rw[Ġ ho,Ġ ho];have z:∀ Ű,F.Ok->∀ Ĉ6 ź,Gd Ĵ (lR Á1):=λ ok l p=>YK _ _ (ã5) (iR _ l p);exact I.eqB (z okG m (o p)) (z okF l p) λ q hq=>?_;rw[NT hlG hq,NT hlF (I.box hq)];ext Ũ
  .intro c w hw e;rw[<- ë4];show c _ (I.w1 w hw) (by rw[<- e];rfl)
  .intro c v hv e;ext æ3;rw[ë4];show c w hw (I.inj _ (ô1).1 _ hp e)
theorem Dj Į:∀ (k t:Nat),t<Ð->Gd Ĵ ((Ö8).getD t [])
 | 0,t,ht=>by
  have e:(zG F 0).getD t []=vB:=by
   ext ã1
  rw[e];show ã5
 | k+1,t,ht=>by
  have e:(zG F (k+1)).getD t []=yW F (Ö8) t:=g_ Ñ _ ht;rw[e];show WB ok _ _
theorem nk.zG Ñ1 (okF:F.Ok) (okG:G.Ok):∀ (k p:Nat),p<Ð->(RN.zG G k).getD (o p) []=ox sw ((RN.zG F k).getD p [])
 | 0,p,hp=>by
  have e:∀ Ű{t:Nat},t<Ð->(RN.zG F 0).getD t []=vB:=λ{F t} ht=>by
   ext ã1
  ext Ĉ4;cases sw <;> rfl
 | k+1,p,hp=>by
  have e:∀ Ű{t:Nat},t<Ð->(RN.zG F (k+1)).getD t []=yW F (RN.zG F k) t:=λ ht=>g_ Ñ _ ht;ext Ĉ4;show I.next okF okG (Dj okF k) (λ t ht=>I.zG okF okG k t ht) hp
def BP ý7(h:Ç1=m.length) (e:∀ i<Ç1,ë2 i []=ñ7 i []):l=m:=zcW h λ i h1 h2=>by
 have:=e i h1
 rwa [zB1,zA1 h1,zB1,zA1 h2] at this
end
end RN
namespace zP
open Ć0 L2 L3 L5
def nc:T->Bool
 | .zF _ _=>true
 | _=>Ô
def v7 å7:Bool:=!nc t&&(match t with | ô ts=>ts.all (λ u=>!nc u) | _=>true)
def v7.top {t:T}(h:v7 t=true):nc t=Ô:=by
 unfold v7 at h;simp![zE5,zeC] at h;show h.1
def v7.mem Ü8(h:v7 ô2=true) {u:T}(hu:u∈ts):nc u=Ô:=by
 simp![v7,zE5,zE4,zeC] at h;show h.2 u hu
def wh å7 (a b:Int):Bool:=match t with
 | Ö i=>ð5
 | _=>Ô
def zL Ý8 ĝ Á3:zc f fa fb J=r:=â2
def iQ Ë2 ĝ{a b:Bool}(h:f J=↑(.bl a)) (h':a=true->ñ6):pQ ý3=↑(.bl (a&&b)):=by
 ext ï5;cases a with
 | Ô=>rfl
 | true=>show h' rfl
def eZ İ:Ý4:=by
 ext Ò3
def OV Ă8 ĝ{x y z:T}{a b:Bool}ć6 (hf:f x y=↑(.bl a)) (hc:fc J=↑z) (hg:g y z=↑(.bl b)):f7 f g fa fb fc J=↑(.bl (a&&b)):=by
 ext Ô6;cases a with
 | Ô=>rfl
 | true=>ext đ4
def iy ĝ Ü8(h:zb 0 J=↑ ô2):instS "tuple" Ť J=↑ Ĩ:=by
 change (zb 0 J).bind _=_;rw[h];show Ü į (show mP "tuple" "tuple"=true by decide)
def W2 {f g:ſ}ĝ đ6:oa ý3=↑true:=É8
def Mn å7 Õ9:fQ [t]=↑(.bl (match t with | Ö _=>true | _=>Ô)):=by
 cases t with
 | zF _ _=>cases he
 | _=>rfl
def U7 å7 (a b:Int) Õ9:fP [t,Ö a,Ö b]=↑(.bl (wh t a b)):=by
 have h:=Mn t he;cases t with
 | int i=>show yb (yK (iQ (a:=true) (b:=ð5) (zN rfl h) λ _=>OV (x:=Ö a) (y:=Ö i) (z:=Ö b) É É rfl)) rfl
 | zF _ _=>cases he
 | _=>show yb (yK (iQ (b:=Ô) (zN rfl h) Ć2)) rfl
def ë5 (i j:Int) Ă9:Î1:=by
 have:eqT Ý9=î (i=j):=by simp[eqT,zeR]
 simp[zO,dep,this]
theorem Za Ō ø1:∀ (ts:þ) (bs:Ÿ),List.zipWith ð6 ts (bs.map enc)=(ts.zip bs).map λ p=>ß9 [p.1,enc p.2]
 | [],bs=>#[]
 | t::ts,[]=>#[]
 | t::ts,b::bs=>by simp[Za enc ts bs]
def YL Ō(g:Þ3) í8:nH Ï8=↑(Č5 g):=by
 have:=az (Č5 g);rw[zD6] at this;show this
def Us Ō(g:Þ3) í8:(Č5 g).all id=xs.all g:=by
 rw[zcJ];rfl
def wg å7 (bs:Ł):Bool:=match t with
 | ô ts=>î (Ħ=ä1)&&Ê3
 | _=>Ô
def aE Ō{c:zEO}ĝ{g:Þ3}{xs:Ÿ}(h:c J=↑(à Ï8)):zm ð7 (za c ze) J=↑(.bl (xs.all g)):=zN (zi h rfl) (by
 change (nH Ï8).map _=_;rw[YL,Î2];show Ü į (Us g xs))
def Mp å7 (bs:Ł) (hl:ä1<=100) (he:v7 t=true):aX [t,ô (bs.map zB)]=↑(.bl (wg t bs)):=by
 cases t with
 | tup ts=>
  have hn:yd (zc (zO true) Þ4 (zm xy (za Ô3 ze))) Å0=↑(! î (Ħ=ä1)):=by
   exact (yh (zL (x:=Ö Ċ0) (y:=Ö ((bs.map zB).length:Int)) (zN É) (zN É) (ë5 _ _ true))).trans (Ü (λ b=>↑(!b)) (Ì1 ?_));rw[zA7];lia
  change aX _=↑(.bl (î (Ħ=ä1)&&Ê3));by_cases h:Ħ=ä1
  .have hc:Nq Å0=↑(à ((ts.zip bs).map λ p=>T.bl (wh p.1 p.2.1 p.2.2))):=by
    exact xH (λ p:T×(Ù)=>ß9 [p.1,zB p.2]) _ (ts.zip bs) (Ü some (Za zB ts bs)) ?_ λ p hp=>eZ rfl (zN (zi rfl (zi Ú2 û)) (U7 Ñ (v7.mem he (zd8 hp).1)));rw[zdN];have:Å3:=rfl;lia
   rw[zeV h] at hn ⊢;show û2
  .rw[zeW h] at hn ⊢;show yb (wN (xu È2)) rfl
 | zF _ _=>cases v7.top he
 | _=>show à0
def XX å7 (bs:Ł):Bool:=match t with
 | ô ts=>ô3
 | _=>Ô
def XG å7:Prop:=∀ ts,wy t=↑ts->Ħ<=16777216
def Mo å7 (bs:Ł) (hl:ä1<=100) (hz:XG t) (hr:Ô9) Õ9:Xp [t,ô (bs.map zB)]=↑(.bl (XX t bs)):=by
 cases t with
 | tup ts=>
  have hc:Nu Å0=↑(à (ts.map λ r=>T.bl (wg r bs))):=xH ø2 (hz ts rfl) λ p hp=>eZ rfl (zN rfl (Mp _ _ hl (hr ts rfl æ2)));show yb (yK (iQ (a:=true) (b:=ô3) (iy rfl) λ _=>aE hc)) rfl
 | zF _ _=>cases he
 | _=>show yb (yK (iQ (a:=Ô) (b:=Ô) rfl Ć2)) rfl
theorem J2 {t:T}{bs:Ł}(h:wg t bs=true):∃ r:Þ,t=zH r/\Š:=by
 cases t with
 | tup ts=>
  simp![wg,zE5,ď] at h;let#[hl,ha]:=h;have key:∀ (ts:þ) (bs:Ł),Ħ=ä1->(Ê3)=true->∃ r:Þ,ts=r.map ņ/\Š:=by
   intro ts
   induction ts with
   | nil=>intro bs hl _;show#[[],rfl,by simpa using hl,λ i x b hx=>by simp at hx]
   | cons t ts ih=>
    intro bs hl ha;cases bs with
    | nil=>simp at hl
    | cons b bs=>
     simp![zdX,zcQ,zE5] at ha;let#[r,r1,r2,r3]:=ih bs (by exists hl) ha.2;cases t with
     | int i=>
      have h1:=ha.1;simp![wh,zE5,ď] at h1;exact#[i::r,by rw[r1];rfl,by simp[r2],λ j x c hx hc=>?_];cases j with
      | zero=>simp at hx hc;subst hx hc;show h1
      | succ j=>show r3 j x c (by exists hx) (by exists hc)
     | _=>simp[wh] at ha
  let#[r,r1,r2,r3]:=key ts bs hl ha;show#[r,by rw[r1];rfl,r2,r3]
 | _=>simp[wg] at h
def SU Ü8{bs:Ł}(h:(ô3)=true):∃ rs:ġ,ts=ū/\∀ r∈rs,wg ă6 bs=true/\Š:=by
 induction ts with
 | nil=>show#[[],rfl,Ć2]
 | cons t ts ih=>
  simp![zcQ,zE5] at h;let#[rs,h1,h2]:=ih h.2;let#[r,r1,r2,r3]:=J2 h.1;exact#[r::rs,by rw[h1,r1];rfl,λ q hq=>?_];rcases ç9 hq with e | e
  .subst e;show#[by rw[<- r1];show h.1,r2,r3]
  .show h2 q e
def m9:ġ->Bool
 | ā2=>æ8 a b&&m9 ċ7
 | _=>true
def pH:Þ->Bool
 | ā2=>î (a<b)&&pH ċ7
 | _=>true
theorem Xu Ō(lt:α->Þ3) (up:Ÿ->Bool) (h0:up []=true) (h1:∀ a,up [a]=true) (h2:∀ a b l,up (ā2)=(lt a b&&up ċ7)):∀ l:Ÿ,((l.zip (l.drop 1)).all λ p=>lt p.1 p.2)=up l
 | []=>by simp[h0]
 | [a]=>by simp[h1]
 | ā2=>by
  have ih:=Xu lt up h0 h1 h2 ċ7;simp![List.drop_succ_cons,List.drop_zero,zdX,zcQ] at ih ⊢;rw[h2,<- ih]
def VC Ō í8:ni xs ↑1 none=xs.drop 1:=by
 unfold ni;have e:HT.yf ş 0 ↑1=min 1 ş:=by simp[HT.yf]
 ext Ĉ2;cases xs with
 | nil=>rfl
 | cons x xs=>simp
def za8 (rs:ġ) (hl:ë6<=16777216):fS [ô (ū)]=↑(.bl (m9 rs)):=by
 have hc:aw [↑(.im Ú3)]=↑(à ((rs.zip (rs.drop 1)).map λ p=>T.bl (æ8 p.1 p.2))):=by
  unfold aw;exact xH (λ p:Þ × Þ=>ß9 [zH p.1,zH p.2]) _ (rs.zip (rs.drop 1)) ö8 Ò5
  .simp![xW,za,zb,o_,f9,cS,ze,kO,fw,zC9,VC,Jk,Î2,List.getElem?_cons_zero];ext ñ3
  .simp;lia
  .simp[oB,zH,oA,Yi]
 unfold fS Td;simp[hc,YL,Us];have:=Xu (λ a b=>æ8 a b) m9 rfl (ī) (λ _ _ _=>rfl) rs;exists this
def za9 ø3 (hl:Ô4<=16777216):fS [à Í5]=↑(.bl (pH ns)):=by
 have hc:aw [↑(.im (à Í5))]=↑(à ((ns.zip (ns.drop 1)).map λ p=>T.bl (î (p.1<p.2)))):=by
  unfold aw;exact xH (λ p:Ù=>ß9 [ņ p.1,ņ p.2]) _ (ns.zip (ns.drop 1)) ö8 Ò5
  .simp![xW,za,zb,o_,f9,cS,ze,kO,fw,zC9,VC,Jl,Î2,List.getElem?_cons_zero];ext ñ3
  .simp;lia
  .simp[oB,oA]
 unfold fS Td;simp[hc,YL,Us];have:=Xu (λ a b:Int=>î (a<b)) pH rfl (ī) (λ _ _ _=>rfl) ns;exists this
def c_ (k l:Str) å7:Bool:=match t with
 | ß x=>k == x||l == x
 | _=>Ô
def Ve (x k l:Str) (y:T) (hy:wy y=↑[ß k,ß l]):nD Ô (ß x) y=↑(.bl (k == x||l == x)):=by
 unfold nD;rw[hy];simp[dep,xI,eqT]
def Dy {x y:T}Ü8(hy:wy y=↑ts):yJ x y=nD Ô x y:=by
 unfold yJ;split
 .cases hy
 .rfl
def Gx (k l:Str) å7 Õ9:z_ ë7 1 (retS (pQ (instS "str" Ť) (zc yJ Ť (tupS ò3)))) [t]=↑(.bl (c_ k l t)):=by
 cases t with
 | str x=>
  have h:=(Dy (x:=ß x) (y:=ô [ß k,ß l]) rfl).trans (Ve x k l (ô [ß k,ß l]) rfl);simp[mP,h,c_]
 | zF _ _=>cases he
 | _=>simp[c_,mP]
def ml å7:Bool:=c_ Ü9 t
def zbc å7 Õ9:UQ [t]=↑(.bl (ml t)):=Gx Ü9 t he
def gJ å7:Bool:=match t with
 | ô ts=>(è6)&&ts.all ml
 | _=>Ô
theorem zbb å7 (he:v7 t=true):Xq [t]=↑(.bl (gJ t)):=by
 cases t with
 | tup ts=>
  have hn:va (yd (f7 mK mK Î3 Þ4 (cI 8))) [↑(.im ô2)]=↑(!(î ((1:Int)<=Ċ0)&&î (Ċ0<=8))):=w_ (yh (OV (x:=Ö 1) (y:=Ö Ċ0) (z:=Ö 8) rfl (zN É) É rfl));have e1:î ((1:Int)<=Ċ0)=î (1<=Ħ):=Ì1 ⋯;have e2:î (Ċ0<=8)=î (Ħ<=8):=Ì1 ⋯;rw[e1,e2] at hn;change Xq _=↑(.bl ((è6)&&ts.all ml));cases hb:è6 with
  | Ô=>rw[hb] at hn;show yb (wN (xu È2)) rfl
  | true=>
   rw[hb] at hn;have hl:Ħ<=8:=by rw[zE5,ď,ď] at hb;show hb.2
   have hc:Nv [↑(.im ô2)]=↑(à (ts.map λ r=>T.bl (ml r))):=xH ø2 (by have:Å3:=rfl;lia) λ p hp=>eZ rfl (zN rfl (zbc _ (v7.mem he hp)));show û2
 | zF _ _=>cases v7.top he
 | _=>show à0
def rowOf å7:Þ:=match t with
 | ô xs=>(mQ xs).getD []
 | _=>[]
def J5 Đ2:rowOf ă6=r:=by simp[rowOf,zH,Yi]
def gy (rs:ġ):(ū).map rowOf=rs:=by
 rw[zD6]
 conv=>rhs;rw[<- zcS rs]
 show zc9 λ r _=>J5 r
def wb â8:Ł:=[(0,n-1),(0,n-1),(-12,12),(-12,12)]
def sb â8:Ł:=[(0,n-1),(0,1),(1,12),(0,12)]
def fst Đ2:Int:=Č6 0 0
def n_ å7 Ë0:Bool:=match t with
 | ô ts=>á6&&(î (Ħ<=24)&&(m9 (ts.map rowOf)&&(í n).all λ ë8=>(è7).any λ i=>î (i=ç)))
 | _=>Ô
def QJ í9:zk ă6 (Ö 0)=↑(Ö (fst r)):=by
 match r,h with
 | Ā,_=>simp[zH,fst]
def BQ (a k:Int):eqT (Ö a) û3=î (a=k):=by simp![eqT,zeR]
theorem NQ (k:Int):∀ ns:Þ,(ns.map ņ).any (λ t=>eqT t û3)=ns.any λ i=>î (i=k)
 | []=>rfl
 | n::ns=>by rw[zA6,zcE,zcE,NQ k ns,BQ]
def J7 í9:∃ a b c d,r=Ā:=by
 match r,h with
 | Ā,_=>show#[a,b,c,d,rfl]
theorem Ou:∀ ns:Þ,xI Í5=0
 | []=>rfl
 | n::ns=>by simp[xI,dep,Ou ns]
theorem Pn {rs:ġ}ĝ(h0:zb 0 J=↑ Ú3) (hl:ë6<=16777216) (h4:∀ r∈rs,ĉ9=4):yS ã2 (yP Ť) (zC 0) xo (zc zk Ť Ö9) J=↑(à ((rs.map fst).map ņ)):=by
 rw[zD6];show xH zH _ rs (by change (zb 0 J).bind _=_;rw[h0];rfl) hl λ p hp=>eZ rfl (zL É (QJ (h4 æ2)))
theorem zaX å7 Ë0 (hn:n<=1000) (hz:XG t) (hr0:Ô9) Õ9:UY [t,Ö n]=↑(.bl (n_ t n)):=by
 have hw:=Mo t (wb n) (by simp[wb]) hz hr0 he;cases hR:XX t (wb n) with
 | Ô=>
  have hN:n_ t n=Ô:=by
   cases t with
   | tup ts=>unfold n_;ext Ý3;rw[show á6=Ô from hR];rfl
   | _=>rfl
  rw[hN];rw[hR] at hw;show yb (zp (zQ (xm Č7 ā)) (zp (zQ (xm ă ā)) (wN (xu Ţ)))) rfl
 | true=>
  rw[hR] at hw;cases t with
  | tup ts=>
   let#[rs,rfl,hr]:=SU (show á6=true from hR);have hz':=hz _ rfl;rw[zA7] at hz';have hc2:∀ ø3 a c d,Nb [a,↑(.im ë9),c,d,↑(.im (à Í5))]=↑(à ((í n).map λ ë8=>T.bl (ns.any λ i=>î (i=ç)))):=λ ns a c d=>by
    exact xH Ø0 _ (í n) (Z9 n ⋯) (by rw[zC5];have:Å3:=rfl;lia) λ k hk=>eZ rfl (zL (x:=Č8) (y:=à Í5) É ?_);change nD Ô (Č8) (à Í5)=_;have e:=NQ ç ns;rw[ze8];change (if dep (Ö ç)<=60/\xI Í5<=60 then ↑(T.bl ((ns.map ņ).any λ t=>eqT t (Ö ç))) else none)=_;rw[ë #[zD4 _,by rw[Ou];show zD4 _],e]
   have hN:n_ Ú3 n=(î (ë6<=24)&&(m9 rs&&(í n).all λ ë8=>(rs.map fst).any λ i=>î (i=ç))):=by
    unfold n_;ext Ý3;rw[gy,show ((ū).all λ r=>wg r (wb n))=true from hR,zA7,Bool.true_and]
   rw[hN];exact yb (zp (zQ (xm Č7 ā)) (zp (zQ (xm ă ā)) (zp (yi Ţ) (zp (zQ þ4) (yK (iQ ?_ λ _=>iQ (zN À5 (za8 rs hz')) λ _=>aE (hc2 Ñ _))))))) rfl;exact zL (y:=Ö 24) (zN À5 (show ↑(ņ (((ū).length:Nat):Int))=_ from rfl)) rfl ?_;rw[zA7];show Ü į (Ì1 ⋯)
  | _=>cases hR
def Ć3 Đ3 (p:Int):Bool:=match os[ô4]? with
 | some (ß x)=>x == "keeper"
 | _=>Ô
def mf å7 Đ3:Bool:=match t with
 | ô ts=>Ý5&&(pH (è7)&&(è7).all (Ć3 os))
 | _=>Ô
def ì0 (x y:Str) Ă9:zO neg (ß x) (ß y)=↑(.bl (cond neg (!(x == y)) (x == y))):=by
 ext ą7
theorem QK {os:þ}{p:Int}(h0:0<=p) (h1:p<ä) (ho:Ï5) (k:Str):∃ x:Str,à1 os p=↑(ß x)/\os[ô4]?=↑(ß x):=by
 have hl:ô4<ä:=⋯;have e:os[ô4]?=↑os[ô4]:=zA1 hl;have ha:à1 os p=↑os[ô4]:=by
  have:=om (k:=ô4) e;rw[zF2 h0] at this;show this
 have hw:=zE4.mp ho os[ô4] (zD8 hl);generalize hq:os[ô4]=q at *;cases q with
 | str x=>show#[x,ha,e]
 | _=>simp[ml,c_] at hw
theorem za1 å7 Đ3 (ho:Ï5) (hl8:ä<=8) (hz:XG t) (hr0:Ô9) Õ9:UZ [t,ô os]=↑(.bl (mf t os)):=by
 have hw:=Mo t (sb ä) (by simp[sb]) hz hr0 he;cases hR:XX t (sb ä) with
 | Ô=>
  have hN:mf t os=Ô:=by
   cases t with
   | tup ts=>unfold mf;ext Ý3;rw[show Ý5=Ô from hR];rfl
   | _=>rfl
  rw[hN];rw[hR] at hw;show yb (zp Ú4 (wN (xu Ţ))) rfl
 | true=>
  rw[hR] at hw;cases t with
  | tup ts=>
   let#[rs,rfl,hr]:=SU (show Ý5=true from hR);have hz':=hz _ rfl;rw[zA7] at hz';have hc2:∀ b,Nc [↑(.im Ú3),↑(.im Č9),b]=↑(à (rs.map λ r=>T.bl (Ć3 os (fst r)))):=λ b=>by
    exact xH zH _ rs rfl hz' Ò5;have hb:=(hr æ2).2.2 0;have h0:=QJ (hr æ2).2.1;let#[a,b,c,d,rfl]:=J7 (show ő=4 from (hr æ2).2.1);have hb':=hb a (0,(ä:Int)-1) É;let#[x,x1,x2]:=QK (os:=os) (p:=a) hb'.1 (by have:=hb'.2;simp at this;lia) ho "keeper";have e1:Ć3 os (fst Ā)=(x == "keeper"):=by change Ć3 os a=_;unfold Ć3;rw[x2]
    rw[e1];show eZ rfl (zL (zL (x:=ô os) rfl (zL É h0) x1) rfl (ì0 x "keeper" Ô))
   have hN:mf Ú3 os=(pH (rs.map fst)&&rs.all λ r=>Ć3 os (fst r)):=by
    unfold mf;ext Ý3;rw[gy,show ((ū).all λ r=>wg r (sb ä))=true from hR,Bool.true_and,zcJ];rfl
   rw[hN];show yb (zp Ú4 (zp (yi Ţ) (yK (iQ (zN (zi þ4 rfl) (za9 (rs.map fst) (by rw[zA7];show hz'))) λ _=>aE (hc2 _))))) rfl
  | _=>cases hR
def jK å7:Bool:=match t with
 | ô [a,ô os,c,d]=>(wg a Ã9&&gJ Č9)&&(n_ c ä&&mf d os)
 | _=>Ô
def Mt (a:T) (os ws ss:þ) (ha:v7 a=true) (ho:v7 Č9=true) (hw:∀ r∈ws,v7 r=true) (hs:∀ r∈ss,v7 r=true) (lw:Á2<=16777216) (ls:ss.length<=16777216):
  jY [ă7]=↑(.bl (jK (ă7))):=by
 have brims:Ta [a]=↑(.bl (wg a Ã9)):=yb (yK (zN (zi rfl (zi î4 rfl)) (Mp a Ã9 #[] ha))) rfl;have own:=zbb Č9 ho;change jY _=↑(.bl ((wg a Ã9&&gJ Č9)&&(n_ (ô ws) ä&&mf (ô ss) os)));cases hb:wg a Ã9 with
 | Ô=>rw[hb] at brims;show yb (zp Ś (wN (xu (W2 (w_ (wa (zN û brims)))) rfl))) rfl
 | true=>
  rw[hb] at brims;cases hw':gJ Č9 with
  | Ô=>rw[hw'] at own;show yb (zp Ś (wN (xu Ý2 rfl))) rfl
  | true=>
   rw[hw'] at own;have hw2:=hw';simp![gJ,zE5,ď] at hw2;have e1:=zaX (ô ws) ä ⋯ (λ ts e=>by cases e;show lw) (λ ts e=>by cases e;show hw) rfl;have e2:=za1 (ô ss) os hw2.2 hw2.1.2 (λ ts e=>by cases e;show ls) (λ ts e=>by cases e;show hs) rfl;show yb (zp Ś (zp (yi Ý2 rfl) (yK (iQ (a:=n_ (ô ws) ä) (b:=mf (ô ss) os) (zN (zi Ú2 (zi (zN û rfl) rfl)) e1) λ _=>zN (zi Ú2 û) e2)))) rfl
def SX (x y z v:T) (p q r s:Ù):wg (ô [x,y,z,v]) [p,q,r,s]=(wh x p.1 p.2&&(wh y q.1 q.2&&(wh z r.1 r.2&&wh v s.1 s.2))):=by simp[wg]
def J4 (x y:T) (p q:Ù):wg (ô ó5) [p,q]=(wh x p.1 p.2&&wh y q.1 q.2):=by simp[wg]
@[simp] theorem zcm (i j:Int):qK Ý9=ir Ý9:=rfl
def VN (m:Int) Ï1:Int:=if k<Ô4 then ns.getD k 0%m else 0
def Qt (m a b c d e:T):Sm:=
 (zw (zY 2 Ö9)
 (zw (ym (yd (zc oA Ô3 Þ4)) (zY 2 (zc yQ (zc zk Ť Ô3) (zc cV (cI 2) (cS m)))) yw)
 (retS (zc x9 (zc yQ (zc ye (zc ye (zc qK ä2 (cS a)) (zc qK (zc qK (cS b) Ô3) Ô3)) (zc qK (cS c) Ô3)) (cS d)) (cS e)))))
def Ec (m a b c d e:Int) Ï1 (hp:gi 2 m) (hm:0<(2:Int) ^ m.toNat) (h1:∀ i,nL i a) (h2:∀ i,nL b i) (h3:∀ i,nL i ç) (h4:∀ i,nL c i) (h5:0<d) (h6:vE 0 e):
  jD (Qt (Ö m) (Ö a) (Ö b) (Ö c) (Ö d) (Ö e) [↑ Ë5,↑(.im û3),none])=↑(Ö ((VN (2 ^ m.toNat) ns k*a+b*ç*ç+c*ç)%d/e)):=by
 have h6':∀ i,vE i e:=λ i=>h6;unfold Qt wO VN;by_cases h:k<Ô4
 .have q:þ5:=om (ö1);have h':ă8:=⋯;simp[h,h',q,oA,hp,hm,ir,h1,h2,h3,h4,h5,h6',jD]
 .have h':¬ ă8:=⋯;simp[h,h',oA,ir,h1,h2,h3,h4,h5,h6',jD]
def mixed Ï1:Int:=(VN (2 ^ (64:Int).toNat) ns k*46337+2741*ç*ç+59*ç)%2147483629/2
theorem half_lt (x d:Int) (h:0<d):0<=x%d/2/\x%d/2<d:=by
 have h1:=zF0 x (b:=d) ⋯;have h2:=zF1 x h;lia
def WG Ï1:0<=mixed ns k/\mixed ns k<2147483629:=half_lt _ _ ()
def ck Ï1 (hk:k<=1000):jn [Ć4,Ö ç]=↑(Ö (mixed ns k)):=
 Ec 64 46337 2741 59 2147483629 2 ns k #[(),(),()] () (λ i=>ó6 ċ) (λ i=>ú6 ċ) (λ i=>ó6 ť) (λ i=>ú6 ċ) () ċ
def kb Ë0 Đ2:Prop:=∃ a b c d:Int,r=Ā/\(0<=a/\a<n)/\(0<=b/\b<n)/\(-12<=c/\c<=12)/\(-12<=d/\d<=12)
theorem OK (x s:Int) (h1:1<=s) (h2:s<=12):-12<=x%(2*s+1)-s/\x%(2*s+1)-s<=12:=by
 have a:=zF0 x (b:=2*s+1) ⋯;have b:=zF1 x (b:=2*s+1) ⋯;lia
def two ù0:x%2=0\/x%2=1:=⋯
def xj {fa fb:zEO}ĝ á5 (h:0<j):zc yQ fa fb J=↑(Ö (i%j)):=zL h1 h2 (ë h)
def xv {fa fb:zEO}ĝ á5 (h:vE i j):zc x9 fa fb J=↑(Ö (i/j)):=zL h1 h2 (ë h)
def eS Ë2 ĝ{x y:T}(h:f J=↑x) (h':g J=↑y) (i:Nat):pC i (xC (za f (za g ze))) J=↑(.nx (J.set i ↑(ō (à ó5)))):=by
 have e:xC (za f (za g ze)) J=↑(à ó5):=by
  change (za f (za g ze) J).bind _=_;rw[zi h (zi h' rfl)];rfl
 change (xC _ J).bind _=_;rw[e];rfl
def ZE í6 Ï4 ĝ{x y z:T}{v:zEO}{k:Int}ć7 (h0:J[n]?=↑↑(ō (à ó5))) (hk:k=0\/k=1):bq n f v J=↑(.nx (J.set n ↑(ō (à (if k=0 then [z,y] else [x,z]))))):=by
 ext Đ7;rw[hf,zC9,h0];rcases hk with rfl | rfl <;> rfl
def Lh ø3 (at' many k:Nat) (more span:Int) (rows:þ) (ha:at' + k<=1000) (hm:1<=many) ċ2 (hl:Í6<=1000):
  ∃ a b c d m:Int,kb many Ā/\(k<many->a=k)/\turn (zC 6) Ud (Č8) [↑ Ë5,↑ Ó9,↑ Î4,↑ Î5,↑ ì1,↑(ō (à rows)),none,none,none,none] =
   ↑(.nx [↑ Ë5,↑ Ó9,↑ Î4,↑ Î5,↑ ì1,↑(ō (à (rows++[zH Ā]))),↑(.im (Č8)),↑(.im (Ö m)),↑(.im (Ö a)),↑(ō (à [Ö c,Ö d]))]):=by
 have hmx:=ck ns (at' + k) ha;generalize mixed ns (at' + k)=m at hmx;have pm:ô5<many:=⋯;have ps:0<2*span+1:=⋯;have cm:nL 2 span:=ú6 ċ;have e1:=zF0 m (b:=ð0) ⋯;have e2:=zF1 m pm;have e3:=zF0 (m/8) (b:=ð0) ⋯;have e4:=zF1 (m/8) pm;have c1:=OK (m/64) span hs1 hs2;have c2:=OK (m/2048) span hs1 hs2;have zz:(-12:Int)<=0/\ô5<=12:=ċ;have cc:ô5+ç=ç:=⋯;rw[show ((at' + k:Nat):Int)=(at':Int)+ç by lia] at hmx;rw[cc];by_cases hk:ç<ð0
 .by_cases h5:m/65536%5=0
  .rcases two (m/327680) with h2 | h2
   .show#[k,Ċ1,0,Ñ8,m,#[_,_,_,_,rfl,#[⋯,hk],î5,zz,c2],ī,zp À6 (zp Î6 (zp Ç2 Æ0))]
   .show#[k,Ċ1,Ø1,0,m,#[_,_,_,_,rfl,#[⋯,hk],î5,c1,zz],ī,zp À6 (zp Î6 (zp Ç2 Â5))]
  .show#[k,Ċ1,Ø1,Ñ8,m,#[_,_,_,_,rfl,#[⋯,hk],î5,c1,c2],ī,zp À6 (zp Î6 (zp Ç2 Ô0))]
 .by_cases h5:m/65536%5=0
  .rcases two (m/327680) with h2 | h2
   .show#[m%many,Ċ1,0,Ñ8,m,#[_,_,_,_,rfl,#[e1,e2],î5,zz,c2],λ h=>Ë8 h ⋯,zp À6 (zp Î6 (zp Ë6 Æ0))]
   .show#[m%many,Ċ1,Ø1,0,m,#[_,_,_,_,rfl,#[e1,e2],î5,c1,zz],λ h=>Ë8 h ⋯,zp À6 (zp Î6 (zp Ë6 Â5))]
  .show#[m%many,Ċ1,Ø1,Ñ8,m,#[_,_,_,_,rfl,#[e1,e2],î5,c1,c2],λ h=>Ë8 h ⋯,zp À6 (zp Î6 (zp Ë6 Ô0))]
def kb.row í6{r:Þ}(h:kb n r):wg ă6 (wb n)=true:=by
 let#[a,b,c,d,rfl,h1,h2,h3,h4]:=h;have e:zH Ā=ô Ã3:=rfl;rw[e];unfold wb;rw[SX];simp![wh,zE5,ď];lia
theorem X4:∀ {rs:ġ},rs.Pairwise (ā3)->rs.Nodup->m9 rs=true
 | [],_,_=>rfl
 | [a],_,_=>rfl
 | ā2,h,nd=>by
  have h1:=zc8.mp h;have n1:=zcB.mp nd;rw[m9,X4 h1.2 n1.2,Bool.and_true];cases q:æ8 a b with
  | true=>rfl
  | Ô=>show Ë8 (L4.WS a b q (h1.1 b zc1)▸zc1) n1.1
def Dv {r:Þ}{rs:ġ}:mQ è0=none:=rfl
def Sh (rs:ġ) (h0:rs≠[]) ý8:kS [à (ū)]=↑(à ((L4.xN (wQ rs)).map zH)):=by
 cases rs with
 | nil=>show Ë8 rfl h0
 | cons r rs=>
  change (match mQ è0 with
   | some ns=>if Ô4<64 then ↑(T.lst ((nM ns).map ņ)) else none
   | none=>cK [T.lst è0])=_
  rw[Dv];change (nQ è0).bind _=_;rw[Z7,zC9,ë #[hl,hn]]
def zbf ø3 (at' many more:Nat) (span:Int) (ha:at'<=100) Þ0 (hmo:more<=16) ċ2:
  ∃ rs:ġ,UI [Ć4,Ö at',Ö many,Ö more,Ö span]=↑ Ú3/\ď2/\rs≠[]/\ë6<=ä3/\(∀ r∈rs,Đ9)/\ö2:=by
 let#[J',h1,rows,h2,h3,h4,h5]:=pN (is:=[6,7,8,9]) (g:=zC 6) (b:=Ud) Ø0 (λ p J=>∃ rows:ġ,J=[↑ Ë5,↑ Ó9,↑ Î4,↑ Î5,↑ ì1,↑(ō (à Ø6)),none,none,none,none]/\
   Í6=ő/\(∀ r∈rows,Đ9)/\∀ k∈p,k<many->ç ∈rows.map fst) (í (ä3)) [↑ Ë5,↑ Ó9,↑ Î4,↑ Î5,↑ ì1,↑ Ê4,none,none,none,none]
   #[[],rfl,rfl,Ć2,Ć2] (by
  rintro p k q e J ⟨rows,rfl,r1,r2,r3⟩;have hp:ő+1<=ä3:=by
   ext ĉ0;lia
  have hk:k<ä3:=by
   have:k∈ í (ä3):=Ģ
   exists this
  let#[a,b,c,d,m,w1,w2,w3]:=Lh ns at' many k more span Ø6 ⋯ hm hs1 hs2 (Č);exact#[_,w3,rows++[Ā],#[],by simp[r1],É6,λ j hj hjm=>?_]
  .rcases ê9 hr with z | z
   .show r2 r z
   .cases Ù5 z;show w1
  .rw[zE7];rcases ê9 hj with z | z
   .show zcK _ (r3 j z hjm)
   .cases Ù5 z;show zB4 _ (by rw[<- w2 hjm];show zc1))
 subst h2;have hlen:Í6=ä3:=by rw[h3];simp
 have hne:rows≠[]:=λ z=>by rw[z] at hlen;simp at hlen;lia
 have hrow:∀ r∈rows,r≠[]:=λ r hr=>by let#[a,b,c,d,rfl,_]:=h4 Đ0;simp
 have hss:=Sh rows hne ⋯ hrow;have hmem:∀ r,r∈ Ú5 ↔r∈rows:=λ r=>by rw[(L4.lu _).mem_iff,eR]
 have hl24:(Ú5).length<=24:=by rw[(L4.lu _).length_eq];have:=bh rows;lia
 have hgw:∀ k:Nat,k<many->∃ r∈ Ú5,fst r=ç:=λ k hk=>by
  let#[r,hr,e]:=č (h5 k (Č) hk);show#[r,(hmem r).mpr hr,e]
 exact#[Ú5,?_,?_,?_,by rw[(L4.lu _).length_eq,<- hlen];show bh rows,λ r hr=>h4 r ((hmem r).mp hr),hgw]
 .obtain⟨N,hN⟩:∃ N,N=ä3:=Ç9;have hr:=Z9 N ⋯;have ee:(ð0+(more:Int))=(N:Int):=⋯;rw[<- hN] at h1;exact yb (zp rfl (zp (vp ?_ h1) (yK (zN (zi (zN À5 hss) rfl) rfl)))) rfl;change (za Ñ).bind o7=_;rw[zi (x:=Ö (ð0+(more:Int))) Ú2 rfl,ee];show hr
 .simp![n_,gy,zE5,ď,zA7];exact#[Ò7 λ t ht=>?_,hl24,X4 (L4.eD _) ((L4.lu _).nodup_iff.mpr (bg rows)),Ò7 λ k hk=>?_]
  .let#[r,hr,rfl]:=č ht;show (h4 r ((hmem r).mp hr)).row
  .have hk':k<many:=by exists hk
   have:=h5 k (Č) hk';let#[r,hr,e]:=č this;show zD0.mpr #[fst r,ŝ #[r,(hmem r).mpr hr,rfl],by simp[e]]
 .intro z;cases hr:rows with
  | nil=>show hne hr
  | cons r l=>
   have:r∈ Ú5:=(hmem r).mpr (by rw[hr];show zc1);rw[z] at this;cases this
def jw Đ3 Đ2:Prop:=∃ a b c d:Int,r=Ā/\(0<=a/\a<ä)/\(0<=b/\b<=1)/\(1<=c/\c<=12)/\(0<=d/\d<=12)/\Ć3 os a=true
def jw.row {os:þ}{r:Þ}(h:jw os r):wg ă6 (sb ä)=true:=by
 let#[a,b,c,d,rfl,h1,h2,h3,h4,_]:=h;have e:zH Ā=ô Ã3:=rfl;rw[e];unfold sb;rw[SX];simp![wh,zE5,ď];lia
theorem T4:∀ ø3 ù0,pH ns=true->(∀ n∈ns,n<x)->pH (ns++[x])=true
 | [],x,_,_=>rfl
 | [a],x,_,h=>by simp[pH];show h a zc1
 | ā2,x,h,hx=>by
  ext õ1
  have ih:=T4 ċ7 x h'.2 λ n hn=>hx n (zc2 _ hn);change (î (a<b)&&pH (ċ7++[x]))=true;rw[h'.1,ih];rfl
def KD Đ3 ï9 (hk:k<ä) (s kk:Str) (hs:à1 os ç=↑(ß s)) (cell:Int) (rows:þ) (hl:Í6<=1000) (bb:Sm)
  (hb:bb=(zw (ym (fk (yd (zc ì2 (zc zk Ô3 ă9) (cS (ß kk)))) (yd (zc ì2 (zc yQ Ť (cI 2)) Î3))) (pD 2 (tupS (za (zu 3) (za (zc yQ (zc x9 Ť (cI 2)) (cI 2)) (za (zc ye Î3 (zc yQ (zc x9 Ť (cI 4)) (cI 12))) (za (zc yQ (zc x9 Ť (cI 48)) (cI 13)) ze)))))) yw)
 (zY 0 (zc x9 Ť (cI 624))))):
  turn (zC 3) bb (Č8) [↑(.im (Ö cell)),↑ û4,↑(ō (à rows)),none]=↑(.nx [↑(.im (Ö (cell/624))),↑ û4,↑(ō (à (rows++(if (s == kk)=true/\cell%2=1 then [zH [ç,cell/2%2,1+cell/4%12,cell/48%13]] else [])))),↑(.im (Ö ç))]):=by
 have hl':Í6<16777216:=⋯;have d624:vE cell 624:=ċ;have d2:vE cell 2:=ċ;have d4:vE cell 4:=ċ;have d48:vE cell 48:=ċ;have cc:ô5+ç=ç:=⋯;rw[cc];subst hb;cases hq:(s == kk) with
 | Ô=>
  rw[Ġ (λ z=>by cases z.1),zcA];show zp (yi (zaD Ž) rfl) ā4
 | true=>
  by_cases h2:cell%2=1
  .rw[ë #[rfl,h2]];show zp (xu (NS Ž (ù3 (Ü some (zeV h2)))) (oM rfl (xm (zi rfl (zi (xj (xv É d2) Ā1) (zi (zL rfl (xj (xv É d4) Ā1) rfl) (zi (xj (xv É d48) Ā1) rfl)))) ā) ⋯)) ā4
  .rw[Ġ (λ z=>h2 z.2),zcA];show zp (yi (NS Ž (ù3 (Ü some (zeW h2)))) rfl) ā4
theorem zbg (cell:Int) Đ3 (ho:Ï5) (h8:ä<=8):∃ qs:ġ,UK [Ö cell,à os]=↑(Ò8)/\Đ6/\ä4<=8/\ô6/\è1:=by
 let#[J',h1,c',qs,h2,h3,h4,h5,h6]:=pN (is:=[3]) (g:=zC 3) (b:=Ue) Ø0 (λ p J=>∃ (c:Int) (qs:ġ),J=[↑(.im (Ö c)),↑ û4,↑(ō (à (Ů zH))),none]/\ä4<=ő/\ô6/\è1/\∀ n∈ Ů fst,n<(ő:Int))
   (í ä) [↑(.im (Ö cell)),↑ û4,↑ Ê4,none] #[cell,[],rfl,zA4 _,Ć2,rfl,Ć2] (by
  rintro p k q e J ⟨c,qs,rfl,r1,r2,r3,r4⟩;have hpk:ő=k:=by
   have h:=Ü (λ l=>l[ő]?) e;have hp:ő<ä:=É1
   simp[hp] at h;show h
  have hk:k<ä:=by
   have:k∈ í ä:=Ģ
   exists this
  let#[s,s1,s2]:=QK (os:=os) (p:=ç) Ð9 ho "keeper";have tn:=KD os k hk s "keeper" s1 c (Ů zH) (Č) Ue rfl;have ek:Ć3 os ç=(s == "keeper"):=by unfold Ć3;rw[s2]
  by_cases hc:(s == "keeper")=true/\c%2=1
  .rw[ë hc] at tn;exact#[_,tn,c/624,qs++[[ç,c/2%2,1+c/4%12,c/48%13]],#[],Č,É6,?_,λ n hn=>?_]
   .rcases ê9 hr with z | z
    .show r2 r z
    .cases Ù5 z;show#[_,_,_,_,rfl,⋯,⋯,⋯,⋯,by rw[ek];show hc.1]
   .rw[zE7];exact T4 _ _ r3 λ n hn=>?_;have:=r4 n hn;change n<ç;lia
   .rw[zE7] at hn;rcases ê9 hn with z | z
    .have:=r4 n z;simp;lia
    .have:n=ç:=by simpa [fst] using z
     simp;lia
  .rw[Ġ hc,zcA] at tn;show#[_,tn,c/624,qs,#[],Č,r2,r3,λ n hn=>by have:=r4 n hn;simp;lia])
 subst h2;exact#[qs,?_,?_,by simp at h3;lia,h4,h5]
 .have hr:=Z9 ä ⋯;show yb (zp rfl (zp (vp hr h1) (yK (zN À5 rfl)))) rfl
 .simp![mf,gy,h5,Bool.true_and,zE5];exact#[Ò7 λ t ht=>?_,Ò7 λ n hn=>?_]
  .let#[r,hr,rfl]:=č ht;show (h4 Đ0).row
  .let#[r,hr,rfl]:=č hn;let#[a,b,c,d,rfl,_,_,_,_,h]:=h4 Đ0;show h
def SF (b m e:T):Sm:=
 (zw (ym (fk (xF ä2) (yd (zc oA Ô3 Þ4))) (retS (zc yQ (zc zk Ť Ô3) (zc cV (cS b) (cS m)))) yw)
 (zw (zY 3 (zm jn (za (zu 0) (za (zu 1) ze))))
 (retS (zc ye (zc qK (zc qK ă9 ă9) ă9) (zc qK (cS e) ă9)))))
def Jo (b m e:Int) Ï1 (d:Bool) (hk:k<=1000) (hp:gi b m) (hm:0<b ^ m.toNat) (he:∀ i,nL e i) (hx:∀ i j:Int,0<=i->i<2147483629->nL j i):
  ∃ c,jD (SF (Ö b) (Ö m) (Ö e) [↑ Ë5,↑(.im û3),↑(.im (.bl d)),none])=↑(Ö c):=by
 have hmx:=ck ns k hk;let#[m0,m1]:=WG ns k;generalize mixed ns k=q at *;have x1:=hx q q m0 m1;have x2:=hx q (q*q) m0 m1;unfold SF wO at *;cases d
 .show#[_,by simp[hmx,ir,x1,x2,he,jD];rfl]
 .by_cases h:k<Ô4
  .have z:þ5:=om (ö1);have h':ă8:=⋯;show#[_,by simp[h,h',z,oA,hp,hm,jD];rfl]
  .have h':¬ ă8:=⋯;show#[_,by simp[h,h',oA,hmx,ir,x1,x2,he,jD];rfl]
def za2 Ï1 (d:Bool) (hk:k<=1000):∃ c,UL [Ć4,Ö ç,.bl d]=↑(Ö c):=
 Jo 10 64 104729 ns k d hk #[(),(),()] () (λ i=>ú6 ċ) (λ i j h1 h2=>ó6 ť)
def zaF ù0 (h:0<=x):ò4 x 1=0\/ò4 x 1=1:=by
 have e:ò4 x 1=((x.toNat &&& 1:Nat):Int):=by
  unfold ò4;simp[h]
 rw[e,Nat.and_one_is_mod];lia
def kt ð1:T:=cond b (Ú6) (ā5)
def QC ð1:ml (kt b)=true:=ą1
def Gu (k l:Str) (s a m b e x:T) ź (num:Int) (h0:0<=num) (rows:þ) (hl:Í6<=1000) (u v:è W) (bb:Sm)
  (hb:bb=(pD 6 (zc zk (xC ò3) (zc Ub (zc XS (zb 5) (zb 7)) Î3)))):
  ∃ y,(y=ß k\/y=ß l)/\turn (zC 7) bb (Ö (0+Ò9)) [↑(.im s),↑ ì3,↑(.im m),↑(.im b),↑(.im e),↑ ò5,↑(ō (à rows)),none,u,v] =
   ↑(.nx [↑(.im s),↑ ì3,↑(.im m),↑(.im b),↑(.im e),↑ ò5,↑(ō (à (rows++[y]))),↑(.im (Ö Ò9)),u,v]):=by
 have hl':Í6<16777216:=⋯;have cc:ô5+Ò9=Ò9:=⋯;have hq:0<=num/2 ^ (p:Int).toNat:=Int.ediv_nonneg h0 (Int.pow_nonneg ());rw[cc];subst hb;unfold turn;have tn:(p:Int).toNat=p:=#[];rw[tn] at hq;rcases zaF _ hq with h | h
 .show#[ß k,ú6 rfl,by simp[h,hl']]
 .show#[ß l,ó6 rfl,by simp[h,hl']]
def four ù0:x%4=0\/x%4=1\/x%4=2\/x%4=3:=⋯
def zbh ø3 (at' many more:Nat) (br:T) (ha:at'<=50) Þ0 (hmo:more<=16):
  ∃ (os:þ) (rs qs:ġ),Xj [Ć4,Ö at',Ö many,br,Ö more]=↑ û5/\ä=many/\Ï5/\
   ď2/\Đ6/\rs≠[]/\ë6<=ä3/\ä4<=8/\(∀ r∈rs,Đ9)/\(ö2)/\ô6/\è1:=by
 have hmx:=ck ns at' ⋯;let#[m0,m1]:=WG ns at';generalize mixed ns at'=num at *;let#[J',h1,os,h2,h3,h4]:=pN (is:=[7]) (g:=zC 7) (b:=Ug) Ø0 (λ p J=>∃ os:þ,J=[↑ Ë5,↑ Ó9,↑ Î4,↑(.im br),↑ Î5,↑ ò5,↑(ō (à os)),none,none,none]/\ä=ő/\Ï5)
   (í many) [↑ Ë5,↑ Ó9,↑ Î4,↑(.im br),↑ Î5,↑ ò5,↑ Ê4,none,none,none] #[[],rfl,rfl,rfl] (by
  rintro p k q e J ⟨os,rfl,r1,r2⟩;have hp:ő<many:=É1
  let#[y,y1,y2]:=Gu Ü9 (Ć4) (Ö at') (Ö many) br (Ö more) (Ö 0) k num m0 os ⋯ õ Ug rfl;exact#[_,y2,os++[y],rfl,by simp[r1],?_];rw[List.all_append,r2];rcases y1 with z | z
  .subst z;show QC true
  .subst z;show QC Ô)
 subst h2;have hos:ä=many:=by exists h3
 have d256:vE num 256:=ċ;have d1024:vE num 1024:=ċ;have d3072:vE num 3072:=ċ;obtain⟨span,s1,s2,s3⟩:∃ span:Int,1<=span/\span<=12/\à1 [ņ 1,Ö 2,Ö 3,Ö 12] (num/256%4)=↑(Ö span):=by
  rcases four (num/256) with h | h | h | h <;> rw[h]
  .show#[1,(),(),rfl]
  .show#[2,(),(),rfl]
  .show#[3,(),(),rfl]
  .show#[12,(),(),rfl]
 let#[rs,w1,w2,w3,w4,w5,w6]:=zbf ns (at' + 2) many more span ⋯ hm hm8 hmo s1 s2;let#[cell,c1]:=za2 ns (at' + 1) (î (num/3072%2=1)) ⋯;let#[qs,q1,q2,q3,q4,q5]:=zbg cell os h4 ⋯;have hr:=Z9 many ⋯;have e1:((at' + 1:Nat):Int)=(at':Int)+1:=⋯;have e2:((at' + 2:Nat):Int)=(at':Int)+2:=⋯;rw[e1] at c1;rw[e2] at w1;by_cases hst:num/1024%3=1
 .exact#[os,rs,qs,?_,hos,h4,w2,q2,w3,w4,q3,w5,w6,q4,q5];show yb (zp (zQ (zN rfl hmx)) (zp rfl (zp (vp hr h1) (zp Ö1 (zp û6 (zp (xu (ì (Ü some (zeV hst)))
   (zQ (i:=9) (zN (zi (zN (zi rfl (zi Ú2 (zi (zL Ŧ rfl Î7) rfl))) c1) À5) q1))) Ó0)))))) rfl
 .exact#[os,rs,[],?_,hos,h4,w2,?_,w3,w4,#[],w5,w6,Ć2,rfl]
  .show yb (zp (zQ (zN rfl hmx)) (zp rfl (zp (vp hr h1) (zp Ö1 (zp û6 (zp (yi (ì (Ü some (zeW hst))) rfl) Ó0)))))) rfl
  .simp[mf,pH]
def Bv {br:T}{os:þ}{rs qs:ġ}{many:Nat}(hb:wg br Ã9=true) (h1:ä=many) Þ0 (h2:Ï5) (h3:ď2) (h4:Đ6):
  jK û5=true:=by
 have eo:gJ Č9=true:=by
  have a:1<=ä:=⋯;have b:ä<=8:=⋯;simp[gJ,a,b,h2]
 unfold jK;simp![hb,eo,h1,h3,h4,zdI]
theorem Ao Ō í8 (i:Nat) (h:i<=ş):ni xs none ↑ ß7=xs.take i:=by
 unfold ni;have e:HT.yf ş ş ↑ ß7=i:=by
  ext Î8
 have e2:HT.yf ş 0 none=0:=rfl;rw[e,e2];simp
theorem Ap Ō í8 (i:Nat) (h:i<=ş):ni xs ↑ ß7 none=xs.drop i:=by
 unfold ni;have e:HT.yf ş 0 ↑ ß7=i:=by
  ext Î8
 ext Ĉ2;rw[zeB #[]]
end zP
namespace zP
open Ć0 L2 L3 L5 SJ
def num â8:Str:=(toString n:String)
def nums:Þ:=(í 25).map λ ë8=>(-12:Int)+ç
def wd ø4:û7:=if (Ą0)=true then ↑0 else if (("b":Str) == w)=true then ↑1 else nums.find? û8
def oT:û7->T
 | none=>.zJ
 | some n=>Ö n
def o6 (r:É2):T:=ô (r.map oT)
def Pu Ō(ret:α->T) (J0:Ev):è α->Out
 | some x=>.rt (ret x)
 | none=>.nx J0
theorem bu Ō{is:đ}Ã6 ê0:∀ í8 (J:Ev),xO is J=J0->
  Æ3->
  pO is g b Þ5 J=↑(Pu ret J0 (xs.find? test))
 | [],J,h,_=>by rw[zc4,List.find?_nil,pO,h];rfl
 | x::xs,J,h,ht=>by
  ext Ë4
  .rw[ë c,c];rfl
  ext Î9
def eO {n:Int}(h:-1000000<=n/\n<=1000000):xB [Ö n]=↑(ß Å4):=ë h
def D0 (w k l:Str) (h:(k == w||l == w)=true):bD (ô ([k,l].map ø)) Þ6=↑(oT (if (k == w)=true then ↑0 else ↑1)):=by
 have e:ju ([k,l].map ø)=↑[k,l]:=rfl;unfold bD;ext Ý3;rw[e,zC9];by_cases hk:k=w
 .subst hk;simp[oT]
 .have hl:l=w:=by
   rw[zE6,î2,î2] at h;show h.resolve_left hk
  subst hl;simp[oT,hk,List.idxOf_cons];simp[Ð0 hk]
def zy Ý8 ĝ Á3:zc f fa fb J=r:=â2
def o5 {F:zLO}{g:zEO}{u:Æ8}ĝ{y:Str}{xs:þ}Ø8(h1:g J=↑(ß y)) (h2:u J=↑xs) (h:F (ß y::xs)=r):xM F g u J=r:=by change Ì4;rw[h1];change ß5;rw[h2];show h
def yY {F:zLO}{g:zEO}ĝ{x:T}Ø8(h:g J=↑x) (hF:F [x]=r):zm F (za g ze) J=r:=by change ((g J).bind _).bind _=_;rw[h];show hF
def Lc ø4:pO [1] (zC 1) Uc (nums.map ņ) Ð1=↑(Pu ņ Ð1 (nums.find? û8)):=by
 exact bu (is:=[1]) ņ ņ (û8) Ð1 nums Ð1 rfl λ n hn=>#[Ý6,rfl,?_];have hb:-1000000<=n/\n<=1000000:=by
  let#[k,hk,rfl]:=č hn;rw[zC1] at hk;lia
 change Uc Ý6=_;have h1:zc ì2 Ť (zm xB (za Ô3 ze)) Ý6=↑(.bl (w == num n)):=zy rfl (yY rfl (eO hb)) (ì0 w Å4 Ô);cases hc:(w == num n) with
 | true=>show xu (yh (hc▸h1)) rfl
 | Ô=>show yi (yh (hc▸h1)) rfl
def zaV ø4:Xf [ß w]=↑(oT (wd w)):=by
 have hin:zc (nD Ô) Ť (dM č0) Ð1=↑(.bl (Ą0||("b":Str) == w)):=zy É (Ve w "a" "b" _ rfl);have hr:xW gz (za (jG (cI 12)) (za (zc ye (cI 12) Î3) ze)) Ð1=↑(nums.map ņ):=rfl;unfold Xf wd;exact yb Ā2;unfold MH;cases hc:(Ą0||("b":Str) == w) with
 | true=>
  exact wN (xu (yh (hc▸hin)) (yK ((zy É (D0 w "a" "b" hc)).trans ?_)));by_cases ha:(Ą0)=true
  .rw[ë ha,ë ha]
  .rw[Ġ ha,Ġ ha,ë];rw[zE9] at ha;rw[ha,Bool.false_or] at hc;show hc
 | Ô=>
  exact zp (yi (yh (hc▸hin)) rfl) ?_;rw[Bool.or_eq_false_iff] at hc;rw[hc.1,hc.2,Ġ zc7,Ġ zc7];have hl:=Lc w;cases hf:nums.find? (û8) with
  | some n=>rw[hf] at hl;show wN (vp hr hl)
  | none=>rw[hf] at hl;show zp (vp hr hl) rfl
def Mm (ws:ï) (h:Á2<=16777216):fM [ä5]=↑(o6 (Ī wd)):=by
 exact yb (yK (yY (x:=à ((Ī wd).map oT)) Ā2)) rfl;unfold Ng;rw[zD6];show xH ø _ ws rfl h λ w hw=>by simp[oB,zaV]
theorem KJ Õ7 (hx:ų<=1000000):eB x y:=by
 have e:Å3:=rfl;have h1:=ÿ5;have h2:=StrLaws.occ_length_le x y 0 ų (ų+1);exact#[⋯,⋯,?_,⋯];rw[PyProof.Rows.len_partsBetween];lia
def eA Õ7 (hx:ų<=1000000):vF [ß x,ß y]=↑(à ((Ç5 x y).map ø)):=ë (KJ hy hx)
def XJ Õ7:(Ç5 x y).length<=ų+1:=by
 have h1:=ÿ5;lia
def Y8 (ws:ï):fw ↑1 none (ä5)=↑(à ((ws.drop 1).map ø)):=by
 change ↑(T.lst (ni Ñ))=_;rw[VC,zcZ]
def mi ă0:É2:=((Ç5 p " ").drop 1).map wd
def ZC ă0:É2:=(Ç5 (Ê5) " ").map wd
def JA ă0:(Ê5).length=ő:=by
 have h:=Ü Str.length (StrLaws.join_split p ">");have e:Ê5=ð " " (Ç5 p ">"):=StrLaws.replace_one p " " 62;rw[e];exact ĉ5 ?_ h;cases hs:Ç5 p ">" with
 | nil=>rfl
 | cons a l=>rw[PyProof.Rows.len_join_cons,PyProof.Rows.len_join_cons];rfl
theorem Rg {g:zEO}ĝ é5:zm fM (za (o_ (xM vF g À8) ↑ Î3 none) ze) J=↑(o6 (mi p)):=by
 have hm:=XJ (x:=p) (y:=" ") ();exact yY (x:=à (((Ç5 p " ").drop 1).map ø)) ?_ (Mm _ (by rw[zcM];lia));change (xM vF g _ J).bind _=_;rw[o5 h rfl (eA () hp)];show Y8 _
theorem JI {g:zEO}ĝ é5:zm fM (za (xM vF (Wa ">" " " g) À8) ze) J=↑(o6 (ZC p)):=by
 have hl:=JA p;have hm:=XJ (x:=Ê5) (y:=" ") ();exact yY (o5 (y:=Ê5) Ā2 (eA () ⋯)) (Mm _ ⋯);ext ĉ1;show ë hp
abbrev Rd:=ï ×List (É2)×List (É2)
def km ă0:Bool:=("keeper":Str) == p||("taker":Str) == p
def cH ă0:Bool:=Ó6 p "stall "
def wX ą8 ă0:Rd:=if km p=true then (s.1++[p],s.2.1,s.2.2) else if cH p=true then (s.1,s.2.1,s.2.2++[mi p]) else (s.1,s.2.1++[ZC p],s.2.2)
def k9 (a:T) ą8 (v:Ú7):Ev:=[↑ ì3,↑(ō (à (s.1.map ø))),↑(ō (à (s.2.1.map o6))),↑(ō (à (s.2.2.map o6))),v,none]
def K5 ą8 ă0:(wX s p).1.length+(wX s p).2.1.length+(wX s p).2.2.length=Ì7+1:=by
 unfold wX;split
 .simp;lia
 .split <;> simp <;> lia
theorem Vs:∀ (ps:ï) ą8,(ps.foldl wX s).1.length+(ps.foldl wX s).2.1.length+(ps.foldl wX s).2.2.length=Ì7+Á0
 | [],s=>rfl
 | p::ps,s=>by
  have h:=Vs ps (wX s p);have h':=K5 s p;rw[zcT,zC0];lia
theorem Gn (a:T) ą8 ă0 (hp:ő<=1000000) (hl:Ì7<=10000):turn (zC 4) aB (ß p) (k9 a s none)=↑(.nx (k9 a (wX s p) ↑(.im (ß p)))):=by
 change aB ä6=_;have hin:zc (nD Ô) (zb 4) (tupS (za (cS (Ú6)) (za (cS (ā5)) ze))) ä6=↑(.bl (km p)):=zy rfl (xm Ā1) (Ve p Ü9 _ rfl);have hst:xM ez (zb 4) (za (cS (ß "stall ")) ze) ä6=↑(.bl (cH p)):=o5 É rfl;unfold wX aB;cases h1:km p with
 | true=>
  exact xu (yh (h1▸hin)) ((oM É (ľ)).trans ?_);rw[Ą1];change _=↑(Out.nx (k9 a (s.1++[p],s.2.1,s.2.2) _));unfold k9;rw[zE7];rfl
 | Ô=>
  exact yi (yh (h1▸hin)) ?_;rw[Ġ zc7];cases h2:cH p with
  | true=>
   exact xu (wa (h2▸hst)) ((oM rfl (Rg rfl hp) (ľ)).trans ?_);rw[Ą1];unfold k9;rw[zE7];rfl
  | Ô=>
   exact yi (wa (h2▸hst)) ((oM rfl (JI rfl hp) (ľ)).trans ?_);rw[Ġ zc7];unfold k9;rw[zE7];rfl
def j0 (b:É2) ą8:T:=ô [o6 b,ô (s.1.map ø),ô (s.2.1.map o6),ô (s.2.2.map o6)]
theorem zba (p0:Str) (ps:ï) (hs:∀ p∈p0::ps,ő<=1000000) (hl:Á0<=10000):Xg [Ø2]=↑(j0 ŏ):=by
 let#[J',h1,h2]:=pN (is:=[4]) (g:=zC 4) (b:=aB) ø (λ q J=>J=k9 (Ø2) (q.foldl wX Ì8) none) ps (k9 (Ø2) Ì8 none) rfl (by
  rintro q x r e J rfl;have hx:x∈ps:=Ģ
  have hq:q.length<=10000:=É1
  have hf:=Vs q Ì8;simp![zcL,zdO] at hf;exact#[_,Gn _ _ x (hs x (zc2 _ hx)) ⋯,?_];rw[zdU];rfl)
 subst h2;exact yb Ā2;unfold MI;exact zp rfl (zp rfl (zp rfl (zp (vp ?_ h1) ?_)))
 .change (fw ↑1 none (Ø2)).bind wy=_;rw[Y8];rfl
 .exact zp (zQ (Rg (p:=p0) ?_ (hs p0 zc1))) (yK ?_)
  .show zy É (om (k:=0) rfl)
  .show xm (xs:=[o6 (mi p0),_,_,_]) rfl ś
def Nm â8:Prop:=-12<=n/\n<=13
def F7:((í 26).all λ ë8=>î ((č1).length<=3)&&(! Ý7 59&&(! Ý7 62&&(! Ý7 32&&(î ((L (č1)).head?≠↑115)&&î (wd (č1)=if ç-12<=12 then ↑(ç-12) else none))))))=true:=()
theorem o9 Ö6:(num n).length<=3/\59∉L Å4/\62∉L Å4/\32∉L Å4/\(L Å4).head?≠↑115/\wd Å4=if n<=12 then ↑n else none:=by
 have hk:=zE4.mp F7 (n+12).toNat (by rw[zC1];have:=h.1;have:=h.2;lia);have e:(((n+12).toNat:Nat):Int)-12=n:=by have:=h.1;lia
 rw[e] at hk;ext Í2;show hk
def mx (f:zEO) (J:Ev) (a:Str) Ë0:Prop:=f J=↑(ß a)/\a.length<=n
theorem vv Ë2 ĝ{a b:Str}{n m:Nat}(h:mx f J a n) (h':mx g J b m) (hn:n+m<=1000000:=by decide):mx (zc ye f g) J (a++b) (n+m):=by
 have e:Å3:=rfl;have h1:=h.2;have h2:=h'.2;exact#[zy h.1 h'.1 (ë ⋯),?_];rw[Ó1];lia
theorem l7 Ă5{k:Int}ĝ Ü8{n:Int}(h0:zu i J=↑ ô2) (hk:à1 ts k=↑ ë9) (hn:Nm n):mx (zm xB (za (zc zk (zb i) (cS û3)) ze)) J Å4 3:=by
 have e:zb i J=↑ ô2:=by
  unfold zu at h0;unfold zb;split at h0
  .rename_i e;rw[e];show h0
  .cases h0
 show#[yY (zy e rfl hk) (eO (by have:=hn.1;have:=hn.2;lia)),(o9 hn).1]
def cB ĝ(a:Str) Ë0 (h:a.length<=n:=by decide):mx (cS (ß a)) J a n:=#[rfl,h]
def mH (b:Int):Str:=if b=0 then "a" else "b"
def vf:Þ->Str
 | Ā=>num a++">"++num b++" "++num c++" "++num d
 | _=>""
def pW:Þ->Str
 | Ā=>"stall "++num a++" "++mH b++" "++num c++" "++num d
 | _=>""
def m_ õ4:Str:="brims "++num x++" "++num y
def jt Đ2:Prop:=∃ a b c d,r=Ā/\Nm a/\Nm b/\Nm c/\Nm d
def ig Đ2:Prop:=∃ a b c d,r=Ā/\Nm a/\(b=0\/b=1)/\Nm c/\Nm d
def wB {f:Nat}ĝ Ë3 (h0:zu f J=↑ ă6):
  mx (zc ye (zc ye (zc ye (zc ye (zc ye (zc ye (zm xB (za Ê6 ze)) (cS (ß ">"))) (zm xB (za (zc zk (zb f) Î3) ze))) æ9) (zm xB (za (zc zk (zb f) (cI 2)) ze))) æ9) (zm xB (za (zc zk (zb f) (cI 3)) ze))) J (vf r) 20:=by
 ext ù;have z:=vv (vv (vv (vv (vv (vv (ô7) (cB ">" 1)) (l7 h0 (k:=1) rfl hb)) Ø9) (ô8)) Ø9) (ô9);show#[z.1,zE0 z.2 ()]
def zaY Ë3:UA [zH r]=↑(ß (vf r)):=yb (yK (wB (f:=0) h rfl).1) rfl
def JV Ü1:zk (ô ((č0:ï).map ø)) (Ö b)=↑(ß (mH b)):=by
 rcases h with rfl | rfl <;> rfl
theorem JW Ü1:zk (ß "ab") (Ö b)=↑(ß (mH b)):=by
 have hl:("ab":Str).length<=sizeLine:=()
 exact (ë (e:=none) hl).trans ?_;rcases h with rfl | rfl <;> rfl
def za4 Õ2:UB [zH r]=↑(ß (pW r)):=by
 ext ù;have h0:zu 0 [↑(.im (zH Ā))]=↑(ô Ã3):=rfl;have hp:mx (zc zk (dM č0) ò6) [↑(.im (zH Ā))] (mH b) 1:=#[zy É (JV hb),Ä0];show yb (yK (vv (vv (vv (vv (vv (vv (vv (cB "stall " 6) (ô7)) Ø9) hp) Ø9) (ô8)) Ø9) (ô9)).1) rfl
def wH È8:ï:=û9::(Þ7)
def zt È8:T:=ô [ä7,ô (Ŕ ø),ô (Ī zH),Ò8]
structure jl È8:Prop where
 x:Nm x
 y:Nm y
 o:∀ p∈os,km p=true
 w:∀ r∈ws,jt r
 q:∀ r∈qs,ig r
 ln:ä+Á2+ä4<=60
def ZN {p:Str}(h:km p=true):p="keeper"\/p="taker":=by
 unfold km at h;rw[zE6,î2,î2] at h;show h.imp Eq.symm Eq.symm
theorem SN Õ2:(pW r).length<=20:=by
 ext ù;have hp:(mH b).length<=1:=Ä0
 have e:("stall ":Str).length=6:=()
 have e1:Þ8:=()
 ext ø6;simp![pW,Ó1];lia
def Ll Ë3:(vf r).length<=20:=(wB (f:=0) (J:=[↑ Þ9]) h rfl).2
def bB {f:Nat}ĝ ď8 Ü8(hx:Nm x) (hy:Nm y) (h0:zb f J=↑(ô (ä7::ts))):
  mx (zc ye (zc ye (zc ye (cS (ß "brims ")) ā6) æ9) ā7) J (û9) 20:=by
 have e:zc zk (zb f) Ö9 J=↑(ä7):=zy h0 rfl (om (k:=0) rfl);have hX:mx ā6 J (num x) 3:=#[yY (zy e É) (eO (by have:=hx.1;have:=hx.2;lia)),(o9 hx).1];have hY:mx ā7 J (num y) 3:=#[yY (zy e É) (eO (by have:=hy.1;have:=hy.2;lia)),(o9 hy).1];have z:=vv (vv (vv (cB "brims " 6) hX) Ø9) hY;show#[z.1,zE0 z.2 ()]
def RA Ŀ Û5:∀ p∈wH å,ő<=20:=λ p hp=>by
 ext ĵ
 .show (bB (f:=0) (J:=[↑(.im (ô [ä7]))]) h.x h.y rfl).2
 .ext Õ4
  ext ø5
  .ext Õ4
   .ext Ä8;show Ll (h.w Đ0)
   .ext Ä8;show SN (h.q Đ0)
def eg {ps:ï}í6:(∀ p∈ps,ő<=n)->(ps.map (·.length)).sum<=Á0*n:=by
 induction ps with
 | nil=>show λ _=>zD4 _
 | cons p ps ih=>
  intro h;have h1:=h p zc1;have h2:=ih Ñ9;rw[zA6,zdQ,zC0,Nat.succ_mul];lia
theorem T_:∀ ss:ï,ju (É7 ø)=↑ss
 | []=>rfl
 | s::ss=>by change (ju (É7 ø)).map _=_;rw[T_ ss];rfl
theorem Yh {sep:Str}{ps:ï}(hs:sep.length<=8) (h:(ps.map (·.length)).sum+Á0*8<=1000000):kY [ß sep,à (ps.map ø)]=↑(ß (ð sep ps)):=by
 have e:ju (ps.map ø)=↑ps:=T_ ps;have h1:Á0*sep.length<=Á0*8:=Nat.mul_le_mul_left _ hs;change (ju (ps.map ø)).bind _=_;rw[e,zC9,ë (PyProof.Rows.joinOk_of ⋯)];show Ü (λ z=>↑(ø z)) (StrLaws.glued_eq_join sep ps)
theorem RB Ŀ Û5:kY [ß "; ",à ((wH å).map ø)]=↑(ß (Å5)):=by
 exact Yh () ?_;have h1:=eg (RA h);have hl:á7<=101:=by
  ext þ8
 have:á7*20<=101*20:=zd5 _ hl;have:á7*8<=101*8:=zd5 _ hl;lia
def aD Ă5 Ï4 ĝ Ü8 ý9:ü0:=É8
theorem gN {u:Æ8}ĝ ö7:xC u J=↑(à xs):=ď1
theorem BM Ă5 Ï4 ĝ Ö0 (h:f J=↑(ô us)) Æ6:bW i f J=↑ Ì2:=by
 unfold bW;ext Ċ9;rw[h];show Ì5
theorem PN Ă5 Ï4 ĝ Ö0 (h:f J=↑(à us)) Æ6:iE i f J=↑ Ì2:=by
 unfold iE;ext Ċ9;rw[h];show Ì5
def RW Ï4 ĝ Ü8{k:Nat}{zs:þ}(h:f J=↑ ô2) (hk:ts[k]?=↑(ô zs)):yP (zc zk f (cS û3)) J=↑zs:=by
 change (zc zk f (cS û3) J).bind _=_;rw[zy h rfl (om hk)];rfl
def Uv Ë2 ĝ{ts us:þ}ý9 (h':g J=↑(à us)) Æ6:zc ye ý3=↑(à (ts++us)):=zy h h' (Ì5)
section
variable {Ŀ}
theorem za6 Û5:aO [zt å]=↑(ß (Å5)):=by
 have hln:=h.ln;have e:Å3:=rfl;have hb:=(bB (f:=0) (J:=[↑ Ë7,none]) å9).1;have hc1:∀ a,VS [↑ Ë7,a]=↑(à ((Ī vf).map ø)):=λ a=>by
  unfold VS;rw[zD6];show xH zH _ ws î0 λ r hr=>by simp[oB,zaY (h.w Đ0)]
 have hc2:∀ a,VO [↑ Ë7,a]=↑(à ((Ů pW).map ø)):=λ a=>by
  unfold VO;rw[zD6];show xH zH _ qs î0 λ r hr=>by simp[oB,za4 (h.q Đ0)]
 exact yb Ā2;unfold MG;exact zp (aD ì4) (zp (BM rfl ù4 ?_) (zp (PN rfl (hc1 _) ?_) (zp (PN rfl (hc2 _) ?_) (yK (o5 rfl À5 (ĉ5 (Ü (λ z=>kY [ø "; ",à z]) ?_) (RB h)))))))
 .rw[zA7];change 1+ä<=10000;lia
 .rw[zD7,zA7,zA7,zA7];change 1+ä+Á2<=10000;lia
 .rw[zD7,zD7,zA7,zA7,zA7,zA7,zA7];change 1+ä+Á2+ä4<=10000;lia
 .unfold wH;rw[zA6,zE7,zE7,<- zE8];rfl
def De (a b c d e:Str):ð " " [a,b,c,d,e]=a++" "++(b++" "++(c++" "++(d++" "++e))):=rfl
theorem Sg {a b c d:Int}:ð " " ["stall",num a,mH b,num c,num d]=pW Ā:=by
 ext Ā3;have e:L "stall "=L "stall"++ì5:=()
 rw[De];simp![pW,wx,e,zE8]
def Lg (a:T) (ts:þ) (v w:Ú7) Ë3 (hl:Ħ<=10000):turn (zC 2) YT ă6 [↑ ì3,↑ Ż,v,w]=↑(.nx [↑ ì3,↑(ō (à (ts++[ß (vf r)]))),↑ Þ9,w]):=by
 change YT Ć5=_;show oM (i:=1) (J:=Ć5) rfl (wB (f:=2) h rfl).1 hl
theorem KC (a:T) (ts:þ) (v w:Ú7) Õ2 (hl:Ħ<=10000):turn (zC 3) YO ă6 [↑ ì3,↑ Ż,v,w]=↑(.nx [↑ ì3,↑(ō (à (ts++[ß (pW r)]))),v,↑ Þ9]):=by
 have hlen:=SN h;let#[p,b,c,d,rfl,ha,hb,hc,hd]:=h;change YO Ü0=_;have h0:zu 3 Ü0=↑(ô [Ö p,Ö b,Ö c,Ö d]):=rfl;exact oM (i:=1) rfl ?_ hl;exact o5 rfl (zi (gN (zi rfl (zi (ô7).1 (zi (zy É (JW hb)) (zi (ô8).1 (zi (ô9).1 rfl))))) (by change 5<=100;decide)) rfl) ?_;exact ĉ5 (Yh (ps:=["stall",num p,mH b,num c,num d]) () ?_) (Ü (λ z=>↑(ø z)) Sg);ext ø6;have hp:(mH b).length<=1:=Ä0
 have e:("stall":Str).length=5:=()
 simp![zA6,zc4,zdQ,List.sum_nil,zC0,zcL,e];lia
theorem za0 Û5:aU [zt å]=↑(ß (Å5)):=by
 have hln:=h.ln;have hb:=(bB (f:=0) (J:=[↑ Ë7,none,none,none]) å9).1;let#[J1,p1,p2]:=pN Ñ2 (b:=YT) zH (λ p J=>J=[↑ Ë7,↑(ō (à ((û9::(os++p.map vf)).map ø))),none,none]) ws [↑ Ë7,↑(ō (à ((û9::os).map ø))),none,none] (by rw[zc4,zcA];rfl) (by
  rintro p r q e J rfl;have hr:r∈ws:=Ģ
  have hp:ő<=Á2:=Ģ
  exact#[_,Lg _ _ õ (h.w Đ0) (Č),?_];have e2:û9::(os++(p++[r]).map vf)=(û9::(os++p.map vf))++[vf r]:=#[];rw[e2,zE7];rfl)
 subst p2;let#[J2,p3,p4]:=pN (is:=[3]) (g:=zC 3) (b:=YO) zH (λ p J=>J=[↑ Ë7,↑(ō (à ((wH x y os ws p).map ø))),none,none]) qs [↑ Ë7,↑(ō (à ((û9::(os++Ī vf)).map ø))),none,none] (by unfold wH;rw[zc4,zcA];rfl) (by
  rintro p r q e J rfl;have hr:r∈qs:=Ģ
  have hp:ő<=ä4:=Ģ
  exact#[_,KC _ _ õ (h.q Đ0) (by simp[wH];lia),?_];have e2:wH x y os ws (p++[r])=wH x y os ws p++[pW r]:=by simp[wH]
  rw[e2,zE7];rfl)
 subst p4;exact yb Ā2;unfold MN;exact zp (aD (Uv ì4 (yY ù4 rfl) ?_)) (zp (vp (RW (k:=2) (ts:=[_,_,_,_]) É) p1) (zp (vp (RW (k:=3) (ts:=[_,_,_,_]) É) p3) (yK (o5 rfl À5 (RB h)))));rw[zA7];change 1+ä<=10000;lia
end
def clip â8:û7:=if n<=12 then ↑n else none
def YA:Þ->É2
 | Ā=>ü1
 | _=>[]
def js Ö6:wd Å4=clip n:=(o9 h).2.2.2.2.2
def NV Ü5:∀ p∈[a,b,c],P p:=λ p hp=>by
 simp![zA5,zc6,or_false] at hp;rcases hp with rfl | rfl | rfl <;> assumption
def NU {P:Str->Prop}{a b c d:Str}ă1 (hc:P c) (hd:P d):∀ p∈ Ā,P p:=λ p hp=>by
 ext ĵ
 .show ha
 .show NV hb hc hd æ2
def lA Ö6:32∉L Å4:=(o9 h).2.2.2.1
def JX Ü1:32∉L (mH b):=ÿ6
def Ld Ü1:wd (mH b)=↑b:=ÿ6
def WV {y:Str}(h:((L y).all λ c=>î (c<256))=true):Æ9 y=1:=by
 unfold Æ9;rw[ë];rw[<- Array.all_toList];show h
def eC õ6 (h:∀ p∈ps,Ċ2):Ç5 (ð " " ps) " "=ps:=XM þ0 (WV ()) h0 h
theorem zal õ4:ð " " ["brims",num x,num y]=û9:=by
 ext Ā3;have e:L "brims "=L "brims"++ì5:=()
 change L ("brims"++" "++(num x++" "++num y))=_;simp![m_,wx,e,zE8]
theorem JH ď8(hx:Nm x) (hy:Nm y):mi (û9)=[clip x,clip y]:=by
 unfold mi;rw[<- zal,eC #[] (NV (P:=λ p=>Ċ2) () (lA hx) (lA hy))];change [wd (num x),wd (num y)]=_;rw[js hx,js hy]
theorem JG Õ2:mi (pW r)=YA r:=by
 ext ù;unfold mi;rw[<- Sg,eC #[] (List.forall_mem_cons.mpr #[(),NU (P:=λ p=>Ċ2) (lA ha) (JX hb) (lA hc) (lA hd)])];change [wd (num a),wd (mH b),wd (num c),wd (num d)]=_;rw[js ha,js hc,js hd,Ld hb];rfl
def ZR Ö6:62∉L Å4:=(o9 h).2.2.1
theorem JF Ë3:ZC (vf r)=r.map clip:=by
 ext ù;have e:vf Ā=num a++#[[62].toArray]++(num b++" "++num c++" "++num d):=by
  ext Ā3;have e:L ">"=L #[[62].toArray]:=()
  simp![vf,wx,zE8,e]
 have z:Txt.replace (vf Ā) ">" " "=ð " " [num a,num b,num c,num d]:=by
  rw[e];exact ĉ5 (J9 (c:=62) () (ZR ha) ?_) ?_
  .have e32:62∉ ì5:=()
   simp![wx,zB9,not_or];show#[#[#[#[ZR hb,e32],ZR hc],e32],ZR hd]
  .ext Ā3;change _=L (num a++" "++(num b++" "++(num c++" "++num d)));simp![wx,zE8]
 unfold ZC;rw[z,eC #[] (NU (P:=λ p=>Ċ2) (lA ha) (lA hb) (lA hc) (lA hd))];change [wd (num a),wd (num b),wd (num c),wd (num d)]=_;rw[js ha,js hb,js hc,js hd];rfl
def RU {p:Str}{c:Nat}(h:c∈L p) (h1:c∉L "keeper") (h2:c∉L "taker"):km p=Ô:=by
 rw[<- zE9];intro z;rcases ZN z with rfl | rfl
 .show h1 h
 .show h2 h
theorem Gs Ë3:km (vf r)=Ô:=by
 ext ù;exact RU (c:=62) ?_ ê1;have e:62∈L ">":=()
 simp![vf,wx,zB9];show ú6 (ú6 (ú6 (ú6 (ú6 (ó6 e)))))
theorem K7 Ë3:cH (vf r)=Ô:=by
 ext ù;rw[<- zE9];intro z;let#[t,ht]:=(Zs ()).mp z;have e:L "stall "=115::L "tall ":=()
 have e2:L ">"=[62]:=()
 simp![vf,wx,zE8,e,e2] at ht;have hh:=(o9 ha).2.2.2.2.1;cases hn:L (num a) with
 | nil=>rw[hn] at ht;cases ht
 | cons z zs=>
  rw[hn] at ht hh
  injection ht with h1 h2
  show hh Ć6
theorem Gw Õ2:km (pW r)=Ô:=by
 ext ù;exact RU (c:=32) ?_ ê1;have e:32∈ ì5:=()
 simp![pW,wx,zB9];show ú6 (ó6 e)
theorem K8 Õ2:cH (pW r)=true:=by
 ext ù;exact (Zs ()).mpr #[L (num a)++(ì5++(L (mH b)++(ì5++(L (num c)++(ì5++L (num d)))))),?_];simp![pW,wx,zE8]
theorem Pt:∀ (os:ï) ą8,(∀ p∈os,km p=true)->os.foldl wX s=(s.1++os,s.2.1,s.2.2)
 | [],s,_=>by rw[zcA];rfl
 | p::os,s,h=>by
  rw[zcT,Pt os _ Ñ9];unfold wX;rw[ë (h p zc1),zE8];rfl
theorem Pq:∀ (ws:ġ) ą8,(∀ r∈ws,jt r)->(Ī vf).foldl wX s=(s.1,s.2.1++Ć7,s.2.2)
 | [],s,_=>č2
 | r::ws,s,h=>by
  have hr:=h r zc1;rw[zA6,zcT,Pq ws _ Ñ9];unfold wX;rw[Gs hr,K7 hr,JF hr,Ġ zc7,Ġ zc7,zE8];rfl
theorem Pr:∀ (qs:ġ) ą8,(∀ r∈qs,ig r)->(Ů pW).foldl wX s=(s.1,s.2.1,s.2.2++Ů YA)
 | [],s,_=>č2
 | r::qs,s,h=>by
  have hr:=h r zc1;rw[zA6,zcT,Pr qs _ Ñ9];unfold wX;rw[Gw hr,K8 hr,JG hr,Ġ zc7,Ą1,zE8];rfl
section
variable {Ŀ}
def jF Ö6:59∉L Å4:=(o9 h).2.1
def Iw Û5:∀ p∈wH å,59∉L p:=λ p hp=>by
 have e1:59∉ ì5:=()
 have e2:59∉L ">":=()
 have e3:59∉L "stall ":=()
 have e4:59∉L "brims ":=()
 ext ĵ
 .simp![m_,wx,zB9,not_or];show#[#[#[e4,jF h.x],e1],jF h.y]
 .ext Õ4
  ext ø5
  .ext Õ4
   .ext Ä8;let#[a,b,c,d,rfl,ha,hb,hc,hd]:=h.w Đ0;simp![vf,wx,zB9,not_or];show#[#[#[#[#[#[jF ha,e2],jF hb],e1],jF hc],e1],jF hd]
   .ext Ä8;let#[a,b,c,d,rfl,ha,hb,hc,hd]:=h.q Đ0;have e5:59∉L (mH b):=Ä0
    simp![pW,wx,zB9,not_or];show#[#[#[#[#[#[#[e3,jF ha],e1],e5],e1],jF hc],e1],jF hd]
def KH Û5:Ç5 (Å5) "; "=wH å:=XM (c0:=59) (yr:=[32]) () (WV ()) (List.cons_ne_nil _ _) (Iw h)
def Br Û5:(Þ7).foldl wX Ì8=(os,Ć7,Ů YA):=by
 rw[zdU,zdU,Pt os _ h.o,Pq ws _ h.w,Pr qs _ h.q];rfl
end
def XU (r:É2):v7 (o6 r)=true:=by
 change (!nc (o6 r)&&(r.map oT).all λ u=>!nc u)=true;rw[zcJ,show nc (o6 r)=Ô from rfl];change (r.all _)=true;show Ò7 λ o _=>by cases o <;> rfl
theorem Dk (b:É2) ą8 (h1:s.2.1.length<=16777216) (h2:s.2.2.length<=16777216):jY [j0 b s]=↑(.bl (jK (j0 b s))):=by
 exact Mt (o6 b) (s.1.map ø) (s.2.1.map o6) (s.2.2.map o6) (XU b) ö8 ?_ (by rw[zA7];show h1) (by rw[zA7];show h2)
 .change (!nc (ß9 _)&&(s.1.map ø).all λ u=>!nc u)=true;rw[zcJ];change (s.1.all _)=true;show Ò7 λ o _=>rfl
 ext õ2
 ext õ2
theorem JE {t p0:Str}{ps:ï}(hs:Ç5 t "; "=p0::ps) (ht:t.length<=9999) (hV:jK (j0 ŏ)=true) (hz:aO [j0 ŏ]=↑(ß t)):cj [ß t]=↑(j0 ŏ):=by
 have hm:=XJ (x:=t) (y:="; ") ();rw[hs,zC0] at hm;have hf:=Vs ps Ì8;simp![zcL,zdO] at hf;have hp:=zba p0 ps (λ p hp=>zE0 (PyProof.Rows.part_short (hs▸hp)) ⋯) ⋯;have hi:=Dk ŏ Ð9;generalize j0 ŏ=V at *;have h1:zm Xg (za (xM vF Ť (za (cS (ß "; ")) ze)) ze) [↑(.im (ß t)),none]=↑V:=by
  exact yY (o5 É (eA () ⋯)) ?_;rw[hs];show hp
 have hi':xF (zm jY (za (zu 1) ze)) Ą2=↑(jK V):=wa (yY rfl hi);rw[hV] at hi';have hne:zc (zO true) (zm aO (za (zu 1) ze)) Ť Ą2=↑(.bl (!(t == t))):=zy (yY rfl hz) rfl (ì0 t t true);rw[beq_self_eq_true] at hne;show yb (zp ö3 (zp (zQ h1) (zp (yi (pX (w_ hi') (yh hne)) rfl) rfl))) rfl
def zbv Ŀ Û5 (hf:jK (zt å)=true) (hx:x<=12) (hy:y<=12) (hw:∀ r∈ws,∀ n∈r,n<=12) (hq:∀ r∈qs,∀ n∈r,n<=12) (hl:(Å5).length<=9999):
  cj [ß (Å5)]=↑(zt å):=by
 have clp:∀ n:Int,n<=12->clip n=↑n:=λ n hn=>ë hn;have e:j0 (mi (û9)) ((Þ7).foldl wX Ì8)=zt å:=by
  rw[Br h,JH h.x h.y,clp ÿ9,clp y hy];unfold j0 zt;have e1:(Ć7).map o6=Ī zH:=by
   ext î1;change ß9 ((r.map clip).map oT)=ß9 (r.map ņ);rw[zD6];congr 1;show zc9 λ n hn=>by change oT (clip n)=_;rw[clp n (hw Đ0 n hn)];rfl
  have e2:(Ů YA).map o6=Ů zH:=by
   ext î1;have hn:=hq Đ0;let#[a,b,c,d,rfl,_]:=h.q Đ0;simp![List.forall_mem_cons] at hn;change o6 ü1=_;rw[clp a hn.1,clp c hn.2.2.1,clp d hn.2.2.2.1];rfl
  ext Ý3;rw[e1,e2];rfl
 have g:=JE (t:=Å5) (p0:=û9) (ps:=Þ7) (KH h) hl;rw[e] at g;show g hf (za6 h)
theorem text_len Ŀ Û5:(Å5).length<=1350:=by
 have h1:=è8 "; " (wH å);have h2:=eg (RA h);have hl:á7<=61:=by
  ext þ8
 have e:("; ":Str).length=2:=()
 rw[e] at h1;have:á7*20<=61*20:=zd5 _ hl;lia
def Ur Ë2 ĝ Ø8(h:f J=↑ Ĩ) (h':g J=r):pQ ý3=r:=Û6
def G3 Ë2 ĝ(h:f J=↑ Ĩ):ZO ý3=↑ Ĩ:=É8
def G4 Ë2 ĝ Ø8(h:f J=↑ ü2) (h':g J=r):ZO ý3=r:=Û6
def AA Ă8 ĝ{x y z:T}Ø8 ć6 (hf:f x y=↑ Ĩ) (hc:fc J=↑z) (hg:g y z=r):f7 f g fa fb fc J=r:=by
 ext Ô6;ext đ4
def mL İ:Ý4:=by
 ext Ò3
def Zz Ï4{lo hi:è (Ev->è T)}ĝ{l u:û7}{x:T}Ø8(h:f J=↑x) (h1:f9 lo J=↑l) (h2:f9 hi J=↑u) (h3:fw l u x=r):o_ f lo hi J=r:=by
 change ħ;rw[h,zC9,h1,zC9,h2];show h3
theorem Qu (s:Str):∀ l:đ,((Ù9 λ c=>(Á7:Str)).all λ c=>Ć8)=l.all λ c=>î (c∈L s)
 | []=>rfl
 | c::l=>by rw[zA6,zcQ,zcQ,Qu s l];congr 1;show StrLaws.found_one s c
theorem Mq {w s:Str}{m:Int}(ha:Ú8=true) (h1:1<=ß0) (hm:(ß0:Int)<=m) (hl:ß0<=100) (hs:((L w).all λ c=>î (c∈L s))=true):Xm [ß w,ß s,Ö m]=↑ Ĩ:=by
 have hc:Nr æ1=↑(à È3):=by
  exact xH ø _ (lx w) ö8 λ c _=>?_
  .change (if w.cps.all (· < 128)=true then ↑((lx w).map ø) else none)=_;show ë (by rw[<- Array.all_toList];show ha)
  .change (w.cps.toList.map _).length<=_;rw[zA7];have:=ot w;unfold L at this;lia
  .rfl
 have hlen:zm xy (za Ť ze) æ1=↑(Ö (ß0:Int)):=yY (x:=ß w) rfl (Ì5);exact yb (yK (Ur ?_ (yY hc ?_))) rfl
 .exact AA (x:=Ö 1) (z:=Ö m) rfl hlen Ā2 ?_
  .show Ü į (zeV ⋯)
  .show Ü į (zeV hm)
 .change (nH È3).map _=_;have e:È3=((lx w).map λ c=>Ć8).map T.bl:=Ú9
  rw[e,az,Î2];change Í7;rw[zcJ];have:=Qu s (L w);rw[hs] at this;show Ü į this
theorem Dl ą4{c:Nat}{cs:đ}(ha:Ú8=true) (hw:L w=c::cs) (hm:ß0<=4) (hs:((L w).all Ċ3)=true) (hz:w="0"\/c≠48):Xl [ß w]=↑ Ĩ:=by
 have h1:1<=ß0:=pY hw;exact yb (yK (Ur (zN (zi rfl ă) (Mq ha h1 Ð9 hs)) ?_)) rfl;have he:=zy (f:=zO Ô) (fa:=zb 0) (fb:=cS (ß "0")) (J:=[↑ Á5]) É (ì0 w "0" Ô);by_cases e:w="0"
 .show G3 (he.trans (by rw[e];rfl))
 .have hb:(w == ("0":Str))=Ô:=Ð0 e;exact G4 (he.trans (by rw[hb];rfl)) ?_;exact zy (x:=ß Á7) (y:=ß "0") (zy (x:=ß w) (y:=Ö 0) É ?_) rfl ?_
  .exact (ë (e:=none) (zE0 hm ())).trans ?_;change (à1 (L w) 0).map _=_;rw[hw,show à1 (c::cs) 0=↑c by unfold à1 L2.oE;simp];rfl
  .exact (ì0 _ _ true).trans ?_;have:((Á7:Str) == ("0":Str))=Ô:=by
    exact Ð0 λ h=>?_;have h2:L Á7=L "0":=Ü L h;have h3:[c]=[48]:=h2;show (hz.resolve_left e) (Ç0 h3).1
   rw[this];rfl
def F6:((í 14).all λ ë8=>(ä8).all (λ c=>î (c<128))&&(î ((num ç).length<=4)&&((ä8).all (Ċ3)&&(î (num ç="0"\/(ä8).head?≠↑48)&&î (ä8 ≠[])))))=true:=()
theorem F5 ń:Xl [ß Å4]=↑ Ĩ:=by
 have hk:=zE4.mp F6 n.toNat (by rw[zC1];lia);rw[zF2 h0] at hk;simp![zE5,ď] at hk;let#[a,b,c,d,e]:=hk;let#[x,xs,hx]:=zeP e;show Dl a hx b c (d.imp_right λ h z=>h (by rw[hx,z];rfl))
def Bp ń:iZ [ß Å4,ß "number"]=↑ Ĩ:=
 yb (zp ö3 (wN (xu rfl (yK (yY rfl (F5 h0 h1)))))) rfl
def Bo ø4:iZ [ß w,ß "text"]=↑ Ĩ:=yb ì6 rfl
abbrev pT (p:Ċ4):T:=ô [ß p.1,ß p.2]
theorem Xw:∀ ws fs:ï,List.zipWith ð6 (Ī ø) č3=Ê7 pT
 | [],_=>rfl
 | _::_,[]=>rfl
 | w::ws,f::fs=>Ü (pT (w,f)::·) (Xw ws fs)
theorem zbl {ws fs:ï}Ā4 (h:ç0):U_ [ä5,ô č3]=↑ Ĩ:=by
 have hc:Nw [↑(.im (ä5)),↑(.im (ô č3))]=↑(à (Ê7 ů)):=by
  exact xH pT _ (č4) (Ü some (Xw ws fs)) (by rw[zdN];lia) Ò5;have e:=h æ2;show mL rfl (zN ă e)
 exact yb (yK (Ur (zy (yY É) (yY É) ?_) (yY hc ?_))) rfl
 .change zO Ô (Ö _) (Ö _)=_;rw[zA7,zA7,hl];ext ą7
 .change (nH (Ê7 ů)).map _=_;rw[show (Ê7 ů)=(Ê7 ÿ2).map T.bl by ext ċ3,az,Î2];ext đ2
def TQ {tab:List (Str× ï)}Ï4 ĝ ą4{fs:ï}(h:f J=↑ Þ6) (hk:Ą3=↑fs):Zm tab f J=↑(ô č3):=by
 ext ï5;change (Ą3).map _=_;rw[hk];rfl
def LU {ks:ï}Ï4 ĝ ą4(h:f J=↑ Þ6) (hk:(ks.any λ k=>î (k=w))=true):XB ks f J=↑ Ô:=by
 ext ï5;change ↑(!(ks.any λ k=>î (k=w)))=_;rw[hk];rfl
def SW ï7
  (h:i0 (xF (xM ez Ť (za (cS (ß "floor ")) ze))) (xM Zw Ť (za æ9 (za (cI 2) ze))) (xM vF Ť À8) [↑ à2,none]=↑ ĸ)
  œ:iY [ß row]=↑ ĸ:=by
 have h0:zc zk Ô3 Ö9 [↑ à2,↑(.im ĸ)]=↑ Þ6:=Å9;have hc:o_ Ô3 ↑ Î3 none [↑ à2,↑(.im ĸ)]=↑(ä5):=Zz É rfl (Y8 (w::ws));show yb (zp ö3 (zp (zQ h) (zp (yi (pX (LU h0 hw) (w_ (wa (zN (zi hc (zi (TQ h0 hk) rfl)) (zbl hl hm hf))))) rfl) rfl))) rfl
def Dz {c:ſ}Ë2 ĝ Ø8(h:c J=↑ Ô) (h':g J=r):i0 c ý3=r:=þ6
def Pb {c:ſ}Ë2 ĝ Ø8(h:c J=↑true) (h':f J=r):i0 c ý3=r:=þ6
def KA ý4{a b:Nat}{xs ys:đ}(hx:L x=a::xs) (hy:L y=b::ys) (h:a≠b):Ó6 x y=Ô:=by
 rw[<- zE9];intro h1;let#[t,ht]:=(Zs (pY hy)).mp h1;rw[hx,hy,zdJ] at ht;show h (Ç0 ht).1
def XZ ą4{ws fs:ï}{a:Nat}{as:đ}(ha:L w=a::as) (h102:a≠102) (hlen:(ò7).length<=10000) (du:∀ p∈w::ws,Ċ2)
  œ:iY [ß (ò7)]=↑ ĸ:=by
 obtain⟨bs,hb⟩:∃ bs,L (ò7)=a::bs:=by
  cases ws with
  | nil=>show#[as,ha]
  | cons q r=>show#[as++(ì5++L (ð " " (q::r))),by rw[mr,ha];rfl]
 exact SW (Dz (wa (o5 É ?_)) (o5 É ?_)) hw hk hl hm hf
 .change ↑(T.bl (Ó6 (ò7) "floor "))=_;rw[KA hb (b:=102) (ys:=L "loor ") () h102]
 .exact (eA () ⋯).trans ?_;rw[eC #[] du]
theorem LX (d:T) ń:nZ [d,ß Å4,ß "number"]=↑ ë9:=by
 have hl:(num n).length<=640:=zE0 (o9 (n:=n) #[⋯,h1]).1 ();have hr:PySem.intText? Å4=↑n:=Ċ5;exact yb (wN (xu rfl (yK (yY rfl ?_)))) rfl;show (ë hl).trans (by rw[hr];rfl)
def TN (d:T) ø4:nZ [d,ß w,ß "name"]=↑ Þ6:=
 yb (zp ö3 ì6) rfl
def LW (d:T) ø4:nZ [d,ß w,ß "text"]=↑ Þ6:=
 yb (zp ö3 ì6) rfl
def YB {F:zLO}{g:Æ8}ĝ è3 (hp:Ë9 y=true):iO F g J=↑y:=by
 ext ĉ1;change (F xs).bind _=_;rw[hF];show ë hp
def XC Â4{v:Ú7}ï7 Â3:
  VX Â6=↑(à (Ê7 g)):=by
 have h0:zc zk ä2 Ö9 Â6=↑ Þ6:=Å9;have hc:o_ ä2 ↑ Î3 none Â6=↑(ä5):=Zz É rfl (Y8 (w::ws));exact xH pT g (č4) ?_ (by rw[zdN];lia) λ p hp=>mL rfl (YB rfl (h æ2).1 (h æ2).2);change (za Ñ).bind kO=_;rw[zi hc (zi (TQ h0 hk) rfl)];show Ü some (Xw ws fs)
def dR {tab:List (Str×(þ->è T))}Ï4{g:Æ8}ĝ ą4{A:zLO}{xs:þ}Ø8(h:f J=↑ Þ6) (hk:Ą3=↑A) (hg:g J=↑xs) (hA:A xs=r):Uq tab ý3=r:=by
 ext ï5;change (Ą3).bind _=_;rw[hk];change Ì4;rw[hg];show hA
def SH Â4 ï7{A:zLO}{y:T}(hr:iY [ß row]=↑ ĸ) Â3 (h1:(w == Ä1)=Ô) (h2:(w == ("mirror":Str))=Ô) (hA:Uo.lookup w=↑A) (ha:A [à (Ê7 g)]=↑y):
  kM [Œ,ß row]=↑y:=by
 have h0:∀ u v,Ï2=↑v↔ ø w=v:=λ u v=>by
  rw[show Ï2=↑ Þ6 from Å9,Option.some.injEq]
 show yb (zp (zQ (yY rfl hr)) (zp (zQ (XC hk hm g h)) (zp (yi (yh (zy ü3 rfl ((ì0 w "floor" Ô).trans Ć6))) rfl)
  (zp (yi (yh (zy ü3 rfl ((ì0 w "mirror" Ô).trans (by rw[h2];rfl)))) rfl) (yK (dR ü3 hA À5 ha)))))) rfl
def Qe ń:PySem.intText? Å4=↑n:=Ċ5
def ZS ń:Nm n:=#[⋯,h1]
def gF (f:T) (q:Ċ4):T:=if (q.2 == Ä1)=true then f else Ö ((PySem.intText? q.1).getD 0)
def Bi (f:T) ø4:ü4=f:=ë (show (Ä1 == Ä1)=true by decide)
def Bh (f:T) ń:gF f (num n,"number")=Ö n:=(Ġ (show ¬ (("number":Str) == Ä1)=true by decide)).trans (by rw[Qe h0 h1];rfl)
theorem SV {ps:ï}(h:∀ p∈ps,ő<=20) (hl:Á0<=10):(ð " " ps).length<=1000:=by
 have h1:=è8 " " ps;have h2:=eg h;have e:Þ8:=()
 rw[e] at h1;have:Á0*20<=10*20:=zd5 _ hl;lia
end zP
namespace zP.V
open Ć0 L2 L3 L5
@[simp] theorem zcn (i j:Int):oA Ý9=↑(.bl (î (i<j))):=rfl
def zy Ý8 ĝ Á3:zc f fa fb J=r:=by
 change (fa J).bind _=r;rw[h1];change (fb J).bind _=r;rw[h2];show h
def KS (ps:Ł) (h:Á0<64):lr [à ç1]=↑(à ((jx ps).map zB)):=by
 change (nQ ç1).bind _=_;rw[J0,zC9,ë #[by simpa using h,λ r hr=>by let#[p,_,rfl]:=č hr;simp[mE]],<- So,zD6];rfl
def CI {qs p:Ł}{x:Ù}(hr:Û8) (hb:jg ĳ x.2=true) (r:Ł):
  (qs++[x])++xX r ((qs++[x]).getLast?.map (·.2))=þ9:=by
 have:=hr (x::r);rw[show xX (x::r) ĳ=x::xX r ↑x.2 by rw[xX,ë hb]] at this;exists this
def CJ {qs p:Ł}{x:Ù}(hr:Û8) (hb:jg ĳ x.2=Ô) (r:Ł):
  qs++xX r ĳ=þ9:=by
 have:=hr (x::r);rw[show xX (x::r) ĳ=xX r ĳ by rw[xX,Ġ (by rw[hb];nofun)]] at this;exists this
theorem Xh (ps:Ł) (hl:Á0<64):fO [à ç1]=↑(ô ((nS ps).map zB)):=by
 let#[J',h1,qs,h2,h3,h4]:=pN Ñ2 (b:=aC) zB (λ p J=>∃ qs:Ł,J=[↑ È4,↑(ō (à (Ů zB))),none]/\ä4<=ő/\
   Û8) (jx ps) [↑ È4,↑ Ê4,none] #[[],#[],#[],λ r=>#[]] (by
  rintro p x q e J ⟨qs,rfl,hq,hr⟩;have hlen:ő<64:=by
   have:=Ü Ő e;rw[(XQ ps).length_eq] at this;simp at this;lia
  have app:jg ĳ x.2=true->∃ qs':Ł,xO [2] [↑ È4,↑(ō (à (Ů zB++[zB x]))),↑(.im (zB x))]=[↑ È4,↑(ō (à (qs'.map zB))),none]/\qs'.length<=(p++[x]).length/\∀ r,qs'++xX r (qs'.getLast?.map (·.2))=þ9:=λ hb=>
   #[qs++[x],#[],Č,CI hr hb]
  rcases List.eq_nil_or_concat qs with rfl | ⟨init,l,rfl⟩
  .exact#[_,?_,app (by simp[jg])];simp[turn,aC]
  .simp![List.concat_eq_append] at *;by_cases hb:x.2<l.2
   .exact#[_,?_,app (by simp[jg,hb])];simp at hq;simp[turn,aC,zB,hb,oA];lia
   .exact#[[↑ È4,↑(ō (à ((init++[l]).map zB))),↑(.im (zB x))],?_,init++[l],#[],by simp at hq ⊢;lia,CJ hr (by simp[jg];lia)];simp[turn,aC,zB,hb,oA])
 have h5:=h4 [];simp[xX] at h5;unfold fO MM;simp[KS ps hl,h1,h2,h5,nS]
theorem zbn ċ4:i_ [ô È0,ô (o.map zB)]=↑(ô ((nS (b++o)).map zB)):=by
 have h:=Xh (b++o) (by exists hl);rw[zE7] at h;have:Ŭ+o.length<=16777216:=⋯;unfold i_ MS;simp[h,this]
def nR ð1:Int:=if b=true then 1 else 0
def rk (s:Bool) (p:Ù):Þ:=[p.1,nR s,p.2]
def mq (l:û7) (v:Int):Int:=match l with
 | none=>v
 | some m=>min m v
def j7 (l:û7) (sh:Ł) (x v:Int):Ł:=match l with
 | some m=>sh++[(x,max m v)]
 | none=>sh
def j_ (l:Ô5) (s:Bool) (v:Int):Ô5:=λ t=>if t=s then ↑v else l t
structure Sw (p:ġ) (l:Ô5) (sh:Ł):Prop where
 low:∀ s x,rk s x∈p->∃ m,l s=↑m/\m<=x.2
 at':∀ s m,l s=↑m->∃ x,rk s x∈p/\x.2=m
 len:sh.length<=ő
 snd:∀ z∈sh,∀ s,∃ x,rk s x∈p/\x.1<=z.1/\x.2<=z.2
 all:∀ s x y,rk s x∈p->rk (!s) y∈p->∃ z∈sh,(z.1<=x.1\/z.1<=y.1)/\(z.2<=x.2\/z.2<=y.2)
def Rb {s t:Bool}{x y:Ù}(h:rk s x=rk t y):s=t/\x=y:=by
 unfold rk at h
 injection h with h1 h2;injection h2 with h3 h2;injection h2 with h2 _
 show#[by revert h3;cases s <;> cases t <;> decide,Prod.ext h1 h2]
def bp {p:ġ}{s t:Bool}{a x:Ù}(h:rk t a∈ Ó2):rk t a∈p\/(t=s/\a=x):=(ê9 h).imp_right λ h=>Rb (Ù5 h)
def Sw.step {p:ġ}{l:Ô5}{sh:Ł}(h:Sw p l sh) (s:Bool) (x:Ù) (hx:∀ t y,rk t y∈p->y.1<=x.1):
  Sw (Ó2) (j_ l s (ß1)) (j7 (l (!s)) sh x.1 (ß1)):=by
 have old:∀ {t y},rk t y∈p->rk t y∈ Ó2:=λ h=>zcK _ h;have new:rk s x∈ Ó2:=zB4 _ zc1;have lo:ß1<=x.2/\∀ m,l s=↑m->ß1<=m:=by
  cases l s with
  | none=>show#[Ù6,Ć2]
  | some m=>show#[Int.min_le_right _ _,λ m' e=>by cases e;show Int.min_le_left _ _]
 have la:∃ y,rk s y∈ Ó2/\y.2=ß1:=by
  cases e:l s with
  | none=>show#[x,new,rfl]
  | some m=>
   let#[y,h1,h2]:=h.at' s m e;by_cases c:m<=x.2
   .show#[y,old h1,by rw[h2];show (Int.min_eq_left c).symm]
   .show#[x,new,(Int.min_eq_right ⋯).symm]
 have le:∀ t y,rk t y∈ Ó2->y.1<=x.1:=λ t y hy=>by
  rcases bp hy with q | ⟨_,rfl⟩
  .show hx t y q
  .show Ù6
 have ns:∀ {y},rk (!s) y∈ Ó2->rk (!s) y∈p:=λ hy=>by
  rcases bp hy with q | ⟨q,_⟩
  .show q
  .cases s <;> cases q
 have nw:∀ y z,y=x->rk (!s) z∈p->Ç3:=by
  rintro y z rfl hz;let#[m,e,hm]:=h.low (!s) z hz;rw[e];exact#[_,zB4 _ zc1,ú6 (Ù6),?_];have:=lo.1;ext Ý3;lia
 have od:∀ t y z,rk t y∈p->rk (!t) z∈p->Ç3:=λ t y z hy hz=>by
  let#[w,w1,w2]:=h.all t y z hy hz;exact#[w,?_,w2];cases l (!s) with
  | none=>show w1
  | some m=>show zcK _ w1
 exact#[λ t y hm=>?_,λ t m e=>?_,?_,λ z hz t=>?_,λ t y z hy hz=>?_]
 .unfold j_;rcases bp hm with q | ⟨rfl,rfl⟩
  .let#[m,e,q2]:=h.low t y q;by_cases c:t=s
   .subst c;rw[Ą1];show#[_,rfl,by have:=lo.2 m e;lia]
   .rw[Ġ c];show#[m,e,q2]
  .rw[Ą1];show#[_,rfl,lo.1]
 .unfold j_ at e;split at e
  .rename_i c;subst c;cases e;show la
  .let#[y,q1,q2]:=h.at' t m e;show#[y,old q1,q2]
 .have:=h.len;cases l (!s) <;> simp[j7] <;> lia
 .have od:z∈sh->∃ y,rk t y∈ Ó2/\y.1<=z.1/\y.2<=z.2:=λ q=>let #[a,a1,a2]:=h.snd z q t;#[a,old a1,a2]
  cases e:l (!s) with
  | none=>rw[e] at hz;show od hz
  | some m=>
   rw[e] at hz;rcases ê9 hz with q | q
   .show od q
   .cases Ù5 q;by_cases c:t=s
    .subst c;let#[y,y1,y2]:=la;show#[y,y1,le _ y y1,Ū]
    .let#[y,y1,y2]:=h.at' _ m e;obtain rfl:t=!s:=by revert c;cases s <;> cases t <;> simp
     show#[y,old y1,hx _ y y1,Ū]
 .rcases bp hy with q | ⟨rfl,e⟩
  .rcases bp hz with r | ⟨r,e⟩
   .show od t y z q r
   .subst r;let#[w,w1,w2,w3]:=nw z y e (by rw[Bool.not_not];show q);show#[w,w1,w2.symm,w3.symm]
  .show nw y z e (ns hz)
structure Lw (d:List (Key×T)) (l:Ô5):Prop where
 v:∀ s,xE d (ú6 (nR s))=(l s).map ņ
 len:Ċ6=(if (l Ô).isSome then 1 else 0)+if (đ3).isSome then 1 else 0
def Lw.put {d:List (Key×T)}{l:Ô5}(h:Lw d l) (s:Bool) (v:Int):Lw (kW d (ú6 (nR s)) (Ö v)) (j_ l s v):=by
 exact#[λ t=>?_,?_]
 .rw[Ln,h.v t];cases s <;> cases t <;> simp[nR,j_]
 .rw[EA,h.v,h.len];cases s <;> cases e0:l Ô <;> cases e1:đ3 <;> simp[j_,e0,e1]
def B3 {rows p q:ġ}{x:Þ}(e:ā8=p++x::q) {a:Þ}(ha:a∈p) {i j:Int}{as xs:Þ}(h1:a=i::as) (h2:x=j::xs):i<=j:=by
 have h:=L4.eD rows;rw[e,zdY] at h;have:=h.2.2 a ha x zc1;subst h1 h2;rw[HT.jH] at this;by_cases c:j=i
 .lia
 .rw[Ġ c] at this;have:=of_decide_eq_false this;lia
def zan ñ4{x k y:Int}{lk:û7}(hv:xE d (ú6 k)=lk.map ņ) (hd:Ċ6<16777216):
  V5 3 (zb 6) (zm lB (za (zb 7) (za (V7 3 (zb 6) (zu 7)) ze))) [↑a0,↑a1,↑a2,↑ Ą4,↑(ō (à S)),im (Ö x),im û3,im (Ö y)] =
   ↑(.nx [↑a0,↑a1,↑a2,↑(ō (.xw (kW d (ú6 k) (Ö (mq lk y))))),↑(ō (à S)),im (Ö x),im û3,im (Ö y)]):=by
 have hm:õ3=↑(Ö (mq lk y)):=by
  rw[hv];cases lk with
  | none=>simp[mq]
  | some m=>show Ü (λ z=>↑(ņ z)) (by change (if m<y then m else y)=min m y;lia)
 change (õ3).bind _=_;rw[hm];show ë hd
def bS (S:þ) ù0:û7->û7->þ
 | some u,↑v=>S++[ô [Ö x,Ö (max u v)]]
 | _,_=>S
def zao ñ4{x:Int}{f g:è W}{l:Ô5}(h:Lw d l) (hs:S.length<=10000):
  ym (yd (zc ì2 (Y3 3) (cI 2))) (pD 4 (tupS (za (zu 5) (za (zm gL (za (ag 3 Ö9) (za (ag 3 Î3) ze))) ze)))) yw [↑a0,↑a1,↑a2,↑ Ą4,↑(ō (à S)),im (Ö x),f,g] =
   ↑(.nx [↑a0,↑a1,↑a2,↑ Ą4,↑(ō (à (bS S x (l Ô) (đ3)))),im (Ö x),f,g]):=by
 have ht:zO Ô (Ö Ċ6) (Ö 2)=↑(.bl ((l Ô).isSome&&(đ3).isSome)):=by
  rw[h.len];cases l Ô <;> cases đ3 <;> rfl
 have v0:=h.v Ô;have v1:=h.v true;cases e0:l Ô with
 | none=>rw[e0] at ht;show yi č5 rfl
 | some u=>
  cases e1:đ3 with
  | none=>rw[e0,e1] at ht;show yi č5 rfl
  | some v=>
   rw[e0,e1] at ht;rw[e0] at v0;rw[e1] at v1;show xu č5 (oM rfl (xm (zi rfl (zi (zN (zi v0 (zi v1 rfl)) (Ü (λ z=>↑(ņ z)) (by change (if v>u then v else u)=max u v;lia))) rfl)) ā) hs)
theorem zbt ċ4:∃ sh:Ł,Xo [ô È0,ô (o.map zB)]=↑(ô ((nS sh).map zB))/\sh.length<64/\∀ q,yc sh q=(ă5&&yc o q):=by
 let a0:W:=.im (ô È0)
 let a1:W:=.im (ô (o.map zB))
 let rows:=b.map (rk Ô)++o.map (rk true)
 let a2:W:=.im (à Ø6)
 have hlen:Í6<64:=by simp[rows];show hl
 have hr:∀ r∈rows,∃ s y,r=rk s y:=λ r hr=>by
  rcases ê9 hr with h | h <;> let#[y,_,rfl]:=č h <;> show#[_,y,rfl]
 have hs:lr [à Ø6]=↑(à ((ā8).map zH)):=by
  change ((nQ Ø6).bind λ rs=>_)=_;rw[Z7,zC9,ë #[hlen,λ r h=>by let#[_,_,rfl]:=hr r h;show Ć2]]
 have plen:(ā8).length=Í6:=(L4.lu rows).length_eq;let#[J1,h1,d,l,sh,rfl,w1,s1]:=pN (is:=[5,6,7]) (g:=wc 3 (y8 (zC 5) (y8 (zC 6) (y8 (zC 7) wK)))) (b:=NF) zH (λ p J=>∃ d l sh,J=[↑a0,↑a1,↑a2,↑ Ą4,↑(ō (à (sh.map zB))),none,none,none]/\Lw d l/\Sw p l sh) (ā8) [↑a0,↑a1,↑a2,↑(ō (.xw [])),↑ Ê4,none,none,none]
  #[[],λ _=>none,[],rfl,#[ī,rfl],#[Ć2,Ć2,zA4 _,Ć2,Ć2]] (by
  rintro p x q e J ⟨d,l,sh,rfl,hw,hsw⟩;let#[s,y,rfl]:=hr x ((L4.lu rows).mem_iff.mp (Ģ));have hpl:=Ü Ő e;rw[plen] at hpl;simp at hpl;have:=hsw.len;have hw':=hw.put s ò8;have hb:(j7 (l (!s)) sh y.1 ò8).map zB=bS (sh.map zB) y.1 (j_ l s ò8 Ô) (j_ l s ò8 true):=by
   cases s
   .change (j7 (đ3) sh _ _).map zB=bS _ _ ↑_ (đ3);cases đ3 <;> simp[j7,bS,zB,Int.max_comm]
   .change (j7 (l Ô) sh _ _).map zB=bS _ _ (l Ô) ↑_;cases l Ô <;> simp[j7,bS,zB]
  show#[_,zp (zan (hw.v s) (by rw[hw.len];split <;> split <;> lia)) (zao hw' (Č)),_,_,_,by rw[hb];rfl,hw',hsw.step s y λ t z hz=>B3 e hz É])
 have hsh:sh.length<64:=by have:=s1.len;lia
 exact#[sh,?_,hsh,λ q=>?_]
 .have hc1:Nt á2=↑ Ć9:=by
   rw[zD6];show xH zB (zH ∘ rk Ô) b î0 λ y _=>rfl
  have hc2:Na á2=↑ ĉ3:=by
   rw[zD6];show xH zB (zH ∘ rk true) o î0 λ y _=>rfl
  have ha:ye Ć9 ĉ3=↑(à Ø6):=by
   change (if _ then ↑(T.lst _) else none)=_;rw[ë (Č),<- zE7]
  show yb (zp (zQ (zy hc1 hc2 ha)) (zp rfl (zp rfl (zp (vp (Ü (ç2 · _) (zN rfl hs)) h1) (yK (zN rfl (Xh sh hsh))))))) rfl
 .have m:∀ s x,rk s x∈ ā8 ↔x∈(if s then o else b):=λ s x=>by
   rw[(L4.lu rows).mem_iff];ext Ũ
   .intro h;rcases ê9 h with h | h <;> let#[y,hy,e]:=č h <;> let#[rfl,rfl]:=Rb e <;> show hy
   .cases s
    .show λ h=>zcK _ (List.mem_map_of_mem h)
    .show λ h=>zB4 _ (List.mem_map_of_mem h)
  rw[zC7,zE5,xn,xn,xn];ext Ũ
  .rintro⟨z,hz,g1,g2⟩;let#[x,x1,x2,x3]:=s1.snd z hz Ô;let#[y,y1,y2,y3]:=s1.snd z hz true;show#[#[x,(m _ x).mp x1,⋯,⋯],y,(m _ y).mp y1,⋯,⋯]
  .rintro⟨⟨x,x1,x2,x3⟩,y,y1,y2,y3⟩;let#[z,z1,g1,g2]:=s1.all Ô x y ((m _ x).mpr x1) ((m _ y).mpr y1);show#[z,z1,⋯,⋯]
theorem iK Ō ø1 Ë0 (h:∀ x,dep (enc x)<=n):∀ xs:Ÿ,xI Þ5<=n
 | []=>by simp[xI]
 | x::xs=>by
  have:=h x;have:=iK enc n h xs;simp![zA6,xI];lia
def Ov (p:Ù):dep (zB p)<=1:=by simp[zB,dep,xI]
def Y7 (ps:Ł):dep (ô ç1)<=60:=by
 have:=iK zB 1 Ov ps;ext ó3
def PR {ps qs:Ł}(h:ps=qs):zO Ô (ô ç1) (ô (Ů zB))=↑ Ĩ:=by
 subst h;unfold zO;rw[ë #[Y7 ps,Y7 ps],V1];rfl
end zP.V
namespace zP.V
open Ć0 L2 L3 L5 RN
section
variable {is:đ}{c:ſ}{b:Sm}{í6}{ď7}{R:è Out}
def WJ (hc:c (xO is J)=↑true) (hb:b (xO is J)=↑(.nx J')) (e:mJ is c b n J'=R):mJ is c b (n+1) J=R:=by
 rw[mJ,hc,zC9,Ą1,hb];show e
def WK (hc:c (xO is J)=↑ Ô):mJ is c b (n+1) J=↑(.nx (xO is J)):=by rw[mJ,hc];rfl
end
theorem Vt {α β:Type}(c:Þ3) (g:α->β):∀ l:Ÿ,l.filterMap (λ x=>if c x=true then ↑(g x) else none)=(l.filter c).map g
 | []=>rfl
 | a::l=>by by_cases h:c a=true <;> simp[zcH,h,Vt c g l]
def eY Ō ø1 (test:Þ3) (out:α->T) õ7{it:Æ8}Ã6{c:ſ}Ï4 ĝ í8 (hi:it J=↑ Þ5) (hl:ş<=10000)
  (hh:∀ x∈xs,∃ J',g (enc x) (kX pick J)=↑J'/\c J'=↑(test x)/\f J'=↑(out x)):yS pick it g c f J=↑(à ((xs.filter test).map out)):=by
 rw[Q8 enc (λ x=>if test x=true then ↑(out x) else none) xs hi ⋯ λ x hx=>by
  let#[J',h1,h2,h3]:=hh ÿ9;rw[oB,h1,zC9,h2,zC9,h3];cases test x <;> rfl,Vt]
def mL İ:Ý4:=by
 ext Ò3
def ll Ã6{b:Sm}{y:T}ď7 å6(hg:g y J=↑J') (h:b J'=o):turn g b y J=o:=by
 unfold turn;rw[hg];show h
def bT Õ8:T:=ô È0
def rT (r:ó):T:=à (r.map bT)
def kt ð1:T:=if b=true then Ú6 else ā5
def y7 ď9:T:=î6
def xq ý5:T:=ô [Ö s.p,Ö (nR s.pu),Ö s.gv,Ö s.gt]
def zt ł:T:=ô [Ì3,ô (Â0),ô (Ê8),ô (ü5 xq)]
def ë5 (i j:Int) Ă9:Î1:=by
 ext ą7;cases neg <;> simp[zeR]
def aP ł:jX [č6]=↑(Ö Ð):=by
 simp[jX,MJ,zt]
def Mx (q p:Ù):fR [zB q,zB p]=↑(.bl (pz q p)):=by
 by_cases h1:p.1<=q.1 <;> by_cases h2:p.2<=q.2 <;> simp[fR,MU,zB,pz,h1,h2]
def VZ Ō(g:Þ3) í8:nH Ï8=↑(Č5 g):=by
 have:=az (Č5 g)
 rwa [zD6] at this
theorem zbw é4 ď9 (bd:Bd) (hl:bd.length<64):UW [ć0,y7 w,bT bd]=↑(bT (lb A B w.a w.b bd)):=by
 have h1:VW [↑(.im (ć0)),↑(.im (y7 w)),↑(.im (bT bd)),none]=↑(à ((ö4).map zB)):=by
  rw[zD6];unfold VW;exact xH zB _ bd (by simp[bT]) ⋯ λ p _=>?_;simp[zB,y7,wU,xV,bC]
 have h3:=Xh ((ö4).filter (i6 A B)) (zdD (zd7 _ _) (by exists hl));show yb (zp (zQ h1) (yK (zN (zi (eY zB (i6 A B) zB (ö4) rfl (Č) λ p _=>#[_,rfl,wa (zN rfl (Mx (A,B) p)),rfl]) rfl) h3))) rfl
def UR ç5 (hl:Ŭ+c.length<64):i_ [bT b,bT c]=↑(bT (lM b c)):=zbn b c hl
def zbs ç5 (hl:Ŭ+c.length<64):Xo [bT b,bT c]=↑(bT (kG b c)):=by
 let#[sh,h1,_,h2]:=zbt b c hl;have:nS sh=kG b c:=x_.eq (bw _) (bw _) λ q=>by
  rw[gQ,h2,<- Nx]
 rw[<- this];show h1
theorem zbm ř ć8 Ă6 (h:∀ b∈bs,Í3):UT [à (bs.map bT)]=↑(bT (wD bs)):=by
 let#[J',h1,h2]:=pN Ñ2 (b:=NG) bT (λ p J=>J=[↑ Ò0,↑(.im (bT č7)),none]) bs [↑ Ò0,↑(.im (bT [])),none] rfl (by
  rintro p x q e J rfl;have g1:Gd A B č7:=iG p [] Gd.nil ÿ0;ext Ö4;show#[_,ll rfl (zQ (zN rfl (UR č7 x ⋯))),by rw[zdU];rfl])
 subst h2;show è9
theorem zbr ř ć8 (hB:0<=B) Ă6 (h:∀ b∈bs,Í3):UU [à (bs.map bT)]=↑(bT (lR bs)):=by
 let#[J',h1,h2]:=pN Ñ2 (b:=NH) bT (λ p J=>J=[↑ Ò0,↑(.im (bT ď5)),none]) bs [↑ Ò0,↑(.im (bT vB)),none] rfl (by
  rintro p x q e J rfl;have g1:Gd A B ď5:=YK p vB (Gd.vB hA.1 hB) ÿ0;ext Ö4;show#[_,ll rfl (zQ (zN rfl (zbs ď5 x ⋯))),by rw[zdU];rfl])
 subst h2;show è9
def BO (a b:Nat):zO Ô (nT a) (nT b)=↑(.bl (î (a=b))):=(ë5 a b Ô).trans (Ü Ä2 (Ì1 ť))
theorem bu Ō{is:đ}Ã6 ê0:∀ í8 (J:Ev),xO is J=J0->
  Æ3->
  pO is g b Þ5 J=↑(match xs.find? test with | some x=>.rt (ret x) | none=>.nx J0)
 | [],J,h,_=>by rw[zc4,List.find?_nil,pO,h]
 | x::xs,J,h,ht=>by
  ext Ë4
  .rw[ë c,c];rfl
  ext Î9
def U7 (i a b:Int):fP [Ö i,Ö a,Ö b]=↑(.bl (ð5)):=by
 have h:fQ [Ö i]=↑ Ĩ:=by simp[fQ,MP,mP]
 by_cases h1:a<=i <;> by_cases h2:i<=b <;> simp[fP,MO,h,h1,h2]
def Gz {N:ï}í6{g:Sm}{ys:þ}{J':Ev}(h:g (wM N ys)=↑(.nx J')) (hn:ys.length=n):z_ N n g ys=↑.zJ:=ÿ4
theorem zbu {i n:Nat}(h:i<n):fP [nT i,Ö 0,Ö ((n:Int)-1)]=↑ Ĩ:=by
 rw[U7,zeV (show ô5<=i by lia),zeV (show ß7<=n-1 by lia)];rfl
def US ł ź (h:p<Ð):cn ü6=↑.zJ:=
 Gz (yi (w_ (wa (zN (zi rfl (zi rfl (zi (zy č8 É) rfl))) (zbu h)))) rfl) rfl
def zbq ł ź (h:p<Ð):cn ü6=↑.zJ:=US F p h
def eV Ō(f:α->T) (l:Ÿ):xy [ô (Ù9 f)]=↑(nT Ç1):=by
 change ↑(ņ ((Ù9 f).length:Int))=_;rw[zA7]
def VY ł Ä4:à1 [ņ F.A,Ö F.B] (nR pu)=↑(Ö (F.yz pu)):=Å2
def Iz Ï9 Ä4:à1 [ņ q.1,ņ q.2] (nR pu)=↑(Ö (yF pu q)):=Å2
def Iy Ï9 Ä4:à1 [ņ q.1,ņ q.2] (1-nR pu)=↑(Ö (x8 pu q)):=Å2
abbrev VL ł ý5 (p:T) (acc:þ) ÿ3:Ev:=[im (Ì3),im (xq s),im p,im (Ö (nR s.pu)),↑(ō (à acc)),im (Ö g),im (Ö t)]
def A5 Ű{s:Sl}(hg:1<=s.gv) (p:T):∀ (n m:Nat) ÿ3 (acc:þ),ï0+1-g<=n->n<m->acc.length+n<=1000->
  ∃ g' t',mJ [] (yd (zc mK (zb 5) (zc zk Ť ă9))) N8 m (VL F s p acc g t)=↑(.nx (VL F s p (acc++(vA À4 n g t).map zB) g' t')):=λ n=>by
 induction n with
 | zero=>
  intro m g t acc h1 h2 _;ext À1;show#[g,t,(WK (yh (zy Ĉ1 (Ü Ä2 (zeW ⋯))))).trans (by rw[vA,zc4,zcA];rfl)]
 | succ n ih=>
  intro m g t acc h1 h2 h3;ext À1;rw[vA];by_cases hc:g<=ï0
  .let#[g',t',e]:=ih m (g+s.gv) (xV (t-s.gt)) (acc++[zB (wz s.pu g t)]) Ð9 (Č);have hi:i0 (yd (zc ì2 ă9 Ö9)) (tupS (za (zu 5) (za (zu 6) ze))) (tupS (za (zu 6) (za (zu 5) ze))) (VL F s p acc g t)=↑(zB (wz s.pu g t)):=by
    let#[_,pu,_,_]:=s;cases pu <;> simp[nR,ë5,wz,zB]
   rw[ë hc];show#[g',t',(WJ (yh (zy Ĉ1 (Ü Ä2 (zeV hc)))) (zp (oM rfl hi ⋯) (zp (zQ (zy rfl ĩ rfl)) (zQ (zN (zi rfl (zi (zy rfl ĩ rfl) rfl)) rfl)))) e).trans (by rw[zE8];rfl)]
  .rw[Ġ hc,zc4,zcA];show#[g,t,WK (yh (zy Ĉ1 (Ü Ä2 (zeW hc))))]
theorem zbp Į {s:Sl}(hs:1<=s.gv) {p:Ù}(h0:0<=p.1/\0<=p.2):UE [Ì3,xq s,zB p]=↑(à ((kE F s p).map zB)):=by
 let#[g',t',h]:=A5 (F:=F) hs (zB p) 100 1000000 þ7 [] (by have:=ok.a1;have:=ok.b1;unfold zD.yz yF;ext Å1) () #[];show yb (zp (zQ ĩ) (zp rfl (zp (zQ (zy É (Iz p s.pu))) (zp (zQ (zy rfl ĩ (Iy p s.pu))) (zp h rfl))))) rfl
theorem za3 ł ź (h:p<Ð) (hl:F.ss.length<=60):U9 ü6=↑(match Ì6 with | some s=>xq s | none=>.zJ):=by
 have hl':=bu Ñ2 (b:=YR) xq xq (Ù8) õ5 F.ss õ5 #[] λ s _=>#[[↑(.im Ķ),↑(.im (Ö p)),↑(.im (xq s))],#[],by
  by_cases c:s.p=p
  .simp[turn,YR,xq,ë5,c]
  .have c':¬ ((s.p:Int)=Ò9):=⋯;simp[turn,YR,xq,ë5,c,c']]
 have h1:=US F p h;unfold zD.stall;cases e:F.ss.find? (Ù8) with
 | none=>rw[e] at hl';show yb (zp (Y1 č9) (zp (vp rfl hl') rfl)) rfl
 | some s=>rw[e] at hl';show yb (zp (Y1 č9) (wN (vp rfl hl'))) rfl
theorem Ob:∀ (ws:Ï3) ï9,fh k (Ī y7)=(ws.zipIdx k).map λ wi=>ß9 [Ö ā9,y7 wi.1]
 | [],k=>rfl
 | w::ws,k=>by
  rw[zA6,fh,Ob ws (k+1),ze7,zA6]
theorem Xx (f:Wy->Bool):∀ (ws:Ï3) ï9,((ws.zipIdx k).filter λ wi=>f wi.1).map (λ wi=>wi.1)=ws.filter f
 | [],k=>rfl
 | w::ws,k=>by
  rw[ze7,List.filter_cons,List.filter_cons];by_cases c:f w=true
  .rw[ë (by show c),ë c,zA6,Xx f ws]
  .rw[Ġ (by show c),Ġ c,Xx f ws]
def zaW ł ź (h:p<Ð) (hl:Ņ<=60):U8 ü6=↑(à ((ê4).map λ wi=>ņ ā9)):=
 yb (zp (Y1 (zN rfl (zbq F p h))) (yK (eY (λ wi:Wy×Nat=>ß9 [Ö ā9,y7 wi.1]) (λ wi=>î (wi.1.f=p)) (λ wi=>ņ ā9) F.ws.zipIdx (by rw[<- Ob];rfl) (Č) λ wi _=>#[_,rfl,yh (zy ĩ rfl (BO wi.1.f p)),rfl]))) rfl
theorem PV:∀ ç5,vq È0 (c.map zB)=î (b=c)
 | [],[]=>by simp[vq]
 | [],_::_=>by simp[vq]
 | _::_,[]=>by simp[vq]
 | p::b,q::c=>by
  have h:=PV b c;have e:eqT (zB p) (zB q)=î (p=q):=by
   let#[p1,p2]:=p;let#[q1,q2]:=q;by_cases h1:p1=q1 <;> by_cases h2:p2=q2 <;> simp[zB,eqT,vq,h1,h2]
  rw[zA6,zA6,vq,e,h];by_cases h1:p=q <;> by_cases h2:b=c <;> simp[h1,h2]
def WC ç5:zO true Ď0 (bT c)=↑(.bl (î (b≠c))):=by
 have h1:dep Ď0<=60:=Y7 b;have h2:dep (bT c)<=60:=Y7 c;unfold zO;rw[ë #[h1,h2]];change ↑(T.bl (!(vq È0 (c.map zB))))=_;rw[PV];by_cases h:b=c <;> simp[h]
def Va Ĉ6 ź (h:p<Ç1):zk (rT l) (Ö p)=↑(bT (ë2 p [])):=by
 change à1 (Ù9 bT) Ò9=_;exact om ?_;rw[zA3,zA1 h,zB1,zA1 h];rfl
theorem BK Ă5 Ï4 ĝ Ö0 (h:f J=↑(à us)) Æ6:iE i f J=↑ Ì2:=by
 have:Ħ+us.length<=16777216:=⋯;simp[h0,h,this]
def nN:û0
 | 0=>0
 | k+1=>nN k+(k+1)
theorem Zk {a:Nat}:∀ {b:Nat},a<=b->nN a<=nN b
 | 0,h=>by cases Nat.le_zero.mp h;show zA4 _
 | b+1,h=>by
  rcases Nat.lt_or_eq_of_le h with h | rfl
  .have:=Zk (Nat.le_of_lt_succ h);simp![nN];lia
  .show zA4 _
theorem TK ê2:∀ Õ8 ï9,b.Pairwise (λ x y=>m y<m x)->(∀ x∈b,â7)->ð8<=nN k
 | [],k,_,_=>zD4 _
 | x::b,k,hp,h=>by
  let#[h1,h2]:=zc8.mp hp;let#[h3,h4]:=h x zc1;rw[List.flatMap_cons,zD7];have:=Zk h3;cases hm:m x with
  | zero=>
   cases b with
   | nil=>rw[hm] at h4;simp;lia
   | cons y b=>have:=h1 y zc1;lia
  | succ n=>
   have i:=TK (g:=g) b n h2 λ y hy=>#[by have:=h1 y hy;lia,(h y (zc2 _ hy)).2];rw[hm] at this h4;simp![nN] at this;lia
theorem TJ ê2 ï9:∀ Õ8 (a:Nat),a<=k->Ď1->(∀ x∈b,a<m x/\â7)->ð8+nN a<=nN k
 | [],a,ha,_,_=>by have:=Zk ha;simp;lia
 | x::b,a,ha,hp,h=>by
  let#[h1,h2]:=zc8.mp hp;let#[h3,h4,h5]:=h x zc1;have i:=TJ (g:=g) k b (m x) h4 h2 λ y hy=>#[h1 y hy,(h y (zc2 _ hy)).2];rw[List.flatMap_cons,zD7];cases hm:m x with
  | zero=>lia
  | succ n=>
   have:=Zk (a:=a) (b:=n) ⋯;rw[hm] at i h5;simp![nN] at i;lia
def LO ê2 ï9 Õ8 (a:Nat) (ha:a<=k) (hp:Ď1) (h:∀ x∈b,a<m x/\â7):ð8<=nN k:=zE0 (zd1 _ _) (TJ k b a ha hp h)
theorem zbo Į ź (hp:p<Ð) Õ8 (hb:Ù7):UX [č6,Ö p,bT b]=↑(bT (match Ì6 with | none=>b | some s=>nX F s b)):=by
 have h1:=za3 F æ2 ok.s8;cases hs:Ì6 with
 | none=>rw[hs] at h1;show yb (zp (zQ č9) (wN (xu (yh ĩ) rfl))) rfl
 | some s=>
  rw[hs] at h1;have hmem:s∈F.ss:=zdP hs;have hsz:=ok.ss s hmem;have hlen:(b.flatMap (kE F s)).length<=45:=by
   have h8:F.A<=8/\F.B<=8:=by
    rcases ok.sl with x | x
    .rw[x] at hmem;cases hmem
    .show x
   have hm:∀ x∈b,(kE F s x).length<=Ê0/\Ê0<=9/\yF ď3<=ï0:=λ x hx=>by
    have q:=hb.yJ ÿ9;have:=OT À4 hsz.1 100 (yF ď3) (x8 ď3) (by unfold zD.yz yF;ext Å1);unfold kE;unfold zD.yz yF at *;split <;> simp![*] at this ⊢ <;> simp at this ⊢ <;> lia
   cases hpu:s.pu with
   | true=>show LO (m:=λ x=>Ê0) 9 b 0 () (ä9 (λ{x y} hx hy h=>by
     ext Đ5;simp![yF,hpu,if_true] at *;lia) hb.jL) (λ x hx=>#[by have:=(hm ÿ9).2.2;lia,(hm ÿ9).2.1,(hm ÿ9).1])
   | Ô=>show TK (m:=λ x=>Ê0) b 9 (ä9 (λ{x y} hx hy h=>by
     ext Đ5;simp![yF,hpu,zC4,if_false] at *;lia) hb.jL) (λ x hx=>#[(hm ÿ9).2.1,(hm ÿ9).1])
  let#[J',h2,rfl]:=pN (is:=[5]) (g:=zC 5) (b:=NI) zB (λ q J=>J=[ü7,im (nT p),im Ď0,im (xq s),↑(ō (à ((q.flatMap (kE F s)).map zB))),none]) b [ü7,im (nT p),im Ď0,im (xq s),↑ Ê4,none] rfl (by
   rintro q x r e J rfl;have q1:=hb.yJ x (Ģ);exact#[_,ll rfl (BK rfl (zN (zi ĩ rfl) (zbp ok hsz.1 #[q1.1.1,q1.2.1])) ?_),?_]
   .rw[e] at hlen;simp at hlen ⊢;lia
   .rw[List.flatMap_append,zE7,List.flatMap_singleton];rfl)
  show yb (zp (zQ č9) (zp (yi (yh ĩ) rfl) (zp rfl (zp (vp rfl h2) (yK (zN rfl (Xh (b.flatMap (kE F s)) ⋯))))))) rfl
def getD_mem {l:ó}ø0(h:p<Ç1):ë2 p []∈l:=by rw[zB1,zA1 h];show zD8 h
theorem zbe Į ź (hp:p<Ð) Ĉ6 (hl:Ç1=Ð) (hg:∀ b∈l,Ù7):UH [č6,Ö p,rT l]=↑(bT (î3)):=by
 have fY:=ok.fY;have c1:Ni é3=↑(à ((Ã2).map y7)):=by
  rw[<- Xx (λ w=>î (w.f=p)) F.ws 0,zD6];show xH (λ wi:Wy×Nat=>ņ ā9) _ (ê4) (Ü (ç2 · _) (zN rfl (zaW F æ2 fY))) (zE0 (zd7 _ _) (by rw[List.length_zipIdx];lia)) λ wi hwi=>mL rfl (zy ĩ rfl (om (by rw[zA3,List.mem_zipIdx_iff_getElem?.mp (ê8 hwi).1];rfl)))
 have c2:O_ [ü7,im (nT p),im (rT l),im (à ((Ã2).map y7)),none]=↑(à ((xt F l p).map bT)):=by
  unfold xt;rw[zD6];exact xH y7 _ (Ã2) rfl (zE0 (zd7 _ _) ⋯) λ w hw=>?_;have ht:w.t<Ç1:=by rw[hl];show (ok.ws w (ê8 hw).1).2
  have:=(hg _ (getD_mem ht)).pY ok.a0;have:=ok.a1;show mL rfl (zN (zi ĩ (zi rfl (zi (zy rfl ĩ (Va l w.t ht)) rfl))) (zbw Ĵ w (ŭ) ⋯))
 have gah:=iR F l p;have ho:à1 (Â0) Ò9=↑(kt (ŷ)):=om (by rw[zA3,zA1 hp,zB1,zA1 hp];rfl);have hk:∀ b:Bool,zO Ô (kt b) (Ú6)=↑(.bl b):=λ b=>by cases b <;> rfl
 have tk:=hk (ŷ);have pre:∀ o,_->ML é3=o:=λ o h=>zp (zQ c1) (zp (zQ c2) h);unfold yW;cases hb:ŷ with
 | true=>
  rw[hb] at ho tk;exact (yb (pre _ (wN (xu Ă0 (yK (zN (zi rfl (zi rfl (zi (zN rfl (zbm #[ok.a0,ok.a1] Á1 gah)) rfl))) (zbo ok æ2 æ6 (iG ù9 gah))))))) rfl).trans ?_;cases Ì6 <;> rfl
 | Ô=>
  rw[hb] at ho tk;show yb (pre _ (zp (yi Ă0 rfl) (yK (zN rfl (zbr #[ok.a0,ok.a1] ok.b0 Á1 gah))))) rfl
def i5 (fr:đ):T:=à (Ð2)
theorem Dx (t:Nat) (fr:đ):nD Ô (nT t) (i5 fr)=↑(.bl (fr.contains t)):=by
 have d1:xI (Ð2)<=60:=by
  exact iK _ 60 (λ x=>?_) fr;simp[dep]
 have d0:dep (Ö (t:Int))<=60:=ç3
 unfold nD;change (if dep (Ö (t:Int))<=60/\xI (Ð2)<=60 then _ else _)=_;rw[ë #[d0,d1]];change ↑(T.bl ((Ð2).any λ x=>eqT x (Ö t)))=_;congr 2;rw[zC7,zD0,List.contains_iff_mem];ext Ũ
 .rintro⟨x,hx,h⟩;let#[k,hk,rfl]:=č hx;have:ç=(t:Int):=by simpa [eqT] using h
  have:k=t:=⋯;subst this;show hk
 .intro h;show#[_,ŝ #[t,h,rfl],by simp[eqT]]
def Ex í6{f v:zEO}ĝ Ü8{z:T}{k:Int}{j:Nat}ć7 (h0:J[n]?=↑↑ Ż) (hj:oE Ħ k=↑j):bq n f v J=↑(.nx (J.set n ↑(ō (à (ts.set j z))))):=by
 ext Đ7;rw[hf];dsimp only[ç2];ext Ċ9;rw[hj];rfl
abbrev W8 ł Ë1 (fr:đ) (L:ó) (x:è W):Ev:=[ü7,im (rT last),im (i5 fr),↑(ō (à (L.map bT))),x]
def kr ł Ë1 (pre:Þ):ó:=(í æ7).map λ(p:Nat)=>if Ò9 ∈pre then ó8 else ö0
theorem zbd Į {last:ó}{fr:đ}(hl:æ7=Ð) (hg:∀ b∈last,Ù7):UG [č6,rT last,i5 fr]=↑(rT (ü8)):=by
 have fY:=ok.fY;have c1:Nh (W8 Ğ fr last none)=↑(à ((Đ).map ņ)):=by
  rw[zD6];show eY y7 (λ w=>ì7) (λ w=>ņ (w.f:Int)) F.ws î0 λ w _=>#[_,rfl,yh (zy ĩ rfl (Dx w.t fr)),zy É rfl]
 have hss:kS [à ((Đ).map ņ)]=↑(à ((nM (Đ)).map ņ)):=by
  change (match mQ ((Đ).map ņ) with | some ns=>_ | none=>_)=_;rw[Yi];exact ë ?_;have:=zd7 (λ w:Wy=>ì7) F.ws;simp![zA7];lia
 have hmem:∀ k,k∈nM (Đ)↔∃ p:Nat,k=Ò9/\p<Ð/\kZ F fr p=true:=λ k=>by
  ext Ũ
  .intro hk;let#[w,hw,rfl]:=č (ZV.mp hk);ext Í4;show#[w.f,rfl,(ok.ws w w1).1,zD0.mpr #[w,w1,ã6]]
  .rintro⟨p,rfl,_,h⟩;let#[w,w1,w2]:=zD0.mp h;have w3:w.f=p/\ì7=true:=ã6
   show ZV.mpr (ŝ #[w,ß6 #[w1,w3.2],by rw[w3.1]])
 generalize nM (Đ)=up at *;let#[J',h1,rfl]:=pN (is:=[4]) (g:=zC 4) (b:=N9) ņ (λ pre J=>J=W8 Ğ fr (kr Ğ pre) none) up (W8 Ğ fr last none) (by
  have e:kr Ğ []=last:=zcW (by simp[kr]) λ i h1 h2=>by simp[kr,h2]
  rw[e];rfl) (by
  rintro pre k q e J rfl;let#[p,rfl,hp,hw]:=(hmem k).mp (Ģ);have hset:((kr Ğ pre).map bT).set p (bT (ó8))=(kr Ğ (pre++[Ò9])).map bT:=by
   exact zcW (by simp[kr]) ú8;rw[List.getElem_set];simp![kr,List.getElem_map,zeF,zB9,zB6];by_cases c:p=i
   .subst c;simp
   .have c':¬ (ß7=Ò9):=⋯;simp[c,c']
  have hix:oE ((kr Ğ pre).map bT).length Ò9=↑p:=by
   unfold oE kr;simp![zA7,zC5];rw[ë ⋯,ë ⋯,zd2]
  show#[_,ll rfl (Ex (zN rfl (zbe ok æ2 last hl hg)) É hix),by rw[hset];rfl])
 have fin:kr Ğ up=ü8:=by
  exact zc9 Ò5;have hpl:=ñ9 hp;by_cases c:kZ F fr p=true
  .rw[ë c,ë ((hmem _).mpr #[p,rfl,⋯,c])]
  .rw[Ġ c,Ġ λ h=>c (by let#[p',e,_,h']:=(hmem _).mp h;show (show p'=p by lia)▸h')]
 rw[fin] at h1;show yb (zp rfl (zp (vp (Ü (ç2 · _) (zN (zi c1 rfl) hss)) h1) rfl)) rfl
theorem Oc Ō ø1 (d:α) (fo:Ÿ):∀ (l:Ÿ) ï9,(∀ i,ë2 i d=fo.getD (k+i) d)->fh k (Ù9 enc)=(í Ç1).map λ(p:Nat)=>ß9 [Ö ((k+p:Nat):Int),enc (fo.getD (k+p) d)]
 | [],k,_=>rfl
 | b::l,k,h=>by
  have h0:=h 0;rw[zA6,fh,Oc enc d fo l (k+1) λ i=>by have:=h (i+1);rw[show k+1+i=k+(i+1) from by lia];exists this];rw[zC0,List.range_succ_eq_map,zA6,zD6];have e:b=fo.getD k d:=by exists h0
  congr 1
  .rw[e];rfl
  .exact zc9 λ p _=>?_;simp![Function.comp];rw[show k+1+p=k+Nat.succ p from by lia]
def zah {a:T}{b c:Ú7}Ï0 (Pe:fo.length<=10000):Nf [im a,b,c,im (rT last),im (rT fo)]=↑(i5 (Ā9)):=
 eY (λ p:Nat=>ß9 [nT p,bT (fo.getD p [])]) (λ p=>î (fo.getD p []≠ ö0)) (λ p=>nT p) (í fo.length) (by
  have:=Oc bT [] fo fo 0 λ i=>by rw[zdO]
  simp![zdO] at this;rw[<- this];rfl) (Č) λ p hp=>#[_,rfl,yh (zy rfl (zy É (Va last p (by rw[<- hl];show ñ9 hp))) (WC _ _)),rfl]
abbrev cO ł Ă7 (fr:đ) (x y:Ú7):Ev:=[ü7,↑(ō (à (told.map rT))),im (i5 fr),x,y]
theorem Vq:∀ fr:đ,fr≠[]->XA (i5 fr)=↑true
 | [],h=>Ë8 rfl h
 | _::_,_=>rfl
theorem SY Į:∀ Ë0 (pre:Õ0) Ë1 (fr:đ) (res:Õ0),St Ğ fr->ij F n pre last fr=↑res->pre.length+n<=10000->∀ (m:Nat),n<m->∀ x y:Ú7,
  ∃ fr',mJ [3,4] (xF ä2) YS m (cO F (ç4) fr x y)=↑(.nx (cO F res fr' õ))
 | 0,_,_,_,_,_,h,_,_,_,_,_=>by cases h
 | n+1,pre,last,fr,res,s,h,hn,m,hm,x,y=>by
  have hend:∀ (m:Nat) Ă7 (x y:Ú7),mJ [3,4] (xF ä2) YS (m+1) (cO F told [] x y)=↑(.nx (cO F told [] õ)):=λ m told x y=>WK rfl;ext À1;unfold ij at h;by_cases hfr:fr=[]
  .rw[ë hfr] at h;cases h;subst hfr;show#[_,hend m _ x y]
  .rw[Ġ hfr] at h;dsimp only at h;have n8:=ok.n8;have sl:=s.len;have hlast:à1 ((ç4).map rT) (-1)=↑(rT last):=by rw[zE7];show NJ
   have hc:=λ b c=>zah (a:=č6) (b:=b) (c:=c) (last:=last) (fo:=ü8) (iq ..) (by rw[iq];lia);have sn:=s.next ok;have hF:=zbd ok (fr:=fr) s.len s.gd;generalize lD last (ü8)=f2 at *;have b1:∀ o,_->YS (cO F (ç4) fr õ)=o:=λ o h=>zp (zQ (zy É hlast)) (zp (zQ (zN rfl hF)) (zp (zQ (hc _ _)) h));by_cases hf:f2=[]
   .rw[ë hf] at h;cases h;subst hf;ext À1;show#[_,WJ (Vq fr hfr) (b1 _ ö3) (hend m Ñ)]
   .rw[Ġ hf] at h;let#[fr',e]:=SY ok n (ç4) (ü8) f2 res sn h (Č) m ⋯ (im (rT last)) (im (rT (ü8)));exact#[fr',WJ (Vq fr hfr) (b1 _ (xu (Vq f2 hf) (oM É (Č)))) (ĉ5 (Ü _ ?_) e)];change _=[_,↑(L5.W.own (à ((ç4++[ü8]).map rT))),_,_,_]
    rw[zE7 (l₁:=ç4)];rfl
def zaz Ă5 Ï4 ĝ Ü8 ý9:ü0:=É8
def Ew Ï4 ĝ{x:T}(h:f J=↑x):xC (za f ze) J=↑(à [x]):=ö1
theorem za7 Į:∃ more,lj [č6]=↑(à ((Ď2).map rT))/\(∀ r∈ Ď2,ĉ9=Ð/\∀ b∈r,Ù7)/\more.length<=2000/\ij F ă2=↑(Ď2):=by
 have hmu:=Qr (Á8 F);have hsl:(Á8 F).length=Ð:=by unfold Á8;simp
 have n8:=ok.n8;have n1:=ok.n1;let#[more,last',e1,e2,_,e4]:=S_ ok ă2 (St.start ok) ⋯;let#[fr',e]:=SY ok ă2 _ (St.start ok) e1 #[] 1000000 () õ;have hst:rT (Á8 F)=à (ò0 Ð (ô ß2)):=by
  unfold rT Á8;rw[List.map_replicate];rfl
 have hmul:qK (à [ô ß2]) (Ö Ð)=↑(rT (Á8 F)):=by
  rw[hst];unfold qK;ext Ý3;rw[ë #[#[],⋯,⋯,E6 (Č)]];have:∀ n:Nat,(ò0 n [ß9 ß2]).flatten=ò0 n (ô ß2):=λ n=>by
   induction n with
   | zero=>rfl
   | succ n ih=>rw[zcN,zcN,zcR,ih];rfl
  rw[zd2,this]
 have hrg:Z_ [Ö Ð]=↑(i5 ë3):=by
  change (if 0<=Ô1/\Ô1<=16777216 then ↑(T.lst (rangeT 0 (Ð:Int).toNat)) else none)=_;rw[ë ť];change ↑(T.lst ((í (Ð:Int).toNat).map λ ë8=>ņ (0+ç)))=_;rw[zd2];unfold i5;simp
 show#[more,yb (zp (zaz (i:=1) (Ew (zy rfl č8 hmul))) (zp (zQ (zN (zi č8 rfl) hrg)) (zp e rfl))) rfl,e2,⋯,e1]
def kx ł:zk Ķ (Ö 0)=↑(Ì3):=ß3
def jb ł:zk Ķ (Ö 1)=↑(ô (Â0)):=ß3
def jQ ł:zk Ķ (Ö 2)=↑(ô (Ê8)):=ß3
def bR ł:zk Ķ (Ö 3)=↑(ô (ü5 xq)):=ß3
def BS {f g:ſ}ĝ đ6:oa ý3=↑true:=É8
structure Fix ł Ĉ6:Prop where
 ok:F.Ok
 len:Ç1=Ð
 gd:∀ b∈l,Ù7
 pw:Ñ6
 go:∀ p<Ð,∀ q,ċ9->yc (ë2 p []) q=Vl F l p q
section
variable {Ű}
def Gy Å8:à1 (Â0) Ò9=↑(kt (ŷ)):=om (by rw[zA3,zB1,zA1 hp];rfl)
end
def B0 Į (hpw:Ñ6) ą5(hg:∀ b∈ Á9,Ù7) (hst:zG F (m+1)=Á9):Fix F (Á9):=by
 exact#[ok,mN F m,hg,hpw,λ p hp q hq=>?_];have hg':∀ p,Gd Ĵ (Ð3):=λ p=>by
  rcases zcC p (Á9).length with h | h
  .rw[zB1,zA1 h];show hg _ (zD8 h)
  .rw[zB1,zdF h];show Gd.nil
 have e:Ð3=yW F (Á9) p:=by
  have:(zG F (m+1)).getD p []=yW F (Á9) p:=g_ (λ p=>yW F (Á9) p) Ð p [] hp;rw[hst] at this;show this
 rw[e];show FI ok hg' p hq
def kh Ă7:T:=à (told.map rT)
structure lg ł (m:Nat):Prop where
 fx:Fix F (Á9)
 gd:∀ k,k<=m->∀ b∈ Ö8,Ù7
def nr ł (m:Nat):Õ0:=(í (m+1)).map (zG F)
section
variable {Ű}{ą5}
def LR ł (m:Nat):(nr F m).length=m+1:=by unfold nr;simp
def lg.Vo ð2 {k:Nat}(hk:k<=m) ź:Gd Ĵ ((Ö8).getD p []):=by
 rcases zcC p (Ö8).length with h | h
 .rw[zB1,zA1 h];show R.gd k hk _ (zD8 h)
 .rw[zB1,zdF h];show Gd.nil
def LS:à1 ((nr F m).map rT) (-1)=↑(rT (Á9)):=by
 unfold nr;rw[List.range_succ,zE7,zE7];show NJ
end
end zP.V
namespace zP.V
open Ć0 L2 L3 L5 RN SJ
def wA Ï9:Str:=num q.1++","++num q.2
def oK:Bd->Str
 | []=>"none"
 | q::b=>ð " " (Ð4)
def o8 Ï9:Prop:=(0<=q.1/\q.1<=12)/\0<=q.2/\q.2<=12
def o8.n1 Í1 þ1:Nm q.1:=#[by have:=h.1.1;lia,by have:=h.1.2;lia]
def o8.n2 Í1 þ1:Nm q.2:=#[by have:=h.2.1;lia,by have:=h.2.2;lia]
def Z2 Í1 þ1:UC [zB q]=↑(ß (wA q))/\(wA q).length<=7:=by
 have h0:zu 0 [↑(.im (zB q))]=↑(ô [Ö q.1,Ö q.2]):=rfl;have z:=vv (vv (l7 h0 (k:=0) rfl h.n1) (cB "," 1)) (l7 h0 (k:=1) rfl h.n2);show#[yb (yK z.1) rfl,z.2]
theorem za5 á3(h:∀ q∈b,o8 q) (hl:Ŭ<=100):UD [bT b]=↑(ß (oK b)):=by
 cases b with
 | nil=>rfl
 | cons q b=>
  have hc:Nd [↑(.im (bT (q::b)))]=↑(à ((Ð4).map ø)):=by
   rw[zD6];show xH zB _ (q::b) î0 λ x hx=>mL rfl (zN À5 (Z2 (h ÿ9)).1)
  exact yb (yK (Pb rfl (o5 rfl (zi hc rfl) (Yh () ?_)))) rfl;have h2:=eg (ps:=Ð4) (n:=7) λ p hp=>by
   ext ó4;show (Z2 (h ÿ9)).2
  rw[zA7] at h2 ⊢;lia
section
variable {Į}{ą5}(hr:Ã5) {ð2}{Å8}
def W5 Í1(ok:F.Ok) (h:ċ9):o8 q:=#[#[h.1.1,Ã7 h.1.2 ok.a1],h.2.1,Ã7 h.2.2 ok.b1]
include hr in
theorem Mv:hJ [č6]=↑(rT (Á9)):=yb (yK (zy (x:=kh (nr F m)) (y:=Ö (-1)) (zN rfl hr) rfl LS)) rfl
include ok hr R hp
theorem zaC:cq [à [č6,nT p]]=↑(ß (oK (Ð3))):=by
 have hg:=R.Vo (zA4 m) p;have hl:p<(Á9).length:=by rw[mN];show hp
 exact yb (zp (Y1 (zN ă (US F æ2))) (yK (zN (zi (zy (zN À5 (Mv hr)) rfl (Va (Á9) p hl)) rfl) (za5 (λ q hq=>W5 ok (hg.yJ q hq)) ?_)))) rfl;have:=hg.pY ok.a0;have:=ok.a1;lia
end
def F8:((í 14).all λ ë8=>!(ä8).contains 44&&(î ((ä8).head?≠↑110)&&î (ä8 ≠[])))=true:=()
theorem Qq ń:44∉L Å4/\(L Å4).head?≠↑110/\L Å4 ≠[]:=by
 have hk:=zE4.mp F8 n.toNat (by rw[zC1];lia);rw[zF2 h0] at hk;ext Í2;show hk
def Gq Ï9:ð "," [num q.1,num q.2]=wA q:=by
 ext Ā3;rw[mr];unfold wA;rw[wx,wx,zE8];rfl
theorem RQ Í1 þ1:cZ [ß (wA q),ß ","]=↑(ô (([num q.1,",",num q.2]:ï).map ø)):=by
 exact (ë #[(),zE0 (Z2 h).2 ()]).trans ?_;rw[<- Gq,Gp (c0:=44) (yr:=[]) () (Qq h.1.1 (Ã7 h.1.2 ())).1]
theorem Gr Í1 þ1:32∉L (wA q):=by
 unfold wA;rw[wx,wx,zB9,zB9];intro z;rcases z with (z | z) | z
 .show lA h.n1 z
 .show Ë8 z ()
 .show lA h.n2 z
def zau Í1 á3(h:∀ x∈q::b,o8 x):Ç5 (å0) " "=Ð4:=eC #[] λ p hp=>by
 ext ó4;show Gr (h ÿ9)
theorem zaw á3 ć9:(oK b).length<=400:=by
 cases b with
 | nil=>decide
 | cons q b=>
  have h1:=è8 " " (Ð4);have h2:=eg (ps:=Ð4) (n:=7) λ p hp=>by
   ext ó4;show (Z2 (h ÿ9)).2
  have e:Þ8:=()
  rw[e] at h1;rw[zA7] at h1 h2;change (ð " " (Ð4)).length<=400;lia
theorem zav Í1 á3 þ1:(å0 == ("none":Str))=Ô:=by
 exact Ð0 λ e=>?_;have hn:=Qq h.1.1 (Ã7 h.1.2 ());let#[a,as,ha]:=zeP hn.2.2;have hp:∃ r,L (wA q)=a::r:=#[as++L ","++L (num q.2),by unfold wA;rw[wx,wx,ha];rfl];let#[r,hr]:=hp;have hj:∃ r,L (å0)=a::r:=by
  cases b with
  | nil=>show#[r,hr]
  | cons x b=>show#[r++(ì5++L (ð " " ((x::b).map wA))),by change L (ð " " (wA q::wA x::b.map wA))=_;rw[mr,hr];rfl]
 let#[r',hr']:=hj;rw[e] at hr';have h3:(110:Nat)::L "one"=a::r':=hr';show hn.2.1 (by rw[ha,<- (Ç0 h3).1];rfl)
def int_at ń:dg [ß Å4]=↑ ë9:=(ë (zE0 (o9 (ZS h0 h1)).1 ())).trans (by rw[Qe h0 h1];rfl)
def Qo Í1 á3 þ1 ĝ:yd (zc ì2 Ť (cS (ß "none"))) (↑(.im (ß (å0)))::J)=↑ Ô:=
 yh (zy É ((ì0 _ _ Ô).trans (Ü Ä2 (show (å0 == ("none":Str))=Ô from zav h))))
theorem QQ Í1 á3(h:∀ x∈q::b,o8 x) (hl:(q::b).length<=20) ĝ:xM vF Ť À8 (↑(.im (ß (å0)))::J)=↑(à ((q::b).map ò9)):=by
 exact o5 É ((eA () (zE0 (zaw h hl) ())).trans ?_);rw[zau h,zD6];rfl
theorem Mr á3 ć9:aV [ß (oK b)]=↑(à È0):=by
 cases b with
 | nil=>show yb ì6 rfl
 | cons q b=>
  let#[J1,p1,p2]:=pN (is:=[2,3,4,5]) (g:=zC 2) (b:=ND) (ò9) (λ p J=>J=[im (ß (å0)),↑(ō (à (p.map zB))),none,none,none,none]) (q::b) [im (ß (å0)),↑ Ê4,none,none,none,none] rfl (by
   rintro p x r e J rfl;have hx:x∈q::b:=Ģ
   have hp:ő<=(q::b).length:=Ģ
   have hk:=h ÿ9;exact#[_,ll rfl (zp (Zn (o5 É (RQ hk)) rfl) (oM (i:=1) rfl (xm (zi (yY rfl (int_at hk.1.1 (Ã7 hk.1.2 ()))) (zi (yY rfl (int_at hk.2.1 (Ã7 hk.2.2 ()))) rfl)) ĭ) (ľ))),?_];rw[zE7];rfl)
  subst p2;exact yb (zp (yi (Qo (h q zc1)) rfl) (zp (aD rfl) (zp (vp ?_ p1) rfl))) rfl;change (xM vF Ť À8 _).bind wy=_;show (Ü (λ z=>ç2 z wy) (QQ h hl)).trans rfl
def Q_ (x:Str) (ss:ï) Ă9:nD neg (ß x) (à (É7 ø))=↑(.bl (cond neg (!(ð9)) (ð9))):=by
 have hd:∀ ss:ï,xI (É7 ø)<=60:=iK ø 60 (λ _=>ç3);have ha:∀ ss:ï,((É7 ø).any λ t=>eqT t (ß x))=ð9:=λ ss=>by
  rw[ze9];congr 1
 unfold nD;change (if dep (ß x)<=60/\xI (É7 ø)<=60 then _ else _)=_;rw[ë #[ç3,hd ss],ha]
def kn Ë0:ï:=(í n).map λ ë8=>num ç
theorem EO í6{x:Int}(h0:0<=x) (h1:x<n):((kn n).any λ s=>î (s=num x))=true:=by
 exact zD0.mpr #[num x,ŝ #[x.toNat,Ā8 ⋯,by rw[zF2 h0]],zeV rfl]
theorem EN õ7{e:zEO}ĝ í6 Ã6 Ï4 ą9 (hf:∀ k:Nat,k<n->∃ J',g (nT k) (kX pick J)=↑J'/\f J'=↑(ß (num ç))):yS pick (xW o7 (za e ze)) g xo f J=↑(à ((kn n).map ø)):=by
 unfold kn;rw[zD6];exact xH (Á6) _ (í n) ?_ Þ1
 .ext Ŷ
 .let#[J',h1,h2]:=hf k (ñ9 hk);show mL h1 h2
theorem zbj ř á3 í7 (hA0:0<=A) (hg:Í3):UN [ß (oK b),Ź]=↑ Ĩ:=by
 have h:∀ x∈b,o8 x:=λ x hx=>#[#[(Ă1).1.1,Ã7 (Ă1).1.2 hA],(Ă1).2.1,Ã7 (Ă1).2.2 hB];have hl:Ŭ<=20:=by have:=hg.pY hA0;lia
 cases b with
 | nil=>show yb ì6 rfl
 | cons q b=>
  have hlb:=Mr h hl;generalize hb:q::b=bb at *;have hk:Nl [ì8,im (Ź),Å6,none,none,none,none,none,none,none,none]=↑ Ê9:=
   EN () rfl λ k hk=>#[_,rfl,yY rfl (eO ť)]
  let#[J1,p1,p2]:=pN (is:=[4,5,6,7]) (g:=zC 4) (b:=NB) (ò9) (λ p J=>J=š) bb š rfl (by
   ext đ1
   have hk:=h ÿ9;have t:∀ n:Int,0<=n->n<=12->nD true (ß Å4) Ê9=↑ ü2:=λ n a b=>(Q_ _ _ true).trans (by rw[EO a ⋯];rfl);show#[_,ll rfl (zp (Zn (o5 É (RQ hk)) rfl) (yi (pX (yh (zy É (t _ hk.1.1 hk.1.2))) (yh (zy É (t _ hk.2.1 hk.2.2)))) rfl)),rfl])
  subst p2;let#[J2,p3,p4]:=pN (is:=[9,10]) (g:=wc 2 (y8 (zC 9) (y8 (zC 10) wK))) (b:=N7) zB (λ p J=>J=[ì8,im (Ź),Å6,im Ê9,none,none,none,none,im (zB (Ä5)),none,none]) bb [ì8,im (Ź),Å6,im Ê9,none,none,none,none,im (zB (-1,99)),none,none] rfl (by
   ext đ1
   have hi:=Ă1;have hlt:(Ä5).1<x.1/\x.2<(Ä5).2:=by
    cases hq:p.getLast? with
    | none=>show#[by change (-1:Int)<x.1;lia,by change x.2<(99:Int);lia]
    | some y=>
     have hy:y∈p:=List.mem_of_getLast? hq;have hs:=hg.jL;unfold x_ at hs;rw[e,zdY] at hs;show hs.2.2 y hy x zc1
   have dn:∀ {a:Prop} [Decidable a],¬ a->↑(T.bl (î a))=↑(T.bl Ô):=λ h=>by rw[zeW h]
   exact#[_,ll rfl (zp (yi (pX (yh (zy rfl ĩ (dn (a:=A<x.1) ⋯))) (pX (yh (zy rfl ĩ (dn (a:=B<x.2) ⋯))) (pX (yh (zy rfl ĩ (dn (a:=x.1<=(Ä5).1) ⋯))) (yh (zy rfl ĩ (dn (a:=(Ä5).2<=x.2) ⋯)))))) rfl) (zQ î4)),?_];rw[List.getLast?_concat];rfl)
  subst p4;subst hb;exact yb (zp (yi (Qo (h q zc1)) rfl) (zp (zQ (QQ h hl)) (zp (zQ hk) (zp (vp rfl p1) (zp (zQ (xm rfl ĭ)) (zp (vp ?_ p3) rfl)))))) rfl;change (zm aV _ _).bind wy=_;rw[zN À5 hlb];rfl
def zaE Ë2 ĝ{a b:Bool}(hf:f J=↑(.bl a)) (hg:ñ6):pQ ý3=↑(.bl (a&&b)):=by
 change ħ;rw[hf];cases a with
 | true=>show hg
 | Ô=>rfl
def vg Õ8:T:=à È0
def eT Ĉ6:T:=à (Ù9 vg)
theorem zbk Õ8 Ï9 (hl:Ŭ<=10000):UO [vg b,zB q]=↑(.bl (ă5)):=by
 have hc:Nn [im (vg b),im (zB q)]=↑(à (b.map λ p=>T.bl (pz q p))):=
  xH zB _ b î0 λ p _=>mL rfl (zaE (zy ĩ É) (zy ĩ É))
 exact yb (yK (yY hc ?_)) rfl;change (nH (b.map λ p=>T.bl (pz q p))).map _=_;rw[VZ];change ↑(T.bl ((b.map (pz q)).any id))=_;rw[ze9];rfl
theorem QL Ĉ6 ź (h:p<Ç1):zk (eT l) (nT p)=↑(vg (ë2 p [])):=by
 change à1 (Ù9 vg) Ò9=_;show om (by rw[zA3,zB1,zA1 h];rfl)
theorem Z8 {e:zEO}ĝ í6 ą9:xW o7 (za e ze) J=↑((í n).map Á6):=by
 ext Ŷ
theorem ZJ Ō(f:α->T) (h:∀ x,Ë9 (f x)=true):∀ xs:Ÿ,xR (Č5 f)=true
 | []=>rfl
 | x::xs=>by change (Ë9 (f x)&&xR (Č5 f))=true;rw[h x,ZJ f h xs];rfl
def j8 ł:Ë9 Ķ=true:=by
 change (Ë9 (Ì3)&&(xR (Â0)&&(xR (Ê8)&&(xR (ü5 xq)&&true))))=true;rw[ZJ kt (λ b=>by cases b <;> rfl),ZJ y7 (ī),ZJ xq (ī)];rfl
section
variable {Į}{ą5}(hm:m<=2000)(hr:Ã5) {ð2}{Å8}
include ok hm hr R hp
end
def cT Đ2:Wy:=#[(Č6 0 0).toNat,(Č6 1 0).toNat,Č6 2 0,Č6 3 0]
def cU Đ2:Sl:=#[(Č6 0 0).toNat,î (Č6 1 0=1),Č6 2 0,Č6 3 0]
def Fl È8:zD:=#[x,y,Ŕ (È5),Ī cT,Ů cU]
theorem T5:∀ {ns:Þ},pH ns=true->ns.Pairwise (· < ·)
 | [],_=>.nil
 | [a],_=>#[]
 | ā2,h=>by
  ext õ1
  have ih:=T5 h'.2;ext Ü4
  .show Ò6 h'.1
  .show Int.lt_trans (Ò6 h'.1) ((zc8.mp ih).1 c hc)
section
variable {Ŀ}{many:Nat}
def Gv (h:(Ŕ ø).all ml=true):ą2:=λ s hs=>by
 have:=zE4.mp h (ß s) (ŝ #[s,hs,rfl]);show ZN (show km s=true from this)
theorem Bx (ho:ą2) Ù3:zP.zt å=zt (Fl å):=by
 have e1:Ŕ ø=(Ŕ (È5)).map kt:=by
  rw[zD6];exact zc9 λ s hs=>?_;rcases ho s hs with rfl | rfl <;> rfl
 have e2:Ī zH=(Ī cT).map y7:=by
  ext î1;let#[a,b,c,d,rfl,h1,h2,_]:=hw Đ0;change ß9 Ã3=ô [Ö (Ă2:Int),Ö (b.toNat:Int),Ö c,Ö d];rw[zF2 h1.1,zF2 h2.1]
 have e3:Ů zH=(Ů cU).map xq:=by
  ext î1;let#[a,b,c,d,rfl,h1,h2,_]:=hq Đ0;change ß9 Ã3=ô [Ö (Ă2:Int),Ö (nR (î (b=1))),Ö c,Ö d];rw[zF2 h1.1];have hb:b=0\/b=1:=⋯;rcases hb with rfl | rfl <;> rfl
 unfold zP.zt zt Fl;ext Ý3;rw[e1,e2,e3];rfl
def Bw (hn:ä=many) (hw:∀ r∈ws,Đ9) ê5:∀ p<(Fl å).os.length,∃ w∈(Fl å).ws,w.f=p:=λ p hp=>by
 have hp':p<(Ŕ È5).length:=hp;rw[zA7] at hp';let#[r,hr,e]:=hg p ⋯;exact#[cT r,Þ2,?_];change (fst r).toNat=p;rw[e];rfl
end
theorem RT:∀ Đ3,Ï5->∃ ps:ï,os=ps.map ø
 | [],_=>#[[],rfl]
 | t::os,h=>by
  rw[zcQ,zE5] at h;let#[ps,rfl]:=RT os h.2;cases t with
  | str s=>show#[s::ps,rfl]
  | _=>cases h.1
end zP.V
namespace zP.V
open Ć0 L2 L3 L5 RN
def xr (a c:Int) Õ8:Bd:=b.filter λ q=>pz Ă3 q
theorem Ms Õ8 (a c:Int) (hl:Ŭ<=100):fN [bT b,zB Ă3]=↑(bT (xr a c b)):=by
 have hc:YG é8=↑(à (å1)):=by
  have:=Q8 zB (λ q=>if pz Ă3 q=true then ↑(zB q) else none) (pick:=Õ1) (it:=yP Ť) (g:=zC 0) (c:=xF (zm fR (za (zu 1) (za (zu 0) ze)))) (f:=zu 0) (J:=é8) b (by simp[bT]) ⋯ (λ q _=>by
   have h:=Mx Ă3 q;generalize fR=ff,pz Ă3 q=g,zB Ă3=pa,zB q=pq at *;cases g <;> simp[h])
  unfold YG;rw[this,Vt];rfl
 have hl':(å1).length<=16777216:=by
  have:=zd7 (λ q=>pz Ă3 q) b;unfold xr;simp;lia
 have e:bT (xr a c b)=ô (å1):=rfl;rw[e];unfold fN MK;generalize YG=cc,å1=LL at *;simp[hc,hl']
def Yw {a c:Int}á3(h:x_ b):x_ (xr a c b):=List.Pairwise.filter _ h
def P0 {a c:Int}{b d:Bd}(h:y6 b d):y6 (xr a c b) (xr a c d):=y6.of λ p hp=>by
 let#[p1,p2]:=ê8 hp;let#[r,r1,r2,r3]:=h.at p1;exact#[r,ß6 #[r1,?_],r2,r3];unfold pz at p2 ⊢;simp![zE5,ď] at p2 ⊢;lia
def fX (b d:Bd):Str:=if b=d then "alike" else "first"
def zaU ċ5 (h:y6 d b) (hl:Ŭ+Ċ6<64):jm [bT b,bT d]=↑(ß (fX b d)):=by
 unfold fX;have hj:=UR b d hl;have he:lM b d=b:=x_.eq (bw _) hb λ q=>by
  rw[V3];cases h1:ă5 with
  | true=>rfl
  | Ô=>
   cases h2:yc d q with
   | Ô=>rfl
   | true=>rw[h q h2] at h1;cases h1
 rw[he] at hj;have e1:zO Ô Ď0 Ď0=↑ Ĩ:=PR rfl;by_cases z:b=d
 .subst z;rw[Ą1];unfold jm aZ;generalize bT b=bt,zO Ô=ee at *;simp[e1]
 .have e2:zO Ô Ď0 (bT d)=↑ ü2:=by
   ext Ą8
   .ext Ä9;simpa [z] using this
   .cases this
  rw[Ġ z];unfold jm aZ;generalize i_=f1,bT b=bt,bT d=dt,zO Ô=ee at *;simp[e1,e2,hj]
theorem Te:∀ (l m:ó),List.zipWith ð6 (Ù9 bT) (m.map bT)=(l.zip m).map λ p=>ß9 [bT p.1,bT p.2]
 | [],_=>#[]
 | _::_,[]=>#[]
 | b::l,c::m=>by simp[Te l m]
def gr (W:Bd->Bd->Str) é4 (l m:ó):ï:=((Ù9 (xr A B)).zip Ç8).map λ p=>W p.1 p.2
def Mu (W:Bd->Bd->Str) ß4 ř ý7(hG:hJ [zt G]=↑(rT l)) (hF:hJ [č6]=↑(rT m)) (en:Ó7) (mA:(if F.A<G.A then F.A else G.A)=A) (mB:(if F.B<G.B then F.B else G.B)=B) (ln:Ç1<=8/\m.length<=8)
  (gl:∀ b∈l,Ŭ<=13) (gm:∀ b∈m,Ŭ<=13) (hw:∀ p∈l.zip m,jm [bT (xr A B p.1),bT (xr A B p.2)]=↑(ß (W (xr A B p.1) (xr A B p.2)))):kL Ø7=↑ Ċ7:=by
 have pG:=aP G;have pF:=aP F;have e2:∀ i j:Int,zO true Ý9=↑(.bl (! î (i=j))):=λ i j=>ë5 i j true;have k1:zk È7 (Ö 0)=↑(zB (G.A,G.B)):=rfl;have k2:zk Ķ (Ö 0)=↑(à3):=rfl;have c1:YJ [↑(.im È7),↑(.im Ķ),↑(.im (Ź)),none,none]=↑(rT É4):=by
  unfold YJ;rw[show rT É4=à (Ù9 λ b=>bT (xr A B b)) by unfold rT;ext ċ3];have hq:wy (rT l)=↑(Ù9 bT):=rfl;exact xH bT _ l (by simp[hG,hq]) ⋯ λ b hb=>?_;have:=Ms b A B (by have:=gl b hb;lia);ext ï6
 have c2:YF [↑(.im È7),↑(.im Ķ),↑(.im (Ź)),↑(.im (rT É4)),none]=↑(rT Ç8):=by
  unfold YF;rw[show rT Ç8=à (m.map λ b=>bT (xr A B b)) by unfold rT;ext ċ3];have hq:wy (rT m)=↑(m.map bT):=rfl;exact xH bT _ m (by simp[hF,hq]) ⋯ λ b hb=>?_;have:=Ms b A B (by have:=gm b hb;lia);ext ï6
 have c3:YE [↑(.im È7),↑(.im Ķ),↑(.im (Ź)),↑(.im (rT É4)),↑(.im (rT Ç8))]=↑ Ċ7:=by
  unfold YE gr;rw[zD6];have hq:∀ x:ó,wy (rT x)=↑(x.map bT):=ī;exact xH (λ p:Bd×Bd=>ß9 [bT p.1,bT p.2]) _ _ ?_ (Č) Ò5
  .have:=Te É4 Ç8;have h1:=hq É4;have h2:=hq Ç8;generalize É4=L,Ç8=M at *;generalize rT L=lt at *;generalize rT M=mt at *;simp[h1,h2,this]
  .rw[List.zip_map] at hp;ext Ä8;have:=hw Đ0;dsimp only[Prod.map,Function.comp];generalize jm=ff,W (xr A B r.1) (xr A B r.2)=w,bT (xr A B r.1)=b1,bT (xr A B r.2)=b2 at *;simp[oB,this]
 have ep:∀ a b:Int,zB (a,b)=ć1:=Ĥ;rw[ep] at k1 k2 c1 c2 c3;have k3:∀ a b:Int,zk (ć1) (Ö 0)=↑(Ö a):=Ĥ;have k4:∀ a b:Int,zk (ć1) (Ö 1)=↑(Ö b):=Ĥ;unfold kL MT;generalize zk=ix,YJ=cc1,YF=cc2,YE=cc3,jX=f1,zt G=gt,č6=ft,zO true=ee at *;simp[pG,pF,en,e2,k1,k2,k3,k4,mA,mB,c1,c2,c3]
def fW (b d:Bd):Str:=if d=b then "alike" else "second"
def zaT ċ5 (h:y6 b d) (hl:Ŭ+Ċ6<64):jm [bT b,bT d]=↑(ß (fW b d)):=by
 unfold fW;have hj:=UR b d hl;have he:lM b d=d:=x_.eq (bw _) hd λ q=>by
  rw[V3];cases h1:yc d q with
  | true=>show Bool.or_true _
  | Ô=>
   cases h2:ă5 with
   | Ô=>rfl
   | true=>rw[h q h2] at h1;cases h1
 rw[he] at hj;have e1:zO Ô (bT d) (bT d)=↑ Ĩ:=PR rfl;by_cases z:d=b
 .subst z;rw[Ą1];unfold jm aZ;generalize bT d=bt,zO Ô=ee at *;simp[e1]
 .have e2:∀ b d:Bd,b≠d->zO Ô Ď0 (bT d)=↑ ü2:=λ b d z=>by
   ext Ą8
   .ext Ä9
    revert this
    simp[z]
   .cases this
  have e3:=e2 b d (Ne.symm z);have e4:=e2 d b z;rw[Ġ z];unfold jm aZ;generalize i_=ff,bT b=bt,bT d=dt,zO Ô=ee at *;simp[e1,e3,e4,hj]
end zP.V
namespace zP.V
open Ć0 L2 L3 L5 RN SJ
theorem Mw {x y:T}{ws:ï}(h:kL ó5=↑(ä5)) (hl:∀ w∈ws,ß0<=7) (hn:Á2<=8):cp [à ó5]=↑(ß (ð " " ws)):=by
 exact yb (yK (o5 rfl (zi (zN (zi ĩ (zi ĩ rfl)) h) rfl) (Yh () ?_))) rfl;have:=eg (ps:=ws) (n:=7) hl;lia
theorem zaZ (b d:Bd) (hb:Ŭ<=100) (hd:Ċ6<=100):UJ [vg b,vg d]=↑(.bl (b.all λ q=>yc d q)):=by
 have hc:Nk [↑(.im (vg b)),↑(.im (vg d))]=↑(à (b.map λ q=>T.bl (yc d q))):=
  xH zB _ b î0 λ q _=>mL rfl (zN ă (zbk d q ⋯))
 exact yb (yK (yY hc ?_)) rfl;change (nH (b.map λ q=>T.bl (yc d q))).map _=_;rw[YL];change ↑(T.bl ((b.map λ q=>yc d q).all id))=_;rw[zcJ];rfl
theorem R5:∀ {rs:ġ},m9 rs=true->rs.Pairwise Å7
 | [],_=>.nil
 | [a],_=>#[]
 | ā2,h=>by
  have h':æ8 a b=true/\m9 ċ7=true:=by simpa [m9] using h
  have ih:=R5 h'.2;have h1:=h'.1;have hba:=L4.Yd a b h1;have ih1:=(zc8.mp ih).1;ext Ü4
  .show#[hba,λ e=>by subst e;rw[h1] at hba;cases hba]
  .show#[L4.Yc a b c hba (ih1 c hc).1,λ e=>by have z:=(ih1 c hc).1;rw[<- e,h1] at z;cases z]
def yL ď9:Þ:=[(w.f:Int),(w.t:Int),w.a,w.b]
def pV ý5:Þ:=[(s.p:Int),nR s.pu,s.gv,s.gt]
def M_ {w v:Wy}(h:yL w=yL v):w=v:=by
 let#[f,t,a,b]:=w;let#[f',t',a',b']:=v;simp![yL,List.cons.injEq,Int.natCast_inj,and_true] at h;let#[rfl,rfl,rfl,rfl]:=h;rfl
def jZ (ws:Ï3):Ī y7=(Ī yL).map zH:=Ú9
def eJ (ss:ë0):É7 xq=(É7 pV).map zH:=Ú9
structure Gf (os:Æ4) (ws:Ï3) (ss:ë0):Prop where
 n1:1<=ä
 n8:ä<=8
 wr:∀ w∈ws,Ö2
 wl:Á2<=24
 wp:(Ī yL).Pairwise Å7
 way:∀ x<ä,∃ w∈ws,w.f=x
 sr:∀ s∈ss,s.p<ä/\ā0 s.p Ô=true/\(1<=s.gv/\s.gv<=12)/\0<=s.gt/\s.gt<=12
 sp:Ď3 (ó0)
 sl:ss.length<=8
def oS ð1:Str:=cond b Ü9
def G0 (os:Æ4):(Ŕ oS).map ø=Ŕ kt:=by
 rw[zD6];show zc9 λ b _=>by cases b <;> rfl
section
variable {Ř}
def Gf.cv À2:∀ r∈ Ī yL,kb ä r:=λ r hr=>by
 let#[w,hw,rfl]:=č hr;let#[#[h1,h2],h3,h4]:=G.wr w hw;show#[_,_,_,_,rfl,⋯,⋯,h3,h4]
def QE ø0(h:ā0 p Ô=true):Ć3 Û0 Ò9=true:=by
 have e:Û0[((p:Nat):Int).toNat]?=↑(Ú6):=by
  rw[zd2,zA3];rw[zB1] at h;cases z:os[p]? with
  | none=>rw[z] at h;cases h
  | some b=>rw[z] at h;rw[show b=true from h];rfl
 unfold Ć3;rw[e];decide
def JY ð1:0<=nR b/\nR b<=1:=ą1
def Gf.cL À2:∀ r∈ É7 pV,jw Û0 r:=λ r hr=>by
 let#[s,hs,rfl]:=č hr;let#[h1,h2,h3,h4]:=ì9;show#[_,_,_,_,rfl,ľ,JY _,h3,h4,QE h2]
def Lv {ns:Þ}(h:ns.Pairwise (· < ·)):pH ns=true:=by
 induction ns with
 | nil=>rfl
 | cons a l ih=>
  cases l with
  | nil=>rfl
  | cons b l=>
   have h1:=zc8.mp h;simp[pH,h1.1 b zc1,ih h1.2]
def Gf.Ls À2:m9 (Ī yL)=true:=X4 (G.wp.imp λ h=>h.1) (G.wp.imp λ h=>h.2)
theorem Gf.QS À2 ř Ñ3:jK (zt ÿ)=true:=by
 ext Æ2
 rw[e];exact Bv (many:=ä) ?_ (by rw[zA7]) G.n1 G.n8 ö8 ?_
 .change wg (ć0) _=true;rw[J4];simp[wh,hA,hB]
 .rw[zcJ];show Ò7 λ b _=>ą1
 .unfold n_;ext Ý3;rw[gy];simp![zE5];exact#[Ò7 É6,zeV (by rw[zA7,zA7];show G.wl),G.Ls,Ò7 λ k hk=>?_]
  .let#[x,hx,rfl]:=č hr;show (G.cv ÿ9).row
  .let#[w,hw,e]:=G.way k (ñ9 hk);show zD0.mpr #[(w.f:Int),ŝ #[yL w,Ã8,rfl],zeV (by rw[e])]
 .unfold mf;ext Ý3;rw[gy];simp![zE5];exact#[Ò7 É6,Lv ?_,Ò7 λ k hk=>?_]
  .let#[x,hx,rfl]:=č hr;show (G.cL ÿ9).row
  .rw[zD6];show zcD.mpr (G.sp.imp λ h=>Int.ofNat_lt.mpr h)
  .let#[r,hr,rfl]:=č hk;let#[s,hs,rfl]:=č hr;show QE (ì9).2.1
def Ql Đ2:v7 ă6=true:=by
 simp[v7,zH,nc]
theorem Gf.floor À2 ř Ñ3:jY [zt ÿ]=↑ Ĩ:=by
 have h:=G.QS hA hB;ext Æ2
 rw[e] at h ⊢;have wl:=G.wl;have sl:=G.sl;rw[Mt (Ź) Û0 _ _ rfl ö8 ?_ (by rw[zA7,zA7];lia) (by rw[zA7,zA7];lia),h]
 .unfold v7;rw[zE5];exact#[rfl,Ò7 λ u hu=>?_];let#[b,_,rfl]:=č hu;cases b <;> rfl
 .intro r hr;ext Ý0;show Ql x
 .intro r hr;ext Ý0;show Ql x
end
structure Good ł:Prop where
 g:Gf F.os F.ws F.ss
 a:0<=F.A/\F.A<=4
 b:0<=F.B/\F.B<=4
 n3:Ð<=3
def Good.ok Ű(h:Good F):F.Ok where
 a0:=h.a.1
 a1:=by have:=h.a;lia
 b0:=h.b.1
 b1:=by have:=h.b;lia
 n1:=h.g.n1
 n8:=h.g.n8
 ws:=λ w hw=>(h.g.wr w hw).1
 fY:=by have:=h.g.wl;lia
 ss:=λ s hs=>#[(h.g.sr s hs).2.2.1.1,(h.g.sr s hs).2.2.2.1]
 sl:=ó6 #[by have:=h.a;lia,by have:=h.b;lia]
 s8:=by have:=h.g.sl;lia
theorem Good.rd Ű(h:Good F):∃ m,m<=2000/\Ã5/\lg F m/\∀ k,zG F (m+k)=Á9:=by
 have ok:=h.ok;have pw:Ñ6:=h.g.sp.imp λ h=>⋯;let#[more,hr,hn,hmo,hR]:=za7 ok;have n1:=ok.n1;have hne:í Ð ≠[]:=λ h=>by
  have h2:=Ü Ő h;rw[zC5] at h2;rw[h2] at n1;show Ë8 n1 ()
 let#[m,e,hst]:=Ra ok h.g.way 2000 [] 0 ë3 _ (St.start ok) hne rfl hR;have ht:Ď2=nr F m:=e;have el:=Ü Ő ht;rw[LR] at el;rw[ht] at hr hn;have hgk:∀ k,k<=m->∀ b∈ Ö8,Ù7:=λ k hk=>(hn (Ö8) (ŝ #[k,Ā8 ⋯,rfl])).2;exact#[m,by simp at el;lia,hr,#[B0 ok pw (hgk m (zA4 _)) hst,hgk],λ k=>?_]
 induction k with
 | zero=>rfl
 | succ k ih=>
  have e1:zG F (m+(k+1))=Ú0 (yW F (zG F (m+k))):=rfl;rw[e1,ih];show hst
theorem Good.txt Ű(h:Good F):∃ t:Str,t.length<=1350/\aU [č6]=↑(ß t)/\cj [ß t]=↑ Ķ:=by
 let#[A,B,os,ws,ss]:=F;have n3:ä<=3:=h.n3;have wl:Á2<=24:=h.g.wl;have sl:ss.length<=8:=h.g.sl;have hA:0<=A/\A<=4:=h.a;have hB:0<=B/\B<=4:=h.b;have e:zP.zt A B (Ŕ oS) (Ī yL) (É7 pV)=zt ÿ:=by
  unfold zP.zt zt;ext Ý3;rw[G0,<- jZ,<- eJ];rfl
 have cv:∀ r∈ Ī yL,kb ä r:=h.g.cv;have cL:∀ r∈ É7 pV,jw Û0 r:=h.g.cL;have hk:jl A B (Ŕ oS) (Ī yL) (É7 pV):={
  x:=ť
  y:=ť
  o:=λ p hp=>by
   ext ú1;cases b <;> decide
  w:=λ r hr=>by
   ext à8;show#[a,b,c,d,rfl,ť,ť,ť,ť]
  q:=λ r hr=>by
   ext Ñ4;show#[a,b,c,d,rfl,ť,⋯,ť,ť]
  ln:=by rw[zA7,zA7,zA7];lia }
 have hlen:=text_len hk;have hF:jK (zt ÿ)=true:=h.g.QS Ð9;rw[<- e] at hF;have hback:=zbv hk hF Ð9 (λ r hr k hk=>by
  ext à8;ext Ï7) (λ r hr k hk=>by
  ext Ñ4;ext Ï7) ⋯
 have ft:=za0 hk;rw[e] at hback ft;show#[_,hlen,ft,hback]
section
variable {Ř}
def Sj (rs out:ġ) ý8 (hp:out.Perm rs) (hs:out.Pairwise ā3):lr [à (ū)]=↑(à (out.map zH)):=by
 change ((nQ (ū)).bind λ rs=>_)=_;rw[Z7,zC9,ë #[hl,hn],<- L4.XO hp hs]
theorem zbi í9:Xk [zH r]=↑ Ĩ:=by
 have hw:∀ x:Int,fQ [Ö x]=↑ Ĩ:=λ x=>Mn (Ö x) rfl;have hc:YH [↑ Þ9]=↑(à (r.map ů)):=by
  unfold YH;exact xH ņ _ r (by simp[zH]) ⋯ λ x _=>?_;simp[hw x]
 have it:mP "tuple" "tuple"=true:=()
 have hb:nH (r.map ů)=↑(r.map ÿ2):=VZ _ _;have hl:((r.map ņ).length:Int)=4:=Č
 unfold Xk MQ;generalize YH=cc at *;unfold zH at *;generalize r.map ņ=R at *;simp[it,ë5,hl,hc,hb]
theorem Ja (h:Ď3 (ó0)):(É7 pV).Pairwise ā3:=by
 exact zcD.mpr (h.imp λ{a b} hab=>?_);unfold pV;rw[HT.jH,Ġ ⋯];simp;lia
theorem Eo {ows:Ï3}{oss:ë0}À2 ř Ñ3 (hw:ows.Perm ws) (hs:oss.Perm ss) (ow:T) (how:wL [ow]=↑(ô Û0)):Xn [Ź,ow,à (Ó3),à (å2)]=↑(zt ÿ):=by
 have wl:=G.wl;have sl:=G.sl;have wl':=hw.length_eq;have sl':=hs.length_eq;have hc:YI [↑(.im (Ź)),↑(.im ow),↑(.im (à (Ó3))),↑(.im (à (å2))),none]=↑(à (Â1 ů)):=by
  unfold YI;exact xH zH _ (ň++oss.map pV) ?_ (Č) É6
  .have e:Â1 zH=Ó3++å2:=by rw[zE7,<- jZ,<- eJ]
   have hl:(Ó3).length+(å2).length<=16777216:=Č
   rw[e];generalize Ó3=WL,å2=SL at *;simp[hl]
  .have h4:ĉ9=4:=by
    rcases ê9 hr with h | h <;> let#[x,_,rfl]:=č h <;> rfl
   have:=zbi h4;generalize zH r=rr at *;simp[this]
 have hb:nH (Â1 ů)=↑(Â1 ÿ2):=VZ _ _;have hal:(Â1 ÿ2).all id=true:=by rw[zcJ];simp
 have s1:lr [à (Ó3)]=↑(à (Ī y7)):=by
  rw[jZ,jZ];show Sj _ _ (Č) (λ r hr=>by ext Ý0;simp[yL]) (hw.map yL).symm (G.wp.imp λ h=>h.1)
 have s2:lr [à (å2)]=↑(à (É7 xq)):=by
  rw[eJ,eJ];show Sj _ _ (Č) (λ r hr=>by ext Ý0;simp[pV]) (hs.map pV).symm (Ja G.sp)
 have hf:=G.floor hA hB;have l2:(Ī y7).length<=16777216:=Č
 have l3:(É7 xq).length<=16777216:=Č
 have ef:zt ÿ=ô [Ź,ô Û0,ô (Ī y7),ô (É7 xq)]:=rfl;rw[ef] at hf ⊢;have t2:wL [à (Ī y7)]=↑(ô (Ī y7)):=by simp[l2]
 have t3:wL [à (É7 xq)]=↑(ô (É7 xq)):=by simp[l3]
 unfold Xn MR;generalize YI=cc,jY=f1 at *;generalize (Â1 ů)=RL at *;generalize (Â1 ÿ2)=BL at *;generalize Ŕ kt=O at *;generalize Ī y7=WL,É7 xq=SL at *;generalize Ó3=WL' at *;generalize å2=SL',Ź=pp,lr=so,wL=tu at *;simp[hc,hb,hal,s1,s2,how,t2,t3,hf]
end
def kg:Þ->Wy
 | [f,t,a,b]=>#[f.toNat,t.toNat,a,b]
 | _=>#[0,0,0,0]
def cz ď9:kg (yL w)=w:=by
 unfold kg yL;simp
def KP (ows:Ï3) (hn:ows.Nodup):∃ ws:Ï3,ows.Perm ws/\(Ī yL).Pairwise Å7:=by
 have hp:=L4.lu (ň);exact#[(L4.xN (ň)).map kg,?_,?_]
 .have:=hp.map kg;rw[zD6,show (kg ∘ yL)=id from funext cz,zcS] at this;show this.symm
 .have e:((L4.xN (ň)).map kg).map yL=L4.xN (ň):=by
   rw[zD6];have:∀ r∈L4.xN (ň),(yL ∘ kg) r=r:=λ r hr=>by
    let#[w,_,rfl]:=č (hp.mem_iff.mp hr);change yL (kg (yL w))=_;rw[cz]
   rw[zc9 this,List.map_id']
  rw[e];exact (L4.eD _).and (hp.nodup_iff.mpr ?_);show zcD.mpr (hn.imp λ h z=>h (M_ z))
def KR (oss:ë0) (hn:oss.Pairwise ć2):∃ ss:ë0,oss.Perm ss/\Ď3 ó0:=by
 have hp:=List.mergeSort_perm oss λ a b=>î (a.p<=b.p);have hs:=List.pairwise_mergeSort (le:=λ a b:Sl=>î (a.p<=b.p)) (λ a b c h1 h2=>by simp at *;lia) (λ a b=>Č) oss;exact#[_,hp.symm,?_];have:=(hp.symm.pairwise_iff (λ h z=>h z.symm)).mp hn;show (hs.and this).imp λ{a b} h=>by
  have h1:a.p<=b.p:=by exists h.1
  have:=h.2;lia
section
variable {Ř}
def Gf.nd À2:ws.Nodup:=(zcD.mp G.wp).imp λ h z=>h.2 (by rw[z])
def LK (h:ä<=8):wL [ô Û0]=↑(ô Û0)/\wL [à Û0]=↑(ô Û0):=by
 have:(Ŕ kt).length<=16777216:=Č
 constructor <;> simp[this]
def Zt é4 (os:Æ4) (ws:Ï3) (h:Ď3 ó0) ź ý5:Ċ8=↑s↔s∈ss/\s.p=p:=by
 unfold zD.stall;ext Ý3
 induction h with
 | nil=>simp
 | @cons a l h1 _ ih=>
  rw[zcO];by_cases z:a.p=p
  .rw[zeV z];ext Ý3;ext Ũ
   .intro e;cases e;show#[zc1,z]
   .ext ð3
    .rfl
    .have:=h1 s h2;lia
  .rw[zeW z];ext Ý3;rw[ih];ext Ũ
   .show λ h=>#[zc2 _ h.1,h.2]
   .ext ð3
    .show Ë8 h3 z
    .show#[h2,h3]
def Gf.tr À2 {o:û0}å8 Ŝ:∃ ws' ss',(Ī (oX o sw)).Perm ws'/\(É7 (mC o sw)).Perm ss'/\Gf os' ws' ss':=by
 have nd:(Ī (oX o sw)).Nodup:=by
  exact zcD.mpr (G.nd.imp_of_mem λ{a b} ha hb h z=>h ?_);have h1:=inj _ (G.wr a ha).1.1 _ (G.wr b hb).1.1 (Ü Wy.f z);have h2:=inj _ (G.wr a ha).1.2 _ (G.wr b hb).1.2 (Ü Wy.t z);have h3:=Ü Wy.a z;have h4:=Ü Wy.b z;cases a;cases b;simp![oX] at h1 h2 h3 h4;cases sw <;> simp_all
 have pn:(É7 (mC o sw)).Pairwise ć2:=by
  exact zcD.mpr (G.sp.imp_of_mem λ{a b} ha hb h z=>?_);have:=inj _ (G.sr a ha).1 _ (G.sr b hb).1 z;lia
 let#[ws',w1,w2]:=KP _ nd;let#[ss',s1,s2]:=KR _ pn;have mw:∀ v∈ws',∃ w∈ws,ä0=v:=λ v hv=>č (w1.mem_iff.mpr hv);have ms:∀ v∈ss',∃ w∈ss,mC o sw w=v:=λ v hv=>č (s1.mem_iff.mpr hv);exact#[ws',ss',w1,s1,by rw[hn];show G.n1,by rw[hn];show G.n8,λ v hv=>?_,by rw[<- w1.length_eq,zA7];show G.wl,w2,λ j hj=>?_,λ v hv=>?_,s2,by rw[<- s1.length_eq,zA7];show G.sl]
 .let#[w,hw,rfl]:=mw v hv;have h:=G.wr w hw;rw[hn];exact#[#[on _ h.1.1,on _ h.1.2],?_];unfold oX;cases sw
  .show h.2
  .show#[h.2.2,h.2.1]
 .rw[hn] at hj;let#[p,hp,rfl]:=cE j hj;let#[w,hw,rfl]:=G.way æ2;show#[_,w1.mem_iff.mp (Ã8),rfl]
 .let#[s,hs,rfl]:=ms v hv;have h:=ì9;exact#[by rw[hn];show on _ h.1,?_,h.2.2];change os'.getD (o s.p) Ô=true;rw[ho _ h.1];show h.2.1
def Gf.iso À2 {o:û0}{sw:Bool}Ŝ {ws':Ï3}{ss':ë0}(w1:(Ī (oX o sw)).Perm ws') (s1:(É7 (mC o sw)).Perm ss') (G':Gf os' ws' ss') {A B A' B':Int}(hA:A'=if Ĉ5 then B else A) (hB:B'=if Ĉ5 then A else B):
  nk ÿ #[A',B',os',ws',ss'] o sw where
 n:=hn
 A:=hA
 B:=hB
 on:=on
 inj:=inj
 cE:=cE
 os:=ho
 w1:=λ w hw=>w1.mem_iff.mp (Ã8)
 w2:=λ v hv=>by
  let#[w,hw,rfl]:=č (w1.mem_iff.mpr hv);show#[w,hw,rfl]
 st:=λ p hp=>by
  have hp':p<ä:=hp;cases h:Ċ8 with
  | some s=>
   let#[h1,h2]:=(Zt A B os ws G.sp p s).mp h;show (Zt A' B' os' ws' G'.sp (o p) (mC o sw s)).mpr #[s1.mem_iff.mp (ŝ #[s,h1,rfl]),by rw[<- h2];rfl]
  | none=>
   cases h':(zD.mk A' B' os' ws' ss').stall (o p) with
   | none=>rfl
   | some v=>
    let#[h1,h2]:=(Zt A' B' os' ws' G'.sp (o p) v).mp h';let#[s,hs,rfl]:=č (s1.mem_iff.mpr h1);have e:=inj _ (ì9).1 _ hp' h2;have:=(Zt A B os ws G.sp p s).mpr #[hs,e];rw[h] at this;cases this
theorem zai é4 (hw:Á2<=24):VT [↑(.im (zt ÿ)),none,none]=↑(à ((Ī (oX ù1)).map y7)):=by
 have e:(Ī (oX ù1)).map y7=Ī λ w=>y7 (oX ù1 w):=Ú9
 rw[e];unfold VT;exact xH y7 _ ws (ß3) ⋯ λ w _=>?_;simp[y7,oX]
theorem zad é4 (x:Ú7) (hw:ss.length<=8):VP [↑(.im (zt ÿ)),x,none]=↑(à ((É7 (mC ù1)).map xq)):=by
 have e:(É7 (mC ù1)).map xq=É7 λ s=>xq (mC ù1 s):=Ú9
 rw[e];unfold VP;exact xH xq _ ss (ß3) ⋯ λ s _=>?_;let#[p,pu,gv,gt]:=s;cases pu <;> simp[xq,mC,nR]
end
theorem Good.Eh Ű æ0:∃ G,aQ [č6]=↑ È7/\Good G/\nk F G ù1:=by
 let#[A,B,os,ws,ss]:=F;let#[ws',ss',w1,s1,G']:=g.g.tr (o:=id) true Ô2;exact#[#[B,A,os,ws',ss'],?_,#[G',g.b,g.a,g.n3],g.g.iso Ô2 w1 s1 G' É];have hA:=g.a;have hB:=g.b;have hm:=Eo G' (A:=B) (B:=A) (by have:(0<=B/\B<=4):=hB;lia) (by have:(0<=A/\A<=4):=hA;lia) w1 s1 _ (LK g.g.n8).1;have h1:=zai (os:=os) (ws:=ws) (ss:=ss) A B g.g.wl;have h2:=λ x=>zad (os:=os) (ws:=ws) (ss:=ss) A B x g.g.sl;show yb (zp (zQ h1) (zp (zQ (h2 _)) (yK (zN (zi (x:=zB (B,A)) (xm (zi (zy ĩ É) (zi (zy ĩ É) rfl)) ĭ) (zi (x:=ô Û0) ĩ ă)) hm)))) rfl
def PU Ă9 {t:T}(h:dep t<=60):zO neg t t=↑(.bl (!neg)):=by
 unfold zO;rw[ë #[h,h],V1];cases neg <;> rfl
theorem Eg ß4 Ñ5 (I:nk F G ù1) ï9:zG G k=(Ö8).map đ5:=by
 exact BP (by rw[zA7,mN,mN,I.n]) λ i hi=>?_;rw[mN,I.n] at hi;have:=I.zG gF.ok gG.ok k i hi;have h2:i<(Ö8).length:=by rw[mN];show hi
 rw[show (id i)=i from rfl] at this;rw[this,zB1,zB1,zA3,zA1 h2];rfl
def qL Ë2 ĝ ã3 (h:0<j):zc yQ ý3=↑(Ö (i%j)):=zy h1 h2 (ö1)
def nG Ë2 ĝ ã3 (h:vE i j):zc x9 ý3=↑(Ö (i/j)):=zy h1 h2 (ö1)
theorem Jh (ows:Ï3) (h0:ows≠[]) (hl:ows.length<64):∃ ws':Ï3,Ď4/\(ws'.map yL).Pairwise Å7/\(∀ w,w∈ws'↔w∈ows)/\ws'.length<=ows.length:=by
 have hs:=Sh (ň) (by exists h0) (by rw[zA7];show hl) (λ r hr=>by let#[w,_,rfl]:=č hr;simp[yL]);have hp:=L4.lu (wQ (ň));have hm:∀ r,r∈ Ü6 ↔r∈ ň:=λ r=>hp.mem_iff.trans eR;have e:((Ü6).map kg).map yL=Ü6:=by
  rw[zD6]
  conv=>rhs;rw[<- zcS (Ü6)]
  exact zc9 É6;let#[w,_,rfl]:=č ((hm r).mp hr);change yL (kg (yL w))=_;rw[cz];rfl
 exact#[(Ü6).map kg,?_,?_,λ w=>?_,?_]
 .rw[jZ,jZ,e];show hs
 .rw[e];show (L4.eD _).and (hp.nodup_iff.mpr (bg _))
 .ext Ũ
  .intro h;ext ú2;let#[v,hv,rfl]:=č ((hm r).mp hr);rw[cz];show hv
  .intro h;show ŝ #[yL w,(hm _).mpr (ŝ #[w,h,rfl]),cz w]
 .rw[zA7,hp.length_eq];have:=bh (ň);rw[zA7] at this;show this
section
variable {Ř}
theorem Gf.to À2 {ows:Ï3}(hl:ows.length<=24) (hv:∀ w∈ows,Ö2) (hc:∀ x<ä,∃ w∈ows,w.f=x):∃ ws',Ď4/\wL [à (Ù0)]=↑(ô (Ù0))/\Gf os ws' ss/\∀ w,w∈ws'↔w∈ows:=by
 have h0:ows≠[]:=λ z=>by
  let#[w,hw,_]:=hc 0 G.n1;rw[z] at hw;cases hw
 let#[ws',s1,s2,s3,s4]:=Jh ows h0 ⋯;exact#[ws',s1,?_,#[G.n1,G.n8,λ w hw=>hv w ((s3 w).mp hw),⋯,s2,λ x hx=>?_,G.sr,G.sp,G.sl],s3]
 .have:(Ù0).length<=16777216:=ľ
  generalize Ù0=L at *;simp[this]
 .let#[w,hw,e]:=hc ÿ9;show#[w,(s3 w).mpr hw,e]
end
theorem EM (a b:Bool):zO Ô (kt a) (kt b)=↑(.bl (a == b)):=by cases a <;> cases b <;> show Ń
def BN Ō ø1 (h:∀ x,dep (enc x)<=10) í8:zO Ô (à Þ5) (à [])=↑(.bl xs.isEmpty):=by
 have h1:dep (à Þ5)<=60:=by
  have:=iK enc 10 h xs;ext ó3
 have h2:dep (à [])<=60:=by simp[dep,xI]
 unfold zO;rw[ë #[h1,h2]];cases xs with
 | nil=>simp[eqT,vq]
 | cons a l=>simp[eqT,vq]
def kj (os:Æ4) (o:Bool):đ:=(í ä).filter λ k=>ā0 k Ô == o
def eL (pl:đ):T:=à (pl.map Á6)
def IH {os:Æ4}{o:Bool}ø0(h:p∈kj os o):p<ä/\ā0 p Ô=o:=by
 let#[h1,h2]:=ê8 h;show#[ñ9 h1,by exists h2]
theorem IL {pl:đ}(h:pl≠[]) ù0:∃ p∈pl,zk (eL pl) (Ö (x%Û1))=↑(nT p):=by
 have hl:0<pl.length:=zeN.mpr h;have:=zF0 x (b:=Û1) ⋯;have:=zF1 x (b:=Û1) ⋯;obtain⟨k,hk,hkl⟩:∃ k:Nat,x%Û1=ç/\k<pl.length:=#[(x%Û1).toNat,⋯,⋯];exact#[pl[k],zD8 hkl,?_];rw[hk];change à1 (pl.map Á6) ç=_;show om (by simp[hkl])
theorem zaf ł (n8:Ð<=8) (o:Bool) (n:T):Nj [ü7,im n,im (kt o),none,none]=↑(eL (Õ6)):=by
 exact eY (Á6) (λ k=>F.os.getD k Ô == o) (Á6) ë3 (Z8 ⋯ í0) Þ1;show#[_,rfl,yh (zy (zy Â9 rfl (Gy (ñ9 hk))) rfl (EM _ _)),rfl]
def Ti ù0:-3<=x%7-3/\x%7-3<=3:=⋯
theorem Good.Tn Ű æ0 (o:Bool) â8:∃ G,aR [č6,Ö n,kt o]=↑ È7/\Good G/\(G=F\/∃ ws' v,G=Ñ7/\(∀ w,w∈ws'↔w∈F.ws\/w=v)/\F.os.getD v.f Ô=o):=by
 have hc:=zaf F g.g.n8 o ë9;have n1:=g.g.n1;have n3:=g.n3;have pn:=BN (Á6) (λ _=>ç3) (Õ6);have hl2:∀ x y,zc bJ (zm xy (za (zc zk Ť (cI 2)) ze)) (cI 22) [ü7,x,y,im (eL (Õ6)),none]=↑(.bl (î ((22:Int)<î7))):=λ x y=>zy í1 É;by_cases hn:Õ6=[]
 .exact#[F,yb (zp (zQ hc) (wN (xu (BS (yh (zy É (pn.trans ?_)))) rfl))) rfl,g,ú6 rfl];rw[hn];rfl
 .have ie:(Õ6).isEmpty=Ô:=by
   cases h:Õ6 with
   | nil=>show Ë8 h hn
   | cons _ _=>rfl
  rw[ie] at pn;by_cases Yn:(22:Int)<î7
  .exact#[F,yb (zp (zQ hc) (wN (xu (pX (yh (zy É pn)) (yh ((hl2 _ _).trans ?_))) rfl))) rfl,g,ú6 rfl];rw[zeV Yn]
  .let#[p,pm,pe]:=IL hn n;let#[pl,po]:=IH pm;have ho0:ô5<Ô1:=⋯;have:=zF0 (n/4) (b:=Ô1) ⋯;have:=zF1 (n/4) ho0;obtain⟨t,ht,htl⟩:∃ t:Nat,(n/4)%Ô1=(t:Int)/\t<Ð:=#[((n/4)%Ô1).toNat,⋯,⋯];have a7:=Ti (n/16);have b7:=Ti (n/112);let#[ws',s1,s2,G',hm]:=g.g.to (ows:=F.ws++[Ó4]) (by rw[zD7];change Ņ+1<=24;lia) (λ w hw=>by
    rcases ê9 hw with h | h
    .show g.g.wr w h
    .rw[Ù5 h];show#[#[pl,htl],#[Ū,Ū],Ū,Ū]) (λ x hx=>by
    let#[w,hw,e]:=g.g.way ÿ9;show#[w,zcK _ hw,e])
   exact#[Ñ7,?_,#[G',g.a,g.b,g.n3],ó6 #[ws',Ó4,rfl,λ w=>(hm w).trans (by rw[zB9,zB6]),po]];have wl:=g.g.wl;have hpl:xy [eL (Õ6)]=↑(nT (Õ6).length):=by simp[eL]
   have hp0:ô5<((Õ6).length:Int):=by have:=zeN.mpr hn;lia
   have hw:∀ z,tupS (za (zc zk ă9 (zc yQ Ô3 (zm xy (za ă9 ze)))) (za (zc yQ (zc x9 Ô3 (cI 4)) (zm xy (za ò6 ze))) (za (zc oY (zc yQ (zc x9 Ô3 (cI 16)) (cI 7)) (cI 3)) (za (zc oY (zc yQ (zc x9 Ô3 (cI 112)) (cI 7)) (cI 3)) ze)))) [ü7,im ë9,z,im (eL (Õ6)),none]=↑(y7 Ó4):=λ z=>
    xm (zi (zy rfl (qL rfl (yY rfl hpl) hp0) pe) (zi (x:=nT t) (by
     rw[show nT t=Ö (n/4%Ô1) from Ü ņ ht.symm];show qL (nG É ċ) í0 ho0) (zi (zy Ò1 É) (zi (zy Ò1 É) rfl)))) ś
   have hls:listS [ô (Ê8)]=↑(à (Ê8)):=by
    have:(Ê8).length<=16777216:=ľ
    generalize Ê8=L at *;simp[this]
   have h22':î ((22:Int)<î7)=Ô:=zeW Yn;exact yb (zp (zQ hc) (zp (yi (pX (yh (zy É pn)) (yh ((hl2 _ _).trans (by rw[h22'])))) rfl) (zp (zQ (hw _)) (yK (xm (zi Ì9 (zi Â9 (zi (x:=ô (Ù0)) ?_ Ð5))) ś))))) rfl;rw[zE7] at s1;show yY (yY (Uv (yY Ä6 hls) (gN é2) (by rw[zA7];change Ņ+1<=10000;lia)) s1) s2
structure Le (F G:zD):Prop where
 n:Ó7
 a:F.A<=G.A
 b:F.B<=G.B
 it:∀ k t,é7
theorem Le.refl ł:Le F F:=#[rfl,Ù6,Ù6,λ _ _=>ċ8]
theorem Le.trans {F G H:zD}(h:Le F G) (h':Le G H):Le F H:=#[h'.n.trans h.n,Ã7 h.a h'.a,Ã7 h.b h'.b,λ k t=>(h.it k t).trans (h'.it k t)]
def Le.of ß4(h:oW F G):Le F G:=#[h.len,h.a,h.b,λ k t=>QN h k t]
theorem mn {c x:Int}:(Ď5)<=c/\(x<=c->x<=Ď5)/\∀ y,y<=x->y<=c->y<=Ď5:=by split <;> exact#[⋯,⋯,⋯]
theorem Good.A2 Ű æ0 â8:∃ G,UP [č6,Ö n]=↑ È7/\Good G/\Le F G:=by
 have n1:=g.g.n1;have wl:=g.g.wl;let#[w0,hw0,_]:=g.g.way 0 n1;have hl0:0<Ņ:=zeG hw0;have:=zF0 n (b:=î7) ⋯;have:=zF1 n (b:=î7) ⋯;obtain⟨i,hi,hil⟩:∃ i:Nat,n%î7=ß7/\i<Ņ:=#[(n%î7).toNat,⋯,⋯];obtain⟨w,hw⟩:∃ w,F.ws[i]?=↑w:=#[_,zA1 hil];have hwm:w∈F.ws:=zB7 hw;have vr:=g.g.wr w hwm;have nd:=g.g.nd;obtain⟨a,ha⟩:∃ a,a=w.a+n/24%3:=Ç9;obtain⟨b,hb⟩:∃ b,b=w.b+n/72%3:=Ç9;obtain⟨v,hv⟩:∃ v:Wy,v=#[w.f,w.t,if a<12 then a else 12,if b<12 then b else 12]:=Ç9;have wge:fB w v:=by
  rw[hv];show#[rfl,rfl,mn.2.2 _ ⋯ vr.2.1.2,mn.2.2 _ ⋯ vr.2.2.2]
 let R:Ï3:=(È9).map λ k=>ü9
 have hR:∀ x,x∈R↔x∈F.ws/\x≠w:=λ x=>by
  ext Ũ
  .intro h;let#[k,hk,rfl]:=č h;let#[h1,h2]:=ê8 hk;have h1:=ñ9 h1;have h2:k≠i:=λ z=>by rw[z] at h2;simp at h2
   rw[zB1,zA1 h1];exact#[zD8 h1,λ z=>h2 ?_];have e2:F.ws[i]=w:=by rw[zA1 hil] at hw;show zD5 hw
   show (List.getElem_inj nd).mp ((show F.ws[k]=w from z).trans e2.symm)
  .rintro⟨h1,h2⟩;let#[k,hk,rfl]:=List.getElem_of_mem h1;exact ŝ #[k,ß6 #[Ā8 hk,?_],by rw[zB1,zA1 hk];rfl];have:k≠i:=λ z=>h2 (by rw[zA1 hil] at hw;have:=zD5 hw;rw[<- this];congr);simp;lia
 have hRl:R.length+1<=Ņ:=by
  have h:(È9).length<(í Ņ).length:=List.length_filter_lt_length_iff_exists.mpr #[i,Ā8 hil,#[]];rw[zC5] at h;change (ĉ8 _ _).length+1<=_;rw[zA7];lia
 have hRT:R.map y7=(È9).map λ k=>y7 (ü9):=by
  change ĉ8 _ (ĉ8 _ _)=_;ext ċ3
 clear_value R
 let#[ws',s1,s2,G',hm]:=g.g.to (ows:=R++[v]) (by rw[zD7];change R.length+1<=24;lia) (λ x hx=>by
  rcases ê9 hx with h | h
  .show g.g.wr x ((hR x).mp h).1
  .rw[Ù5 h,hv];show#[vr.1,à4,mn.2.2 _ ⋯ (),mn.1]) (λ x hx=>by
  let#[y,hy,e]:=g.g.way ÿ9;by_cases z:y=w
  .show#[v,zB4 _ (zB6.mpr rfl),by rw[wge.1,<- z,e]]
  .show#[y,zcK _ ((hR y).mpr #[hy,z]),e])
 exact#[Ñ7,?_,#[G',g.a,g.b,g.n3],Le.of (oW.coins hwm wge λ x=>(hm x).trans (by rw[zB9,zB6,hR]))];have ix:∀ k<Ņ,zk (ô (Ê8)) (nT k)=↑(y7 (ü9)):=λ k hk=>by
  change à1 (Ê8) ç=_;show om (by rw[zA3,zB1,zA1 hk];rfl)
 have hat:=ix i hil;rw[zB1,hw] at hat;have hat:zk (ô (Ê8)) (nT i)=↑(î6):=hat;have hc:∀ p q r s t,Np [ü7,p,im (nT i),q,r,s,t,im (y7 v),none]=↑(à (R.map y7)):=λ p q r s t=>by
  rw[hRT];exact eY (Á6) (λ k:Nat=>! î (ç=ß7)) (λ k=>y7 (ü9)) (í Ņ) (Z8 ⋯ í1) Þ1;show#[_,rfl,yh (zy É (ë5 _ _ true)),zy Ä6 rfl (ix k (ñ9 hk))]
 rw[zE7] at s1;exact yb (zp (zQ (y:=nT i) ?_) (zp (Zn (zy Ä6 rfl hat) rfl) (zp (zQ (y:=y7 v) ?_) (zp (zQ (hc Ñ _ _)) (yK (xm (zi Ì9 (zi Â9 (zi (x:=ô (Ù0)) (yY (yY (Uv rfl (gN é2) (by rw[zA7];change R.length+1<=10000;lia)) s1) s2) Ð5))) ś)))))) rfl
 .rw[show nT i=Ö (n%î7) from Ü ņ hi.symm];show qL rfl í1 ⋯
 .rw[hv];exact xm (zi rfl (zi rfl Æ5)) ś
  .rw[ha];show zy rfl Ò1 rfl
  .rw[hb];show zy rfl Ò1 rfl
def TH Ë2 ĝ{ts us:þ}(h:f J=↑ ô2) (h':g J=↑(ô us)) Æ6:zc ye ý3=↑(ô (ts++us)):=zy h h' (Ì5)
def lq õ4 ý5:Sl:=#[s.p,s.pu,if s.gv-x>1 then s.gv-x else 1,ď6]
section
variable {Ű}{æ0}{â8}
include g
theorem Good.owner {q:Nat}(hq:q<Ð):Good ÿ7/\Le F ÿ7:=by
 have G:=g.g;have own:∀ s∈F.ss,(Ü7).getD s.p Ô=true:=λ s hs=>by
  rw[Pk];split
  .rfl
  .show (ì9).2.1
 exact#[#[#[by simp;show G.n1,by simp;show G.n8,by simp;show G.wr,G.wl,G.wp,by simp;show G.way,λ s hs=>#[by simp;show (ì9).1,own s hs,(ì9).2.2],G.sp,G.sl],g.a,g.b,by simp;show g.n3],Le.of (oW.owner G.way)]
theorem Good.stalls ď8(hx:0<=x) (hy:0<=y):Good á9/\Le F á9:=by
 have G:=g.g;exact#[#[#[G.n1,G.n8,G.wr,G.wl,G.wp,G.way,λ s hs=>?_,zcD.mpr G.sp,by rw[zA7];show G.sl],g.a,g.b,g.n3],Le.of ?_]
 .let#[r,hr,rfl]:=č hs;let#[h1,h2,h3,h4]:=G.sr Đ0;exact#[h1,h2,?_,?_]
  .change 1<=đ0/\đ0<=12;ext Å1
  .change 0<=Ĉ8/\Ĉ8<=12;ext Å1
 .exact#[rfl,Ù6,Ù6,ú4,ŵ,ŵ,λ p _ h h'=>(by dsimp only at h';rw[h] at h';cases h'),λ p s e=>?_];have hs:=G.sr s (zdP e);exact#[lq x y s,?_,rfl,?_,?_]
  .change (ü5 (lq x y)).find? _=_;rw[List.find?_map];change Option.map _ (F.ss.find? _)=_;have e':F.ss.find? (Ù8)=↑s:=e;rw[show ((λ s:Sl=>î (s.p=p)) ∘ lq x y)=Ù8 from rfl,e'];rfl
  .change (if s.gv-x>1 then s.gv-x else 1)<=s.gv;ext Å1
  .change s.gt<=(ď6)
   ext Å1
theorem Good.more:∃ G,UM [č6,Ö n]=↑ È7/\Good G/\Le F G:=by
 have n1:=g.g.n1;have n3:=g.n3;have sl:=g.g.sl;have d5:vE n 5:=ċ;have d2:vE (n/5) 2:=ċ;have h2:∀ (j:Int) (J:Ev),ŧ=↑(î (n%5=j)):=λ j J=>yh (zy É Î7);have ny:∀ {j:Int}ĝ,n%5=j->ŧ=↑true:=λ e=>(h2 _ _).trans (by rw[zeV e]);have nn:∀ {j:Int}ĝ,n%5≠j->ŧ=↑ Ô:=λ e=>(h2 _ _).trans (by rw[zeW e]);by_cases e0:n%5=0
 .let#[G,r1,r2,r3]:=g.Tn true (n/5);exact#[G,yb (zp Û2 (zp Û3 (wN (xu (ny e0) (yK (zN (zi rfl ă) r1)))))) rfl,r2,?_];ext ê3
  .show Le.refl _
  .show Le.of (oW.way hm ho)
 by_cases e1:n%5=1
 .let#[G,r1,r2,r3]:=g.A2 (n/5);show#[G,yb (zp Û2 (zp Û3 (zp è2 (wN (xu (ny e1) (yK (zN ă r1))))))) rfl,r2,r3]
 by_cases e2:n%5=2
 .have ho0:ô5<Ô1:=⋯;have:=zF0 (n/5) (b:=Ô1) ⋯;have:=zF1 (n/5) ho0;obtain⟨q,hq,hql⟩:∃ q:Nat,n/5%Ô1=(q:Int)/\q<Ð:=#[(n/5%Ô1).toNat,⋯,⋯];let#[r1,r2]:=g.owner hql;exact#[_,?_,r1,r2];have c1:∀ J:Ev,Ã1->o_ ò6 none ↑(zb 4) J=↑(ô ((Â0).take q)):=fun J e=>by
   subst e;show Zz Â9 É (Ü (λ l=>↑(ß9 l)) (Ao (Â0) q (ľ)))
  have c2:∀ J:Ev,Ã1->o_ ò6 ↑(zc ye (zb 4) Î3) none J=↑(ô (ć3)):=fun J e=>by
   subst e;show Zz (l:=↑((q+1:Nat):Int)) Â9 É (Ü (λ l=>↑(ß9 l)) (Ap (Â0) (q+1) (ľ)))
  have eo:((Â0).take q++[Ú6])++ć3=(Ü7).map kt:=by
   rw[List.map_set,List.set_eq_take_append_cons_drop,ë (by rw[zA7];show hql),zE8];rfl
  have l1:=List.length_take_le q (Â0);have l2:(ć3).length<=8:=by rw[zcM,zA7];lia
  exact yb (zp Û2 (zp Û3 (zp è2 (zp ć4 (wN (xu (ny e2) (zp (zQ (y:=nT q) ?_) (yK (xm (zi Ì9 (zi (x:=ô ((Ü7).map kt)) ?_ (zi Ä6 Ð5))) ś))))))))) rfl
  .rw[show nT q=Ö (n/5%Ô1) from Ü ņ hq.symm];show qL rfl í0 ho0
  .rw[<- eo];show TH (TH (c1 _ rfl) (xm é2) (by change _+1<=10000;lia)) (c2 _ rfl) (by rw[zD7];change _+1+_<=10000;lia)
 by_cases e3:n%5=3
 .obtain⟨a,ha⟩:∃ a,a=F.A+n/5%2:=Ç9;obtain⟨b,hb⟩:∃ b,b=F.B+n/5/2%2:=Ç9;have gA:=g.a;have gB:=g.b;exact#[#[if a<4 then a else 4,if b<4 then b else 4,F.os,F.ws,F.ss],?_,#[g.g,à4,à4,g.n3],Le.of (oW.brims (mn.2.2 _ ⋯ gA.2) (mn.2.2 _ ⋯ gB.2))];exact yb (zp Û2 (zp Û3 (zp è2 (zp ć4 (zp (yi (nn e2) rfl) (wN (xu (ny e3) (zp (zQ (xm Æ5 ĭ)) (yK (xm (zi rfl (zi Â9 (zi Ä6 Ð5))) ś)))))))))) rfl
  .rw[ha];show zy (zy Ì9 É) (qL É ()) rfl
  .rw[hb];show zy (zy Ì9 É) (qL (nG É d2) Ā1) rfl
 obtain⟨x,hx⟩:∃ x,x=n/5%2:=Ç9;obtain⟨y,hy⟩:∃ y,y=n/5/2%2:=Ç9;let#[r1,r2]:=g.stalls (x:=x) (y:=y) Ð9;exact#[_,?_,r1,r2];let#[J1,p1,p2]:=pN (is:=[4,7,8,9]) (g:=wc 4 (y8 (zC 4) (y8 (zC 7) Ì0))) (b:=NA) xq (λ p J=>J=[ü7,im ë9,ý0,im (Ö (n/5)),none,none,↑(ō (à (p.map λ s=>xq (lq x y s)))),none,none,none]) F.ss [ü7,im ë9,ý0,im (Ö (n/5)),none,none,↑ Ê4,none,none,none] rfl (by
  rintro p s r e J rfl;have hp:ő<=F.ss.length:=Ģ
  exact#[_,ll rfl (oM (i:=6) rfl (xm (zi rfl (zi rfl (zi (zN (zi rfl (zi (x:=Ö (s.gv-x)) Ā2)) rfl) (zi (zN (zi rfl (zi (x:=Ö (s.gt+y)) Ā2)) rfl) rfl)))) ś) (ľ)),?_]
  .rw[hx];show zy rfl (qL É ()) rfl
  .rw[hy];show zy rfl (qL (nG É d2) Ā1) rfl
  .rw[zE7];rfl)
 subst p2;have hts:wL [à (Ã4)]=↑(ô ((ü5 (lq x y)).map xq)):=by
  rw[zD6];have:(Ã4).length<=16777216:=ľ
  change wL [à (Ã4)]=↑(ô (Ã4));generalize (Ã4)=L at *;simp[this]
 exact yb (zp Û2 (zp Û3 (zp è2 (zp ć4 (zp (yi (nn e2) rfl) (zp (yi (nn e3) rfl) (zp (aD rfl) (zp (vp ?_ p1) (yK (xm (zi Ì9 (zi Â9 (zi Ä6 (zi (yY rfl hts) rfl)))) ś))))))))) ) rfl;change (zc zk Ť (cI 3) _).bind wy=_;rw[zy É (bR F)];rfl
end
end zP.V
namespace zP
open Ć0 L2 L3 L5 SJ
structure kI ø4:Prop where
 a:Ú8=true
 l1:1<=ß0
 l8:ß0<=8
 s:((L w).all λ c=>î (c∈L "abcdefghijklmnopqrstuvwxyz"))=true
 b:32∉L w
def eP:kI "fa":=à5
def ZT:kI "fb":=à5
def Qp:kI "fc":=à5
theorem dB ą4(h:kI w) (f:Str) (h1:(f == ("text":Str))=Ô) (h2:(f == ("number":Str))=Ô):iZ [ß w,ß f]=↑ Ĩ:=by
 have h8:=h.l8;exact yb (zp (yi (yh (zy É ((ì0 f "text" Ô).trans Ć6))) rfl) (zp (yi (yh (zy É ((ì0 f "number" Ô).trans (by rw[h2];rfl)))) rfl) (yK (zN (zi rfl ă) (Mq h.a h.l1 Ð9 h.s))))) rfl
theorem J1 {w t:Str}(h:kI w) (ht:t.length<=9000):iY [ß (ž)]=↑ ó1:=by
 have h8:=h.l8;have ej:ð " " (â6++[t])=ž:=by
  ext Ā3;change L (ð " " ["floor",w,t])=_;rw[mr,mr,wx,wx,wx];change L "floor"++(ì5++(L w++(ì5++L t)))=L "floor "++L w++ì5++L t;rw[show L "floor "=L "floor"++ì5 by decide];simp![zE8]
 have du:∀ p∈ â6,Ċ2:=λ p hp=>by
  ext ĵ
  .decide
  .rw[Ù5 hp];show h.b
 have hsp:=KL (y:=" ") þ0 (WV ()) t (ps:=â6) #[] du;have hoc:=W7 (y:=" ") þ0 t (ps:=â6) du;rw[ej] at hsp hoc;have hlen:(ž:Str).length<=9020:=by rw[Ó1,Ó1,Ó1,show ("floor ":Str).length=6 by decide,show Þ8 by decide];lia
 have e:Å3:=rfl;exact SW (fs:=["name","text"]) (Pb (wa (o5 É ?_)) (o5 É ?_)) ê1 rfl #[] ?_
 .change ↑(T.bl (Ó6 (ž) "floor "))=_;rw[(Zs (x:=ž) (y:="floor ") ()).mpr #[L w++(ì5++L t),by rw[wx,wx,wx];simp![zE8]]]
 .exact (ë ?_).trans (Ü (λ l:ï=>↑(T.lst (Ù9 ø))) hsp);exact#[(),(),⋯,?_,?_]
  .show zE0 (zdW (Ü Ő hoc)) (by simp[e])
  .show zE0 (zdW (Ü Ő hsp)) (by simp[e])
 .intro p hp;ext ĵ
  .show dB h "name" ê1
  .rw[Ù5 hp];show Bo t
section
variable {N:ï}{f1 f2:zEO}{c c2:ſ}{ga gb:Æ8}{Â4}{row w v:T}{zs:þ}{ù2}(hN:N.length=4)(h1:f1 (wM N [Œ,row])=↑w)(h2:f2 (ù5)=↑v)
include hN h1 h2
theorem Jt (h3:c ğ=↑true) (h4:ga ğ=↑zs) ñ5:î8:=by
 unfold ki;rw[ë #[rfl,hN],h1,zC9,h2,zC9,h3,zC9,Ą1,h4,zC9,ë h5,h6]
theorem Js (h3:c ğ=↑ Ô) (h3':c2 ğ=↑true) (h4:gb ğ=↑zs) ñ5:î8:=by
 unfold ki;rw[ë #[rfl,hN],h1,zC9,h2,zC9,h3,zC9,Ġ (),h3',zC9,Ą1,h4,zC9,ë h5,h6]
end
theorem zaP Â4{w t:Str}{f:T}ù2(hN:kI w) (ht:t.length<=9000) (hr:cj [ß t]=↑f) (hf:Ë9 f=true) (hk:pZ ks ts [ß w,f]=↑r):dU ks ts [ß (ž)]=↑r:=by
 have h1:=J1 hN ht;have h2:=XC (ks:=ks) (ts:=ts) (v:=none) (row:=ž) (w:="floor") (ws:=[w,t]) (fs:=["name","text"]) () #[] (λ q=>ß q.1) (λ p hp=>by
  ext ĵ
  .show#[TN _ _,rfl]
  .rw[Ù5 hp];show#[LW _ _,rfl])
 have h0:zc zk ä2 Ö9 [↑(.im (Œ)),↑(.im (ß (ž))),↑(.im ó1),↑(.im (à [ß w,ß t]))]=↑(Ó5):=rfl;show Jt rfl (yY rfl h1) h2 (yh (zy h0 É)) (zi (x:=ß w) rfl (zi (yY (x:=ß t) rfl hr) rfl)) (by change (Ë9 Þ6&&(Ë9 f&&true))=true;rw[hf];rfl) hk
def lW (G F:T):T:=.zF Æ1 [G,F]
def Xs (G F M:T):T:=.zF ÿ8 [G,F,M]
def Zl (G F:T):nZ [lW G F,ß "fa",Ó5]=↑G:=ŕ
def XD (G F:T):nZ [lW G F,ß "fb",Ó5]=↑F:=ŕ
def LZ (G F M:T):nZ [Xs G F M,ß "fa",Ó5]=↑G:=ŕ
def LY (G F M:T):nZ [Xs G F M,Ď6,Ó5]=↑M:=ŕ
def dP {P:Ċ4->Prop}{a b:Ċ4}ă1:∀ p∈[a,b],P p:=λ p hp=>by
 ext ĵ
 .show ha
 .rw[Ù5 hp];show hb
def nN Ü5:∀ p∈[a,b,c],P p:=λ p hp=>by
 ext ĵ
 .show ha
 .ext ĵ
  .show hb
  .rw[Ù5 hp];show hc
theorem zaO {G F M:T}(hm:aQ [G]=↑M) (hG:Ë9 G=true) (hM:Ë9 M=true):dU Æ1 [G,F] [å3]=↑(ß "ok",ÿ8,[G,F,M]):=by
 have e:ð " " å4="mirror fc fa":=ext ();have h1:iY [å3]=↑(à ((å4:ï).map ø)):=by
  rw[<- e];show XZ Ø5 (a:=109) (as:=L "irror") ê1 () (nN ê1 ()) ê1 rfl #[] (dP (dB Qp "name" ê1) (dB eP "floor" ê1))
 have h2:=XC (ks:=Æ1) (ts:=[G,F]) (v:=none) (row:="mirror fc fa") Ø5 () #[] (λ q=>ą0) (dP #[(TN _ _).trans (Ü some (Ġ ()).symm),by rw[Ġ ()];rfl] #[(Zl G F).trans (Ü some (ë ()).symm),by rw[ë ()];show hG]);have e3:((["fc","fa"]:ï).zip (["name","floor"]:ï)).map (λ q:Ċ4=>ą0)=[Ď6,G]:=by
  change [if (("name":Str) == Ä1)=true then G else Ď6,if (Ä1 == Ä1)=true then G else ß "fa"]=_;rw[Ġ (),ë ()]
 rw[e3] at h2;have h0:zc zk ä2 Ö9 [↑(.im (lW G F)),↑(.im (å3)),↑(.im (à ((å4:ï).map ø))),↑(.im (à [Ď6,G]))]=↑(ß "mirror"):=rfl;show Js rfl (yY rfl h1) h2 (yh (zy h0 rfl (Ń))) (yh (zy h0 rfl (Ń))) (zi (x:=Ď6) rfl (zi (yY (x:=G) rfl hm) rfl)) (by change (Ë9 (Ď6)&&(Ë9 M&&true))=true;rw[hM];rfl) rfl
theorem SK {G F y:T}{a b row:Str}{A B:T}(na:kI a) (nb:kI b) (e:ð " " ["compare",a,b]=row) (ha:nZ [lW G F,ß a,Ó5]=↑A) (hb:nZ [lW G F,ß b,Ó5]=↑B) (hab:a≠b) (pA:Ë9 A=true) (pB:Ë9 B=true) (hl:(ð " " ["compare",a,b]).length<=10000) (hy:cp [à [A,B]]=↑y):kM [lW G F,ß row]=↑y:=by
 have ga:(if (a == a)=true then A else B)=A:=ë #[];have gb:(if (b == a)=true then A else B)=B:=Ġ (by simp[Ne.symm hab]);rw[<- e];exact SH á4 (A:=cp) (XZ á4 (a:=99) (as:=L "ompare") ê1 hl (nN () na.b nb.b) ê1 rfl #[] (dP (dB na "floor" ê1) (dB nb "floor" ê1))) () #[] (λ q=>if (q.1 == a)=true then A else B) (dP #[ha.trans (Ü some ga.symm),by rw[ga];show pA] #[hb.trans (Ü some gb.symm),by rw[gb];show pB]) ê1 rfl ?_;change cp [à [if (a == a)=true then A else B,if (b == a)=true then A else B]]=↑y;rw[ga,gb];show hy
theorem Jq Â4 ą4{f y:T}{p:Int}(hN:kI w) (h0:0<=p) (h1:p<=13) (hd:nZ [Œ,ß w,Ó5]=↑f) (hf:Ë9 f=true) (ha:cq [à [f,Ö p]]=↑y):kM [Œ,ß ("border "++w++" "++num p)]=↑y:=by
 have nf:=o9 (ZS h0 h1);have e:ð " " ["border",w,num p]="border "++w++" "++num p:=by
  ext Ā3;rw[mr,mr,wx,wx,wx];change L "border"++(ì5++(L w++(ì5++L (num p))))=L "border "++L w++ì5++L (num p);rw[show L "border "=L "border"++ì5 by decide];simp![zE8]
 rw[<- e];have h8:=hN.l8;have ga:ü4=f:=Bi f w;have gb:gF f (num p,"number")=Ö p:=Bh f h0 h1;exact SH Ü2 (A:=cq) (XZ Ü2 (a:=98) (as:=L "order") ê1 (zE0 (SV (nN () ⋯ (zE0 nf.1 ())) #[]) ()) (nN () hN.b (lA (ZS h0 h1))) ê1 rfl #[] (dP (dB hN "floor" ê1) (Bp h0 h1))) () #[] (gF f) (dP #[hd.trans (Ü some ga.symm),by rw[ga];show hf] #[(LX _ h0 h1).trans (Ü some gb.symm),by rw[gb];rfl]) ê1 rfl ?_;change cq [à [ü4,gF f (num p,"number")]]=↑y;rw[ga,gb];show ha
end zP
namespace zP.V
open Ć0 L2 L3 L5 RN SJ
def V6 {S:zLO}{ks:List Key}{ts xs:þ}Ø8(h:S (Œ::xs)=r):iI S (Œ::xs)=r:=h
theorem JK {α β:Type}(l:Ÿ) (d:α) (f:α->β):((í Ç1).map λ p=>f (ë2 p d))=Ù9 f:=by
 exact zcW #[] ú8;have hi:i<Ç1:=by exists h2
 simp[zB1,zA1 hi]
def Good.bd Ű æ0 ą5 ð2:∀ b∈ Á9,(∀ q∈b,o8 q)/\Ŭ<=5/\x_ b:=λ b hb=>by
 have hg:=R.gd m (zA4 m) b hb;ext É9
def Good.aA Ű æ0 ą5 ð2 ź:(∀ q∈ Ð3,o8 q)/\(Ð3).length<=5/\x_ (Ð3):=by
 have hg:=R.Vo (zA4 m) p;ext É9
theorem Xi Ű æ0 ą5(hr:Ã5) ð2 Â4 ą4(hN:kI w) (hd:nZ [Œ,ß w,Ó5]=↑ Ķ):jo [Œ,ß w,nT Ð,à3]=↑(eT (Á9)):=by
 have n3:=g.n3;have ok:=g.ok;let#[J1,p1,p2]:=pN (is:=[5,6]) (g:=zC 5) (b:=NC) (Á6) (λ p J=>J=[im (Œ),im Þ6,im Ă4,im (à3),↑(ō (à (p.map à6))),none,none]) ë3 [im (Œ),im Þ6,im Ă4,im (à3),↑ Ê4,none,none] rfl (by
  rintro p k q e J rfl;have hk:k<Ð:=ñ9 (Ģ);have hp:ő<=Ð:=É1
  have hb:=g.aA R k;have hs:=Jq (p:=ç) hN Ð9 hd (j8 F) (zaC ok hr R hk);have hrow:=(vv (vv (vv (cB (J:=[im (Œ),im Þ6,im Ă4,im (à3),↑(ō (à (p.map à6))),im (nT k),none]) "border " 7) (#[rfl,hN.l8]:mx Ô3 _ w 8)) Ø9) (#[yY rfl (eO (n:=ç) ť),(o9 (ZS (n:=ç) Ð9)).1]:mx (zm xB (za (zb 5) ze)) _ (num ç) 3)).1;exact#[_,ll rfl (zp (zQ (YB (zi rfl (zi hrow rfl)) (V6 hs) rfl)) (zp (yi (pX rfl (w_ (wa (zN ă (zbj ok.a1 ok.b1 ok.a0 (R.Vo (zA4 m) k)))))) rfl) (oM (i:=4) rfl (zN À5 (Mr hb.1 ⋯)) (ľ)))),?_];rw[zE7];rfl)
 subst p2;have e:(Ú0 à6)=(Á9).map vg:=by rw[<- mN F m];show JK (Á9) [] vg
 rw[e] at p1;show yb (zp (aD rfl) (zp (vp (Z8 ⋯ rfl) p1) rfl)) rfl
def Zc ð1:Str:=cond b "alike" "first"
def Zb ð1:Str:=cond b "alike" "second"
theorem Xv {α β:Type}(f:α × α->β):∀ l m:Ÿ,(m.zip l).map f=(l.zip m).map λ p=>f Č2
 | [],m=>#[]
 | _::_,[]=>#[]
 | a::l,b::m=>by simp[Xv f l m]
def bor Ű ą5(hr:Ã5):hJ [č6]=↑(rT (Á9)):=Mv hr
def cmp {X Y:zD}(gX:Good X) (gY:Good Y) (L:Le X Y) {mX mY:Nat}(rX:lj [zt X]=↑(kh (nr X mX))) (rY:lj [zt Y]=↑(kh (nr Y mY))) (RX:lg X mX) (RY:lg Y mY) (hle:∀ t,y6 ((í2).getD t []) ((í3).getD t [])):
  ∃ es:Æ4,Ď7=X.os.length/\kL [zt Y,zt X]=↑(à ((Ø3 Zc).map ø))/\kL [zt X,zt Y]=↑(à ((Ø3 Zb).map ø)):=by
 have n3:=gX.n3;have lX:(í2).length=X.os.length:=mN X mX;have lY:(í3).length=X.os.length:=by rw[mN];show L.n
 have hz:∀ p∈(í3).zip (í2),y6 p.2 p.1/\(x_ p.1/\p.1.length<=5)/\x_ p.2/\p.2.length<=5:=λ p hp=>by
  let#[i,hi,e]:=List.getElem_of_mem hp;have h:=hle i;have h1:i<(í3).length:=by simp at hi;lia
  have h2:i<(í2).length:=by simp at hi;lia
  rw[List.getElem_zip] at e;rw[zB1,zA1 h2,zB1,zA1 h1] at h;have q1:=gY.bd RY _ (zD8 h1);have q2:=gX.bd RX _ (zD8 h2);rw[<- e];show#[h,#[q1.2.2,q1.2.1],q2.2.2,q2.2.1]
 have fl:∀ b:Bd,(xr X.A X.B b).length<=Ŭ:=λ b=>zd7 _ _;have gY13:∀ b∈ í3,Ŭ<=13:=λ b hb=>by have:=(gY.bd RY b hb).2.1;lia
 have gX13:∀ b∈ í2,Ŭ<=13:=λ b hb=>by have:=(gX.bd RX b hb).2.1;lia
 have La:=L.a;have Lb:=L.b;have h1:=Mu fX (A:=X.A) (B:=X.B) (bor rY) (bor rX) L.n Ď8 Ď8 ⋯ gY13 gX13 λ p hp=>by
  let#[c,#[a1,a2],b1,b2]:=hz æ2;show zaU _ _ (Yw a1) (Yw b1) (P0 c) (by have:=fl p.1;have:=fl p.2;lia)
 have h2:=Mu fW (A:=X.A) (B:=X.B) (bor rX) (bor rY) L.n.symm Ď8 Ď8 ⋯ gX13 gY13 λ p hp=>by
  have hp':Č2 ∈(í3).zip (í2):=by
   have e:=Xv (λ p:Bd×Bd=>p) (í2) (í3);rw[List.map_id'] at e;rw[e];show ŝ #[p,hp,rfl]
  let#[c,#[a1,a2],b1,b2]:=hz _ hp';show zaT _ _ (Yw b1) (Yw a1) (P0 c) (by have:=fl p.1;have:=fl p.2;dsimp only at a2 b2;lia)
 exact#[Ŏ,by simp[lX,lY],?_,?_]
 .rw[h1];have e:gr fX X.A X.B (í3) (í2)=(Ŏ).map Zc:=by
   unfold gr;rw[zD6];exact zc9 λ p _=>?_;change fX p.1 p.2=Zc (î (p.1=p.2));unfold fX Zc;by_cases z:p.1=p.2
   .rw[ë z,zeV z];rfl
   .rw[Ġ z,zeW z];rfl
  rw[e]
 .rw[h2];have e:gr fW X.A X.B (í2) (í3)=(Ŏ).map Zb:=by
   unfold gr;rw[zD6,Xv];exact zc9 λ p _=>?_;change fW p.2 p.1=Zb (î (p.1=p.2));unfold fW Zb;by_cases z:p.1=p.2
   .rw[ë z,zeV z];rfl
   .rw[Ġ z,zeW z];rfl
  rw[e]
theorem K9 Ō:∀ xs:Ÿ,ş<=5->wG xs (-1)=xs.reverse
 | [],_=>by unfold wG;rw[show md ([]:Ÿ).length (-1)=[] by change md 0 (-1)=_;decide];rfl
 | [a],_=>by unfold wG;rw[show md [a].length (-1)=[0] by change md 1 (-1)=_;decide];rfl
 | [a,b],_=>by unfold wG;rw[show md [a,b].length (-1)=[1,0] by change md 2 (-1)=_;decide];rfl
 | [a,b,c],_=>by unfold wG;rw[show md [a,b,c].length (-1)=[2,1,0] by change md 3 (-1)=_;decide];rfl
 | Ā,_=>by unfold wG;rw[show md [a,b,c,d].length (-1)=[3,2,1,0] by change md 4 (-1)=_;decide];rfl
 | [a,b,c,d,e],_=>by unfold wG;rw[show md [a,b,c,d,e].length (-1)=[4,3,2,1,0] by change md 5 (-1)=_;decide];rfl
 | _::_::_::_::_::_::_,h=>by simp at h
def Ef ß4 Ñ5 (I:nk F G ù1) {mF mG:Nat}(sF:∀ k,zG F (mF+k)=í4) (sG:∀ k,zG G (mG+k)=Û4):Û4=(í4).map đ5:=by
 rw[<- sG mF,Eg gF gG I,ze3,sF]
theorem zab {a1 a2 a3 a4 a5 a6 a7 a8 a9 a10 a11 a12 a13 a14 a15 a16:Ú7}{l:ó}(hl:Ç1<=8) (h5:∀ b∈l,Ŭ<=5):YD [a1,a2,a3,a4,a5,a6,a7,a8,a9,a10,a11,a12,a13,a14,a15,a16,im (eT l)]=↑(eT (Ù9 đ5)):=by
 have e0:eT (Ù9 đ5)=à (Ù9 λ b=>vg (ox true b)):=by unfold eT;ext ċ3
 rw[e0];exact xH vg _ l î0 λ b hb=>mL rfl ?_;have e1:vg (ox true b)=à (b.reverse.map λ q=>zB (q.2,q.1)):=by
  change T.lst ((Ş).map zB)=_;rw[<- List.map_reverse,zD6];rfl
 rw[e1];have hs:cF Ť (jG Î3) [im (vg b)]=↑(à (b.reverse.map zB)):=by
  have e2:wG È0 (-1)=(b.map zB).reverse:=K9 _ (by rw[zA7];show h5 b hb);have hx:((-1:Int)≠0/\(wG È0 (-1)).length<=sizeLine):=#[(),by rw[e2,List.length_reverse,zA7];show zE0 (h5 b hb) ()];exact (ë hx).trans ?_;rw[e2,List.map_reverse]
 exact xH zB _ b.reverse ?_ (by rw[List.length_reverse];have:=h5 b hb;lia) λ q _=>mL rfl î4;change (cF Ñ).bind wy=_;show (Ü (λ z=>ç2 z wy) hs).trans rfl
def SM {j:Nat}{K:KF}Ï4{g2:Sm}ĝ Â4{y:T}ù2 å6(h0:J[j]?=↑↑(ō (Œ))) (hf:f J=↑y) (hp:xR (y::ts)=true) (hF:K ks ts [y]=↑r) (hr:L3.eqT r.1 (ß "ok")=true/\xR (r.1::r.2.2)=true) (hg:g2 (J.set j ↑(ō (.zF r.2.1 r.2.2)))=o):gw j K f g2 J=o:=by
 unfold gw;ext Ċ9;rw[hf,zC9,ë hp,hF,zC9,ë hr];show hg
theorem Ju {c1 c2:ſ}{g:Sm}ĝ å6(h1:c1 J=↑ Ô) (h2:c2 J=↑ Ô) (h:g J=o):cM c1 c2 g J=o:=by
 unfold cM;rw[h1,zC9,Ġ (),h2,zC9,Ġ ()];show h
def YC {F:zLO}{g:Æ8}ĝ è3 (h1:xs.all WA=true) (h2:nF y=true):kF F g J=↑y:=by
 unfold kF;rw[h,zC9,hF,zC9,ë #[h1,h2]]
theorem Vv Ō(f:α->T) (h:∀ x,nF (f x)=true):∀ l:Ÿ,jP (Ù9 f)=true
 | []=>by simp[jP]
 | a::l=>by simp[jP,h a,Vv f h l]
def Yv Ĉ6:nF (eT l)=true:=by
 have h1:∀ q:Ù,nF (zB q)=true:=λ q=>by simp[zB,nF,jP]
 have h2:∀ b:Bd,nF (vg b)=true:=λ b=>by
  change nF (à È0)=true;rw[nF];show Vv zB h1 b
 change nF (à (Ù9 vg))=true;rw[nF];show Vv vg h2 l
def Ag Ĉ6:dep (eT l)<=60:=by
 have h2:∀ b:Bd,dep (vg b)<=3:=λ b=>by
  have:=iK zB 1 Ov b;change dep (à È0)<=3;ext ó3
 have:=iK vg 3 h2 l;change dep (à (Ù9 vg))<=60;ext ó3
def wd (s b:Bool):Str:=cond b "alike" (cond s Ý1)
def Xz (s b:Bool):(wd s b).length<=7/\32∉L (wd s b):=by cases s <;> cases b <;> decide
theorem Th {s:Bool}{es:Æ4}(h0:es≠[]) (hl:Ď7<=3):vF [ß (ð " " (Ø3 (wd s))),ß " "]=↑(à (Ø3 λ b=>ø (wd s b))):=by
 have hlen:(ð " " (Ø3 (wd s))).length<=1000:=SV (λ p hp=>by
  ext ú1;have:=(Xz s b).1;lia) (ľ)
 exact (eA () ⋯).trans ?_;rw[eC (by exists h0) λ p hp=>by
  ext ú1;show (Xz s b).2]
 ext ċ3
def zaG Ō(l:Ÿ):ð7 [à (Ù9 ů)]=↑ Ĩ:=by
 change (nH (Ù9 ů)).map _=_;rw[show (Ù9 ů)=(Ù9 ÿ2).map T.bl by ext ċ3,az,Î2];ext đ2
def Lf (s b:Bool):yJ (ß (wd s b)) (à [ß "alike",ß (cond s Ý1)])=↑ Ĩ:=by
 exact (Q_ (wd s b) ["alike",cond s Ý1] Ô).trans (Ü Ä2 ?_);cases s <;> cases b <;> decide
section
variable {s:T}{n:Int}{sec:Bool}{F G M:zD}{mF mG mM:Nat}{Ñ5}(gM:Good M)(hn:Ó7)
 (rF:lj [č6]=↑(kh (nr F mF))) (rG:lj [zt G]=↑(kh (nr G mG))) (rM:lj [zt M]=↑(kh (nr M mM))) (RF:lg F mF) (RG:lg G mG) (RM:lg M mM)
 (hm:aQ [zt G]=↑(zt M)) (I:nk G M ù1) (sG:∀ k,zG G (mG+k)=Û4) (sM:∀ k,zG M (mM+k)=zG M mM)
 {es:Æ4}(hes:Ď7=Ð) (c1:kL Ø7=↑(à ((Ø3 (wd sec)).map ø))) (c2:kL [č6,zt G]=↑(à ((Ø3 (wd (!sec))).map ø)))
 (hle:Ä3)
abbrev ev (s:T) â8 (sec:Bool) (F G:zD) (d10 d11 d12 d13 d14 d15 d16:Ú7) (dk:Ú7):Ev:=[im s,im ë9,im Ă4,ü7,im (ß (cond sec Ý1)),im È7,none,dk,none,none,d10,d11,d12,d13,d14,d15,d16]
include gF gG gM hn rF rG rM RF RG RM hm I sG sM hes c1 c2 hle
theorem EJ:(zw (zY 10 (xM vF (iO (iI kM) (za (zb 7) (za (cS (ß "compare fa fb")) ze))) À8))
 (zw (zY 11 (xM vF (iO (iI kM) (za (zb 7) (za (cS (ß "compare fb fa")) ze))) À8))
 (zw (ym (oa (yd (zc (zO true) (zm xy (za (zb 10) ze)) ä2)) (va (xF (zm ð7 (za VU ze))))) (retS (cS ü2)) yw)
 (zw (ym (yd (zc (zO true) (zb 11) VQ)) (retS (cS ü2)) yw)
 (zw (zY 12 É5)
 (zw (zY 13 (kF jo (za (zb 7) (za (cS (ß "fb")) (za ä2 (za (zc zk ă9 Ö9) ze))))))
 (zw (cM (yd (zc (gU Ô) (zb 12) (cS .zJ))) (yd (zc (gU Ô) (zb 13) (cS .zJ))) (gw 7 dU (cS (å3)) yw))
 (zw (ym À3)
 (zw (wC [14] (xW o7 (za ä2 ze)) (zC 14) YN)
 (zw (zY 15 (kF jo (za (zb 7) (za (cS (Ď6)) (za ä2 (za (tupS (za (zc zk ý1 Î3) (za (zc zk ý1 Ö9) ze))) ze))))))
 (zw (zY 16 É5)
 (retS (zc ì2 (zb 15) YD)))))))))))))
 (ev À9 õ õ õ none ↑(ō (.zF Æ1 Ø7)))=↑(.rt Ĩ):=by
 have n3:=gF.n3;have n1:=gF.g.n1;have e0:es≠[]:=λ z=>by rw[z] at hes;simp at hes;lia
 have el:Ď7<=3:=⋯;have pG:=j8 G;have pF:=j8 F;have w7:∀ s:Bool,∀ w∈ Ø3 (wd s),ß0<=7:=λ s w hw=>by
  let#[b,_,rfl]:=č hw;show (Xz s b).1
 have s1:kM [lW È7 Ķ,ß "compare fa fb"]=↑(ß (ð " " (Ø3 (wd sec)))):=
  SK eP ZT (ext ()) (Zl _ _) (XD _ _) () pG pF () (Mw c1 (w7 sec) (ľ))
 have s2:kM [lW È7 Ķ,ß "compare fb fa"]=↑(ß (ð " " (Ø3 (wd (!sec))))):=
  SK ZT eP (ext ()) (XD _ _) (Zl _ _) () pF pG () (Mw c2 (w7 (!sec)) (ľ))
 have j1:=Th (s:=sec) e0 el;have j2:=Th (s:=!sec) e0 el;have k1:∀ d11 d12 d13 d14 d15 d16 dk,VU ù6=↑(à (Ø3 ů)):=λ d11 d12 d13 d14 d15 d16 dk=>
  xH (Ð6) _ es î0 λ b _=>mL rfl (zy rfl (gN ă ĭ) (Lf sec b))
 have k2:∀ d11 d12 d13 d14 d15 d16 dk,VQ ù6=↑(à (Ø3 í5)):=λ d11 d12 d13 d14 d15 d16 dk=>
  xH (Ð6) _ es î0 λ b _=>mL rfl (by cases sec <;> cases b <;> rfl)
 have dE:dep (à (Ø3 í5))<=60:=by
  have:=iK (í5) 0 (λ _=>ç3) es;ext ó3
 have hlen:xy [à (Ø3 Ð6)]=↑ Ă4:=by
  rw[<- hes];simp
 have ne:zO true Ă4 Ă4=↑ ü2:=(ë5 _ _ true).trans #[];have bG:=Xi gG rG RG eP (Zl È7 Ķ);have bF:=Xi gF rF RF ZT (XD È7 Ķ);have bG3:=Xi gG rG RG eP (LZ Ĉ0);have bM:=Xi gM rM RM Qp (LY Ĉ0);have eMA:M.A=G.B:=I.A;have eMB:M.B=G.A:=I.B;rw[hn] at bG bG3;rw[show M.os.length=Ð from I.n.trans hn,eMA,eMB,Ef gG gM I sG sM] at bM;have hW:=zaO (F:=č6) hm pG (j8 M);have hpl:xR [ø "mirror fc fa",zt G,č6]=true:=by change (true&&(Ë9 È7&&(Ë9 Ķ&&true)))=true;rw[pG,pF];rfl
 have hpl3:xR [ø "ok",zt G,č6,zt M]=true:=by change (true&&(Ë9 È7&&(Ë9 Ķ&&(Ë9 (zt M)&&true))))=true;rw[pG,pF,j8 M];rfl
 have lG:(Û4).length=Ð:=by rw[mN];show hn
 have lF:(í4).length=Ð:=mN F mF;have c4:∀ d10 d11 d12 d13 d14 d15 dk,YD (ev À9 ļ (im (eT (Û4))) dk)=↑(eT ((Û4).map đ5)):=λ _ _ _ _ _ _ _=>zab ⋯ λ b hb=>(gG.bd RG b hb).2.1;obtain⟨P,hP⟩:∃ P,P=cond sec (í4) (Û4):=Ç9;obtain⟨Q,hQ⟩:∃ Q,Q=cond sec (Û4) (í4):=Ç9;rw[<- hP,<- hQ] at hle;have lP:P.length=Ð:=by rw[hP];cases sec <;> assumption
 have lQ:Q.length=Ð:=by rw[hQ];cases sec <;> assumption
 have bP:∀ p,(P.getD p []).length<=5:=λ p=>by
  rw[hP];cases sec
  .show (gG.aA RG p).2.1
  .show (gF.aA RF p).2.1
 have bQ:∀ p,(Q.getD p []).length<=5:=λ p=>by
  rw[hQ];cases sec
  .show (gF.aA RF p).2.1
  .show (gG.aA RG p).2.1
 have swap:∀ d10 d11 dk,ym À3 (ev À9 d10 d11 (im (eT (Û4))) (im (eT (í4))) õ none dk)=↑(.nx (ĥ)):=λ d10 d11 dk=>by
  rw[hP,hQ];cases sec
  .show yi (yh (zy É (Ń))) rfl
  .show xu (yh (zy É (Ń))) (Zn î4 rfl)
 clear hP hQ;have walk:∀ d10 d11 dk,pO [14] (zC 14) YN (Ú0 Á6) (ĥ)=↑(.nx (ĥ)):=λ d10 d11 dk=>by
  let#[J',p1,p2]:=pN (is:=[14]) (g:=zC 14) (b:=YN) (Á6) (λ _ J=>J=ĥ) ë3 (ĥ) rfl (by
   rintro pf p qf e J rfl;have hp:p<Ð:=ñ9 (Ģ);have hu:=zaZ (Q.getD p []) (P.getD p []) (by have:=bQ p;lia) (by have:=bP p;lia);have ha:((Q.getD p []).all λ q=>yc (P.getD p []) q)=true:=Ò7 λ q hq=>hle p q (xn.mpr #[q,hq,Ù6,Ù6]);rw[ha] at hu;show#[_,ll rfl (yi (w_ (wa (zN (zi (zy É (QL Q p ⋯)) (zi (zy É (QL P p ⋯)) rfl)) hu))) rfl),rfl])
  subst p2;show p1
 exact zp (zQ (o5 (YB (zi æ4 À5) (V6 s1) rfl) rfl j1)) ?_;exact zp (zQ (o5 (YB (zi æ4 À5) (V6 s2) rfl) rfl j2)) ?_;exact zp (yi (pX (yh (zy (yY rfl hlen) rfl ne)) (w_ (wa (yY (k1 Ñ Ñ _) (zaG es))))) rfl) ?_;exact zp (yi (yh (zy rfl (k2 Ñ Ñ _) (PU true dE))) rfl) ?_;exact zp (zQ (YC (zi æ4 é9) bG rfl (Yv _))) ?_;exact zp (zQ (YC (zi æ4 (zi rfl (zi rfl (zi Ì9 rfl)))) bF rfl (Yv _))) ?_;exact zp (Ju É (SM (ks:=Æ1) (ts:=Ø7) É hpl hW #[rfl,hpl3] rfl)) ?_;exact zp (swap Ñ) (zp (vp (Z8 ⋯ rfl) (walk Ñ)) ?_);exact zp (zQ (YC (zi (x:=Xs Ĉ0) rfl (zi rfl (zi rfl (zi (x:=zB (G.B,G.A)) (xm (zi (zy (zy É (kx G)) É) (zi (zy (zy É (kx G)) É) rfl)) ĭ) rfl)))) bM rfl (Yv _))) ?_;exact zp (zQ (YC (zi (x:=Xs Ĉ0) rfl é9) bG3 rfl (Yv _))) ?_;show yK (zy rfl (c4 Ñ Ñ _) (PU Ô (Ag _)))
end
def EZ {os:ï}{a:Int}(h:Ć3 (Ŕ ø) a=true):(Ŕ È5).getD Ă2 Ô=true:=by
 unfold Ć3 at h;rw[zA3] at h;rw[zB1,zA3];cases z:os[Ă2]? with
 | none=>rw[z] at h;cases h
 | some s=>rw[z] at h;show h
def CK Ŀ{many:Nat}(hx:0<=x/\x<=4) (hy:0<=y/\y<=4) (hn:ä=many) (h1:1<=many) (h3:many<=3) Ù3 (hl:Á2<=24) (hl2:ä4<=8) (hup:m9 ws=true) ê5 (hu:è1):Good (Fl å):=by
 have eo:(Ŕ È5).length=many:=by rw[zA7];show hn
 exact#[#[?_,?_,?_,?_,?_,?_,?_,?_,?_],hx,hy,?_]
 .change 1<=Ð7;rw[eo];show h1
 .change Ð7<=8;rw[eo];lia
 .intro w h;change (w.f<Ð7/\w.t<Ð7)/\_;rw[eo];ext ú2;ext á8;exact#[?_,h3,h4];change Ă2<many/\b.toNat<many;lia
 .change (Ī _).length<=24;rw[zA7];show hl
 .change ((Ī cT).map yL).Pairwise _;have e:(Ī cT).map yL=ws:=by
   rw[zD6]
   conv=>rhs;rw[<- zcS ws]
   exact zc9 É6;ext á8;change [((Ă2:Nat):Int),((b.toNat:Nat):Int),c,d]=Ā
   rw[zF2 h1.1,zF2 h2.1]
  rw[e];show R5 hup
 .show Bw hn hw hg
 .intro s h;ext ú2;let#[a,b,c,d,rfl,h1,h2,h3,h4,h5]:=hq Đ0;rw[zA7] at h1;exact#[?_,EZ h5,h3,h4];change Ă2<Ð7;rw[eo];lia
 .change (Ů cU).Pairwise _;have h:=T5 hu;rw[zcD] at h;rw[zcD];exact ä9 (λ{r s} hr hs hlt=>?_) h;let#[a,b,c,d,rfl,h1,_]:=hq Đ0;let#[a',b',c',d',rfl,h2,_]:=hq s hs;have hlt:a<a':=hlt;change Ă2<a'.toNat;lia
 .change (Ů _).length<=8;rw[zA7];show hl2
 .change Ð7<=3;rw[eo];show h3
abbrev nU (s:T) â8 (sec:Bool) (F G:zD) (k dk a b:Ú7):Ev:=[im s,im ë9,im Ă4,ü7,im (ß (cond sec Ý1)),im È7,k,dk,a,b,none,none,none,none,none,none,none]
theorem six Ű(gF:Good F) ø3 â8:∃ G,Good G/\Le F G/\wC â0 (nU Ö5)=↑(.nx (nU (Ć4) n Ô F G õ õ)):=by
 let#[J1,p1,G,g1,g2,rfl]:=pN (is:=[6]) (g:=zC 6) (b:=YU) (λ k:Nat=>ņ (30+ç)) (λ _ J=>∃ G,Good G/\Le F G/\J=nU (Ć4) n Ô F G õ õ) (í 6) (nU Ö5) #[F,gF,Le.refl F,rfl] (by
  rintro p k q e J ⟨G,g1,g2,rfl⟩;have hk:k<6:=ñ9 (Ģ);have fm:=ck ns (30+k) ⋯;have ek:((30+k:Nat):Int)=30+ç:=⋯;rw[ek] at fm;let#[H,r1,r2,r3]:=g1.more (mixed ns (30+k));show#[_,ll rfl (zQ (zN (zi rfl (zi (zN ă fm) rfl)) r1)),H,r2,g2.trans r3,rfl])
 show#[G,g1,g2,vp rfl p1]
theorem told ß4 Ñ5 (s:T) â8 (sec:Bool):wC [8,9] (yP Ã0) (wc 2 Ì0) YQ Í0=↑(.nx (nU À9 none ↑(ō (.zF Æ1 Ø7)) õ)):=by
 have one:∀ ø4 (H:zD) (ks:List Key) (ts:þ),kI w->Good H->xR ts=true->xR (ts++[zt H])=true->pZ ks ts [ß w,zt H]=↑(ß "ok",ks++[ó6 w],ts++[zt H])->turn (wc 2 Ì0) YQ (ô [ß w,zt H]) (nU À9 none ↑(ō (Œ)) õ)=↑(.nx (nU À9 none ↑(ō (.zF (ks++[ó6 w]) (ts++[zt H]))) (im Þ6) (im (zt H)))):=λ w H ks ts hN gH hp i3 hk=>by
  let#[t,t1,t2,t3]:=gH.txt;have hrow:=(vv (vv (vv (cB (J:=nU À9 none ↑(ō (Œ)) (im Þ6) (im (zt H))) "floor " 6) (#[rfl,hN.l8]:mx (zb 8) _ w 8)) Ø9) (#[yY rfl t2,t1]:mx (zm aU (za (zu 9) ze)) _ t 1350)).1;show ll rfl (SM (ks:=ks) (ts:=ts) rfl hrow (by change (true&&xR ts)=true;rw[hp];rfl) (zaP hN ⋯ t3 (j8 H) hk) #[rfl,by change (true&&xR (ts++[zt H]))=true;rw[i3];rfl] rfl)
 have pG:xR [zt G]=true:=by change (Ë9 È7&&true)=true;rw[j8 G];rfl
 have pGF:xR Ø7=true:=by change (Ë9 È7&&(Ë9 Ķ&&true))=true;rw[j8 G,j8 F];rfl
 have a1:=one "fa" G [] [] eP gG rfl pG rfl;have a2:=one "fb" F [ó6 "fa"] [zt G] ZT gF pG pGF rfl;have hi:yP Ã0 Í0=↑((ñ0:List (Str×zD)).map ù7):=by
  change (xC _ _).bind wy=_;rw[gN (zi î4 (zi î4 rfl)) ĭ];rfl
 let#[J1,p1,p2]:=pN (is:=[8,9]) (g:=wc 2 Ì0) (b:=YQ) (ù7) (λ p J=>J=nU À9 none ↑(ō (.zF (p.map λ x=>ó6 x.1) (p.map λ x=>zt x.2))) õ) (ñ0:List (Str×zD)) Í0 rfl (by
  rintro p x q e J rfl
  match p,e with
  | [],e=>
   let#[rfl,_]:=Ç0 e;show#[_,a1,rfl]
  | [y],e=>
   let#[e1,e2]:=Ç0 e;subst e1;let#[e3,_]:=Ç0 e2;subst e3;show#[_,a2,rfl]
  | _::_::_,e=>ext ĉ0)
 subst p2;show vp hi p1
end zP.V
namespace zP
open Ć0 L2 L3 L5 SJ RN
theorem EI ø3 (_:Ô4<=63):aW [Ć4]=↑ Ĩ:=by
 have fm:=ck ns 0 ();obtain⟨m0,-⟩:=WG ns 0;generalize mixed ns 0=n at *;obtain⟨many,hm⟩:∃ many:Nat,ð0=1+n%3:=#[(1+n%3).toNat,⋯];obtain⟨more,hmo⟩:∃ more:Nat,(more:Int)=n/100%6:=#[(n/100%6).toNat,⋯];obtain⟨x,hx⟩:∃ b,b=n/4%4:=Ç9;obtain⟨y,hy⟩:∃ b,b=n/20%4:=Ç9;let#[os',ws,qs,w1,w2,w3,w4,w5,w6,w7,w8,w9,w10,w11,w12]:=zbh ns 2 many more (ä7) () Ð9 ⋯;let#[os,rfl]:=V.RT os' w3;rw[zA7] at w2;have ho:=V.Gv w3;have hup:m9 ws=true:=by
  unfold n_ at w4;dsimp only at w4;rw[gy] at w4;simp![zE5] at w4;show w4.2.2.1
 have w1':Xj [Ć4,Ö 2,Ö many,ä7,Ö more]=↑(zt å):=w1;rw[V.Bx (x:=x) (y:=y) ho w9 w11] at w1';have gF:=V.CK (x:=x) (y:=y) Ð9 w2 Ð9 w9 w11 ⋯ w8 hup w10 w12;have hol:(V.Fl å).os.length=many:=by change Ð7=many;rw[zA7];show w2
 generalize V.Fl å=F at *;subst hol;have d4:vE n 4:=ċ;have d20:vE n 20:=ċ;have d100:vE n 100:=ċ;have d600:vE n 600:=ċ;let#[mF,_,rF,RF,sF]:=gF.rd
 suffices h:∃ (sec:Bool) (G:zD),V.Good G/\(cond sec (V.Le G F) (V.Le F G))/\ym (yd Ù1) (zw (zY 4 (cS (ß "second"))) (zY 5 (zm aR (za (zu 3) (za (zm jn (za (zu 0) (za (cI 30) ze))) (za (cS (ā5)) ze)))))) (wC â0) (V.nU Ö5)=↑(.nx (V.nU (Ć4) n sec F G õ õ)) by
  let#[sec,G,gG,L,hif]:=h;let#[mG,_,rG,RG,sG]:=gG.rd;let#[M,hmir,gM,I]:=gG.Eh;let#[mM,_,rM,RM,sM]:=gM.rd;have tail:∃ es:Æ4,Ď7=Ð/\kL [V.zt G,V.zt F]=↑(à ((Ø3 (V.wd sec)).map ø))/\kL [V.zt F,V.zt G]=↑(à ((Ø3 (V.wd (!sec))).map ø))/\Ó7/\Ä3:=by
   cases sec with
   | Ô=>
    have L:V.Le F G:=L;have hle:∀ t,y6 ((í4).getD t []) ((Û4).getD t []):=λ t=>by
     ext é1
    let#[es,e1,e2,e3]:=V.cmp gF gG L rF rG RF RG hle;show#[es,e1,e2,e3,L.n,hle]
   | true=>
    have L:V.Le G F:=L;have hle:∀ t,y6 ((Û4).getD t []) ((í4).getD t []):=λ t=>by
     ext é1
    let#[es,e1,e2,e3]:=V.cmp gG gF L rG rF RG RF hle;show#[es,e1.trans L.n.symm,e3,e2,L.n.symm,hle]
  let#[es,e1,e2,e3,e4,e5]:=tail;have tail:=V.EJ (s:=Ć4) (n:=n) (sec:=sec) gF gG gM e4 rF rG rM RF RG RM hmir I sG sM e1 e2 e3 e5;exact yb (zp (zQ (zN ă fm)) (zp (zQ (y:=nT Ð) ?_) (zp (zQ (zN (zi rfl (zi rfl (zi rfl (zi (x:=ä7) ?_ (zi (x:=Ö more) Ā2))))) w1')) (zp û6 (zp û6 (zp hif (zp rfl (zp (V.told gF gG (Ć4) n sec) tail)))))))) rfl
  .rw[show nT Ð=Ö (1+n%3) from Ü ņ hm];show zy rfl (V.qL É ()) rfl
  .rw[hx,hy];show xm (zi (V.qL (V.nG É d4) Ā1) (zi (V.qL (V.nG É d20) Ā1) rfl)) ĭ
  .rw[hmo];show V.qL (V.nG É d100) Ā1
 have ht:yd Ù1 (V.nU Ö5)=↑(î (n/600%3=1)):=yh (zy (V.qL (V.nG É d600) Ā1) rfl Î7);by_cases z:n/600%3=1
 .rw[zeV z] at ht;let#[G,r1,r2,r3]:=gF.Tn Ô (mixed ns 30);exact#[true,G,r2,?_,xu ht (zp û6 (zQ (zN (zi rfl (zi (zN ă (ck ns 30 ())) À5)) r1)))];ext ê3
  .show V.Le.refl _
  .show V.Le.of (oW.LA hm ho)
 .rw[zeW z] at ht;let#[G,g1,g2,g3]:=V.six gF ns n;show#[Ô,G,g1,g2,yi ht g3]
end zP
namespace zP
open Ć0 L2 L3 L5
open PyProof.Rows hiding St
set_option maxHeartbeats 0
structure CC (K:zFr) (w:World) (mg:zSV):Prop where
 c0:Cm mg "ALIKE" (ß "alike")
 c1:Cm mg "FIGURES" (ß "0123456789")
 c2:Cm mg "FIRST" (ß "first")
 c3:Cm mg "KEEPER" (Ú6)
 c4:Cm mg "LETTERS" (ß "abcdefghijklmnopqrstuvwxyz")
 c5:Cm mg "MOST_COINS" (Ö 12)
 c6:Cm mg "MOST_FIGURES" (Ö 4)
 c7:Cm mg "MOST_LETTERS" (Ö 8)
 c8:Cm mg "MOST_PLACES" (Ö 8)
 c9:Cm mg "MOST_WAYS" (Ö 24)
 c10:Cm mg "NEITHER" (ß "neither")
 c11:Cq K mg "PURSES" č0
 c12:Cm mg "SECOND" (ß "second")
 c13:Cm mg "TAKER" (ā5)
 c14:Xd K w mg "FORMS" ku
 c15:lV K
section
variable (P:Program)(w:World)(K:zFr)(mg:zSV)(base:Heap)
structure D1:Prop where
 x0:FD Ï "is_whole" 1 ë7 (zR zl fQ)
 x1:FD Ï "are_rising" 1 ["things"] (zR zl fS)
 x2:FD Ï "is_owner" 1 ë7 (zR zl UQ)
 x3:FD Ï "places_of" 1 Ď9 (zR zl jX)
 x4:FD Ï "at_or_above" 1 ["pair","other"] (zR zl fR)
structure D2:Prop where
 x0:FD Ï "least_pairs" 1 ["pairs"] (zR zl fO)
 x1:FD Ï "pairs_ahead_of_changes" 1 ["brims","stall","pair"] (zR zl UE)
 x2:FD Ï "show_way" 1 ["way"] (zR zl UA)
 x3:FD Ï "show_stall" 1 ["stall"] (zR zl UB)
 x4:FD Ï "read_word" 1 ["word"] (zR zq Xf)
structure D3:Prop where
 x0:FD Ï "is_made_of" 1 ["word","signs","most"] (zR zl Xm)
 x1:FD Ï "show_pair" 1 ["pair"] (zR zl UC)
 x2:FD Ï "_law_mixed" 1 ["_law_script","_law_k"] (zR zl jn)
 x3:FD Ï "_law_stalls" 1 ["_law_cell","_law_owners"] (zR zl UK)
 x4:FD Ï "_law_text" 1 ["_law_floor_here"] (zR zq aU)
structure D4:Prop where
 x0:FD Ï "_law_border" 1 ["_law_text_here"] (zR zl aV)
 x1:FD Ï "_law_held" 1 ["_law_border_here","_law_pair"] (zR zl UO)
 x2:FD Ï "_law_way_more" 1 ["_law_floor_here","_law_number","_law_owner"] (zR zq aR)
 x3:FD Ï "_law_coins_more" 1 ö5 (zR zl UP)
structure D5:Prop where
 x0:FD Ï "is_whole_within" 2 ["thing","least","most"] (zR zl fP)
 x1:FD Ï "are_owners" 2 ë7 (zR zl Xq)
 x2:FD Ï "both" 2 ñ1 (zR zl Xo)
 x3:FD Ï "either" 2 ñ1 (zR zl i_)
 x4:FD Ï "border_ahead_of_way" 2 ["brims","way","border"] (zR zl UW)
structure D6:Prop where
 x0:FD Ï "show_floor" 2 Ď9 (zR zq aO)
 x1:FD Ï "read_words" 2 ["words"] (zR zl fM)
 x2:FD Ï "is_row" 2 ë7 (zR zl Xk)
 x3:FD Ï "pairs_inside" 2 ["border","brims"] (zR zl fN)
 x4:FD Ï "is_number" 2 ["word"] (zR zl Xl)
structure D7:Prop where
 x0:FD Ï "show_border" 2 ["border"] (zR zq UD)
 x1:FD Ï "_law_ways" 2 ["_law_script","_law_at","_law_many","_law_more_here","_law_span"] (zR zl UI)
 x2:FD Ï "_law_stall_cell" 2 ["_law_script","_law_at","_law_digits"] (zR zl UL)
 x3:FD Ï "_law_is_border" 2 ["_law_text_here","_law_brims"] (zR zl UN)
 x4:FD Ï "_law_more" 2 ö5 (zR zq UM)
structure D8:Prop where
 x0:FD Ï "_law_under" 2 ["_law_less","_law_more_here"] (zR zl UJ)
structure D9:Prop where
 x0:FD Ï "is_row_within" 3 ["thing","bounds"] (zR zl aX)
 x1:FD Ï "check_place" 3 ö6 (zR zl cn)
 x2:FD Ï "border_of_either" 3 ["borders"] (zR zq UT)
 x3:FD Ï "border_of_all" 3 ["borders"] (zR zq UU)
 x4:FD Ï "read_parts" 3 ["parts"] (zR zl Xg)
structure MC:Prop where
 x0:FD Ï "word_for" 3 ñ1 (zR zq jm)
 x1:FD Ï "is_of_form" 3 ["word","form"] (zR zl iZ)
 x2:FD Ï "_law_floor" 3 ["_law_script","_law_at","_law_many","_law_brims","_law_more_here"] (zR zl Xj)
 x3:fT Ï "thing_for" 3 ["self","word","form"] (zR zq nZ)
structure MB:Prop where
 x0:FD Ï "are_rows_within" 4 ["thing","bounds"] (zR zl Xp)
 x1:FD Ï "are_brims" 4 ë7 (zR zl Ta)
 x2:FD Ï "ways_from" 4 ö6 (zR zl U8)
 x3:FD Ï "stall_at" 4 ö6 (zR zq U9)
 x4:FD Ï "are_of_forms" 4 ["words","forms"] (zR zl U_)
structure MA:Prop where
 x0:FD Ï "are_ways" 5 ["thing","places"] (zR zl UY)
 x1:FD Ï "are_stalls" 5 ["thing","owners"] (zR zl UZ)
 x2:FD Ï "border_ahead_of_changes" 5 ["floor","place","border"] (zR zq UX)
 x3:FD Ï "read_row" 5 ["row"] (zR zq iY)
structure M9:Prop where
 x0:FD Ï "is_floor" 6 ë7 (zR zl jY)
 x1:FD Ï "next_border" 6 ["floor","place","last"] (zR zq UH)
structure M8:Prop where
 x0:FD Ï "next_round" 7 ["floor","last","fresh"] (zR zl UG)
 x1:FD Ï "read_floor" 7 ["text"] (zR zq cj)
 x2:FD Ï "floor_of" 7 ["brims","owners","ways","stalls"] (zR zq Xn)
structure M7:Prop where
 x0:FD Ï "rounds" 8 Ď9 (zR zl lj)
 x1:FD Ï "mirrored" 8 Ď9 (zR zq aQ)
structure M6:Prop where
 x0:FD Ï "borders" 9 Ď9 (zR zq hJ)
structure M5:Prop where
 x0:FD Ï "compare" 10 ["one","other"] (zR zl kL)
 x1:FD Ï "answer_border" 10 ["things"] (zR zq cq)
structure M4:Prop where
 x0:FD Ï "answer_compare" 11 ["things"] (zR zq cp)
structure M3:Prop where
 x0:U4 Ï "ANSWERS" 11 ["things"] (Uo.map λ q=>(q.1,zR zq q.2))
structure M1:Prop where
 x0:fT Ï "say" 12 ["self","row"] (zR zq kM)
structure M0:Prop where
 x0:Xr Ï 2
 x1:hZ Ï "keep" 2 ["self","name","floor"] (pJ pZ)
structure Mz:Prop where
 x0:hZ Ï "say" 12 ["self","row"] (pJ dU)
structure My:Prop where
 x0:FD Ï "_law_borders" 13 ["_law_desk","_law_name","_law_many","_law_brims"] (zR zl jo)
variable {w K mg}(T:Bt mg)(U:Bq mg){h:Heap}(H:HH K w)(C:CC K w mg)(X:K.In h)(G:h.Ns ç6)
include T U H C X G
theorem Fv:D1 Ï:=by
 cases C;exact#[yx [] (H.h0.mk X G) ?_,
  yx [(["one","other"],ï4)] (H.h4.mk X G) ?_,
  yx [] (H.h6.mk X G) ?_,
  yx [] (H.CH.mk X G) ?_,
  yx [] (H.Vh.mk X G) ?_]
 all_goals
  ext Ú;show#[_,(by
    repeat' first
     | show rfl
     | ext À
     | ext ê
     | ext È
     | ext ý
     | ext Ã
     | apply zV | apply xa | apply y_ | apply vJ
     | ext ã
     | ext Î | ext Ă | ext Ď | ext Ĝ | ext Ø | ext Ê
     | ext ŀ
     | ext Á
     | apply uB | apply vI | apply vH | apply vG | apply uA | show u9
     | ext ŗ
     | ext Ë
     | ext Ý
     | show uD | show uz | apply uC | apply ux
     | show hr | show nd | ext ģ | show ī | show Ĥ | show ŉ | show Ŋ | show é | decide
     | show Ē | show ē | show Ĕ | show ĕ | show Ė | show ė | show Ę | show ę | show Ě | show ě | show Ą | show ą | show Ć | show ć | show Ĉ | show ĉ | show Ċ),(by
    repeat' first
     | ext Ò
     | (ext Ä)
     | ext Â
     | ext ñ
     | ext Ç
     | ext Æ
     | ext ò
     | show Ĭ
     | show ŋ)]
variable (d1:D1 Ï)
include d1
theorem Ff:D2 Ï:=by
 cases C;cases d1;exact#[yx [] (H.Pe.mk X G) ?_,
  yx [] (H.C9.mk X G) ?_,
  yx [] (H.C2.mk X G) ?_,
  yx [] (H.C1.mk X G) ?_,
  yx [] (H.Cz.mk X G) ?_]
 all_goals
  ext Ú;show#[_,(by
    repeat' first
     | show rfl
     | ext À
     | ext ê
     | ext È
     | ext ý
     | ext Ã
     | apply zV | apply xa | apply y_ | apply vJ
     | ext ã
     | ext Î | ext Ă | ext Ď | ext Ĝ | ext Ø | ext Ê
     | ext ŀ
     | ext Á
     | apply uB | apply vI | apply vH | apply vG | apply uA | show u9
     | ext ŗ
     | ext Ë
     | ext Ý
     | show uD | show uz | apply uC | apply ux
     | show hr | show nd | ext ģ | show ī | show Ĥ | show ŉ | show Ŋ | show é | decide
     | show Ē | show ē | show Ĕ | show ĕ | show Ė | show ė | show Ę | show ę | show Ě | show ě | show Ą | show ą | show Ć | show ć | show Ĉ | show ĉ | show Ċ),(by
    repeat' first
     | ext Ò
     | (ext Ä)
     | ext Â
     | ext ñ
     | ext Ç
     | ext Æ
     | ext ò
     | show Ĭ
     | show ŋ)]
variable (d2:D2 Ï)
include d2
theorem G_:D3 Ï:=by
 cases C;cases d1;cases d2;exact#[yx [(["sign","signs"],Õ1)] (H.Ck.mk X G) ?_,
  yx [] (H.Ce.mk X G) ?_,
  yx [] (H.Ca.mk X G) ?_,
  yx [] (H.DZ.mk X G) ?_,
  yx [] (H.DW.mk X G) ?_]
 all_goals
  ext Ú;show#[_,(by
    repeat' first
     | show rfl
     | ext À
     | ext ê
     | ext È
     | ext ý
     | ext Ã
     | apply zV | apply xa | apply y_ | apply vJ
     | ext ã
     | ext Î | ext Ă | ext Ď | ext Ĝ | ext Ø | ext Ê
     | ext ŀ
     | ext Á
     | apply uB | apply vI | apply vH | apply vG | apply uA | show u9
     | ext ŗ
     | ext Ë
     | ext Ý
     | show uD | show uz | apply uC | apply ux
     | show hr | show nd | ext ģ | show ī | show Ĥ | show ŉ | show Ŋ | show é | decide
     | show Ē | show ē | show Ĕ | show ĕ | show Ė | show ė | show Ę | show ę | show Ě | show ě | show Ą | show ą | show Ć | show ć | show Ĉ | show ĉ | show Ċ),(by
    repeat' first
     | ext Ò
     | (ext Ä)
     | ext Â
     | ext ñ
     | ext Ç
     | ext Æ
     | ext ò
     | show Ĭ
     | show ŋ)]
variable (d3:D3 Ï)
include d3
theorem GZ:D4 Ï:=by
 ext â1;exact#[yx [] (H.DV.mk X G) ?_,
  yx [(["_law_x","_law_y","_law_pair"],[none,none,↑1])] (H.DU.mk X G) ?_,
  yx [(["_law_place","_law_floor_here","_law_owner"],ø9)] (H.DS.mk X G) ?_,
  yx [(["_law_k","_law_floor_here","_law_at"],ø9)] (H.DR.mk X G) ?_]
 all_goals
  ext Ú;show#[_,(by
    repeat' first
     | show rfl
     | ext À
     | ext ê
     | ext È
     | ext ý
     | ext Ã
     | apply zV | apply xa | apply y_ | apply vJ
     | ext ã
     | ext Î | ext Ă | ext Ď | ext Ĝ | ext Ø | ext Ê
     | ext ŀ
     | ext Á
     | apply uB | apply vI | apply vH | apply vG | apply uA | show u9
     | ext ŗ
     | ext Ë
     | ext Ý
     | show uD | show uz | apply uC | apply ux
     | show hr | show nd | ext ģ | show ī | show Ĥ | show ŉ | show Ŋ | show é | decide
     | show Ē | show ē | show Ĕ | show ĕ | show Ė | show ė | show Ę | show ę | show Ě | show ě | show Ą | show ą | show Ć | show ć | show Ĉ | show ĉ | show Ċ),(by
    repeat' first
     | ext Ò
     | (ext Ä)
     | ext Â
     | ext ñ
     | ext Ç
     | ext Æ
     | ext ò
     | show Ĭ
     | show ŋ)]
variable (d4:D4 Ï)
include d4
theorem GY:D5 Ï:=by
 ext â1;cases d4;exact#[yx [] (H.h1.mk X G) ?_,
  yx [(["owner"],ã2)] (H.h7.mk X G) ?_,
  yx [(["pair"],ã2)] (H.CD.mk X G) ?_,
  yx [] (H.CB.mk X G) ?_,
  yx [(["pair","way"],Õ1),(["pair","brims"],[none,↑0])] (H.CA.mk X G) ?_]
 all_goals
  ext Ú;show#[_,(by
    repeat' first
     | show rfl
     | ext À
     | ext ê
     | ext È
     | ext ý
     | ext Ã
     | apply zV | apply xa | apply y_ | apply vJ
     | ext ã
     | ext Î | ext Ă | ext Ď | ext Ĝ | ext Ø | ext Ê
     | ext ŀ
     | ext Á
     | apply uB | apply vI | apply vH | apply vG | apply uA | show u9
     | ext ŗ
     | ext Ë
     | ext Ý
     | show uD | show uz | apply uC | apply ux
     | show hr | show nd | ext ģ | show ī | show Ĥ | show ŉ | show Ŋ | show é | decide
     | show Ē | show ē | show Ĕ | show ĕ | show Ė | show ė | show Ę | show ę | show Ě | show ě | show Ą | show ą | show Ć | show ć | show Ĉ | show ĉ | show Ċ),(by
    repeat' first
     | ext Ò
     | (ext Ä)
     | ext Â
     | ext ñ
     | ext Ç
     | ext Æ
     | ext ò
     | show Ĭ
     | show ŋ)]
variable (d5:D5 Ï)
include d5
theorem GX:D6 Ï:=by
 ext Õ;exact#[yx ñ2 (H.C0.mk X G) ?_,
  yx [(["word"],ã2)] (H.du.mk X G) ?_,
  yx [(["number"],ã2)] (H.Cv.mk X G) ?_,
  yx [(["pair","brims"],Õ1)] (H.Cr.mk X G) ?_,
  yx [] (H.Cj.mk X G) ?_]
 all_goals
  ext Ú;show#[_,(by
    repeat' first
     | show rfl
     | ext À
     | ext ê
     | ext È
     | ext ý
     | ext Ã
     | apply zV | apply xa | apply y_ | apply vJ
     | ext ã
     | ext Î | ext Ă | ext Ď | ext Ĝ | ext Ø | ext Ê
     | ext ŀ
     | ext Á
     | apply uB | apply vI | apply vH | apply vG | apply uA | show u9
     | ext ŗ
     | ext Ë
     | ext Ý
     | show uD | show uz | apply uC | apply ux
     | show hr | show nd | ext ģ | show ī | show Ĥ | show ŉ | show Ŋ | show é | decide
     | show Ē | show ē | show Ĕ | show ĕ | show Ė | show ė | show Ę | show ę | show Ě | show ě | show Ą | show ą | show Ć | show ć | show Ĉ | show ĉ | show Ċ),(by
    repeat' first
     | ext Ò
     | (ext Ä)
     | ext Â
     | ext ñ
     | ext Ç
     | ext Æ
     | ext ò
     | show Ĭ
     | show ŋ)]
variable (d6:D6 Ï)
include d6
theorem GW:D7 Ï:=by
 ext Õ;cases d6;exact#[yx [(["pair"],ã2)] (H.Cd.mk X G) ?_,
  yx [] (H.D_.mk X G) ?_,
  yx [] (H.DY.mk X G) ?_,
  yx [(["_law_k"],ã2)] (H.DT.mk X G) ?_,
  yx [] (H.DQ.mk X G) ?_]
 all_goals
  ext Ú;show#[_,(by
    repeat' first
     | show rfl
     | ext À
     | ext ê
     | ext È
     | ext ý
     | ext Ã
     | apply zV | apply xa | apply y_ | apply vJ
     | ext ã
     | ext Î | ext Ă | ext Ď | ext Ĝ | ext Ø | ext Ê
     | ext ŀ
     | ext Á
     | apply uB | apply vI | apply vH | apply vG | apply uA | show u9
     | ext ŗ
     | ext Ë
     | ext Ý
     | show uD | show uz | apply uC | apply ux
     | show hr | show nd | ext ģ | show ī | show Ĥ | show ŉ | show Ŋ | show é | decide
     | show Ē | show ē | show Ĕ | show ĕ | show Ė | show ė | show Ę | show ę | show Ě | show ě | show Ą | show ą | show Ć | show ć | show Ĉ | show ĉ | show Ċ),(by
    repeat' first
     | ext Ò
     | (ext Ä)
     | ext Â
     | ext ñ
     | ext Ç
     | ext Æ
     | ext ò
     | show Ĭ
     | show ŋ)]
variable (d7:D7 Ï)
include d7
theorem GV:D8 Ï:=by
 ext Õ;cases d6;cases d7;exact#[yx [(["_law_pair","_law_more_here"],Õ1)] (H.DP.mk X G) ?_]
 all_goals
  ext Ú;show#[_,(by
    repeat' first
     | show rfl
     | ext À
     | ext ê
     | ext È
     | ext ý
     | ext Ã
     | apply zV | apply xa | apply y_ | apply vJ
     | ext ã
     | ext Î | ext Ă | ext Ď | ext Ĝ | ext Ø | ext Ê
     | ext ŀ
     | ext Á
     | apply uB | apply vI | apply vH | apply vG | apply uA | show u9
     | ext ŗ
     | ext Ë
     | ext Ý
     | show uD | show uz | apply uC | apply ux
     | show hr | show nd | ext ģ | show ī | show Ĥ | show ŉ | show Ŋ | show é | decide
     | show Ē | show ē | show Ĕ | show ĕ | show Ė | show ė | show Ę | show ę | show Ě | show ě | show Ą | show ą | show Ć | show ć | show Ĉ | show ĉ | show Ċ),(by
    repeat' first
     | ext Ò
     | (ext Ä)
     | ext Â
     | ext ñ
     | ext Ç
     | ext Æ
     | ext ò
     | show Ĭ
     | show ŋ)]
variable (d8:D8 Ï)
include d8
theorem GU:D9 Ï:=by
 ext â9;exact#[yx [(["number","bound"],ï4)] (H.h2.mk X G) ?_,
  yx [] (H.bI.mk X G) ?_,
  yx [] (H.Yn.mk X G) ?_,
  yx [] (H.C7.mk X G) ?_,
  yx [] (H.Cy.mk X G) ?_]
 all_goals
  ext Ú;show#[_,(by
    repeat' first
     | show rfl
     | ext À
     | ext ê
     | ext È
     | ext ý
     | ext Ã
     | apply zV | apply xa | apply y_ | apply vJ
     | ext ã
     | ext Î | ext Ă | ext Ď | ext Ĝ | ext Ø | ext Ê
     | ext ŀ
     | ext Á
     | apply uB | apply vI | apply vH | apply vG | apply uA | show u9
     | ext ŗ
     | ext Ë
     | ext Ý
     | show uD | show uz | apply uC | apply ux
     | show hr | show nd | ext ģ | show ī | show Ĥ | show ŉ | show Ŋ | show é | decide
     | show Ē | show ē | show Ĕ | show ĕ | show Ė | show ė | show Ę | show ę | show Ě | show ě | show Ą | show ą | show Ć | show ć | show Ĉ | show ĉ | show Ċ),(by
    repeat' first
     | ext Ò
     | (ext Ä)
     | ext Â
     | ext ñ
     | ext Ç
     | ext Æ
     | ext ò
     | show Ĭ
     | show ŋ)]
variable (d9:D9 Ï)
include d9
theorem Fu:MC Ï:=by
 ext â9;cases d9;exact#[yx [] (H.Cp.mk X G) ?_,
  yx [] (H.Ci.mk X G) ?_,
  yx [] (H.DX.mk X G) ?_,
  Py [] H.Ep ?_]
 all_goals
  ext Ú;show#[_,(by
    repeat' first
     | show rfl
     | ext À
     | ext ê
     | ext È
     | ext ý
     | ext Ã
     | apply zV | apply xa | apply y_ | apply vJ
     | ext ã
     | ext Î | ext Ă | ext Ď | ext Ĝ | ext Ø | ext Ê
     | ext ŀ
     | ext Á
     | apply uB | apply vI | apply vH | apply vG | apply uA | show u9
     | ext ŗ
     | ext Ë
     | ext Ý
     | show uD | show uz | apply uC | apply ux
     | show hr | show nd | ext ģ | show ī | show Ĥ | show ŉ | show Ŋ | show é | decide
     | show Ē | show ē | show Ĕ | show ĕ | show Ė | show ė | show Ę | show ę | show Ě | show ě | show Ą | show ą | show Ć | show ć | show Ĉ | show ĉ | show Ċ),(by
    repeat' first
     | ext Ò
     | (ext Ä)
     | ext Â
     | ext ñ
     | ext Ç
     | ext Æ
     | ext ò
     | show Ĭ
     | show ŋ)]
variable (d10:MC Ï)
include d10
theorem Ft:MB Ï:=by
 ext á;exact#[yx [(["row","bounds"],Õ1)] (H.h3.mk X G) ?_,
  yx [] (H.h5.mk X G) ?_,
  yx [(["number","way","place"],[none,none,↑1])] (H.CG.mk X G) ?_,
  yx [] (H.CF.mk X G) ?_,
  yx [(["word","form"],ï4)] (H.Cg.mk X G) ?_]
 all_goals
  ext Ú;show#[_,(by
    repeat' first
     | show rfl
     | ext À
     | ext ê
     | ext È
     | ext ý
     | ext Ã
     | apply zV | apply xa | apply y_ | apply vJ
     | ext ã
     | ext Î | ext Ă | ext Ď | ext Ĝ | ext Ø | ext Ê
     | ext ŀ
     | ext Á
     | apply uB | apply vI | apply vH | apply vG | apply uA | show u9
     | ext ŗ
     | ext Ë
     | ext Ý
     | show uD | show uz | apply uC | apply ux
     | show hr | show nd | ext ģ | show ī | show Ĥ | show ŉ | show Ŋ | show é | decide
     | show Ē | show ē | show Ĕ | show ĕ | show Ė | show ė | show Ę | show ę | show Ě | show ě | show Ą | show ą | show Ć | show ć | show Ĉ | show ĉ | show Ċ),(by
    repeat' first
     | ext Ò
     | (ext Ä)
     | ext Â
     | ext ñ
     | ext Ç
     | ext Æ
     | ext ò
     | show Ĭ
     | show ŋ)]
variable (d11:MB Ï)
include d11
theorem Fs:MA Ï:=by
 ext á;cases d11;exact#[yx [(["way"],ã2),(["start","starts"],[none,↑4])] (H.h8.mk X G) ?_,
  yx [(["stall"],ã2),(["stall","owners"],Õ1)] (H.h9.mk X G) ?_,
  yx [] (H.C8.mk X G) ?_,
  yx [] (H.Cf.mk X G) ?_]
 all_goals
  ext Ú;show#[_,(by
    repeat' first
     | show rfl
     | ext À
     | ext ê
     | ext È
     | ext ý
     | ext Ã
     | apply zV | apply xa | apply y_ | apply vJ
     | ext ã
     | ext Î | ext Ă | ext Ď | ext Ĝ | ext Ø | ext Ê
     | ext ŀ
     | ext Á
     | apply uB | apply vI | apply vH | apply vG | apply uA | show u9
     | ext ŗ
     | ext Ë
     | ext Ý
     | show uD | show uz | apply uC | apply ux
     | show hr | show nd | ext ģ | show ī | show Ĥ | show ŉ | show Ŋ | show é | decide
     | show Ē | show ē | show Ĕ | show ĕ | show Ė | show ė | show Ę | show ę | show Ě | show ě | show Ą | show ą | show Ć | show ć | show Ĉ | show ĉ | show Ċ),(by
    repeat' first
     | ext Ò
     | (ext Ä)
     | ext Â
     | ext ñ
     | ext Ç
     | ext Æ
     | ext ò
     | show Ĭ
     | show ŋ)]
variable (d12:MA Ï)
include d12
theorem Fq:M9 Ï:=by
 ext á;cases d11;cases d12;exact#[yx [] (H.Vi.mk X G) ?_,
  yx [(["number","floor"],[none,↑0]),(["way","floor","last"],ø9)] (H.C6.mk X G) ?_]
 all_goals
  ext Ú;show#[_,(by
    repeat' first
     | show rfl
     | ext À
     | ext ê
     | ext È
     | ext ý
     | ext Ã
     | apply zV | apply xa | apply y_ | apply vJ
     | ext ã
     | ext Î | ext Ă | ext Ď | ext Ĝ | ext Ø | ext Ê
     | ext ŀ
     | ext Á
     | apply uB | apply vI | apply vH | apply vG | apply uA | show u9
     | ext ŗ
     | ext Ë
     | ext Ý
     | show uD | show uz | apply uC | apply ux
     | show hr | show nd | ext ģ | show ī | show Ĥ | show ŉ | show Ŋ | show é | decide
     | show Ē | show ē | show Ĕ | show ĕ | show Ė | show ė | show Ę | show ę | show Ě | show ě | show Ą | show ą | show Ć | show ć | show Ĉ | show ĉ | show Ċ),(by
    repeat' first
     | ext Ò
     | (ext Ä)
     | ext Â
     | ext ñ
     | ext Ç
     | ext Æ
     | ext ò
     | show Ĭ
     | show ŋ)]
variable (d13:M9 Ï)
include d13
theorem Fp:M8 Ï:=by
 ext Ù4;exact#[yx [(["way","fresh"],[none,↑2])] (H.C5.mk X G) ?_,
  yx [] (H.Cw.mk X G) ?_,
  yx [(["row"],ã2)] (H.Cu.mk X G) ?_]
 all_goals
  ext Ú;show#[_,(by
    repeat' first
     | show rfl
     | ext À
     | ext ê
     | ext È
     | ext ý
     | ext Ã
     | apply zV | apply xa | apply y_ | apply vJ
     | ext ã
     | ext Î | ext Ă | ext Ď | ext Ĝ | ext Ø | ext Ê
     | ext ŀ
     | ext Á
     | apply uB | apply vI | apply vH | apply vG | apply uA | show u9
     | ext ŗ
     | ext Ë
     | ext Ý
     | show uD | show uz | apply uC | apply ux
     | show hr | show nd | ext ģ | show ī | show Ĥ | show ŉ | show Ŋ | show é | decide
     | show Ē | show ē | show Ĕ | show ĕ | show Ė | show ė | show Ę | show ę | show Ě | show ě | show Ą | show ą | show Ć | show ć | show Ĉ | show ĉ | show Ċ),(by
    repeat' first
     | ext Ò
     | (ext Ä)
     | ext Â
     | ext ñ
     | ext Ç
     | ext Æ
     | ext ò
     | show Ĭ
     | show ŋ)]
variable (d14:M8 Ï)
include d14
theorem Fo:M7 Ï:=by
 ext Ù4;cases d14;exact#[yx [(["place","border","last"],[none,none,↑3])] (H.C4.mk X G) ?_,
  yx ñ2 (H.Cs.mk X G) ?_]
 all_goals
  ext Ú;show#[_,(by
    repeat' first
     | show rfl
     | ext À
     | ext ê
     | ext È
     | ext ý
     | ext Ã
     | apply zV | apply xa | apply y_ | apply vJ
     | ext ã
     | ext Î | ext Ă | ext Ď | ext Ĝ | ext Ø | ext Ê
     | ext ŀ
     | ext Á
     | apply uB | apply vI | apply vH | apply vG | apply uA | show u9
     | ext ŗ
     | ext Ë
     | ext Ý
     | show uD | show uz | apply uC | apply ux
     | show hr | show nd | ext ģ | show ī | show Ĥ | show ŉ | show Ŋ | show é | decide
     | show Ē | show ē | show Ĕ | show ĕ | show Ė | show ė | show Ę | show ę | show Ě | show ě | show Ą | show ą | show Ć | show ć | show Ĉ | show ĉ | show Ċ),(by
    repeat' first
     | ext Ò
     | (ext Ä)
     | ext Â
     | ext ñ
     | ext Ç
     | ext Æ
     | ext ò
     | show Ĭ
     | show ŋ)]
variable (d15:M7 Ï)
include d15
theorem Fm:M6 Ï:=by
 ext ö;exact#[yx [] (H.C3.mk X G) ?_]
 all_goals
  ext Ú;show#[_,(by
    repeat' first
     | show rfl
     | ext À
     | ext ê
     | ext È
     | ext ý
     | ext Ã
     | apply zV | apply xa | apply y_ | apply vJ
     | ext ã
     | ext Î | ext Ă | ext Ď | ext Ĝ | ext Ø | ext Ê
     | ext ŀ
     | ext Á
     | apply uB | apply vI | apply vH | apply vG | apply uA | show u9
     | ext ŗ
     | ext Ë
     | ext Ý
     | show uD | show uz | apply uC | apply ux
     | show hr | show nd | ext ģ | show ī | show Ĥ | show ŉ | show Ŋ | show é | decide
     | show Ē | show ē | show Ĕ | show ĕ | show Ė | show ė | show Ę | show ę | show Ě | show ě | show Ą | show ą | show Ć | show ć | show Ĉ | show ĉ | show Ċ),(by
    repeat' first
     | ext Ò
     | (ext Ä)
     | ext Â
     | ext ñ
     | ext Ç
     | ext Æ
     | ext ò
     | show Ĭ
     | show ŋ)]
variable (d16:M6 Ï)
include d16
theorem Fj:M5 Ï:=by
 ext ö;cases d16;exact#[yx [(["border","brims"],[none,↑2]),(["here","there"],ï4)] (H.Co.mk X G) ?_,
  yx [] (H.Cc.mk X G) ?_]
 all_goals
  ext Ú;show#[_,(by
    repeat' first
     | show rfl
     | ext À
     | ext ê
     | ext È
     | ext ý
     | ext Ã
     | apply zV | apply xa | apply y_ | apply vJ
     | ext ã
     | ext Î | ext Ă | ext Ď | ext Ĝ | ext Ø | ext Ê
     | ext ŀ
     | ext Á
     | apply uB | apply vI | apply vH | apply vG | apply uA | show u9
     | ext ŗ
     | ext Ë
     | ext Ý
     | show uD | show uz | apply uC | apply ux
     | show hr | show nd | ext ģ | show ī | show Ĥ | show ŉ | show Ŋ | show é | decide
     | show Ē | show ē | show Ĕ | show ĕ | show Ė | show ė | show Ę | show ę | show Ě | show ě | show Ą | show ą | show Ć | show ć | show Ĉ | show ĉ | show Ċ),(by
    repeat' first
     | ext Ò
     | (ext Ä)
     | ext Â
     | ext ñ
     | ext Ç
     | ext Æ
     | ext ò
     | show Ĭ
     | show ŋ)]
variable (d17:M5 Ï)
include d17
theorem Fh:M4 Ï:=by
 ext ú3;exact#[yx [] (H.Cb.mk X G) ?_]
 all_goals
  ext Ú;show#[_,(by
    repeat' first
     | show rfl
     | ext À
     | ext ê
     | ext È
     | ext ý
     | ext Ã
     | apply zV | apply xa | apply y_ | apply vJ
     | ext ã
     | ext Î | ext Ă | ext Ď | ext Ĝ | ext Ø | ext Ê
     | ext ŀ
     | ext Á
     | apply uB | apply vI | apply vH | apply vG | apply uA | show u9
     | ext ŗ
     | ext Ë
     | ext Ý
     | show uD | show uz | apply uC | apply ux
     | show hr | show nd | ext ģ | show ī | show Ĥ | show ŉ | show Ŋ | show é | decide
     | show Ē | show ē | show Ĕ | show ĕ | show Ė | show ė | show Ę | show ę | show Ě | show ě | show Ą | show ą | show Ć | show ć | show Ĉ | show ĉ | show Ċ),(by
    repeat' first
     | ext Ò
     | (ext Ä)
     | ext Â
     | ext ñ
     | ext Ç
     | ext Æ
     | ext ò
     | show Ĭ
     | show ŋ)]
variable (d18:M4 Ï)
include d18
theorem Fg:M3 Ï:=by
 ext ú3;cases d18;show#[H.ax.mk X G (NR È1 (NR È1 zaB ê1) ê1)]
variable (d19:M3 Ï)
include d19
theorem Fe:M1 Ï:=by
 ext ţ;exact#[Py â4 ?_]
 all_goals
  ext Ú;show#[_,(by
    repeat' first
     | show rfl
     | ext À
     | ext ê
     | ext È
     | ext ý
     | ext Ã
     | apply zV | apply xa | apply y_ | apply vJ
     | ext ã
     | ext Î | ext Ă | ext Ď | ext Ĝ | ext Ø | ext Ê
     | ext ŀ
     | ext Á
     | apply uB | apply vI | apply vH | apply vG | apply uA | show u9
     | ext ŗ
     | ext Ë
     | ext Ý
     | show uD | show uz | apply uC | apply ux
     | show hr | show nd | ext ģ | show ī | show Ĥ | show ŉ | show Ŋ | show é | decide
     | show Ē | show ē | show Ĕ | show ĕ | show Ė | show ė | show Ę | show ę | show Ě | show ě | show Ą | show ą | show Ć | show ć | show Ĉ | show ĉ | show Ċ),(by
    repeat' first
     | ext Ò
     | (ext Ä)
     | ext Â
     | ext ñ
     | ext Ç
     | ext Æ
     | ext ò
     | show Ĭ
     | show ŋ)]
variable (d20:M1 Ï)
include d20
theorem Fd:M0 Ï:=by
 ext ţ;cases d20;show#[B9 H.hk H.Es X G,
  B7 H.hk H.Er]
variable (d21:M0 Ï)
include d21
theorem Fc:Mz Ï:=by
 ext ÿ1;exact#[Bz â4 rfl ?_];ext Ú;show#[_,_,_,_,_,_,_,(by
   exact#[?_,?_,?_,?_]
   all_goals
    repeat' first
     | show rfl
     | ext À
     | ext ê
     | ext È
     | ext ý
     | ext Ã
     | apply zV | apply xa | apply y_ | apply vJ
     | ext ã
     | ext Î | ext Ă | ext Ď | ext Ĝ | ext Ø | ext Ê
     | ext ŀ
     | ext Á
     | apply uB | apply vI | apply vH | apply vG | apply uA | show u9
     | ext ŗ
     | ext Ë
     | ext Ý
     | show uD | show uz | apply uC | apply ux
     | show hr | show nd | ext ģ | show ī | show Ĥ | show ŉ | show Ŋ | show é | decide
     | show Ē | show ē | show Ĕ | show ĕ | show Ė | show ė | show Ę | show ę | show Ě | show ě | show Ą | show ą | show Ć | show ć | show Ĉ | show ĉ | show Ċ),(by
   exact#[?_,?_,?_,?_,?_,?_]
   all_goals
    repeat' first
     | ext Ò
     | (ext Ä)
     | ext Â
     | ext ñ
     | ext Ç
     | ext Æ
     | ext ò
     | show Ĭ
     | show ŋ)]
variable (d22:Mz Ï)
include d22
theorem Fb:My Ï:=by
 ext ÿ1;cases d22;exact#[yx [] (H.DN.mk X G) ?_]
 all_goals
  ext Ú;show#[_,(by
    repeat' first
     | show rfl
     | ext À
     | ext ê
     | ext È
     | ext ý
     | ext Ã
     | apply zV | apply xa | apply y_ | apply vJ
     | ext ã
     | ext Î | ext Ă | ext Ď | ext Ĝ | ext Ø | ext Ê
     | ext ŀ
     | ext Á
     | apply uB | apply vI | apply vH | apply vG | apply uA | show u9
     | ext ŗ
     | ext Ë
     | ext Ý
     | show uD | show uz | apply uC | apply ux
     | show hr | show nd | ext ģ | show ī | show Ĥ | show ŉ | show Ŋ | show é | decide
     | show Ē | show ē | show Ĕ | show ĕ | show Ė | show ė | show Ę | show ę | show Ě | show ě | show Ą | show ą | show Ć | show ć | show Ĉ | show ĉ | show Ċ),(by
    repeat' first
     | ext Ò
     | (ext Ä)
     | ext Â
     | ext ñ
     | ext Ç
     | ext Æ
     | ext ò
     | show Ĭ
     | show ŋ)]
variable (d23:My Ï)
include d23
theorem GS {f:Addr}{fd:FuncData}(F:m7 K "law" "law" (top 131) f fd):ou Ï xD 14 f Ā5:=by
 ext ÿ1;cases d22;cases d23;exact Bu [(["_law_one","_law_word"],[none,↑4]),(["_law_one"],ã2),(["_law_border_here"],ã2),(["_law_x","_law_y"],ï4)] F ?_
 all_goals
  intro cdv A outer s H E hc nd hN hS hr;show#[_,(by
    repeat' first
     | show rfl
     | ext À
     | ext ê
     | ext È
     | ext ý
     | ext Ã
     | apply zV | apply xa | apply y_ | apply vJ
     | ext ã
     | ext Î | ext Ă | ext Ď | ext Ĝ | ext Ø | ext Ê
     | ext ŀ
     | ext Á
     | apply uB | apply vI | apply vH | apply vG | apply uA | show u9
     | ext ŗ
     | ext Ë
     | ext Ý
     | show uD | show uz | apply uC | apply ux
     | show hr | show nd | ext ģ | show ī | show Ĥ | show ŉ | show Ŋ | show é | decide
     | show Ē | show ē | show Ĕ | show ĕ | show Ė | show ė | show Ę | show ę | show Ě | show ě | show Ą | show ą | show Ć | show ć | show Ĉ | show ĉ | show Ċ),(by
    repeat' first
     | ext Ò
     | (ext Ä)
     | ext Â
     | ext ñ
     | ext Ç
     | ext Æ
     | ext ò
     | show Ĭ
     | show ŋ)]
end
def all_mk {l:PySem.W.OpenLaw}{w:World}{K:zFr}{h:Heap}{mg:zSV}{fa:Addr}(X:K.In h) (G:h.Ns ç6) (hfa:mg "law"=↑(.ref fa)) (H:HH K w):
  ∃ fd:FuncData,(∀ (s:Shared) (v:Value),BindsTo s fd #[[v],[]] [("_law_script",v)])/\∀ base:Heap,K.In base->base.Ns ç6->ou l.prog w K mg base xD 14 fa Ā5:=by
 have T:Bt mg:=#[zC2 X G H.z0,zC2 X G H.z1,zC2 X G H.z2,zC2 X G H.z3,zC2 X G H.z4,zC2 X G H.z5,zC2 X G H.z6,zC2 X G H.z7,zC2 X G H.z8,zC2 X G H.z9,zC2 X G H.MZ,zC2 X G H.MY,zC2 X G H.MX];have U:Bq mg:=#[zC2 X G H.y0,zC2 X G H.y1,zC2 X G H.y2];have C:CC K w mg:=#[H.Be.mk X G,H.Bc.mk X G,H.Bb.mk X G,H.Ba.mk X G,H.C_.mk X G,H.CZ.mk X G,H.CY.mk X G,H.CW.mk X G,H.CV.mk X G,H.CU.mk X G,H.CT.mk X G,H.CS.mk X G,H.CQ.mk X G,H.CP.mk X G,H.fo.mk X G,H.hk];let#[fd,Fl,hb]:=H.pL.law X G hfa λ _ _ _ _ _ _ _ _=>.of_eq rfl;exact#[fd,hb,λ base _ _=>?_];have d1:=Fv l.prog base T U H C X G;have d2:=Ff â;have d3:=G_ â d2;have d4:=GZ â d2 d3;have d5:=GY â d2 d3 d4;have d6:=GX ç7;have d7:=GW ç7 d6;have d8:=GV ç7 d6 d7;have d9:=GU ç7 d6 d7 d8;have d10:=Fu ú;have d11:=Ft ú d10;have d12:=Fs ú d10 d11;have d13:=Fq ú d10 d11 d12;have d14:=Fp ú d10 d11 d12 d13;have d15:=Fo ú d10 d11 d12 d13 d14;have d16:=Fm Ĺ;have d17:=Fj ķ;have d18:=Fh ĺ;have d19:=Fg ĺ d18;have d20:=Fe ĺ d18 d19;have d21:=Fd Ā6;have d22:=Fc Ā6 d21;have d23:=Fb Ā6 d21 d22;show GS Ā6 d21 d22 d23 Fl
def walk {l:PySem.W.OpenLaw}{q:Program}{loose:ï}{XP:(Str->è Value)->Heap->Prop}{YP:World->Heap->Prop}{d:DefRec}{K:Params->zFr}(hn:l.most=↑63) (hdf:d.params.defaults=[])
  (hY:∀ (w:World) (h:Heap),YP w h->(î9).In h)
  (F:∀ (w:World) (mg:zSV) (fa:Addr) (h:Heap),(î9).In h->h.Ns ç6->mg d.name=↑(.ref fa)->
   ∃ fd:FuncData,(∀ (s:Shared) (u:Value),BindsTo s fd #[[u],[]] [("_law_script",u)])/\∀ base:Heap,(î9).In base->base.Ns ç6->ou l.prog w (î9) mg base xD 14 fa fd ["_law_script"] (nq (î9) (zR zl aW))):
  PySem.W.WalkO q loose XP YP l.row.toRowW d [] (λ f vs=>PySem.call f vs):=
 L2.Lk (n:=63) (k:=14) (x:="_law_script") (CX:=λ _=>xD) (sp:=λ w=>nq (î9) (zR zl aW)) hn () hdf #[rfl,(),()] hY F (λ _ _ a ns hl hO hS=>EL EI hO hS hl) λ _ _ _ _ _ z=>z
def walkOfLaw:HypoOfLaw:=λ hdf hY hd H=>walk (l:=PySem.Challenge.rw_purseborder_k97_whole_more_never_harms) rfl hdf hY λ w mg fa h KX G hmg=>all_mk KX G (by rw[<- hd];show hmg) (H w)
end zP
)

set_option maxHeartbeats 0 in
theorem PySem.Challenge.cw_purseborder_k97_whole_more_never_harms_holds : PySem.Challenge.rw_purseborder_k97_whole_more_never_harms.Holds := by
 exact PySem.Challenge.headOfLaw zP.walkOfLaw
