import PyProof.Rows.All
import Wide.All
import OpenK.AllK
import Wide.FinOn
import Lean
import PyProof.EqAt
import PyProof.EqKinds
import PyProof.TupleCall
import PySem.SetOps
import PyProof.SetScanFacts
import PyProof.TupleKey
import PyProof.SetKind
import PyProof.SetRoads
import PyProof.IsRules
import PyProof.ZipIter
import PyProof.TupleIter
import PyProof.ListMulRoad
import PyProof.FactsAll.tuple
import PyProof.ListRange
import PyProof.Draws
import PyProof.EnumFor
import PyProof.Rows.ListMul
import PyProof.AutoListH
import PyProof.ExcInit
import PyProof.ExcClass2
import PyProof.InstStore
import PyProof.InstStoreFacts
import PyProof.ExcArgsOwn
import PyProof.IsInstance
import PyProof.IsInstanceH
import PyProof.StationsW
import PyProof.Rows.CatchOwn
import PyProof.FactsAll.dict_1
import PyProof.Rows.Range3
import PyProof.FitsBits
import PyProof.MinMaxWalk
import PyProof.WalkInts
import PyProof.Rows.MinMaxN
import PyProof.EqKinds
import PyProof.StrCalls2
import PyProof.StrCalls6
import PyProof.CallStr
import PyProof.StrBlockG
import PyProof.SliceStr2
import PyProof.IsInstanceT
import PyProof.StrLawsReplace
import PyProof.Rows.StrSplitJoin
import PyProof.StrLoop
import PyProof.StrWalks
import PyProof.Rows.StrSplitMax
import KE.KIntText
import PyProof.StrBlock
import PyProof.StrCalls5
import PySem.Challenge.RW_purseborder_k96_whole_played_by_texts
set_option Elab.async false
set_option linter.all false
set_option maxRecDepth 100000
set_option genSizeOf false
set_option compiler.extract_closed false
set_option bootstrap.genMatcherCode false
abbrev AH:=PySem.Value->PySem.Shared->Prop
abbrev AN:=List (PySem.Addr×PySem.Obj)
abbrev AI:=List PySem.Value
abbrev A0:=PySem.Str->Option PySem.Value
abbrev A1:=Array PySem.Value
def zdK {p:Prop}[Decidable p](h:decide p=true:=by decide +kernel):p:=of_decide_eq_true h
noncomputable section
def za0:=@PySem.wpAny_bind
def za1:=@PySem.Heap.get?_push_of_some
def za2:=@PySem.PassesOwn.never
def za3:=@decide_eq_true
def zcQ:=@decide_eq_false
def zcR:=@PySem.wpAny_field
def zcS:=@PySem.wpAny_mono
def zcT:=@PySem.wpAny_holding
def zcU:=@PySem.wpAny_call_entry
def zcV:=@PySem.wpAny_truthy_bool
def zcW:=@PySem.wpAny_newObj_type
def zcX:=@PySem.wpAny_setState_of
def zcY:=@PySem.wpAny_seqItems
def zcZ:=@PySem.wpAny_callSpecial?_slot
def zd0:=@PySem.wpAny_typeOf
def zd1:=@PySem.wpAny_passesOwn
def zd2:=@PySem.Heap.get?_update_self
def zd3:=@PySem.wpAny_Call_method_late
def zd4:=@PySem.wpAny_setField_rec
def zd5:=@PySem.wpAny_execs_nil
def zd6:=@PySem.wpAny_Call_Name_kw
def zd7:=@PySem.wpAny_pyIter_list
def zd8:=@PySem.wpAny_askSetting
def zd9:=@PySem.wpAny_setField
def zdA:=@PySem.Heap.get?_update_other
def zdB:=@PySem.Heap.get?_update_ne
def zdC:=@PySem.wpAny_getItem_str_slice
def AK:=@Option.bind_eq_some_iff
def AU:=@List.mem_cons_self
def AX:=@List.mem_cons_of_mem
def A_:=@Option.map_eq_some_iff
def za4:=@List.map_nil
def za5:=@List.not_mem_nil
def za6:=@Bool.false_ne_true
def za7:=@List.lookup_cons
def za8:=@Nat.lt_or_ge
def za9:=@List.pairwise_cons
def zaA:=@List.any_cons
def zaB:=@List.append_nil
def zaC:=@List.nodup_cons
def zaD:=@List.map_congr_left
def zaE:=@Nat.ne_of_gt
def zaF:=@Nat.lt_trans
def zaG:=@List.length_nil
def zaH:=@List.replicate_succ
def zaI:=@List.mem_iff_getElem
def zaJ:=@Int.add_mul
def zaK:=@List.length_drop
def zaL:=@List.find?_cons
def zaM:=@List.mem_flatMap
def zaN:=@List.mem_of_find?_eq_some
def zaO:=@List.mem_append_left
def zaP:=@List.flatten_cons
def zaQ:=@List.foldl_cons
def zaR:=@Nat.zero_add
def zaS:=@List.getElem?_append_left
def zaT:=@Bool.and_false
def zaU:=@List.pairwise_map
def zaV:=@List.all_cons
def zaW:=@List.all_map
def zaX:=@Array.getElem_toList
def zaY:=@Array.getElem?_eq_none
def zaZ:=@List.map_drop
def zb0:=@Nat.lt_succ_of_lt
def zb1:=@Nat.le_add_right
def zb2:=@Int.mul_nonneg
def zb3:=@Int.natCast_succ
def zb4:=@List.getElem?_replicate
def zb5:=@List.forIn_cons
def zb6:=@Nat.mul_le_mul_right
def zb7:=@Nat.lt_trichotomy
def zb8:=@Int.toNat_natCast
def zb9:=@Int.zero_add
def zbA:=@List.sum_cons
def zbB:=@List.filterMap_cons
def zbC:=@List.any_eq_false
def zbD:=@List.of_mem_zip
def zbE:=@List.length_take
def zbF:=@List.getElem?_append_right
def zbG:=@List.length_set
def zbH:=@Nat.lt_of_le_of_lt
def zbI:=@List.getElem?_eq_none
def zbJ:=@Array.size_map
def zbK:=@List.ext_getElem
def zbL:=@List.pairwise_iff_getElem
def zbM:=@Bool.and_self
def zbN:=@Nat.mod_lt
def zbO:=@List.getElem?_cons_succ
def zbP:=@List.toList_toArray
def zbQ:=@List.any_map
def zbR:=@List.foldl_append
def zbS:=@List.length_filter_le
def zbT:=@Nat.le_of_eq
def zbU:=@Option.isSome_iff_exists
def zbV:=@List.zip_cons_cons
def zbW:=@List.lookup_append
def zbX:=@List.getElem?_set
def zbY:=@Array.getD_eq_getD_getElem?
def zbZ:=@Option.isSome_map
def zc0:=@Nat.mul_comm
def zc1:=@List.take_append_drop
def zc2:=@List.find?_eq_none
def zc3:=@Array.getElem?_setIfInBounds
def zc4:=@List.map_take
def zc5:=@List.length_zip
def zc6:=@List.zipIdx_cons
def zc7:=@List.range'_succ
def zc8:=@List.cons_append
def zc9:=@List.mem_filterMap
def zcA:=@List.pairwise_append
def zcB:=@List.pairwise_singleton
def zcC:=@List.getElem_range
def zcD:=@List.nodup_range
def zcE:=@List.mem_of_mem_drop
def zcF:=@List.getElem?_range
def zcG:=@List.perm_ext_iff_of_nodup
def zcH:=@List.mem_iff_getElem?
def zcI:=@List.take_of_length_le
def zcJ:=@Bool.not_eq_true'
def zcK:=@Bool.beq_eq_decide_eq
def zcL:=@List.getElem?_cons_zero
def zcM:=@Int.min_eq_left
def zcN:=@List.find?_some
def zcO:=@Int.natCast_add
def zcP:=@List.mem_zipIdx_iff_getElem?
def A6:=@List.size_toArray
def zA1:=@List.getElem?_eq_getElem
def zA2:=@List.getElem?_eq_some_iff
def A9:=@List.getElem?_map
def AM:=@Nat.le_refl
def AL:=@List.mem_cons
def AR:=@List.map_cons
def AQ:=@List.length_map
def A2:=@PySem.Heap.lt_size
def zA9:=@PySem.Heap.get?_push_size
def AO:=@List.mem_map
def zB1:=@List.getD_eq_getElem?_getD
def zB2:=@Bool.not_false
def zB3:=@Nat.ne_of_lt
def zB4:=@List.mem_append_right
def zB5:=@Bool.not_true
def zB6:=@List.mem_singleton
def zB7:=@List.mem_of_getElem?
def zB8:=@Array.getElem?_eq_getElem
def zB9:=@List.mem_append
def zC0:=@List.length_cons
def A8:=@List.mem_range
def zC2:=@PySem.W.mg_none_of
def zC3:=@Nat.lt_of_lt_of_le
def zC4:=@Bool.false_eq_true
def zC5:=@List.length_range
def zC6:=@Int.le_refl
def zC7:=@Bool.eq_iff_iff
def zC8:=@List.mem_filter
def zC9:=@Option.bind_some
def zD0:=@List.any_eq_true
def AE:=@PySem.wpAny_pure
def zD2:=@Array.length_toList
def zD3:=@Array.getElem?_toList
def zD4:=@Nat.zero_le
def zD5:=@Option.some.inj
def A4:=@List.map_map
def zD7:=@List.length_append
def zD8:=@List.getElem_mem
def A7:=@Nat.le_trans
def zE1:=@Nat.lt_irrefl
def zE2:=@Nat.lt_succ_self
def zE3:=@Nat.le_of_lt
def zE4:=@List.all_eq_true
def zE5:=@Bool.and_eq_true
def zE6:=@Bool.or_eq_true
def zE7:=@List.map_append
def zE8:=@List.append_assoc
def zE9:=@Bool.not_eq_true
def zF0:=@Int.emod_nonneg
def zF1:=@Int.emod_lt_of_pos
def zF2:=@Int.toNat_of_nonneg
section
theorem E_0_1{p:Prop}{G:Prop}(h:p) (f:p->G):G:=f h
theorem E_0_2{p q:Prop}{G:Prop}(h:p/\q) (f:p->q->G):G:=E_0_1 h.2 (f h.1)
theorem E_1_1{α:Sort _}{p:α->Prop}{G:Prop}(h:∃ a,p a) (f:∀ a,p a->G):G:=h.elim λ a h=>E_0_1 h (f a)
theorem E_0_3{p q r:Prop}{G:Prop}(h:p/\q/\r) (f:p->q->r->G):G:=E_0_2 h.2 (f h.1)
theorem E_1_2{α:Sort _}{p q:α->Prop}{G:Prop}(h:∃ a,p a/\q a) (f:∀ a,p a->q a->G):G:=h.elim λ a h=>E_0_2 h (f a)
theorem E_2_1{α β:Sort _}{p:α->β->Prop}{G:Prop}(h:∃ a b,p a b) (f:∀ a b,p a b->G):G:=h.elim λ a h=>E_1_1 h (f a)
theorem E_0_4{p q r s:Prop}{G:Prop}(h:p/\q/\r/\s) (f:p->q->r->s->G):G:=E_0_3 h.2 (f h.1)
theorem E_1_3{α:Sort _}{p q r:α->Prop}{G:Prop}(h:∃ a,p a/\q a/\r a) (f:∀ a,p a->q a->r a->G):G:=h.elim λ a h=>E_0_3 h (f a)
theorem E_2_2{α β:Sort _}{p q:α->β->Prop}{G:Prop}(h:∃ a b,p a b/\q a b) (f:∀ a b,p a b->q a b->G):G:=h.elim λ a h=>E_1_2 h (f a)
theorem E_3_1{α β γ:Sort _}{p:α->β->γ->Prop}{G:Prop}(h:∃ a b c,p a b c) (f:∀ a b c,p a b c->G):G:=h.elim λ a h=>E_2_1 h (f a)
theorem E_0_5{p q r s t:Prop}{G:Prop}(h:p/\q/\r/\s/\t) (f:p->q->r->s->t->G):G:=E_0_4 h.2 (f h.1)
theorem E_1_4{α:Sort _}{p q r s:α->Prop}{G:Prop}(h:∃ a,p a/\q a/\r a/\s a) (f:∀ a,p a->q a->r a->s a->G):G:=h.elim λ a h=>E_0_4 h (f a)
theorem E_2_3{α β:Sort _}{p q r:α->β->Prop}{G:Prop}(h:∃ a b,p a b/\q a b/\r a b) (f:∀ a b,p a b->q a b->r a b->G):G:=h.elim λ a h=>E_1_3 h (f a)
theorem E_3_2{α β γ:Sort _}{p q:α->β->γ->Prop}{G:Prop}(h:∃ a b c,p a b c/\q a b c) (f:∀ a b c,p a b c->q a b c->G):G:=h.elim λ a h=>E_2_2 h (f a)
theorem E_4_1{α β γ δ:Sort _}{p:α->β->γ->δ->Prop}{G:Prop}(h:∃ a b c d,p a b c d) (f:∀ a b c d,p a b c d->G):G:=h.elim λ a h=>E_3_1 h (f a)
theorem E_0_6{p q r s t u:Prop}{G:Prop}(h:p/\q/\r/\s/\t/\u) (f:p->q->r->s->t->u->G):G:=E_0_5 h.2 (f h.1)
theorem E_1_5{α:Sort _}{p q r s t:α->Prop}{G:Prop}(h:∃ a,p a/\q a/\r a/\s a/\t a) (f:∀ a,p a->q a->r a->s a->t a->G):G:=h.elim λ a h=>E_0_5 h (f a)
theorem E_2_4{α β:Sort _}{p q r s:α->β->Prop}{G:Prop}(h:∃ a b,p a b/\q a b/\r a b/\s a b) (f:∀ a b,p a b->q a b->r a b->s a b->G):G:=h.elim λ a h=>E_1_4 h (f a)
theorem E_3_3{α β γ:Sort _}{p q r:α->β->γ->Prop}{G:Prop}(h:∃ a b c,p a b c/\q a b c/\r a b c) (f:∀ a b c,p a b c->q a b c->r a b c->G):G:=h.elim λ a h=>E_2_3 h (f a)
theorem E_4_2{α β γ δ:Sort _}{p q:α->β->γ->δ->Prop}{G:Prop}(h:∃ a b c d,p a b c d/\q a b c d) (f:∀ a b c d,p a b c d->q a b c d->G):G:=h.elim λ a h=>E_3_2 h (f a)
theorem E_0_7{p q r s t u v:Prop}{G:Prop}(h:p/\q/\r/\s/\t/\u/\v) (f:p->q->r->s->t->u->v->G):G:=E_0_6 h.2 (f h.1)
theorem E_1_6{α:Sort _}{p q r s t u:α->Prop}{G:Prop}(h:∃ a,p a/\q a/\r a/\s a/\t a/\u a) (f:∀ a,p a->q a->r a->s a->t a->u a->G):G:=h.elim λ a h=>E_0_6 h (f a)
theorem E_2_5{α β:Sort _}{p q r s t:α->β->Prop}{G:Prop}(h:∃ a b,p a b/\q a b/\r a b/\s a b/\t a b) (f:∀ a b,p a b->q a b->r a b->s a b->t a b->G):G:=h.elim λ a h=>E_1_5 h (f a)
theorem E_3_4{α β γ:Sort _}{p q r s:α->β->γ->Prop}{G:Prop}(h:∃ a b c,p a b c/\q a b c/\r a b c/\s a b c) (f:∀ a b c,p a b c->q a b c->r a b c->s a b c->G):G:=h.elim λ a h=>E_2_4 h (f a)
theorem E_4_3{α β γ δ:Sort _}{p q r:α->β->γ->δ->Prop}{G:Prop}(h:∃ a b c d,p a b c d/\q a b c d/\r a b c d) (f:∀ a b c d,p a b c d->q a b c d->r a b c d->G):G:=h.elim λ a h=>E_3_3 h (f a)
theorem E_0_8{p q r s t u v w:Prop}{G:Prop}(h:p/\q/\r/\s/\t/\u/\v/\w) (f:p->q->r->s->t->u->v->w->G):G:=E_0_7 h.2 (f h.1)
theorem E_1_7{α:Sort _}{p q r s t u v:α->Prop}{G:Prop}(h:∃ a,p a/\q a/\r a/\s a/\t a/\u a/\v a) (f:∀ a,p a->q a->r a->s a->t a->u a->v a->G):G:=h.elim λ a h=>E_0_7 h (f a)
theorem E_2_6{α β:Sort _}{p q r s t u:α->β->Prop}{G:Prop}(h:∃ a b,p a b/\q a b/\r a b/\s a b/\t a b/\u a b) (f:∀ a b,p a b->q a b->r a b->s a b->t a b->u a b->G):G:=h.elim λ a h=>E_1_6 h (f a)
theorem E_3_5{α β γ:Sort _}{p q r s t:α->β->γ->Prop}{G:Prop}(h:∃ a b c,p a b c/\q a b c/\r a b c/\s a b c/\t a b c) (f:∀ a b c,p a b c->q a b c->r a b c->s a b c->t a b c->G):G:=h.elim λ a h=>E_2_5 h (f a)
theorem E_4_4{α β γ δ:Sort _}{p q r s:α->β->γ->δ->Prop}{G:Prop}(h:∃ a b c d,p a b c d/\q a b c d/\r a b c d/\s a b c d) (f:∀ a b c d,p a b c d->q a b c d->r a b c d->s a b c d->G):G:=h.elim λ a h=>E_3_4 h (f a)
theorem E_5_3{α β γ δ ε:Sort _}{p q r:α->β->γ->δ->ε->Prop}{G:Prop}(h:∃ a b c d e,p a b c d e/\q a b c d e/\r a b c d e) (f:∀ a b c d e,p a b c d e->q a b c d e->r a b c d e->G):G:=h.elim λ a h=>E_4_3 h (f a)
theorem E_1_8{α:Sort _}{p q r s t u v w:α->Prop}{G:Prop}(h:∃ a,p a/\q a/\r a/\s a/\t a/\u a/\v a/\w a) (f:∀ a,p a->q a->r a->s a->t a->u a->v a->w a->G):G:=h.elim λ a h=>E_0_8 h (f a)
theorem E_2_7{α β:Sort _}{p q r s t u v:α->β->Prop}{G:Prop}(h:∃ a b,p a b/\q a b/\r a b/\s a b/\t a b/\u a b/\v a b) (f:∀ a b,p a b->q a b->r a b->s a b->t a b->u a b->v a b->G):G:=h.elim λ a h=>E_1_7 h (f a)
theorem E_3_6{α β γ:Sort _}{p q r s t u:α->β->γ->Prop}{G:Prop}(h:∃ a b c,p a b c/\q a b c/\r a b c/\s a b c/\t a b c/\u a b c) (f:∀ a b c,p a b c->q a b c->r a b c->s a b c->t a b c->u a b c->G):G:=h.elim λ a h=>E_2_6 h (f a)
theorem E_4_5{α β γ δ:Sort _}{p q r s t:α->β->γ->δ->Prop}{G:Prop}(h:∃ a b c d,p a b c d/\q a b c d/\r a b c d/\s a b c d/\t a b c d) (f:∀ a b c d,p a b c d->q a b c d->r a b c d->s a b c d->t a b c d->G):G:=h.elim λ a h=>E_3_5 h (f a)
theorem E_5_4{α β γ δ ε:Sort _}{p q r s:α->β->γ->δ->ε->Prop}{G:Prop}(h:∃ a b c d e,p a b c d e/\q a b c d e/\r a b c d e/\s a b c d e) (f:∀ a b c d e,p a b c d e->q a b c d e->r a b c d e->s a b c d e->G):G:=h.elim λ a h=>E_4_4 h (f a)
theorem E_6_3{α β γ δ ε ζ:Sort _}{p q r:α->β->γ->δ->ε->ζ->Prop}{G:Prop}(h:∃ a b c d e f,p a b c d e f/\q a b c d e f/\r a b c d e f) (f:∀ a b c d e f,p a b c d e f->q a b c d e f->r a b c d e f->G):G:=h.elim λ a h=>E_5_3 h (f a)
theorem E_2_8{α β:Sort _}{p q r s t u v w:α->β->Prop}{G:Prop}(h:∃ a b,p a b/\q a b/\r a b/\s a b/\t a b/\u a b/\v a b/\w a b) (f:∀ a b,p a b->q a b->r a b->s a b->t a b->u a b->v a b->w a b->G):G:=h.elim λ a h=>E_1_8 h (f a)
theorem E_4_6{α β γ δ:Sort _}{p q r s t u:α->β->γ->δ->Prop}{G:Prop}(h:∃ a b c d,p a b c d/\q a b c d/\r a b c d/\s a b c d/\t a b c d/\u a b c d) (f:∀ a b c d,p a b c d->q a b c d->r a b c d->s a b c d->t a b c d->u a b c d->G):G:=h.elim λ a h=>E_3_6 h (f a)
theorem E_5_5{α β γ δ ε:Sort _}{p q r s t:α->β->γ->δ->ε->Prop}{G:Prop}(h:∃ a b c d e,p a b c d e/\q a b c d e/\r a b c d e/\s a b c d e/\t a b c d e) (f:∀ a b c d e,p a b c d e->q a b c d e->r a b c d e->s a b c d e->t a b c d e->G):G:=h.elim λ a h=>E_4_5 h (f a)
theorem E_7_3{α β γ δ ε ζ η:Sort _}{p q r:α->β->γ->δ->ε->ζ->η->Prop}{G:Prop}(h:∃ a b c d e f g,p a b c d e f g/\q a b c d e f g/\r a b c d e f g) (f:∀ a b c d e f g,p a b c d e f g->q a b c d e f g->r a b c d e f g->G):G:=h.elim λ a h=>E_6_3 h (f a)
theorem E_3_8{α β γ:Sort _}{p q r s t u v w:α->β->γ->Prop}{G:Prop}(h:∃ a b c,p a b c/\q a b c/\r a b c/\s a b c/\t a b c/\u a b c/\v a b c/\w a b c) (f:∀ a b c,p a b c->q a b c->r a b c->s a b c->t a b c->u a b c->v a b c->w a b c->G):G:=h.elim λ a h=>E_2_8 h (f a)
theorem E_5_6{α β γ δ ε:Sort _}{p q r s t u:α->β->γ->δ->ε->Prop}{G:Prop}(h:∃ a b c d e,p a b c d e/\q a b c d e/\r a b c d e/\s a b c d e/\t a b c d e/\u a b c d e) (f:∀ a b c d e,p a b c d e->q a b c d e->r a b c d e->s a b c d e->t a b c d e->u a b c d e->G):G:=h.elim λ a h=>E_4_6 h (f a)
theorem E_6_5{α β γ δ ε ζ:Sort _}{p q r s t:α->β->γ->δ->ε->ζ->Prop}{G:Prop}(h:∃ a b c d e f,p a b c d e f/\q a b c d e f/\r a b c d e f/\s a b c d e f/\t a b c d e f) (f:∀ a b c d e f,p a b c d e f->q a b c d e f->r a b c d e f->s a b c d e f->t a b c d e f->G):G:=h.elim λ a h=>E_5_5 h (f a)
theorem E_8_3{α β γ δ ε ζ η θ:Sort _}{p q r:α->β->γ->δ->ε->ζ->η->θ->Prop}{G:Prop}(h:∃ a b c d e f g h,p a b c d e f g h/\q a b c d e f g h/\r a b c d e f g h) (f:∀ a b c d e f g h,p a b c d e f g h->q a b c d e f g h->r a b c d e f g h->G):G:=h.elim λ a h=>E_7_3 h (f a)
theorem E_4_8{α β γ δ:Sort _}{p q r s t u v w:α->β->γ->δ->Prop}{G:Prop}(h:∃ a b c d,p a b c d/\q a b c d/\r a b c d/\s a b c d/\t a b c d/\u a b c d/\v a b c d/\w a b c d) (f:∀ a b c d,p a b c d->q a b c d->r a b c d->s a b c d->t a b c d->u a b c d->v a b c d->w a b c d->G):G:=h.elim λ a h=>E_3_8 h (f a)
theorem E_9_3{α β γ δ ε ζ η θ ι:Sort _}{p q r:α->β->γ->δ->ε->ζ->η->θ->ι->Prop}{G:Prop}(h:∃ a b c d e f g h i,p a b c d e f g h i/\q a b c d e f g h i/\r a b c d e f g h i) (f:∀ a b c d e f g h i,p a b c d e f g h i->q a b c d e f g h i->r a b c d e f g h i->G):G:=h.elim λ a h=>E_8_3 h (f a)
end
open Lean in
def eKM (a:Array Term) (e:Term):MacroM (TSyntax `tactic):=do
 let n:=a.size
 if n<3||n>12 then Macro.throwUnsupported
 let f<-(List.range n).toArray.mapM λ k=>`(tacticSeq|refine $(mkIdent (.mkSimple s!"E_{n-1-k}_{k+1}")):ident $e ?_)
 let mut ts:=#[<-`(tactic|first $[|$f]*)]
 if e.raw.isIdent then ts:=ts.push (<-`(tactic|try clear $(⟨e.raw⟩):ident))
 let mut xs:Array Term:=#[]
 for x in a do
  if x.raw.isOfKind ``Lean.Parser.Term.hole||x.raw.isIdent&&x.raw.getId != `rfl then xs:=xs.push x
  else
   let y:Term<-withFreshMacroScope `(y)
   xs:=xs.push y
   ts:=ts.push (<-`(tactic|intro $xs:term*))
   xs:=#[]
   ts:=ts.push (<-if x.raw.isIdent then `(tactic|obtain $(⟨x.raw⟩):ident:=$y) else `(tactic|let $x:term:=$y))
 if xs.size>0 then ts:=ts.push (<-`(tactic|intro $xs:term*))
 `(tactic|($[$ts:tactic]*))
open Lean in
def czXX (T:NameMap (List Syntax)):Nat->Syntax->List Syntax
|0,s=>[s]
|n+1,s=>match s with
 |.ident _ _ v _=>(T.find? v).getD [s.setInfo .none]
 |.node i k a=>
  match if k== ``Lean.Elab.Tactic.Ext.ext then T.find? s[1][0][0][0].getId else if k== ``Lean.Parser.Term.implicitBinder&&s[2].getNumArgs==0 then T.find? s[1][0].getId else none with
  |some r=>if r.head!.isOfKind ``Lean.Parser.Term.byTactic then r.head![1][0][0].getArgs.toList else r
  |_=>let b:=a.toList.flatMap (czXX T n)
   [.node i k (match b with
    |[f,x]=>if k== ``Lean.Parser.Term.app&&f.isOfKind k then #[f[0],mkNullNode (f[1].getArgs++x.getArgs)] else b.toArray
    |_=>b.toArray)]
 |_=>[s.setInfo .none]
open Lean in
def czYY (q:Syntax):Array Syntax:=(q[1].getArgs.foldl (λ(T,a) c=>
 let e:=c[1]
 let z:=czXX T 9999
 if c.isOfKind ``Lean.Parser.Command.declaration&&e.isOfKind ``Lean.Parser.Command.example then
  let b:=e[1][0].getArgs
  let v:=e[2][1]
  (T.insert b[0]!.getId (if b.size==1 then z v else if b[1]!.isOfKind ``Lean.Parser.Term.hole then v[1].getArgs.toList.flatMap z else (b.toList.drop 1).flatMap z),a)
 else (T,a++z c)) ((∅:NameMap (List Syntax)),#[])).2
local macro_rules(kind:=Lean.Parser.Command.declaration)|s=>do
 unless s[1][2][1].isOfKind ``Lean.Parser.Command.quot do Lean.Macro.throwUnsupported
 return Lean.mkNullNode (czYY s[1][2][1])
open Lean in
def zRc:Nat->Term->MacroM (TSyntax `rcasesPat)
|0,_=>Macro.throwUnsupported
|n+1,t=>match t with
 |`(#[$xs,*])=>do let ys<-xs.getElems.mapM (zRc n);`(rcasesPat|⟨$[$ys:rcasesPat],*⟩)
 |`(_)=>`(rcasesPat|_)
 |`($x:ident)=>`(rcasesPat|$x:ident)
 |_=>Macro.throwUnsupported
local macro_rules|`(tactic|let $p:term:=$e)=>do let q<-zRc 9 p;`(tactic|obtain $q:rcasesPat:=$e)
local macro_rules|`(tactic|let #[$a,*]:=$e)=>do let q<-zRc 9 (<-`(#[$a,*]));let t<-eKM a.getElems e;`(tactic|first|$t:tactic|obtain $q:rcasesPat:=$e)
local macro_rules|`(tactic|simp! [$a,*] $[$l:location]?)=>`(tactic|simp only [$a,*] $[$l:location]?)
local macro_rules|`(tactic|exists $e)=>`(tactic|simpa using $e)
local macro_rules|`(tactic|show $e)=>`(tactic|refine $e)
local macro_rules|`(tactic|exact $e)=>`(tactic|refine $e)
local macro_rules|`(#[])=>`(by simp)|`(#[$xs,*])=>`(⟨$xs,*⟩)
local macro_rules|`(↑$x)=>`(some $x)
local macro_rules|`(⋯)=>`(by lia)
local macro_rules|`(())=>`(by decide)
abbrev AB:=PySem.W.Frag
local macro_rules(kind:=Lean.Parser.Command.declaration)|s=>do
 if s[0][4].getNumArgs>0||![``Lean.Parser.Command.definition,``Lean.Parser.Command.abbrev].contains s[1].getKind then Lean.Macro.throwUnsupported
 return s.setArg 0 (s[0].setArg 4 (Lean.mkNullNode [Lean.mkNode ``Lean.Parser.Command.noncomputable [Lean.mkAtom "noncomputable"].toArray].toArray))
example:=`(
example À:=s.heap.objs.size
example ä _:=x X gV B
example Á:=Inv ä H s
example þ _:=x X.prog X.w
example Â _:=x (model þ) X.A
example Ē(H:Hp):=0
example Ù:=Shared
example Ý7(s:Ù):=0
example Ã(gV:AN) Ý7 (B:St) Ē:=0
example á9:=env.kindOf
example ê9:=.function
example Ô9:=env.scope.kind == ê9
example Ò1:=.cell
example Ţ:=NameKind.free
example Ä:=(k == Ţ&&Ô9&&á9 n == ↑ Ò1)
example ë1:=J.iH i H x H'
example ō:=.lst
example Û:=sizeLine
example Ů _:=x B H
example Ð7:=ys.length
example ù5:=(i+1)
example Ë:=.ref
example û3:=(Ë D)
example Å:=∀ i m B H,W i m Ů->(J.stop i H/\Q û3 H)\/(J.go i H/\∀ x H',ë1->g x B H' fun B2 H2=>tc B2 H2 λ b H3=> if b=true then te B2 H3 λ y H4=>∃ ys m',H4 D=↑(ō ys)/\Ð7<Û/\m'<m/\W ù5 m' B2 (upd H4 D (ō (ys++[y]))) else ∃ m',m'<m/\W ù5 m' B2 H3)
example ą:=scope
example Æ:=(xi X N' ą cl C s H fp)
example Ġ{H:Hp}:=0
example ô3{s:Ù}:=0
example Ñ5{B:St}:=0
example ü3{gV:AN}:=0
example Ç ü3 Ñ5 Ġ ô3:=0
example Ö1(ha:PD X a ta):=0
example È Ö1 (hb:PD X b tb):=0
example É _:=x gV s Ů
example Ê _:=x gV s Ů _ I h
example ì:=.int
example Ú5:=.fields [ì lo t,ì hi u,ì 1 v].toArray
example ê6:=.type
example É4:=s.heap.push
example Ì:=É4 { cls:=ê6 "range",data:=Ú5 }
example Í:=#[x,H1,I1,r1,q1]
example Î:=Value
example Ó3:=X.env.cells.lookup
example Ï:=Ó3 x=↑c
example Ð:=(.ListComp elt [#[tg,iter,ifs,0]] ą pos)
example Ñ:=List V
example á2 _:=x r1 r2
example ś:=λ x S1 v H1 h1 q1 e1 p1=>?_
example ŋ:=by let#[Y,S,r1,r2,h]:=hu
example ó6:=zU.go
example Ò:=by ext ŋ;exact ó6 ha.mo á2 h ś
example Ó:=Hp->Prop
example Ř:=.inr
example ă:=.inl
example î2:=by first | show ă rfl | show Ř rfl | assumption
example Ā:=X.env.scope.names.lookup
example ñ2:=.local
example Ò9:=X.fn x=true\/Ā x=↑ ñ2
example Ô(hf:Ò9:=by ext î2):=0
example Õ:=items.size
example Ö:=by intro gV s B H Q I h
example Ø:=xs.length
example Ú:=Option
example Ü _:=x _ _
example Ý:=false
example Þ:=X.env
example ù2:=.bool
example Î3:=ù2 true
example æ4:=s'.heap
example í0:=Ë a
example ù0:=AllBare s'.gens
example Ì3:=s₁.heap
example ß _:=x callerA (.call (Ë fa) #[[í0],[]]) (λ r s'=>r=.ok (.ret (Î3))/\OldK Ì3 æ4/\s'.os=s₁.os/\ù0) s₁
example à:=by simp![zj]
example á:=Hp->VK->Prop
example ĸ:=scope.names
example â:=(x,Ţ)∈ ĸ
example ã:=by intro X hP hw hK hc i gV s B H E I hf st hg;subst hP hw hK
example å:=s.heap.get?
example æ:=wpAny
example î6:=Program
example ç{P:î6}{w:World}:=0
example è:=by let#[Y,S,r1,r2,z]:=hu
example ö:=X.env.locals
example Û8:=(∀ x c,Ï->c≠b)/\∀ p∈X.pn++gV,p.1≠b
example Ŀ:=X.s₀.heap.objs.size
example é(hch:∀ b∈ch,(b∈X.ex\/Ŀ<=b)/\b≠ ö/\Û8):=0
example ê:=ê6 "list"
example ë(I:Á):=0
example í(K:AB):=0
example ø:=its.toArray
example Å5:=(I.ok.hd hc)
example Å3:=λ i=>bs.getD i true
example Ç4:=zA9 _ rfl
example Þ3:=#[_,Ç4,rfl,rfl]
example î:=#[À,_,_,_,_,_,Å3,rfl,Walks.list (A:=X.A.in1) Å5 À p (zB3 AZ) ø,#[Þ3,pl.isList.push _],λ i v s' Q' E' hv hq'=>?_,λ h' tk hk=>?_]
example Ï9:=X.env.scope
example ß6:=X.N[i]?=↑x
example ï(hN:X.N.Nodup) (hi:ß6) (hx:Loc Ï9 x):=0
example ð:=(x == ("__debug__":Str))=Ý
example Ť:=NameKind.cell
example ú9:=(n,k)
example ñ:=(names.map λ ú9=>if Ä then (n,Ť) else ú9).lookup x
example æ2:=.none
example ô8 _:=x kV doc pm an AF ct
example ò:=PySem.W.fnOf x qual (nC st) (xV st) (yk st) æ2 ô8
example Ì4:=r1.ext e1
example Í5:=e1.trans
example ó _:=x (Ì4) p1 z λ y S2 w H2 h2 q2 e2 p2=>h2 w H2 q2 (Í5 e2) p2
example ô(X:Cx):=0
example Ő:=outer
example Ö6:=List Env
example õ(A:Around) (Ő:Ö6) Ý7 Ē:=0
example Ë5(ha:PE X a ta):=0
example ù Ë5 (hb:PE X b tb):=0
example ú(hg:∀ cl C s H fp,PG Æ tg g) (hf:∀ cl C s H fp,PF Æ ifs tc) (he:∀ cl C s H fp,PE Æ elt te):=0
example û:=by let#[f0,f1,f2,f3,f4,f5]:=hf it #[]
example É3:=List.lookup
example ü:=É3 x ((if Ä=true then (n,Ť) else ú9)::_)
example ý:=by intro gV s B H x y v u Q I rx ry h
example ÿ _:=x (model prog w) A
example ā(hb:Binds X.K fd ps ds) (hd:Vals dvs ds) (hx:Passes CX X E):=0
example Ă:=List Str
example Ą:=by rw[show pW f v ((k,x)::r)=(if k=f then (k,v)::r else (k,x)::pW f v r) from rfl];by_cases hk:k=f
example Ć _:=x gV s1 B H1
example ĭ:=h.get?
example Ū:=h'.get?
example ć:=ĭ b=↑u->Ū b=↑u
example ï6:=PySem.W.emptyDict
example Ĉ:=É4 ï6
example ĉ{pos:Pos}:=0
example Ċ:=scope.names.lookup
example ċ{X:Cx}:=0
example Č:=#[ok.mod,ok.kind,ok.glob,ok.blt,ok.above,ok.inj,ok.has,ok.dn,ok.hd,ok.frames,ok.cJ,ok.Xp,ok.bs,ok.jn,ok.fS,ok.eP,ok.nV,ok.jV]
example č:=False
example ř:=s.toks
example Ď:=λ h' eb=>#[rfl,I.turned (t':=ř) (λ b o hb e=>eb b o hb e) f0 f1 f3 f4 f5]
example ď:=List Expr
example ø5:=X.calm=true
example Đ(hc:ø5):=0
example đ:=PySem.mem_of_lookup
example ē _:=x P w K mg base
example Ĕ:=["enumerate","zip","dict_itemiterator","dict_reverseitemiterator","odict_iterator","itertools.zip_longest","itertools.pairwise"].contains n
example ĕ:=if_neg
example Ė:=List Addr
example À8:=.builtin
example ė:=A.under (À8 "type.__call__" #[Ë C::us,kw])
example Ę:=s3.heap.push { cls:=ê6 "slice",data:=.fields [vl,vu,æ2].toArray }
example ę _:=x K H
example Ŵ _:=x B H Q
example Ě(hi:∀ B H Q,t' Ŵ->t Ŵ):=0
example ě:=SS->Prop
example Ĝ:=by intro gV s B H xs us Q I r h
example Û2:=(ă rfl)
example ĝ:=k Ü Û2 e
example Ğ:=fun B H Q hu=>?_
example ë2:=I.list hq
example ğ:=by let#[u,rfl,ru]:=vals1 r;cases ru;let#[its,rv,pl,hz]:=ë2;have hl:=rv.length;rw[AQ] at hl;have AZ:p<À:=by let#[o,n,e,_]:=pl;show A2 e
example ġ:=s.heap
example Ģ:=(.refl H)
example Å6:=#[y,H2,I2,r2,q2]
example í1:=#[z,H3,I3,r3,k,e,q3]
example Å9 _:=x gV s2 B H2 x y v
example Þ4 _:=x Ć _ I1 q1
example ģ:=(zG (hb Þ4) λ u s2 Å6=> zG (ho Å9 u _ I2 á2 q2) λ d s3 í1=>?_)
example Ĥ{A:Around}:=0
example ã6:=RelV x v
example è0(xs:Ñ):=0
example è2(us:AI):=0
example Á5:=Vals xs us
example ļ _:=x (EP ä Q) X.xe
example Ñ4(Q:VK):=0
example ĥ:=∀ Ã (x:V) è0 (v:Î) è2 Ñ4,Á->ã6->Á5->r x xs H Q-> æ Â (call (À8 id) (v::us)) ļ s
example ö4 _:=x #[_,ho,rfl] #[_,ho2,rfl]
example Ħ _:=x ö4 noFill_tuple_add seq_tuple_add PySem.F.slot_tuple_add PySem.F.entry_tuple_add (PySem.F.args_tuple_add_2 Ü)
example Í0:=(g i j)
example Ñ1:=Int->Int->D
example ħ{g:Ñ1}{g':Int->Int->V}(hg:∀ i j H,zj ę Í0 (g' i j)):=0
example Ĩ:=by .show h.elim
example Ê0:=r.length
example í8:=by let#[j,h1,h2,h3,h4,h5]:=X_ he
example ĩ:=by ext í8;let#[w,ew,rw']:=r.get h2;have hl:=Ê0;have hn:=jQ;have fin:EP ä Q w s:=#[z,H,I,rw',q]
example Ī:=if_pos
example ī{e:Expr}:=0
example Ĭ{x:Str}:=0
example Į:=absurd
example į _:=x Y S Ü
example ß5:=(.tup xs)
example İ:=∀ b xs,H b=↑ ß5->H' b=↑ ß5
example ı:=by rw[yw (pX q h (by intro z;cases z))];show q
example Ö7:=Inv ä H { s with heap:=h' }
example Ĳ:=by have I1:Ö7:=I.turned (t':=ř) (λ b o hb e=>(sb.2 b hb).trans e) f0 f1 f3 f4 f5;let#[o,e,c,d]:=id st'
example ĳ:=envOfC qual ą À f cd
example ç2:=yh Õ Õ hi
example Ø5:=yh Õ 0 lo
example Ĵ:=(items.toList.drop (Ø5)).take (ç2-Ø5)
example ĵ{xs:Ñ}:=0
example Ä7:=compareOp
example Ķ(ho:yO X (Ä7 op) r):=0
example Ò8:=o.data=.seq its n/\its.size<=Û/\Vals xs its.toList
example â1:=K.lookup
example ø1:=o.dict=none
example ķ:=∃ (o:Obj) (its:A1) (n:Nat),â1 a=↑o/\o.cls=ê/\ø1/\Ò8
example Ĺ:=zu ę ds xs
example È8:=by let#[t,rfl]:=rx
example ĺ:=by ext È8;let#[t',rfl]:=ry
example è1 _:=x X.K X.mg X.base
example Ļ(F:qY þ è1 CX k f fd ps sp):=0
example Ľ{K:AB}:=0
example ľ:=(∀ d S',Q d S'->Q' d S')
example ŀ:=behindInMarks op b=Ý
example Ł:=∀ b∈fp,nH X gV H b
example ł:=Ext H H'
example Ù4(w:World):=0
example Ń(P:î6) Ù4:=0
example ń _:=x b o e
example î8:=λ p hp=>?_
example Ņ:=by let#[Y,S,r1,r2,h']:=hu;exact rR.go h.mo á2 h' λ ds S1 xs H1 h1 q1 e1 p1=>#[by rw[<- q1.length];show h1.1,î8]
example à9:=∀ x,foldedSetIterable iter Þ x=pure x
example ņ(hs:à9:=by intro _;rfl):=0
example Ň:=H b=none
example ň _:=x ha.mo hb.mo
example ŉ:=decide
example Ŋ:=(AM _)
example Ō:=λ gV s B H Q I q=>h É Q I (hi Ŵ q)
example Ŏ:=List (Ú Nat)
example Û5:=I.base.free
example Ð1:=λ b o e n hb hx=>?_
example ŏ:=#[Ð1,Ð1,Û5,λ b o e hx=>?_,I.base.mZ,I.base.ku,I.base.kL]
example ő:=sc.names.lookup x
example Õ4 _:=x B' H'
example Œ:=Inv X gV Õ4 s'
example œ:=.BoolOp
example Ŕ:=s1.heap.objs.size
example ŕ:=by let#[x,hx,h1]:=h0.one;subst hx
example Ŗ:=[].toArray
example ŗ:=(hs.2 b (zB3 (zC3 (A2 e) (I.ok.dn x c hfn hc)))).trans
example Ś:=Ú Int
example Þ6:=by intro value slice gV s B H x y v u Q I rx ry h hs
example Ŝ:=by ext Þ6;let#[p,xs,i,z,rfl,rfl,hq,he,q]:=h;cases rx;let#[t,rfl]:=ry
example ŝ:=∀ b∈fp,H' b=none
example ó8:=λ ds S1 xs H1 h1 q1 e1 p1=>?_
example Ş:=by ext è;exact rR.go hm á2 z ó8
example ş:=List D
example Š:=h.objs.size
example š:=(.Name x pos)
example ţ:=cl.lookup x
example ť:=its.toArray.size
example Ŧ:=by let#[#[cls2,dd2,data2,sl2],ho2,hc2,n2,hd2]:=id hb;simp only at hc hd hc2 hd2;subst hc hd hc2 hd2
example ŧ:=False.elim
example Ũ:=PySem.W.findIn
example ö0:=.Compare
example ũ _:=x X (ö0 a [op] [b] pos)
example ū:=yq ę S
example Ŭ:=by let#[its,r',pl,hz]:=ë2;have hlen:=r'.length
example ŭ _:=x (a::b::rest) pos
example ů:=PySem.W.instObj
example Ű:=xH ę Y B
example ű _:=x ę a xs
example Ų:=by rw[e];show#[.bl _,H,I.kept (t':=tk) λ b o eo=>hk b o (by exists zB3 (A2 eo)) (za1 _ eo),rfl,q]
example ų:=H2.objs.size
example ŵ _:=x (b,o) (zB4 _ (zB4 _ (b9 hb e)))
example Ŷ:=by let#[x,r,h1,h2,h3]:=h
example ŷ:=by intro gV s B H D I h
example Ÿ:=List (Str×Addr)
example Ź:=by rw[List.getElem?_set_ne (Ne.symm hj)] at e2;let#[u',r',q]:=hl j y v' e1 e2 e3;exact#[u',r',?_]
example ź:=(zG (h pos É _ I hq) λ us s1 #[xs,H1,I1,r,z,q]=>#[by rw[<- Ê0];show z,?_])
example Ż _:=x (fI.fits λ _ _ _=>à) fI.mo ha hb
example ż:=ê6 "tuple"
example Ž:=I.zH.fresh
example ž:=#[_,rfl]
example ſ:=by ext Ö;let#[cl,hclos,c1,c2]:=Qg (ą:=ą) (env:=Þ) λ y hy hk=>I.ok.has y.1 (S.free y hy hk)
example À0:=fun Y5 S5 w5 B5 H5 b1 b2 b3=>#[((x2.trans x3).trans a2).trans b2,Y5,S5,b1,b3,w5]
example À1:=(zG (hi Ê) λ v s1 h1=>zG h1 λ itv s2 h2=>?_)
example À2 _:=x ta tb
example À3(he:AY X e es:=by rfl) (AV:A3 X pos es:=by rfl):=0
example À4:=.cons
example À5:=RelV v u
example À6:=∀ b o u,H b=↑(.pk o u)->H' b=↑(.pk o u)
example À7:=Ù->Prop
example ù9:=sp vs H Q E
example à0:=vs.length
example Ð6:=ps.length
example À9:=∀ vs H Q E,ù9->à0=Ð6
example ú5:=ns.map
example Á0:=(ú5 V.int)
example Á1(he:∀ whole,isTrue a Þ whole=(do let v <- whole;standAt a.pos;holding [v] (truthy v))):=0
example Ì8:=(n:Int)
example Á2:=if v<0 then (v+Ì8).toNat else min v.toNat n
example Á3(hn:x≠"__name__":=by decide):=0
example Á4:=PyProof.Rows
example Á6:=λ _ _ q=>q
example Á7:=X.stack
example Á8:=vs.toArray
example Á9:=by simpa only [zj] using h
example Â0{us:AI}:=0
example Â1(i:Nat):=0
example Ú6:=by simp![zj] at h1 h2
example Ò0:=by let#[a,xs,rfl,r1,r2]:=h1
example Â2:=by rename_i q;ext Ú6;ext Ò0;let#[x',e1,e2]:=r2.yt q
example Ü2:=sliceBounds
example ú1:=(1:Int)
example Â3:=by simp![Ü2,HT.yh,Option.getD_none,show ú1>0 by decide,if_true];by_cases h:i<0
example Â4{x qual:Str}{st:Stmt}{f:Addr}:=0
example Ø0:=Heap->Prop
example Â5{q:î6}{loose:Ă}{XP:(Str->Ú Î)->Ø0}{YP:World->Ø0}{d:DefRec}:=0
example ø6:=zB3 (zC3 (A2 e) I.ok.above)
example Â6:=(hs.2 b (ø6)).trans
example Â7:=List (Str×V)
example á1(mu:gR (H x)) (he:e=x\/H e=↑(.own x)):=0
example Â8 á1 (k:∀ b u,b≠e->ć) (heo:∃ u,Ū e=↑u):=0
example Û6:=I.tuple
example Â9:=by cases rx;cases ry;let#[its,r1,p1,_]:=Û6 ha;let#[its2,r2,p2,_]:=Û6 hb
example Ã0:=by ext Ĝ;let#[i,j,rfl,q]:=h;let#[u,w',rfl,#[t,rfl],#[t',rfl]]:=vals2 r
example Ã1:=by let#[o',e1]:=I.base.there ń hx
example è3(hg:Gl X x):=0
example Ã2 è3 (hm:X.mg x=none):=0
example Ï8:=(e::es)
example Ì7:=assignEach es Þ
example Ã3:=(assignEach Ï8 Þ).map (·.2)=assign e Þ::(Ì7).map (·.2)
example Ã4:=(XU ha hb I h λ v u s2 x y H2 I2 rx ry q=>ho Å9 u Q I2 rx ry q)
example ý4(E:AH):=0
example Ã5(i j:Int) (t u:Tok) Ý7 (Q:AH) ý4:=0
example Ã6 _:=x (zG (ha pos Ê) λ us s1 #[vs,H1,I1,r1,q1]=>hc Ć vs us Q I1 r1 q1) he AV
example Ã7(ha:y8 ta) (hb:y8 tb):=0
example Ã8 _:=x kindOf ((p,w)::P.zip vs) m
example Ã9:=Az.length<=Û/\(a == sysModules)=Ý/\∃ vs,KV Az vs/\h.DictOf (qk P w) a vs
example Ó1:=.ins C dx fs
example Ä0(e:H a=↑(Ó1)) (c:mw X.K C):=0
example Ä1:=Builtin.Tuple.tupleExact _
example Ò4 _:=x Q E s
example ï4:=æ Â (f (ì i t) (ì j u)) Ò4
example Ä2:=Q (ì Í0 ř) { s with toks:=ř+1 }->ï4
example Ä3:=#[Y,S,r1,r2,mo į (λ d S' q v H' a b c=>k d S' v H' q a b c) h]
example Ä4:=qL.go hb.mo (Ì4) p1 z λ y S2 H2 h2 e2 p2=>h2 H2 (Í5 e2) p2
example Ä5:=#[fun Y S Q Q' hq z=>hm į (λ ds S1 z=>?_) z,PI.imp h fun B H R hu=>?_]
example Ä6:=by let#[_,_,_,_,o,_,_,e,_]:=x
example Ä8:=Builtin.Slice.slicePlaces
example ú3:=(λ z=>?_)
example Ä9:=qP ú3 ú3 h1
example û5:=yX->ě
example Å0:=∀ d Y S (Q Q':û5),(∀ Y S,Q Y S->Q' Y S)->t d Y S Q->t d Y S Q'
example Å1 _:=x (b::rest) pos
example Å2{H H':Hp}:=0
example æ5:=(ha Ê)
example Å4:=zG æ5 λ v s1 Í=>?_
example Å7:=by let#[oc,od,kV,doc,pm,an,AF,ct,osl,rfl,lk,hcd]:=F.ex
example Å8{f:xA}{r:R2}{ta tb:zx}:=0
example Æ0:=by let#[B3,H3,I3,n3]:=q3;let#[m',hm,w3]:=hN B3 H3 n3;show#[m',hm,B3,H3,I3,w3]
example ã5:=(by simp![A6] <;> lia)
example Ë1:=I.tok _
example Æ1 _:=x ã5 #[ì Ð7,H,Ë1,#[ř+1,by rw[A6,hlen]],q]
example Æ2:=List Int
example Æ3:=(((Ø5:Nat):Int) == 0&&ú1 == 1&&(ç2-Ø5) == Õ)=true
example Æ4(a:Addr):=0
example Æ5(hd:ð:=by decide):=0
example Æ6:=å p.1=↑p.2/\H p.1=none/\p.1≠ ö/\p.1∉X.fs/\∀ v,p.2.data≠ Ò1 v
example É8 _:=x A Ő s H
example Æ7:=(wj CX ē N qual ą f AF É8 E)
example Æ8{kindOf:Str->Ú NameKind}:=0
example Æ9{mg:A0}{base:Heap}:=0
example Ç0(prog:î6) Ù4:=0
example ö5:=by let#[u,rfl,rx]:=vals1 r;cases rx
example Ç1:=by ext Ĝ;let#[p,ys,rfl,hq,q]:=h;ext ö5
example Ç2:=(.Call (.Name x p) Ï8 [] pos)
example Ç3:=beq_eq_false_iff_ne.mpr
example Ç5:=X.base.get? b=↑o
example Ç6:=#[H1,I1,q1]
example Ç7:=binaryOp
example Ç8:=#[hp,g,d,tk,os]
example Ç9:=HT.yh Ø 0 lo
example È0:=ds.length
example È1:=hq Ü h
example È2{f:Î->Î->Sem Î}:=0
example È3(hm:lastMarks [op,op'] [b,c]=Ý:=by with_unfolding_all rfl):=0
example È4:=Inv ä H' { s with heap:=h',gens:=g',drawn:=d',toks:=t' }
example È5:=(AE #[_,rfl,AE h])
example È6:=by let#[sl,e1]:=I.base.slot ń n hb hx
example È7:=by let#[e,n,ne,nf,d]:=I.pin p hp
example È9:=by let#[it,fp,tn,J,H2,e,I2,T,st2,f2,rd]:=h2;subst e
example É0:=k b o (λ z=>hc (by simp[z])) e
example É1:=(ō xs)
example É2:=(model P w)
example É5{i:Nat}:=0
example É6 _:=x X (.UnaryOp .Not a pos)
example É7(X:K.In ġ) (I:i4 ġ x dx C mA):=0
example É9:=bootBuiltins x
example à2:=(Ë C)
example Ê1:=Ũ K à2 "__setattr__"=↑↑(À8 "object.__setattr__")
example Ê2:=Heap.size_push
example Ê3:=by let#[z,y,vs,r,ob,es,ep,e,c]:=x;show#[z,y,vs,r,ob,es,ep,ĝ,c]
example Ê4:=List Stmt
example ó3:=s.heap.IsSliceOf sl vl vu æ2
example Ê5(hs:ó3) (pl:IsPart vl lo) (pu:IsPart vu hi):=0
example Ê6:=by simp![zj] at r;subst r
example Ê7{a:Addr}:=0
example Ê8:=å b=↑o
example Ê9(h:Heap):=0
example Ë0:=(PySem.W.fnOf name qual params body ą dV ô8)
example Ë2:=λ D B H hu=>?_
example Ë3:=I.items.length
example Ë4:=by rcases kj hv with ⟨j,u,rfl,rfl⟩ | ⟨y,u,rfl,rfl⟩
example Ô5:=IntsAre
example Ë6(hi:Ô5 items.toList ns) (hj:Ô5 items2.toList ms):=0
example Ë7:=by let#[its,r',pl,hz]:=Û6 hq
example Ë8:=Value.ref
example Ë9:=(Ë f)
example Ì0:=∀ b ps,H b=↑(.zV ps)->∃ more,H' b=↑(.zV (ps++more))
example Ì1:=Inv ä H' s'
example Ì2:=((yh n 0 lo:Nat):Int)
example Ì5:=some (ō ds)
example Ì6:=env.cells.lookup
example Ì9:=(zG h4 λ _ s5 #[x,H5,I5,r5,y5,st5,fr5]=>?_)
example Í1:=(own++cl).lookup
example Í2:=by rw[hi] at e1;cases e1;rw[List.getElem?_set_self hiσ] at e2;cases e2
example Í3:=(zG (ha pos Ê) λ us s1 #[vs,H1,I1,r1,q1]=>?_)
example ù7:=fs.lookup
example Í4:=∀ f,pE (ù7 f) (mA f)
example Í6:=Bool->Ó
example ò5:=ì i
example Í7:=[ò5,ì j]
example Í8:=V->Ś->Ś->á
example Í9:=∀ Ý7 (u:Î),BindsTo s fd #[[u],[]] [(x,u)]
example Î0{fd:FuncData}:=0
example Î1 _:=x q loose XP YP l.row.toRowW d [] (λ f vs=>PySem.call f vs)
example Î2:=List.range
example à7:=zu.ext
example Ü5:=(.new hl _)
example Î4:=#[l,xs,rfl,yz.of yR,à7 Ü5 _ r2]
example Î5{a b:Expr}:=0
example Î6 _:=x he c1 c2 I2 T st2 f2 rd λ C D oC H' s' hC J' ho hn q=>?_
example Î7:=by let#[o',es',ep',ho',r']:=hm;rw[ho] at ho';cases ho';show#[_,es',ep',hL,r']
example Î8:=List (Str× Î)
example Î9{b:Addr}{o:Obj}:=0
example Ï0 _:=x ho hc hd (λ h' c' kp e=>fin its r' hz h' c' kp e) ã5
example Ï1{ta:TA}{p pos:Pos}(hg:Gl X "range") (hm:X.mg "range"=none):=0
example Ï2:=ĭ b=↑o
example Ï3:=PySem.W.codeIn K AF qual=true
example Ï4:=by rcases kj hb with ⟨j,u,rfl,e⟩ | ⟨y,u,rfl,e⟩
example Ï5:=xs[i]?=↑x
example Ï6:=Vals xs its
example Ï7:=mainGlobals
example Ð0:=I.ok.kind
example Ð2:=St->Ó
example Ð3:=PyProof.Rows.callWith_type1
example Ð4:=pl.isList
example Ð5:=(À+1)
example Ð8:=compEnvC ą cl C Þ
example Ð9:=kI X N' pick ą
example Ñ0:=zj ę d x
example Ñ2:=zE.fits λ _ _ _=>à
example Ñ3(mg:A0) (base:Heap):=0
example Ñ6(r1:Ű) (r2:ū) (h:t Y S R):=0
example Ñ7:=λ gV s B H v w Q I r q=>h É v w Q I r (hi v Ŵ q)
example Ñ8 _:=x É x y v u Q I rx ry
example Ñ9:=by let#[_,_,_,_,o,_,_,e,ex,_]:=I.zH p _ hk
example Ò2:=swapsWith e ↑(.Name x pos') pos.line Þ=pure Ý
example â3:=z.length
example Ò3:=∃ z,xs=[.str z]/\â3<=Û/\Q (ì â3) H
example Ò5(A:Around) Ý7 (a:Int) (t:Tok) (c:Int) (u:Tok):=0
example Ò6:=λ p hp=>Į (show p∈([]:AN) from hp) #[]
example Ò7:=List (Str×NameKind)
example Ó0:=by rcases AL.mp hx with q | q
example Ó2:=starEach
example Ó4:=(start N vs)
example Ó5:=#[z.1,hq Ü z.2]
example Ó6{h:Heap}:=0
example Ó7{t':Nat}:=0
example ü0{u:Î}:=0
example Ó8{v:V}ü0:=0
example Ó9(hdb:ð:=by decide):=0
example Ô0:=by simp![zj] at q1
example Ô1:=Turn þ X.K tg J fp it tn
example Ô2:=I1.zH.fresh Ŋ
example Ô3:=Int->Int->Prop
example Ô4:=PySem.W.keepIn
example Ô6:=Builtin.Slice.sliceAdjust
example Ô7:=((i:Int)+(m:Int)*1).toNat
example Ô8:=s₁.heap.get?
example Õ0:=.tup ds
example Õ1 _:=x lo hi
example ü1 _:=x P w H h
example Õ2(x:xB ü1):=0
example Õ3(gV:AN) (B:St):=0
example Õ5(ha:PT X a tA):=0
example Õ6(he:PE X e te):=0
example Õ7(hp:PassesOwn Â Þ X.xe):=0
example Õ8 _:=x rfl hs hclos S.kind (λ y hy e=>e▸S.uniq y hy) À1
example Õ9(hr:rO X.K f r) (hf:rZ f):=0
example Ö0 _:=x ha.pe hb.pe
example Ö2:=I1.laid (t':=s1.toks) (λ b u e=>za1 _ e) Ŋ ?_
example Ö3:=by let#[c,rfl,q1]:=q1;cases r1
example Ö4:=by rw[yw (m9 q hn)];show q
example Ö5:=PySem.W.hasDictIn K C=true
example Ö8(n:Nat):=0
example Ö9:=PySem.Spec
example Ø1:=(I.base.keep ń n hb hx)
example Ø2:=.Constant
example Ø3:=xs.isEmpty
example Ø4:=ns.length
example Ø6:=λ b ob q=>za1 _ q
example Ø7:=xs=[Ë p]
example Ø8:=Builtin.List.listTooLong
example Ø9:=y6 k (A.deeper (envOfC qual (yk st) À f AF))
example Ù0:=(assign (.Name y py) Þ)
example Ù1:=t Y S Q->t Y S Q'
example Ù2:=yq K H' S'
example Ù3:=PE.imp
example Ù5:=by have e:b=it:=by exists hb
example Ù6(hcd:(x == ("__classdict__":Str))=Ý:=by decide):=0
example Ù7{op:CmpOp}:=0
example Ù8:=by intro wh gV s B H Q I h
example Ù9{ą:Scope}:=0
example Ú0:=by cases e;simp![zj] at r;let#[a,xs,h1,h2,h3]:=r
example Ú1:=by rw[yw (m9 q h)];show q
example Ú2{n:Nat}:=0
example Ú3 _:=x (i:=i) (zaC.mp nd).2 (by exists h1) (by exists h2) hk
example Ú4 _:=x (wj xj ē N qual (yk st) f AF É8 E).rf (xV st) t
example Ú7 _:=x zE.mo ha hb (nh _)
example Ú8:=by rename_i e;let#[a,ys,rfl,q,r]:=yx.sq h1 h2 e
example Ú9:=by subst e;let#[o,e,c,d]:=st;show#[o,e,λ v z=>by rw[d] at z;cases z]
example Û0{k:Nat}:=0
example Û1:=(upd H a o)
example Û3:=.free
example Û4:=X.s₀.heap.get? b=↑o
example Û7:=λ _ _ z=>ŧ z
example Û9:=(hg _ s5 B3 H5 x u _ I5' r5 (step x H5 y5))
example Ü0:=∀ name,PySem.W.lookIn name od=↑(mA name)
example Ü1:=PySem.W.isFn K Ë9=true
example Ü3:=∀ l,H l=none->Q (Ë l) (upd H l (.tup ys))
example Ü4:=hfp b hb
example Ü6{Q:Unit->À7}:=0
example ò3{E:AH}:=0
example Ü7 ò3 ô3:=0
example Ü8:=by intro gV s B H x v vl vu lo hi sl Q I rx hs pl pu h
example Ü9{p:Addr}:=0
example Ý0(F:oW K x qual st f fd):=0
example Ý1:=s.heap.FunFrames
example Ý2:=Ñ->á
example Ý3:=PySem.W.plainGet
example Ý4 _:=x Á8 ws.toArray n n2 dd dd2 sl sl2 (by exists hv)
example Ý5:=by simp![zj] at h ⊢;let#[a,xs,h1,h2,h3]:=h
example Ý6:=by exact#[#[o,e,ex.1],λ a e2=>?_];cases e2;show#[o,e,ex.2.1]
example Ý8:=by simp![zu] at h
example Ý9:=λ i j=>.bl (ŉ (i<=j))
example Þ0:=λ i j=>.bl (ŉ (j<=i))
example Þ1:=PySem.W.plainGet_of hg
example Þ2:=∀ l,H l=none->Q (Ë l) (upd H l (ō ys))
example Þ5 _:=x I3 (stat fr3) st3
example Þ7:=λ i h h' st k=>st.at λ o e=>k it #[] o e
example Þ8:=(-(2 ^ 62)<=i/\i<2 ^ 62/\-(2 ^ 62)<=j/\j<2 ^ 62)
example Þ9:=(r.drop (Ç9)).take (HT.yh Ø Ø hi-Ç9)
example ß0:=É4 { cls:=ê6 "dict",data:=.dict Ŗ }
example ß1:=I1.kept (t':=s1.toks) λ b o eo=>za1 _ eo
example ß2:=by let#[m,#[o,es,ep,ho,r],_]:=id I.loc
example õ3:=congrArg
example ß3:=by have:its=its':=by exists õ3 Array.toList d1
example ß4:=.seq ø n
example ß7:=I.cell
example ß8:=(Ë it)
example ß9:=(((hi-lo).toNat:Nat):Int)-((0:Nat):Int)
example à1:=λ h' tk k=>#[_,H,I.kept k,?_,q]
example à3:=by simp at h
example à4:=(vs++dvs)
example à5:=(ù2 (lexLt ns ms))
example à6:=ForInStep.yield
example à8:=hq Ü z
example á0 _:=x x c e
example á3(ha:PA X Ï8 t):=0
example á4{S:SS}:=0
example á5:=by have e2:(op == CmpOp.NotIn)=Ý:=by cases op <;> first | rfl | show Į rfl h2
example á6:=by rw[AR] at h;simp![zu,zj] at h;ext Ŷ;subst h1 h2
example á7:=ĭ a=↑{ cls:=æ2,data:=.fields ps }
example á8:=RelV x u
example â0:=Vals vs us
example â2:=t { nx:=λ _ H'=>Q .zA H',rt:=Q } Ó4 H
example â4:=its.length
example â5:=#[cl,?_,λ x d hx=>?_,λ x hx=>?_]
example â6:=own.lookup
example â7:=λ gV s B H Q I q=>h É Q I (hi Q Ů q)
example â8{xs ys:Ñ}:=0
example â9(e:Expr):=0
example ã0 _:=x (TP ä Q) X.xe s
example ã1 _:=x rfl rfl rfl hc i
example ã2(C:Addr):=0
example ã3(lo hi:Ś):=0
example ã4:=by have e1:(op == CmpOp.In)=Ý:=by cases op <;> first | rfl | show Į rfl h
example ã7:=yw (hm b _ q λ z=>z)
example ã8:=å b=↑u->Ū b=↑u
example ã9:=#[v,H,I,r,h]
example ä0:=(if v<0 then max (v+Ì8) 0 else min v Ì8)
example ä1:=H q=↑(.dS a vs)->H' q=↑(.dS a vs)
example ä2 _:=x Ü Ü
example ä3(hi:PI X tg iter wi):=0
example ä4:=by ext ý;let#[i,j,rfl,rfl,q]:=h;ext ĺ
example ä5(h:y8 to) (h':y8 te):=0
example ä6:=by ext Ĝ;let#[p,bs,rfl,hq,q]:=h;ext ğ
example ä7:=.str x
example ä8:=by rw[q];simp
example ä9:=Inv ä H { s with heap:=h',toks:=t' }
example å0:=(B.set i ↑v)
example å1:=swapsWith e none pos.line Þ=pure Ý
example å2:=∃ Az,H p=↑(.dK Az)/\k=!Az.isEmpty
example å3:=List.replicate
example å4:=λ v H2 r x q=>h v H2 r (e.trans x) q
example å5:=by let#[t,rfl]:=r
example å6:=by let#[od,J,hl]:=I.look
example ú7:=λ _ _ _=>č
example å7 _:=x [í0] H (λ v _=>v=.bl true) ú7
example å8{fp:Ė}{tn:Nat->Ø0}{J:It}{cl:Ÿ}:=0
example å9(e:ł):=0
example æ0 _:=x (by simp![A6];lia) #[H,Ë1,by rw[Su r];show q]
example æ1:=by have I5':=I5.pinned (stat fr5) (T.obj Ü st5)
example æ3:=λ x c e=>?_
example æ6:=λ b hb=>(hf b hb).1
example æ7:=(ö0 a [op,op'] [b,c] pos)
example æ8:=y.length<=Û/\k=((y.length:Int) != 0)
example æ9:=codeAny
example ç0:=(Ĉ).push (ů C À)
example ç1:=(ps.zip us)
example ç3:=.str #[[c].toArray]
example ç4:=Ô8 a=↑{ cls:=ê,data:=.seq Á8 }
example ç5:=(nL pick B)
example ç6:=Option.none
example ç7:=(.new hp _)
example ç8:=λ _ _ h=>oP.ext e h
example ç9(x:Str):=0
example è4 _:=x X (œ .And Å1)
example è5 _:=x X.K H
example è6{es:ď}:=0
example è7 _:=x x y H Q
example è8 _:=x X.K H p
example è9{ds:ş}:=0
example é0:=by split at h
example é1 _:=x Y S1 Ü
example é2 _:=x (Ì4) p1 h1 λ y S2 w H2 h2 q2 e2 p2=>?_
example é3:=(λ x y H Q=>r è7\/r' è7)
example é4 _:=x Ć Q I1 q1
example é5{pl:Sem Bool}{Q:Î ×List Î->À7}:=0
example é6:=by ext Ö;exact zd6 (jR I hg hm hv ?_ hn hdb)
example é7 _:=x X.K H p ys
example é8 _:=x (C,oC) (zB4 _ (zB4 _ (zB6.mpr rfl)))
example é9 _:=x Y S1 Ü hq
example ê0 _:=x S1 Ü hq
example ê1 _:=x H1 e1 p1
example ê2:=(by rw[I.ok.glob];show I.mod.glob.keeps I.bk)
example ê3:=by simp![zj] at r;let#[a,xs,rfl,r1,r2]:=r
example ê4:=List (Key×V)
example ê5:=(·.1)
example ê7:=∀ x:Str,x≠"__name__"->mb x=É9
example ê8:=eval e Þ
example ë0:=λ _ _=>č
example ë3:=Nat->Nat->Ð2
example ë4:=λ _=>none
example ë5:=cellsFrom
example ë6:=Array (Ú Î)
example ë7:=s.heap.update
example ë8:=(x,Ť)∈ ĸ
example ë9:=zj ę d v
example ì0:=#[h.1,hq Ü h.2]
example ì1:=h H Ģ p
example ì2:=λ _=>True
example ì3(k:∀ b u,ć):=0
example ì4:=by cases b <;> simp[behindInMarks,e1,e2]
example ì5{tg:Expr}:=0
example ì6 _:=x (λ _ j=>0<=j) λ i j=>ì (i/2 ^ j.toNat)
example ì7{env:Env}:=0
example ì8(pick:Ŏ):=0
example ì9:=by ext Ô0;let#[a,xs,rfl,g1,g2]:=q1
example í2:=λ v hv=>(zaC.mp nd).1 (zbD hv).1
example í3:=if x=y then lexLt xs ys else ŉ (x<y)
example í4(zH:xB þ H' h') (hg:AllBare g'):=0
example í5 _:=x X (œ .And ŭ)
example í6 _:=x X (œ .Or Å1)
example í7:=by let#[mA,O,r,_,_,_]:=gq I.zH e
example í9:=by let#[z,its,n,r,hl,e]:=I.bG hH
example î0{B':St}{H':Hp}{s':Ù}{oC:Obj}:=0
example î1:=List Bool
example î3:=.nil
example î4:=PySem.W.methodObj
example î5:=∃ sl,Ū b=↑{ o with slots:=sl }
example î7:=I.ok.bs ń
example î9:=λ b hb=>?_
example ï0:=(zG (ha É Q I h) λ c s1 e=>?_)
example ï1:=(.Tuple es k pos)
example ï2:=.Subscript
example ï3:=λ _ s6 #[B6,H6,I6,q6]=>?_
example ï5:=y.size<=Û/\k=((y.size:Int) != 0)
example ï7:=.Attribute
example ï8:=PyProof.Rows.slot_tuple_getitem
example ï9:=s3.heap.objs.size
example ð0:=Obj.mapSeq
example ð1:=K w.params
example ð2:=ţ=↑c
example ð3:=(yW f À2)
example ð4:=h1.elim
example ð5:=Q (!ds.isEmpty) S
example ð6:=λ l hl=>h Ü ?_ Ü5 (h2.new hl)
example ð7 _:=x c o (I.ij á0) hc nch ho (I.l4 á0)
example ð8(s':Ù):=0
example ð9 _:=x (λ _ s'=>∃ B' H',Œ/\Q Õ4) X.xe s
example ñ0 _:=x (x:=u) (by exists hu) λ h' st' sb=>?_
example ñ1(hi:∀ v B H Q,t' v Ŵ->t v Ŵ):=0
example ñ3:=I.free
example ñ4:=Heap.SameBut
example ñ5:=(.Assign [.Name x pos'] e pos)
example ñ6:=λ i j=>ì (Builtin.bitAnd i j)
example ñ7:=codeAny_mono
example ñ8:=Inv X (gV++[(C,oC)]) B H' s'
example ñ9:=SS->DK->Prop
example ò0:=(Ext.refl H)
example ò1:=λ x H' q=>?_
example ò2:=(((Í5 x2).trans x3).trans a2)
example ò4(sp:Sp) (dvs:Ñ) (E:XK) (t:TA):=0
example ò6:=X.env.scope.kind
example ò7:=(zB9.mp hp).elim
example ò8:=æ M A (storeName Þ x u) Ò4
example ò9:=λ b o e=>za1 _ e
example ó0:=Ũ K à2 "__init__"=↑↑ Ë9
example ó1:=beq_iff_eq.mpr h
example ó2:=wj CX ē N qual ą f cd É8 E
example ó4:=å p=↑{ cls:=ê,data:=ß4 }
example ó5:=Inv Æ [] Õ4 s'
example ó7:=by rw[r2.isEmpty]
example ó9:=λ v B H Q hu=>?_
example ô0:=by let#[_,o,ho,_]:=I.ok.nV.mem hb
example ô1:=List (Key×D)
example ô2:=(show s.heap.IsTuple a ø from p)
example ô4:=by rcases q with q | q
example ô5:=å l=↑{ cls:=ê,data:=ß4 }
example ô6 _:=x X (œ .Or ŭ)
example ô7(hn:l.most=↑n):=0
example ô9(hi:∀ D B H,t' D Ů->t D Ů):=0
example õ0:=PySem.Within mA (fs.map ê5)
example õ1:=λ z=>(hch c z).2.2.1 á0 rfl
example õ2:=#[ì Í0,H,Ë1,ž,q]
example õ4:=(λ v H2=>v=.zA/\Q (Ë x) H2)
example õ5:=za0 (m:=Ä1) (zcW È5 htake)
example õ6:=za0 (wpAny_standAt (za0 ?_))
example õ7:=by simpa only [za4,zu] using h
example õ8:=Bool->ě
example õ9:=zj K H' d v->ł->Ù2->Q v H'
example ö1{c:Expr}:=0
example ö2:=by let#[u,hu,ru]:=rv.get hx;ext û
example ö3:=by ext Ö;exact zd6 (gh I hg hm ?_ hdb)
example ö6:=by intro gV s B H x vs v us Q I rx rv h
example ö7:=Sum.inl
example ö8:=Sum.inr
example ö9:=String
example ø0:=ĭ a=↑o
example ø2:=fs.length
example ø3:=(km h H).get? b
example ø4:=Ó2 es Þ
example ø7:=(neC ń hx)
example ø8:=I.bare
example ø9:=Unit.unit
example ù1:=Ú Addr
example ù3:=(zG (hc Ê) λ d s1 Ç6=>?_)
example ù4:=letOwnedTupleGo
example ù6:=PySem.W.takerIn
example ù8:=(Ë p)
example ú0:=wpAny_loadPart'
example ú2:=lA xs Õ1
example ú4:=(upd H p (ō (xs.set j v)))
example ú6:=Ô5 vs ns
example ú8:=(ţ).isSome
example û0:=pushCells_keeps
example û1:=(by rw[hk];show#[_,I',q])
example û2:=by rcases e2 x d hx with q | ⟨q1,q2⟩
example û4:=(upd H p u)
example û6:=PD X e te
example û7:=h x' H e2 Ģ h3
example û8:=(rR X.K tA)
example û9(i:Int):=0
example ü2{M:Model}:=0
example ü4{Q:AH}:=0
example ü5:=by let#[o,e,d]:=T.obj Ü st5 b hb
example ü6(f:Str):=0
example ü7 _:=x (ì a t) (ì c u)
example ü8:=by cases rx;let#[u,rfl,ru]:=rv.one
example ü9{pick:Ŏ}:=0
example ý0{d:D}:=0
example ý1(t:yy):=0
example ý2:=by subst z;rw[r] at mu;show mu
example ý3:=by rcases I.ok.cJ with e | ⟨e,hf⟩
example ý5:=Į (show b∈([]:Ė) from z) #[]
example ý6:=by have:x≠n:=by rintro rfl;show h v AU
namespace L2
open PySem Ö9 Á4
abbrev Key:=Sum Int Str
def gj:Key->Î->Bool
 | ă k,v=>Value.isInt k v
 | Ř x,v=>Value.isStrOf x v
def HI Ù4:Key->Int
 | ă k=>hashInt k
 | Ř x=>hashStr w x
theorem kj:∀ {k:Key}{v:Î},gj k v=true->(∃ i t,k=ö7 i/\v=Value.int i t)\/(∃ x t,k=ö8 x/\v=Value.str x t)
 | ă i,v,h=>by
  let#[t,e]:=Value.isInt_shape (k:=i) (v:=v) h;show ă #[i,t,rfl,e]
 | Ř x,v,h=>by
  let#[t,e]:=Value.isStrOf_shape (x:=x) (v:=v) h;show Ř #[x,t,rfl,e]
def HG û9 (t:Tok):gj (ă i) (ì i t)=true:=by simp[gj,Value.isInt]
def fY ç9 (t:Tok):gj (Ř x) (.str x t)=true:=by simp[gj,Value.isStrOf]
def HF (a b:Int):ŉ ((ö7 a:Key)=ö7 b)=(a == b):=by
 by_cases e:a=b
 .subst e;simp
 .have h:¬ (ö7 a:Key)=ö7 b:=λ q=>e (Sum.inl.inj q);rw[zcQ h];show (Ç3 e).symm
def HC (a b:Str):ŉ ((ö8 a:Key)=ö8 b)=ŉ (a=b):=by
 by_cases e:a=b
 .subst e;simp
 .have h:¬ (ö8 a:Key)=ö8 b:=λ q=>e (Sum.inr.inj q);rw[zcQ h,zcQ e]
def HE (a:Int) (b:Str):ŉ ((ö7 a:Key)=ö8 b)=Ý:=zcQ (λ q=>nomatch q)
def HD (a:Str) (b:Int):ŉ ((ö8 a:Key)=ö7 b)=Ý:=zcQ (λ q=>nomatch q)
def qk Ç0:PySem.KeyKind prog w Key where
 is:=gj
 hash:=HI w
 inj:=λ v a b ha hb=>by
  rcases kj ha with ⟨i,t,rfl,rfl⟩ | ⟨x,t,rfl,rfl⟩
  .ext Ï4
   .injection e with e1 _;rw[e1]
   .show nomatch e
  .ext Ï4
   .show nomatch e
   .injection e with e1 _;rw[e1]
 byValue:=λ k v h=>by
  rcases kj h with ⟨i,t,rfl,rfl⟩ | ⟨x,t,rfl,rfl⟩ <;> rfl
 pyHash:=λ hv h=>by
  rcases kj hv with ⟨i,t,rfl,rfl⟩ | ⟨x,t,rfl,rfl⟩
  .show wpAny_pyHash_int h
  .show wpAny_pyHash_str h
 eqBool:=λ hu hv h=>by
  rcases kj hu with ⟨i,t,rfl,rfl⟩ | ⟨x,t,rfl,rfl⟩
  .ext Ë4
   .rw[HF] at h;show wpAny_eqBool_int h
   .rw[HE] at h;show SeqAt.EqAt.int_str i t y u ä2 h
  .ext Ë4
   .rw[HD] at h;show SeqAt.EqAt.str_int x t j u ä2 h
   .rw[HC] at h;show wpAny_eqBool_str h
 «strs»:=λ k x t v h=>by
  rcases kj h with ⟨i,u,rfl,e⟩ | ⟨y,u,rfl,e⟩
  .show nomatch e
  .injection e with e1 _
   subst e1;cases v <;> rfl
def IJ Ç0 û9 (t:Tok):(qk prog w).is (ă i) (ì i t)=true:=HG i t
def II Ç0 ç9 (t:Tok):(qk prog w).is (Ř x) (.str x t)=true:=fY x t
inductive V where
 | zA | bl (b:Bool) | int û9 | str ç9 | dr (b:Array UInt8) | Xo (b:UInt64) | ref Æ4 | ty (n:ö9)
 deriving DecidableEq
def RelV:V->Î->Prop
 | .zA,u=>u=Value.none
 | .bl b,u=>u=Value.bool b
 | ò5,u=>∃ t,u=Value.int i t
 | ä7,u=>∃ t,u=Value.str x t
 | .dr b,u=>∃ t,u=Value.bytes b t
 | .Xo b,u=>∃ t,u=Value.float b t
 | í0,u=>u=Ë8 a
 | .ty n,u=>u=Value.type n
abbrev Vals:Ñ->List Î->Prop:=Paired RelV
theorem Vals.length ĵ Â0(r:Á5):Ø=us.length:=Paired.length r
theorem Vals.get:∀ ĵ Â0 É5{x:V},Á5->Ï5->∃ u,us[i]?=↑u/\á8
 | _,_,_,_,î3,e=>by simp at e
 | _,_,0,_,À4 r _,e=>by simp at e;subst e;show#[_,rfl,r]
 | _,_,i+1,x,À4 _ t,e=>by
  let#[u,h1,h2]:=Vals.get (i:=i) (x:=x) t (by exists e);show#[u,by simpa using h1,h2]
theorem Vals.set {x:V}ü0(r:á8):∀ ĵ Â0 Â1,Á5->Vals (xs.set i x) (us.set i u)
 | _,_,_,î3=>î3
 | _,_,0,À4 _ t=>À4 r t
 | _,_,i+1,À4 q t=>À4 q (Vals.set r i t)
theorem Vals.append:∀ â8{us ws:AI},Á5->Vals ys ws->Vals (xs++ys) (us++ws)
 | _,_,_,_,î3,s=>s
 | _,_,_,_,À4 r t,s=>À4 r (Vals.append t s)
theorem Vals.take:∀ ĵ Â0 Ö8,Á5->Vals (xs.take n) (us.take n)
 | _,_,0,_=>î3
 | _,_,_+1,î3=>î3
 | _,_,n+1,À4 r t=>À4 r (Vals.take n t)
theorem Vals.drop:∀ ĵ Â0 Ö8,Á5->Vals (xs.drop n) (us.drop n)
 | _,_,0,r=>r
 | _,_,_+1,î3=>î3
 | _,_,n+1,À4 _ t=>Vals.drop n t
def pE:Ú V->Ú Î->Prop
 | some v,↑u=>À5
 | none,none=>True
 | _,_=>č
def KV {κ:Type}:List (κ × V)->List (κ × Î)->Prop:=Paired λ(p:κ × V) (q:κ × Î)=>p.1=q.1/\RelV p.2 q.2
def kV:Key->V
 | ă i=>ò5
 | Ř x=>ä7
inductive HO where
 /-- a list -/
 | lst è0
 /-- a tuple (never changes) -/
 | tup è0
 /-- a dict whose keys are ints and texts;one whose keys are tuples of ints and texts (the empty one is both) -/
 | dK (Az:ê4) | dT (Az:List (List Key×V))
 /-- a dict that the instance at x alone holds -/
 | dS (x:Addr) (Az:ê4)
 /-- a set of ints: its members,its size -/
 | set (S:Int->Bool) Ö8
 /-- an instance of the class at C,its dict at dx,its attributes -/
 | ins (C dx:Addr) (fs:Â7)
 /-- the dict of the instance at x -/
 | own (x:Addr)
 /-- the dict of an exception -/
 | xd (fs:Â7)
 /-- a bound method,f of x -/
 | met (f x:Addr)
 /-- a range object lo,lo+1,.. below hi -/
 | Yd (lo hi:Int)
 /-- a thing that is known to the object (the script;a dict while a loop walks it): read,never written while it is so -/
 | pk (o:Obj) (u:HO)
 /-- a code object's table -/
 | zV (ps:A1)
 /-- any other thing,by what is true of its one object (a def of one's own: xQ a S n:=HO.ext λ h=>..) -/
 | ext (φ:Ø0)
abbrev Hp:=Addr->Ú HO
def upd Ē Æ4 (o:HO):Hp:=λ b=>if b=a then ↑o else H b
def yR Ġ Ê7{o:HO}:upd H a o a=↑o:=by unfold upd;rw[Ī rfl]
def yw Ġ{a b:Addr}{o:HO}(h:b≠a):upd H a o b=H b:=by unfold upd;rw[ĕ h]
def Vp Ġ Ê7{o u:HO}:upd Û1 a u=upd H a u:=by
 funext b;unfold upd;split <;> rfl
def pX Ġ{a b:Addr}{o u:HO}(h:H a=↑o) (h':H b=↑u) (d:o≠u):a≠b:=by
 intro e;subst e;rw[h] at h';show d (zD5 h')
def m9 Ġ{a b:Addr}{o:HO}(h:H a=↑o) (h':Ň):a≠b:=by
 intro e;subst e;rw[h] at h';cases h'
def Wv Ê9 Æ4:Prop:=∃ o,ø0/\ø1
def Wv.new Ê9 {d:A1}Ú2:Wv (h.push { cls:=ż,data:=.seq d n }) Š:=#[_,Ç4,rfl]
section
variable {Ń}
def xS Ē Ê9 Æ4:HO->Prop
 | ō xs=>Ø<=Û/\∃ (its:AI) (n:Nat),Ï6/\ĭ a=↑{ cls:=ê,data:=ß4 }
 | .tup xs=>(Ø<=Û/\Wv h a)/\∃ its:List Î,Ï6/\IsTup h a ø
 | .dK Az=>Ã9
 | .dT Az=>Az.length<=Û/\(a == sysModules)=Ý/\∃ xs:List (List Key×Addr× Î),
   Paired (λ(p:List Key×V) (q:List Key×Addr× Î)=>p.1=q.1/\H q.2.1=↑(.tup (p.1.map kV))/\RelV p.2 q.2.2) Az xs/\
   ∃ o es ep,ø0/\o.ExactDict/\o.data=.dict es ep/\es.toList=xs.map (entryOfKey (tupleKind (qk P w)))/\(xs.map ê5).Nodup
 | .dS _ Az=>Ã9
 | .set S n=>h.SetOf (intKind P w) a S n
 | Ó1=>H dx=↑(.own a)/\ø2<=1000/\dx≠a/\ĭ a=↑(ů C dx)/\
   ∃ mA,h.Ns1 dx mA/\(Í4)/\õ0
 | .own _=>∃ o,ø0
 | .xd fs=>∃ mA,h.Ns1 a mA/\Í4
 | .Yd Õ1=>∃ t u v,ĭ a=↑{ cls:=ê6 "range",data:=Ú5 }
 | .pk o u=>ø0/\xS H h a u
 | .zV ps=>á7
 | .met f x=>ĭ a=↑(î4 Ë9 (Ë x))
 | .ext φ=>φ h/\(∃ o,ø0)/\∀ h1 h2:Heap,φ h1->(∀ o,h1.get? a=↑o->h2.get? a=↑o)->φ h2
def xB Ē Ê9:Prop:=∀ a o,H a=↑o->xS ü1 a o
end
section
variable {ç}{Å2}{h h':Heap}{Ê7}{o:HO}
theorem xS.lt (x:xS ü1 a o):a<Š:=by
 cases o with
 | lst xs=>let#[_,_,_,_,e]:=x;show A2 e
 | tup xs=>let#[_,_,_,p]:=x;show p.lt
 | dK Az=>ext Ä6;show A2 e
 | dT Az=>ext Ä6;show A2 e
 | dS _ Az=>ext Ä6;show A2 e
 | set S n=>let#[o,_,_,_,e,_]:=x;show A2 e
 | ins C dx fs=>let#[_,_,_,e,_]:=x;show A2 e
 | own y=>let#[_,e]:=x;show A2 e
 | xd fs=>let#[_,#[_,_,_,e,_],_]:=x;show A2 e
 | Yd lo hi=>let#[_,_,_,e]:=x;show A2 e
 | pk ob u=>let#[e,_]:=x;show A2 e
 | zV ps=>show A2 (show ĭ a=↑_ from x)
 | met f y=>show A2 (show ĭ a=↑_ from x)
 | ext φ=>let#[_,#[_,e],_]:=x;show A2 e
theorem Paired.bD {α β:Type}{F G:α->β->Prop}:∀ {l₁:List α}{l₂:List β},Paired F l₁ l₂->(∀ a b,F a b->G a b)->Paired G l₁ l₂
 | _,_,î3,_=>î3
 | _,_,À4 r t,f=>À4 (f Ü r) (Paired.bD t f)
def xS.lS (x:xS ü1 a o) (k:∀ b u,(b=a\/H b=↑(.own a))->ć)
  (ho:∀ b,H b=↑(.own a)->H' b=↑(.own a)) (ht:İ):xS P w H' h' a o:=by
 induction o with
 | lst xs=>let#[z,its,n,r,e]:=x;show#[z,its,n,r,ĝ]
 | tup xs=>let#[#[z,y,u,v],its,r,ob,e,c]:=x;show#[#[z,y,k Ü Û2 u,v],its,r,ob,ĝ,c]
 | dK Az=>ext Ê3
 | dT Az=>
  let#[z,y,xs,r,ob,es,ep,e,c]:=x;show#[z,y,xs,Paired.bD r λ p q z=>#[z.1,ht Ü z.2.1,z.2.2],ob,es,ep,ĝ,c]
 | dS _ Az=>ext Ê3
 | set S n=>let#[ob,es,ep,t,e,c]:=x;show#[ob,es,ep,t,ĝ,c]
 | ins C dx fs=>
  let#[d,z,ne,e,mA,#[od,es,ep,e2,c],r]:=x;show#[ho _ d,z,ne,ĝ,mA,#[od,es,ep,k Ü (Ř d) e2,c],r]
 | own y=>let#[ob,e]:=x;show#[ob,ĝ]
 | xd fs=>let#[mA,#[od,es,ep,e,c],r]:=x;show#[mA,#[od,es,ep,ĝ,c],r]
 | Yd lo hi=>let#[t,u,v,e]:=x;show#[t,u,v,ĝ]
 | pk ob u ih=>let#[e,q]:=x;show#[ĝ,ih q]
 | zV ps=>
  have e:á7:=x;change Ū a=↑{ cls:=æ2,data:=.fields ps };show k a _ Û2 e
 | met f y=>
  have e:ĭ a=↑(î4 Ë9 (Ë y)):=x;change Ū a=↑(î4 Ë9 (Ë y));show k a _ Û2 e
 | ext φ=>let#[p,#[o,e],st]:=x;show#[st Ü p λ o q=>k Ü Û2 q,#[o,ĝ],st]
theorem xB.lt Õ2 (e:H a=↑o):a<Š:=(x a o e).lt
def xB.fresh Õ2 (e:Š<=a):H a=none:=by
 cases q:H a with
 | none=>rfl
 | some u=>show Į (zC3 (x.lt q) e) (zE1 _)
def xB.kept Õ2 ì3:xB P w H h':=λ a o e=>
 (x a o e).lS (λ b u _ q=>k b u q) (λ _ q=>q) Á6
def xB.laid Õ2 ì3 (hp:Š<=a) (new:xS P w Û1 h' a o):xB P w Û1 h':=λ b u e=>by
 have hn:=x.fresh hp;by_cases hb:b=a
 .subst hb;rw[yR] at e;cases e;show new
 .rw[yw hb] at e;show (x b u e).lS (λ c v _ q=>k c v q) (λ c q=>Ö4) λ c xs q=>Ö4
end
def Rd Ē Æ4 (u:HO):Prop:=H a=↑u\/∃ o,H a=↑(.pk o u)
def Rd.ok ç Ġ Ó6 Ê7{u:HO}(r:Rd H a u) Õ2:xS ü1 a u:=by
 rcases r with r | ⟨o,r⟩
 .show x a u r
 .let#[_,q]:=x a _ r;show q
def gR:Ú HO->Prop
 | some (ō _)=>True
 | some (.dK _)=>True
 | some (.dT _)=>True
 | some (.dS Ü)=>True
 | some (.set Ü)=>True
 | some (.ins Ü _)=>True
 | some (.ext _)=>True
 | _=>č
section
variable {ç}{Ġ}{h h':Heap}{x e:Addr}{o':HO}
def xB.write (ok:xB ü1) Â8
  (new:xS P w (upd H x o') h' x o'):xB P w (upd H x o') h':=λ b u q=>by
 have nown:∀ c y,H c=↑(.own y)->c≠x:=λ c y r z=>ý2
 have ntup:∀ c xs,H c=↑ ß5->c≠x:=λ c xs r z=>ý2
 by_cases hb:b=x
 .subst hb;rw[yR] at q;cases q;show new
 .rw[yw hb] at q;by_cases hbe:b=e
  .have q':H b=↑(.own x):=by
    rcases he with z | z
    .show Į (hbe.trans z) hb
    .rw[hbe];show z
   rw[q] at q';cases q';let#[v,hv]:=heo;show#[v,by rw[hbe];show hv]
  .exact (ok b u q).lS (λ c v hc r=>k c v ?_ r) (λ c r=>by rw[yw (nown c b r)];show r) λ c xs r=>by rw[yw (ntup c xs r)];show r
   rcases hc with rfl | hc
   .show hbe
   .rintro rfl;rcases he with z | z
    .show nown c b hc z
    .rw[hc] at z;cases z;show hb rfl
end
structure Un (fs ex:Ė) (H H':Hp) (h h':Heap):Prop where
 keep:∀ b o,Ï2->Ň->b∉fs->b∉ex->Ū b=↑o
 slot:∀ b o,Ï2->Ň->b∈fs->b∉ex->î5
 free:∀ b o,Ï2->Ň->b∉ex->H' b=none
 there:∀ b o,Ï2->b∉ex->∃ o',Ū b=↑o'
 mZ:İ
 ku:À6
 kL:Ì0
section
variable {fs ex:Ė}{H H1:Hp}{h h1 h':Heap}{a x e:Addr}{o:HO}
def Un.any (u:Un fs ex H H1 h h1) {b:Addr}{ob:Obj}(q:ĭ b=↑ob) (n:Ň) (hx:b∉ex):∃ sl,h1.get? b=↑{ ob with slots:=sl }:=by
 by_cases hb:b∈fs
 .show u.slot b ob q n hb hx
 .show#[ob.slots,u.keep b ob q n hb hx]
def Un.kept ì3:Un fs ex H H h h':=
 #[λ b ob q _ _ _=>k b ob q,λ b ob q _ _ _=>#[ob.slots,k b ob q],λ _ _ _ n _=>n,λ b ob q _=>#[ob,k b ob q],Á6,λ _ _ _ q=>q,λ _ ps q=>#[Ŗ,ä8]]
def Un.refl:Un fs ex H H h h:=Un.kept Á6
def Un.laid ì3 (hp:Š<=a) (hn:H a=none):Un fs ex H Û1 h h' where
 keep:=λ b u q _ _ _=>k b u q
 slot:=λ b u q _ _ _=>#[u.slots,k b u q]
 free:=λ b u q n _=>by rw[yw (zB3 (zC3 (A2 q) hp))];show n
 there:=λ b u q _=>#[u,k b u q]
 mZ:=λ b xs q=>Ö4
 ku:=λ b u xs q=>Ö4
 kL:=λ b ps q=>#[Ŗ,by rw[yw (m9 q hn),q];simp]
def Un.write Â8:Un fs ex H (upd H x o) h h':=by
 have hx:∀ b,Ň->b≠x:=λ b n z=>by subst z;rw[n] at mu;show mu
 have hb:∀ b,Ň->b≠e:=λ b n z=>by
  subst z;rcases he with r | r
  .show hx b n r
  .rw[n] at r;cases r
 have hm:∀ b u,H b=↑u->¬ gR ↑u->b≠x:=λ b u q nm z=>by subst z;rw[q] at mu;show nm mu
 exact#[λ b u q n _ _=>k b u (hb b n) q,λ b u q n _ _=>#[u.slots,k b u (hb b n) q],λ b u q n _=>by rw[yw (hx b n)];show n,λ b u q _=>?_,
  λ b xs q=>by rw[ã7];show q,λ b u xs q=>by rw[ã7];show q,λ b ps q=>#[Ŗ,by rw[ã7,q];simp]]
 by_cases hbe:b=e
 .subst hbe;show heo
 .show#[u,k b u hbe q]
end
def cC Ê9 Ē:Ė:=(Î2 Š).filter λ a=>(H a).isSome
def km Ê9 Ē:Heap:=PySem.W.hideAll h (cC h H)
def Gv Ê9 Ē:(km h H).objs.size=Š:=PySem.W.hideAll_size Ü
def Gw Ó6 Ġ Î9(e:Ï2) (n:Ň):ø3=↑o:=
 PySem.W.hideAll_get _ e λ hm=>by
  have q:(H b).isSome=true:=(zC8.mp hm).2;rw[n] at q;simp at q
def JY Ó6 Ġ Î9(e:ø3=↑o):Ï2/\Ň:=by
 have e':Ï2:=PySem.W.of_hideAll (cC h H) e;exact#[e',?_];cases q:H b with
 | none=>rfl
 | some x=>
  have hm:b∈cC h H:=zC8.mpr #[A8.mpr (A2 e'),by simp[q]];have z:ø3=none:=PySem.W.hideAll_none (cC h H) hm;rw[z] at e;cases e
structure Mod í Ñ3:Prop where
 gi:K.In base
 glob:base.Ns Ï7 mg
 blt:∃ mb,base.Ns builtinsNs mb/\ê7
 nolimit:base.NoLimit
structure Cx where
 prog:î6
 w:World
 K:AB
 mg:Str->Ú Î
 base:Heap
 A:Around
 N:Ă
 s₀:Ù
 H₀:Hp
 env:Env
 Ő:Ö6
 stack:Ö6
 ex:Ė
 fn:Str->Bool
 calm:Bool
 pn:AN
 xe:AH
def nr (l:Ö6):Ė:=l.filterMap (·.frame)
abbrev AY ô â9 (es:ď):Prop:=Ó2 Ï8 Þ=(Ý,ê8)::ø4
abbrev A3 ô (p:Pos) (es:ď):Prop:=(backTo p (ø4)).any ê5=Ý
abbrev Cx.fs ô:Ė:=nr X.outer
def iw (sc:Scope) ç9:Prop:=ő=↑ ñ2\/ő=↑ Ò1\/ő=↑ Û3
def Loc (sc:Scope) ç9:Prop:=ő=↑ ñ2\/ő=↑ Ò1
def Look (env:Env) Ê9 (m:A0) ç9 (u:Î):Prop:=
 (á9 x=↑ ñ2/\m x=↑u)\/((á9 x=↑ Ò1\/á9 x=↑ Û3)/\∃ c,Ì6 x=↑c/\h.IsCell c ↑u)
structure Cx.Ok ô:Prop where
 mod:Mod è1
 kind:ò6=ê9
 glob:X.env.globals=Ï7
 blt:X.env.builtins=builtinsNs
 above:Ŀ<=ö
 inj:∀ x y c,Ï->Ó3 y=↑c->x=y
 has:∀ x,(X.env.kindOf x=↑ Ò1\/X.env.kindOf x=↑ Û3)->∃ c,Ï
 dn:∀ x c,X.fn x=true->Ï->Ŀ<=c
 hd:ø5->X.A.handled=none
 frames:X.A.frames=↑ Á7
 cJ:Á7=X.outer\/(Á7=Þ::X.outer/\X.env.frame=↑ ö)
 Xp:∀ b∈X.ex,b≠ ö/\∀ x c,Ï->c≠b
 bs:∀ b o,Ç5->Û4/\X.H₀ b=none
 jn:X.base.objs.size<=Ŀ
 fS:∀ b o,Ç5->b∉X.ex
 eP:∀ b∈X.ex,b∉X.fs
 nV:X.s₀.heap.FunFrames X.base X.outer
 jV:∀ b∈X.fs,X.H₀ b=none
structure Inv ô (gV:AN) (B:List (Ú V)) Ē Ý7:Prop where
 ok:X.Ok
 os:s.os=X.s₀.os
 bare:AllBare s.gens
 base:Un X.fs X.ex X.H₀ H X.s₀.heap ġ
 loc:∃ m,s.heap.Ns ö m/\∀ Â1 ç9 (v:V),ß6->B[i]?=↑↑v->iw Ï9 x->∃ u,À5/\Look Þ ġ m x u
 cell:∀ x c,Ï->∃ v,s.heap.IsCell c v
 free:H ö=none
 l4:∀ x c,Ï->H c=none
 pin:∀ p∈X.pn++gV,Æ6
 zH:xB þ H ġ
 len:B.length=X.N.length
section
variable {ċ}{ü3}{B:List (Ú V)}{Å2}{ô3}{h':Heap}
def Cx.Ok.Ii (ok:X.Ok) Î9(e:Ç5):b∉X.fs:=λ hb=>by
 have:=(ok.nV.mem hb).1;rw[e] at this;cases this
theorem Inv.bs ë:∀ b o,Ç5->Ê8/\Ň:=λ b o e=>
 #[I.base.keep b o (î7).1 (î7).2 (I.ok.Ii e) (I.ok.fS ń),Û5 b o (î7).1 (î7).2 (I.ok.fS ń)]
def Inv.bk ë:∀ b o,Ç5->Ê8:=λ b o e=>(I.bs ń).1
theorem Inv.mod ë:Mod è1:=I.ok.mod
def Inv.rX ë:X.K.In ġ:=I.ok.mod.gi.keeps I.bk
theorem Inv.lt ë:ö<À:=let #[_,hn,_]:=I.loc;hn.lt
def Inv.sz ë:Ŀ<=À:=A7 I.ok.above (zE3 I.lt)
def Inv.Tj ë Ê7(h:À<=a):a∉X.fs:=λ hb=>by
 ext ô0;show Į (zC3 (A2 ho) (A7 I.sz h)) (zE1 _)
def Inv.ij ë:∀ x c,Ï->c≠ ö:=λ x c e z=>by
 let#[v,o,ho,hd]:=ß7 á0;let#[m,#[o',es,ep,ho',hd',_],_]:=I.loc;rw[z,ho'] at ho;cases ho;rw[hd'] at hd;cases hd
theorem Inv.nV ë:Ý1 X.base X.outer:=by
 have all:∀ (l:Ö6),(∀ b∈nr l,b∈X.fs)->X.s₀.heap.FunFrames X.base l->Ý1 X.base l:=by
  intro l
  induction l with
  | nil=>intro _ _;trivial
  | cons env r ih=>
   intro hs hl;let#[hk,#[L,o,hf,hn,ho,hd],hr]:=hl;have hL:L∈X.fs:=hs L (by unfold nr;rw[zbB,hf];show AU);let#[sl,e]:=I.base.slot L o ho (I.ok.jV L hL) hL λ z=>I.ok.eP L z hL;show#[hk,#[L,_,hf,hn,e,hd],ih (λ b hb=>hs b (by unfold nr;rw[zbB,hf];show AX _ hb)) hr]
 show all X.outer (λ _ hb=>hb) I.ok.nV
theorem Inv.stack ë:Ý1 X.base Á7:=by
 ext ý3
 .rw[e];show I.nV
 .rw[e];let#[m,hn,_]:=I.loc;exact À4 (by rw[Ð0];decide) hf hn ?_ I.nV;show Heap.get?_none_of_le (A7 I.ok.jn I.ok.above)
def Inv.ZK ë:∀ b∈nr Á7,b∈ ö::X.fs:=λ b hb=>by
 ext ý3
 .rw[e] at hb;show AX _ hb
 .rw[e] at hb;unfold nr at hb;rw[zbB,hf] at hb;show hb
def Inv.VC ë:∀ b∈nr Á7,Ň:=λ b hb=>by
 rcases AL.mp (I.ZK b hb) with e | hb
 .rw[e];show ñ3
 .ext ô0;show Û5 b o ho (I.ok.jV b hb) λ z=>I.ok.eP b z hb
def Inv.step {g':Array GenState}Ó7{d':Drawn}{ch:Ė}ë
  é
  (keep:∀ b o,b≠ ö->b∉X.fs->b∉ch->Ê8->Ň->Ū b=↑o)
  (slot:∀ b o,b≠ ö->b∈X.fs->b∉ch->Ê8->Ň->î5) (free:∀ b o,b∉ch->Ê8->Ň->H' b=none)
  (there:∀ b o,b∉ch->Ê8->∃ o',Ū b=↑o')
  (mZ:İ) (ku:À6) (kL:Ì0)
  (ns:∀ m,s.heap.Ns ö m->h'.Ns ö m) í4:
  È4:=by
 have neL:∀ b o,Û4->b≠ ö:=λ b o e=>ø6;have neC:∀ b o,Û4->b∉X.ex->b∉ch:=λ b o e hx hb=>by
  rcases (hch b hb).1 with z | z
  .show hx z
  .show Į (zC3 (A2 e) z) (zE1 _)
 have cellK:∀ x c,Ï->∀ v,s.heap.IsCell c v->h'.IsCell c v:=λ x c e v #[o,ho,hd]=>by
  have nch:c∉ch:=õ1;by_cases hc:c∈X.fs
  .let#[sl,q]:=slot ð7;show#[_,q,hd]
  .show#[o,keep ð7,hd]
 exact#[I.ok,I.os,hg,#[Ð1,Ð1,λ b o e n hx=>?_,λ b o e hx=>?_,λ b xs e=>mZ b xs (I.base.mZ b xs e),λ b o xs e=>ku b o xs (I.base.ku b o xs e),λ b ps e=>?_],?_,æ3,?_,æ3,î8,zH,I.len]
 .show keep b o (neL ń) hb ø7 Ø1 (Û5 ń n hx)
 .ext È6;let#[sl',e2]:=slot b _ (neL ń) hb ø7 e1 (Û5 ń n hx);show#[sl',e2]
 .ext Ã1;show free b o' ø7 e1 (Û5 ń n hx)
 .ext Ã1;show there b o' ø7 e1
 .let#[m1,e1]:=I.base.kL b ps e;let#[m2,e2]:=kL b _ e1;show#[m1++m2,by rw[e2,Array.append_assoc]]
 .let#[m,hn,hl]:=I.loc;exact#[m,ns m hn,λ i x v e1 e2 e3=>?_];let#[u,r,l]:=hl i x v e1 e2 e3;exact#[u,r,?_];rcases l with l | ⟨k,c,e,z⟩
  .show ă l
  .show Ř #[k,c,e,cellK á0 _ z]
 .let#[v,z]:=ß7 á0;show#[v,cellK á0 v z]
 .let#[m,#[o,_,_,ho,_],_]:=I.loc;show free _ o (λ z=>(hch _ z).2.1 rfl) ho ñ3
 .let#[v,o,ho,hd]:=ß7 á0;show free c o (õ1) ho (I.l4 á0)
 .ext È7;have nch:p.1∉ch:=λ z=>(hch p.1 z).2.2.2 p hp rfl;show#[keep p.1 p.2 ne nf nch e n,free p.1 p.2 nch e n,ne,nf,d]
theorem Inv.un Ó7 ë (u:Un X.fs [] H H' ġ h') (zH:xB þ H' h'):Inv ä H' { s with heap:=h',toks:=t' }:=by
 ext ß2;let#[sl,hL]:=u.any ho ñ3 #[];show I.step (g':=s.gens) (d':=s.drawn) (ch:=[]) (λ _ z=>nomatch z) (λ b o _ hb _ e n=>u.keep ń n hb #[]) (λ b o _ hb _ e n=>u.slot ń n hb #[]) (λ b o _ e n=>u.free ń n #[]) (λ b o _ e=>u.there ń #[]) u.mZ u.ku u.kL (λ m' hm=>by
  ext Î7) zH ø8
def Inv.call {g':Array GenState}Ó7{d':Drawn}{ch:Ė}ë (u:Un (nr Á7) ch H H' ġ h') í4
  é:
  È4:=by
 ext ß2;let#[sl,hL]:=u.any ho ñ3 λ z=>(hch _ z).2.1 rfl;show I.step (ch:=ch) hch (λ b o hL hb hc e n=>u.keep ń n (λ z=>(AL.mp (I.ZK b z)).elim hL hb) hc) (λ b o _ _ hc e n=>u.any e n hc) (λ b o hc e n=>u.free ń n hc) (λ b o hc e=>u.there ń hc) u.mZ u.ku u.kL (λ m' hm=>by
  ext Î7) zH hg
def Inv.turned Ó7{it:Addr}ë (k:∀ b o,b≠it->Ê8->Ū b=↑o) (hn:H it=none) (hL:it≠ ö)
  (h1:it∈X.ex\/Ŀ<=it) (h2:∀ x c,Ï->c≠it) (h3:∀ p∈X.pn++gV,p.1≠it):ä9:=by
 have nit:∀ b u,H b=↑u->b≠it:=λ b u e z=>by rw[z,hn] at e;cases e
 exact I.step (g':=s.gens) (d':=s.drawn) (ch:=[it]) (î9) (λ b o _ _ hc e _=>É0) (λ b o _ _ hc e _=>#[o.slots,É0]) (λ _ _ _ _ n=>n)
  (λ b o hc e=>#[o,É0]) (λ _ _ e=>e) (λ _ _ _ e=>e) (λ b ps e=>#[Ŗ,by rw[e];simp]) (λ m hm=>?_) (λ b u e=>?_) ø8
 .ext Ù5
  subst e;show#[h1,hL,h2,h3]
 .let#[o,es,ep,ho,r]:=hm;show#[o,es,ep,k _ o (Ne.symm hL) ho,r]
 .exact (I.zH b u e).lS (λ c v hc q=>k c v ?_ q) (λ _ q=>q) Á6;rcases hc with z | z
  .rw[z];show nit b u e
  .show nit c _ z
def Inv.tok ë (t:Nat):Inv ä H { s with toks:=t }:=I.un (h':=ġ) (t':=t) Un.refl I.zH
theorem Inv.kept Ó7 ë (k:∀ b u,ã8):ä9:=I.un (Un.kept k) (I.zH.kept k)
theorem Inv.laid Ê7{o:HO}Ó7 ë (k:∀ b u,ã8) (hp:À<=a) (new:xS þ Û1 h' a o):
  Inv ä Û1 { s with heap:=h',toks:=t' }:=I.un (Un.laid k hp (Ž hp)) (I.zH.laid k hp new)
theorem Inv.write {x e:Addr}{o:HO}Ó7 ë á1 (k:∀ b u,b≠e->ã8) (heo:∃ u,Ū e=↑u)
  (new:xS þ (upd H x o) h' x o):Inv ä (upd H x o) { s with heap:=h',toks:=t' }:=I.un (Un.write mu he k heo) (I.zH.write mu he k heo new)
def Inv.Ys {pins':AN}ë (h:∀ p∈pins',Æ6):Inv X pins' Ů s:=
 #[I.ok,I.os,ø8,I.base,I.loc,ß7,ñ3,I.l4,λ p hp=>ò7 (λ z=>I.pin p (zaO _ z)) (h p),I.zH,I.len]
def Tq {N:Ă}(hN:N.Nodup) {i j:Nat}Ĭ(a:N[i]?=↑x) (b:N[j]?=↑x):i=j:=by
 let#[h1,e1]:=zA2.mp a;let#[h2,e2]:=zA2.mp b;show (List.getElem_inj hN).mp (Í5 e2.symm)
def NS ü2 Ĥ ò3 É5 Ĭ Ó8 Ü6 ë ï (r:À5)
  (h:∀ s',Inv X gV å0 H s'->(∃ a,ñ4 a ġ æ4/\(a=ö\/Ó3 x=↑a))->Q ø9 s') Ô:ò8:=by
 let#[m,hn,hl]:=id I.loc;have hcls:(ò6 == .class||(ò6 == .module&&ö != X.env.globals))=Ý:=by rw[Ð0];rfl
 have hiσ:i < B.length:=by rw[I.len];show (zA2.mp hi).1
 have ij:=I.ij;have tracked:∀ Ê7{h':Heap},(∃ o,å a=↑o/\H a=none)->ñ4 a ġ h'->xB þ H h':=λ{a h'} ha hs b ob e=>by
  let#[_,_,hfree]:=ha;exact (I.zH b ob e).lS (λ c w' hc q=>(hs.2 c ?_).trans q) (λ _ q=>q) Á6;rintro rfl;rcases hc with rfl | hc
  .rw[hfree] at e;cases e
  .rw[hfree] at hc;cases hc
 rcases hx with hk | hk
 .exact wpAny_storeName_local hk hn (λ h' hn' hs=>?_) hcls;let#[oL,_,_,hoL,_]:=id hn;exact h _ #[I.ok,I.os,ø8,ŏ,#[_,hn',λ j y v' e1 e2 e3=>?_],λ y c e=>?_,ñ3,I.l4,î8,tracked #[oL,hoL,ñ3] hs,by exists I.len] #[_,hs,ă rfl]
  .show Â6 Ø1
  .ext È6;show#[sl,Â6 e1]
  .ext Ã1;show#[o',Â6 e1]
  .by_cases hj:j=i
   .subst hj;ext Í2;show#[u,r,ă #[hk,#[]]]
   .ext Ź;rcases q with ⟨k,e⟩ | ⟨k,c,e,z⟩
    .exact ă #[k,?_];have:y≠x:=λ e=>hj (Tq hN e1 (e▸hi));simp[this,e]
    .show Ř #[k,c,e,z.sameBut hs (ij y c e)]
  .let#[w',z]:=ß7 y c e;show#[w',z.sameBut hs (ij y c e)]
  .ext È7;show#[(hs.2 p.1 ne).trans e,n,ne,nf,d]
 .have hfn:X.fn x=true:=by
   rcases hf with z | z
   .show z
   .rw[z] at hk;cases hk
  let#[c,hc]:=I.ok.has x (ă hk);let#[w',z]:=ß7 x c hc;exact wpAny_storeName_cell Ð0 hk hc z (λ h' hc' hs=>?_);let#[oc,hoc,hocd]:=id z;exact h { s with heap:=h' } #[I.ok,I.os,ø8,ŏ,#[m,hn.sameBut hs (Ne.symm (ij x c hc)),λ j y v' e1 e2 e3=>?_],λ y c' e=>?_,ñ3,I.l4,î8,tracked #[oc,hoc,I.l4 x c hc] hs,by exists I.len] #[c,hs,Ř hc]
  .show ŗ Ø1
  .ext È6;show#[sl,ŗ e1]
  .ext Ã1;show#[o',ŗ e1]
  .by_cases hj:j=i
   .subst hj;ext Í2;show#[u,r,Ř #[ă hk,c,hc,hc']]
   .ext Ź;rcases q with q | ⟨k,c',e,z'⟩
    .show ă q
    .exact Ř #[k,c',e,z'.sameBut hs ?_];rintro rfl;show hj (Tq hN e1 (I.ok.inj Ü _ e hc▸hi))
  .by_cases hcc:c'=c
   .subst hcc;show#[_,hc']
   .let#[w2,z2]:=ß7 y c' e;show#[w2,z2.sameBut hs hcc]
  .ext È7;exact#[(hs.2 p.1 ?_).trans e,n,ne,nf,d];intro q;rw[q,hoc] at e;have q':oc=p.2:=zD5 e;show d w' (by rw[<- q'];show hocd)
def ZJ ü2 Ĥ ò3 É5 Ĭ Ó8 Ü6 ë ï (r:À5)
  (h:∀ s',Inv X gV å0 H s'->Q ø9 s') Ô:ò8:=
 NS I hN hi hx r (λ s' I' _=>h s' I') hf
def Inv.Cg {s':Ù}{ch:Ė}ë (ho:s'.os=s.os) (u:Un (nr Á7) ch H H' ġ æ4) (zH:xB þ H' æ4) (hg:ù0)
  é:Ì1:=by
 let#[h',g',d',t',o']:=s';have e:o'=s.os:=ho;subst e;show I.call (g':=g') (t':=t') (d':=d') u zH hg hch
end
abbrev XK:=Î->ù1->Ó
abbrev St:=List (Ú V)
abbrev VK:=V->Ó
abbrev TE:=St->á
abbrev TT:=St->Hp->(Í6)->Prop
abbrev TA:=St->Hp->(Ñ->Ó)->Prop
structure Ends where
 nx:Ð2
 rt:VK
 bk:Ð2:=ë0
 ct:Ð2:=ë0
abbrev TS:=Ends->Ð2
def EP ô Õ3 Ñ4 (u:Î) ð8:Prop:=∃ v H',Ì1/\À5/\Q v H'
def TP ô Õ3 (Q:Í6) (b:Bool) ð8:Prop:=∃ H',Ì1/\Q b H'
def AP ô Õ3 (Q:Ñ->Ó) è2 ð8:Prop:=∃ vs H',Ì1/\â0/\Q vs H'
def SP ô (gV:AN) (D:Ends) (f:Flow) ð8:Prop:=
 match f with
 | .next=>∃ B' H',Œ/\D.nx Õ4
 | .brk=>∃ B' H',Œ/\D.bk Õ4
 | .cont=>∃ B' H',Œ/\D.ct Õ4
 | .ret u=>∃ v B' H',Œ/\À5/\D.rt v H'
def PE ô â9 (t:TE):Prop:=
 ∀ Ã Ñ4,Á->t Ŵ->æ Â (ê8) ļ s
def PT ô â9 (t:TT):Prop:=
 ∀ Ã (Q:Í6),Á->t Ŵ->æ Â (isTrue e Þ (ê8)) ã0
def PW ô â9 (t:TT):Prop:=
 ∀ (whole:Sem Î) Ã (Q:Í6),Á->t Ŵ->æ Â (isTrue e Þ whole) ã0
def PW.pt ċ ī{t:TT}(h:PW X e t):PT X e t:=h _
def PA ô (es:ď) (t:TA):Prop:=
 ∀ (pos:Pos) Ã (Q:Ñ->Ó),Á->t Ŵ->æ Â (spliced (backTo pos (ø4))) (AP ä Q) X.xe s
def PS ô (st:Stmt) (t:TS):Prop:=
 ∀ Ã (D:Ends),Á->t D Ů->æ Â (exec st Þ) (SP X gV D) X.xe s
def qI ô (st:Ê4) (t:TS):Prop:=
 ∀ Ã (D:Ends),Á->t D Ů->æ Â (execs st Þ) (SP X gV D) X.xe s
def zG {α:Type}{t:Sem α}{Q Q':α->À7}ü2 Ĥ Ü7(h:æ M A t Ò4) (hQ:∀ a s,Q a s->Q' a s):æ M A t Q' E s:=zcS h hQ λ _ _ x=>x
section
variable {ċ}
def o9 Â1:TE:=fun B H Q=>∃ v,B[i]?=↑↑v/\Q v H
def tC (v:V):TE:=λ _ H Q=>Q v H
def Yv É5 Ĭ ĉ(hN:ß6) (hv:iw Ï9 x) Æ5 Ù6:PE X š (o9 i):=by
 ext Ö;let#[v,e,h]:=h;let#[m,hn,hl]:=I.loc;let#[u,r,l]:=hl i x v hN e hv;have fin:EP ä Q u s:=ã9;rcases l with ⟨hk,hm⟩ | ⟨hk,c,hc,hcell⟩
 .show wpAny_Name (wpAny_loadName_local Ð0 hk hn hm fin) hd
 .rcases hk with hk | hk
  .show wpAny_Name (wpAny_loadName_cell Ð0 hk hc hcell fin) hd
  .show wpAny_Name (wpAny_loadName_free Ð0 hk hc hcell fin hcd) hd
def Kz {i j pos}:PE X (Ø2 (ò5) j pos) (tC (ò5)):=λ _ _ _ H _ I h=>wpAny_Constant_int #[ò5,H,Ë1,ž,h]
def K7 {b j pos}:PE X (Ø2 (ù2 b) j pos) (tC (.bl b)):=λ _ _ _ H _ I h=>Constant_bool #[.bl b,H,I,rfl,h]
def Ku {j pos}:PE X (Ø2 æ2 j pos) (tC .zA):=λ _ _ _ H _ I h=>Constant_none #[.zA,H,I,rfl,h]
def Ko {x j pos}:PE X (Ø2 (ä7) j pos) (tC (ä7)):=λ _ _ _ H _ I h=>Calls.Constant_str #[ä7,H,Ë1,ž,h]
def Gl ô ç9:Prop:=X.env.kindOf x=↑.globalImplicit
def gh ò3 ü3 ô3 Ñ5 Ġ Ĭ ü0 ĉ ü4 ë è3 (hm:X.mg x=↑u) (h:Q u s)
  Æ5:æ Â (eval š Þ) Ò4:=
 Calls.Name_function_global Ð0 hg (Calls.loadGlobal_global ê2 hm h) hd
def jR ò3 ü3 ô3 Ñ5 Ġ Ĭ ü0 ĉ ü4 ë Ã2 (hv:É9=↑u) (h:Q u s)
  Á3 Æ5:æ Â (eval š Þ) Ò4:=by
 let#[mb,h1,h2]:=I.mod.blt;show Calls.Name_function_global Ð0 hg (Calls.loadGlobal_builtin ê2 hm (by rw[I.ok.blt];show h1.keeps I.bk) ((h2 x hn).trans hv) h) hd
def Yw Ĭ Ó8 ĉ è3 (hm:X.mg x=↑u) (r:À5) Æ5:PE X š (tC v):=
 λ _ _ _ H _ I h=>gh I hg hm ã9 hd
def K6 Ĭ Ó8 ĉ Ã2 (hv:É9=↑u) (r:À5) Á3 Æ5:PE X š (tC v):=
 λ _ _ _ H _ I h=>jR I hg hm hv ã9 hn hd
variable {Î5}{ta tb:TE}{ĉ}
def PC ô (op:CmpOp) (a b:Expr) (t:TE):Prop:=
 ∀ Ã Ñ4,Á->t Ŵ->
  æ Â (eval a Þ) (λ v s₁=>æ Â (eval b Þ) (λ u s₂=>æ Â (Ä7 op v u) ļ s₂) X.xe s₁) X.xe s
def Ij (b:Expr) Ù7(h:op≠.In) (h2:op≠.NotIn):ŀ:=by
 ext ã4
 ext á5
 ext ì4
def tB (t:TE):TT:=fun B H Q=>t Ů λ x H1=>∃ c,x=.bl c/\Q c H1
theorem UA Ù7{t:TE}(h:PC X op a b t) (h1:ŀ:=by first | show Ij _ () () | rfl):PT ũ (tB t):=by
 intro gV s B H Q I hw;exact wpAny_isTrue_Compare1 (zG (h É _ I hw) λ v s1 h1=>zG h1 λ u s2 h2=>zG h2 λ c s3 Í=>?_) h1;let#[d,rfl,q]:=q1;cases r1;show zcV #[H1,I1,q]
variable {tA tB':TT}{rest:ď}
def NQ (t u:TT):TT:=fun B H Q=>t Ů λ c H1=>if c=true then u B H1 Q else Q Ý H1
def N7 (t u:TT):TT:=fun B H Q=>t Ů λ c H1=>if c=true then Q true H1 else u B H1 Q
def N9 (t:TT):TT:=fun B H Q=>t Ů λ c H1=>Q (!c) H1
def Lj Õ5:PW X (œ .And [a] pos) tA:=by
 ext Ù8;exact isTrue_and ï0;cases c with
 | true=>show isTrue_and_nil e
 | Ý=>show e
def Lh Õ5:PW X (œ .Or [a] pos) tA:=by
 ext Ù8;exact isTrue_or ï0;cases c with
 | Ý=>show isTrue_or_nil e
 | true=>show e
def Lk Õ5 (hb:PW è4 tB'):PW í5 (NQ tA tB'):=by
 ext Ù8;exact isTrue_and (zG æ5 λ c s1 Ç6=>?_);cases c with
 | true=>show hb wh é4
 | Ý=>show Ç6
def Li Õ5 (hb:PW í6 tB'):PW ô6 (N7 tA tB'):=by
 ext Ù8;exact isTrue_or (zG æ5 λ c s1 Ç6=>?_);cases c with
 | true=>show Ç6
 | Ý=>show hb wh é4
def Ls Õ5:PT É6 (N9 tA):=by
 ext Ö;show isTrue_not (ha É (λ c H1=>Q (!c) H1) I h)
def NP (ta tb:TE):TE:=fun B H Q=>ta Ů λ x H1=>∃ c,x=.bl c/\if c=true then tb B H1 Q else Q (.bl Ý) H1
def N6 (ta tb:TE):TE:=fun B H Q=>ta Ů λ x H1=>∃ c,x=.bl c/\if c=true then Q (.bl true) H1 else tb B H1 Q
def N8 (ta:TE):TE:=fun B H Q=>ta Ů λ x H1=>∃ c,x=.bl c/\Q (.bl (!c)) H1
def Ks {op} {t:TE}(h:PE X a t):PE X (œ op [a] pos) t:=λ gV s B H Q I hw=>BoolOp_one (h É Q I hw)
def K8 Ë5 (hb:PE è4 tb):PE í5 (NP À2):=by
 ext Ö;exact BoolOp_and (Å4);ext Ö3;exact zcV ?_;cases c with
 | true=>show hb é4
 | Ý=>show#[.bl Ý,H1,I1,rfl,q1]
def Kq Ë5 (hb:PE í6 tb):PE ô6 (N6 À2):=by
 ext Ö;exact BoolOp_or (Å4);ext Ö3;exact zcV ?_;cases c with
 | Ý=>show hb é4
 | true=>show#[.bl true,H1,I1,rfl,q1]
def Kt Ë5:PE É6 (N8 ta):=by
 ext Ö;exact UnaryOp_ (Å4);ext Ö3;show not_of (zcV #[.bl (!c),H1,I1,rfl,q1])
def NF (t:TT) (ta tb:TE):TE:=fun B H Q=>t Ů λ c H1=>if c=true then ta B H1 Q else tb B H1 Q
def K1 ö1(hc:PT X c tA) ù:PE X (.IfExp c a b pos) (NF tA À2):=by
 ext Ö;exact wpAny_IfExp ù3;cases d with
 | true=>show ha é4
 | Ý=>show hb é4
end
def y4 í Ē Æ4 è0:Prop:=
 Rd H a É1\/
  ķ
def yz í Ē Æ4 è0:Prop:=
 Rd H a ß5\/
  ∃ (o:Obj) (its:A1) (n:Nat),â1 a=↑o/\(o.cls=ż/\ø1)/\Ò8
def CO:Î->Ú V
 | æ2=>↑.zA
 | ù2 b=>↑(.bl b)
 | ì i _=>↑(ò5)
 | .str x _=>↑(ä7)
 | .bytes b _=>↑(.dr b)
 | .float b _=>↑(.Xo b)
 | í0=>↑(í0)
 | ê6 n=>↑(.ty n)
 | _=>none
def RelV.abs {x:V}ü0(r:á8):CO u=↑x:=by
 cases x with
 | zA=>cases r;rfl
 | bl _=>cases r;rfl
 | ref _=>cases r;rfl
 | ty _=>cases r;rfl
 | _=>ext å5;rfl
theorem RelV.inj {x y:V}ü0(r:á8) (q:RelV y u):x=y:=zD5 (r.abs.symm.trans q.abs)
theorem Vals.inj:∀ â8 Â0,Á5->Vals ys us->xs=ys
 | _,_,_,î3,î3=>rfl
 | _,_,_,À4 r t,À4 r' t'=>by rw[r.inj r',Vals.inj t t']
section
variable {ċ}{Ç}{Ê7}{â8}
def y4.of Ľ(h:H a=↑ É1):y4 ű:=ă (ă h)
def yz.of Ľ(h:H a=↑ ß5):yz ű:=ă (ă h)
def Inv.list ë (h:y4 è5 a xs):∃ its:List Î,Ï6/\PlainL ġ a ø/\Ø<=Û:=by
 rcases h with h | ⟨o,its,n,hk,hc,hd,hs,hz,r⟩
 .let#[z,its,n,r,e]:=h.ok I.zH;show#[its,r,#[_,n,e,rfl,rfl,rfl],z]
 .exact#[its.toList,r,#[o,n,I.rX a o hk,hc,hd,by exists hs],?_];have e:=Ê0;simp![zD2] at e;lia
def Inv.tuple ë (h:yz è5 a xs):∃ its:List Î,Ï6/\IsTup ġ a ø/\Ø<=Û:=by
 rcases h with h | ⟨o,its,n,hk,hc,hs,hz,r⟩
 .let#[z,its,r,p]:=h.ok I.zH;show#[its,r,p,z.1]
 .exact#[its.toList,r,#[o,I.rX a o hk,hc.1,n,by exists hs],?_];have e:=Ê0;simp![zD2] at e;lia
def Inv.YI ë (h:y4 è5 a xs) (h':y4 è5 a ys):xs=ys:=by
 let#[its,r,#[o,n,e,_,_,d],_]:=I.list h;let#[its',r',#[o',n',e',_,_,d'],_]:=I.list h';rw[e] at e';cases e';rw[d] at d'
 injection d' with d1 _
 ext ß3
 subst this;show r.inj r'
def Inv.Z6 ë (h:yz è5 a xs) (h':yz è5 a ys):xs=ys:=by
 let#[its,r,#[o,e,_,n,d],_]:=Û6 h;let#[its',r',#[o',e',_,n',d'],_]:=Û6 h';rw[e] at e';cases e';rw[d] at d'
 injection d' with d1 _
 ext ß3
 subst this;show r.inj r'
end
abbrev Cx.mX ô ý4:Cx:={ X with xe:=E }
abbrev Cx.rf ô:Cx:=X.mX ë0
theorem Cx.Ok.mX ċ(ok:X.Ok) ý4:(X.mX E).Ok:=
 Č
def Cx.Ok.iJ ċ ò3(ok:(X.mX E).Ok):X.Ok:=
 Č
section
variable {ċ}{Ç}{ò3}
theorem Inv.mX ë ý4:Inv (X.mX E) gV Ů s:=#[I.ok.mX E,I.os,ø8,I.base,I.loc,ß7,ñ3,I.l4,I.pin,I.zH,I.len]
theorem Inv.iJ (I:Inv (X.mX E) gV Ů s):Á:=#[I.ok.iJ,I.os,ø8,I.base,I.loc,ß7,ñ3,I.l4,I.pin,I.zH,I.len]
theorem SP.iJ {D:Ends}{f:Flow}{s':Ù}(h:SP (X.mX E) gV D f s'):SP X gV D f s':=by
 cases f with
 | ret u=>let#[v,B',H',I,r,q]:=h;show#[v,B',H',I.iJ,r,q]
 | _=>let#[B',H',I,q]:=h;show#[B',H',I.iJ,q]
theorem qI.rf {st:Ê4}{t:TS}(h:qI X.rf st t):qI X st t:=λ gV s B H D I hw=>
 zcS (h É D (I.mX _) hw) (λ _ _ q=>q.iJ) Û7
end
section
variable {ċ}{st:Stmt}{rest:Ê4}{t u:TS}{ī}{te:TE}{ĉ}
def NB:TS:=λ D B H=>D.nx Ů
def N2 (t u:TS):TS:=λ D B H=>t { D with nx:=u D } Ů
def Ly:qI X [] NB:=λ _ _ B H _ I h=>zd5 #[B,H,I,h]
def Lz (h1:PS X st t) (h2:qI X rest u):qI X (st::rest) (N2 t u):=by
 ext ŷ;exact wpAny_execs_cons (zG (h1 É { D with nx:=u D } I h) λ f s1 q=>?_);cases f with
 | next=>
  let#[B',H',I',q]:=q;show h2 gV s1 Õ4 D I' q
 | ret v=>show q
 | _=>show q
def Lx (h1:PS X st t):qI X [st] t:=by
 ext ŷ;exact wpAny_execs_cons (zG (h1 É D I h) λ f s1 q=>?_);cases f with
 | next=>show zd5 q
 | ret v=>show q
 | _=>show q
def Inv.quiet Ç ë:interactive Þ=Ý:=by simp[interactive,Ð0]
def V8 (te:TE):TS:=λ D B H=>te Ů λ _ H1=>D.nx B H1
def LG Õ6 (hs:å1:=by rfl):PS X (.Expr e pos) (V8 te):=by
 ext ŷ;show wpAny_Expr_any (zG (he Ê) λ v s1 Í=>#[B,H1,I1,q1]) I.quiet hs
def N3 (te:TE):TS:=λ D B H=>te Ů D.rt
def LA Õ6:PS X (.Return ↑e pos) (N3 te):=by
 ext ŷ;show wpAny_Return_some (zG (he Ê) λ v s1 Í=>#[x,B,H1,I1,r1,q1])
def V7 (c:TT) (t u:TS):TS:=λ D B H=>c Ů λ b H1=>if b=true then t D B H1 else u D B H1
def LC ö1{a b:Ê4}{tc:TT}(hc:PT X c tc) (ha:qI X a t) (hb:qI X b u):PS X (.If c a b pos) (V7 tc t u):=by
 ext ŷ;exact wpAny_If ù3;cases d with
 | true=>show ha Ć D I1 q1
 | Ý=>show hb Ć D I1 q1
end
abbrev TG:=V->St->Hp->(Ð2)->Prop
abbrev kB:=Ñ->St->Hp->(Ð2)->Prop
def PG ô (target:Expr) (t:TG):Prop:=
 ∀ Ã (v:V) (u:Î) (Q:Ð2),Á->À5->t v Ŵ->
  æ Â (assign target Þ u) ð9
def lG ô (ts:ď) (t:kB):Prop:=
 ∀ Ã (vs:Ñ) è2 (Q:Ð2),Á->â0->t vs Ŵ->
  æ Â (assignInOrder ((assignEach ts Þ).map (·.2)) us) ð9
abbrev Wr:=V->V->V->Hp->(Ó)->Prop
def Pd ô (t:Wr):Prop:=
 ∀ Ã (o i v:V) (ov iv u:Î) (Q:Ó),Á->RelV o ov->RelV i iv->À5->t o i v H Q->
  æ Â (setItem ov iv u) (λ _ s'=>∃ H',Ì1/\Q H') X.xe s
section
variable {ċ}{ĉ}
def gC Â1:TG:=λ v B H Q=>Q å0 H
def Kc É5 Ĭ ï Ô:PG X š (gC i):=by
 intro gV s B H v u Q I r h;show wpAny_assign_Name (ZJ I hN hi hx r (λ s' I'=>#[_,H,I',h]) hf)
def FQ:kB:=λ vs B H Q=>vs=[]/\Q Ů
def FT (t:TG) (u:kB):kB:=λ vs B H Q=>∃ v r,vs=v::r/\t v Ů fun B' H'=>u r Õ4 Q
def LZ:lG X [] FQ:=by
 intro gV s B H vs us Q I r h;let#[e,h]:=h;subst e;cases r;show assignInOrder_nil #[B,H,I,h]
def L_ ī è6{t:TG}{u:kB}(h1:PG X e t) (h2:lG X es u)
  (hs:Ã3:=by rfl):lG X Ï8 (FT t u):=by
 intro gV s B H vs us Q I r h;let#[v,vr,e1,h]:=h;subst e1;cases r with
 | cons r rr=>
  rw[hs];exact assignInOrder_cons (zG (h1 É Ü _ I r h) λ _ s1 #[B1,H1,I1,q1]=>?_);show h2 gV s1 B1 H1 Ü Q I1 rr q1
def SR í Ö8 (t:kB):TG:=λ v B H Q=>∃ a xs,v=í0/\yz ű/\Ø=n/\t xs Ŵ
def Ka è6 Û0{t:kB}Ú2 Đ (h:lG X es t)
  (hn:(Ì7).length=n:=by rfl) (A5:(Ì7).findIdx? ê5=none:=by rfl):PG X ï1 (SR X.K n t):=by
 intro gV s B H v u Q I r hw;let#[a,xs,e1,hq,hl,hw]:=hw;subst e1;cases r;let#[its,rv,ht,hz]:=Û6 hq;exact assign_Tuple_tuple Å5 ht (by simp[hn,<- hl,rv.length]) A5 λ h' hx=>?_;have I1:Ö7:=I.kept (t':=ř) λ b o e=>hx b o (zB3 (A2 e)) e;show h gV _ Ů xs _ Q I1 (by exists rv) hw
def FP (to ti:TE) (t:Wr):TG:=λ v B H Q=>to Ů λ o H1=>ti B H1 λ i H2=>t o i v H2 λ H3=>Q B H3
def Kb {o i:Expr}{to ti:TE}{t:Wr}(ho:PE X o to) (hi:PE X i ti) (hs:Pd X t)
  (ha:∀ v,assign (ï2 o i pos) Þ v=(do
   let ov <- holding [v] (eval o Þ)
   let iv <- holding [v,ov] (eval i Þ)
   standAt pos
   holding [v,ov,iv] (setItem ov iv v)
   release [v,ov,iv] []):=by intro _;rfl):PG X (ï2 o i pos) (FP to ti t):=by
 intro gV s B H v u Q I r h;rw[ha];exact za0 (zcT (zG (ho Ê) λ ov s1 Í=>?_));exact za0 (zcT (zG (hi Þ4) λ iv s2 Å6=>?_));exact za0 (wpAny_standAt (za0 (zcT (zG (hs Å9 ov iv u _ I2 á2 r q2) λ _ s3 #[H3,I3,q3]=>?_))));show wpAny_release #[B,H3,I3,q3]
def cH (te:TE) (g:TG):TS:=λ D B H=>te Ů λ x H1=>g x B H1 D.nx
def LH {tg e:Expr}{te:TE}{g:TG}Õ6 (hg:PG X tg g) (hs:swapsWithSole [tg] e pos.line Þ=pure Ý:=by rfl) (hw:swappedStores [tg] e Þ=pure none:=by rfl)
  (h1:(assignEach [tg] Þ).map (·.2)=[assign tg Þ]:=by rfl):PS X (.Assign [tg] e pos) (cH te g):=by
 ext ŷ;exact wpAny_Assign_stores (zG (he Ê) λ v s1 Í=>?_) hs hw;rw[h1];show zG (hg Ć x v _ I1 r1 q1) λ _ s2 q=>q
def L9 É5 Ĭ ī{te:TE}{pos':Pos}ï Õ6 (hs:Ò2:=by rfl) Ô:
  PS X ñ5 (cH te (gC i)):=by
 ext ŷ;exact wpAny_Assign_Name (zG (he Ê) λ v s1 #[y,H1,I1,r1,q1]=>?_) hs;show ZJ I1 hN hi hx r1 (λ s2 I2=>#[_,H1,I2,q1]) hf
def Ny (c:TT) (tb:TS):TS:=λ D B H=>∃ W:Nat->Ð2,(∃ m,W m Ů)/\∀ m B H,W m Ů->
 c Ů λ b H1=>if b=true then ∃ N:Ð2,(∀ B' H',N Õ4->∃ m',m'<m/\W m' Õ4)/\tb { D with nx:=N,ct:=N,bk:=D.nx } B H1 else D.nx B H1
def L7 ö1{body:Ê4}{tc:TT}{tb:TS}Õ7 (hc:PT X c tc) (hb:qI X body tb):PS X (.While c body [] pos) (Ny tc tb):=by
 ext ŷ;let#[W,#[m0,w0],turn]:=h;exact wpAny_While (codeAny_whileLoop (λ n s'=>∃ B' H',Œ/\W n Õ4) ?_ m0 #[B,H,I,w0]);rintro n s1 ⟨B1,H1,I1,w1⟩;exact zd1 hp (zG (hc gV s1 B1 H1 _ I1 (turn n B1 H1 w1)) λ b s2 #[H2,I2,q2]=>?_);cases b with
 | true=>
  let#[N,hN,q2]:=q2;rw[Ī rfl];exact zd1 hp (zG (hb gV s2 B1 H2 _ I2 q2) λ f s3 q3=>?_);cases f with
  | next=>
   ext Æ0
  | cont=>
   ext Æ0
  | brk=>show q3
  | ret v=>show q3
 | Ý=>
  rw[ĕ za6];show zd5 #[B1,H2,I2,q2]
end
structure It where
 go:Nat->Ó
 iH:Nat->Hp->V->Ó
 stop:Nat->Ó
def nH ô (gV:AN) Ē (b:Addr):Prop:=
 Ň/\b≠ ö/\b∉X.fs/\(b∈X.ex\/Ŀ<=b)/\Û8
theorem Inv.eL ċ ü3 Ñ5 Å2 ô3{b:Addr}ë (hb:À<=b) (hn:H' b=none):nH X gV H' b:=by
 exact#[hn,zaE (zC3 I.lt hb),I.Tj hb,Ř (A7 I.sz hb),λ x c e z=>?_,λ p hp z=>?_]
 .let#[v,q]:=ß7 á0;show Į (zC3 q.lt (by rw[z];show hb)) (zE1 _)
 .show Į (zC3 (A2 (I.pin p hp).1) (by rw[z];show hb)) (zE1 _)
structure Turn Ń í (tg:Expr) (J:It) (fp:Ė) (it:Addr) (tn:Nat->Ø0):Prop where
 mem:it∈fp
 obj:∀ i h,tn i h->∀ b∈fp,∃ o,Ï2/\∀ v,o.data≠ Ò1 v
 keep:∀ i h h',tn i h->(∀ b∈fp,∀ o,Ï2->Ū b=↑o)->tn i h'
 item:∀ ô,X.prog=P->X.w=w->X.K=K->ø5->∀ Â1 Ã ý4,Á->(Ł)->tn i ġ->J.go i H->
  æ É2 X.A (pyNext ß8) (λ r s1=>∃ u,r=↑u/\
   æ É2 X.A (ù4 tg ß8 u) (λ _ s2=>∃ x H',Inv ä H' s2/\á8/\ë1/\tn ù5 s2.heap/\ŝ) E s1) E s
 done:∀ ô,X.prog=P->X.w=w->X.K=K->ø5->∀ Â1 Ã ý4,Á->(Ł)->tn i ġ->J.stop i H->
  æ É2 X.A (pyNext ß8) (λ r s1=>r=none/\Inv ä H s1) E s
 self:∀ (A:Around) Â1 Ý7 (Q:AH) ý4,tn i ġ->Q ß8 s->æ É2 A (pyIter ß8) Ò4
abbrev TI:=St->Hp->(It->Ó)->Prop
def Pe ô Õ3 (tg:Expr) (R:It->Ó) (itv:Î) (s2:Ù):Prop:=
 ∃ (it:Addr) (fp:Ė) (tn:Nat->Ø0) (J:It) (H':Hp),itv=Ë it/\Inv ä H' s2/\Ô1/\tn 0 s2.heap/\(∀ b∈fp,nH X gV H' b)/\R J H'
def PI ô (tg iter:Expr) (wi:TI):Prop:=
 ∀ Ã (R:It->Ó),Á->wi Ů R->
  æ Â (eval iter Þ) (λ v s1=>æ Â (pyIter v) (Pe ä tg R) X.xe s1) X.xe s
def bV ü2 Ĥ Ü7 ì5{it:Addr}ü0{o:Obj}{n:ö9}{vs:A1}Ü6(ho:å it=↑o) (hc:o.cls=ê6 n) (hd:o.data=.fields vs)
  (hn:Ĕ=Ý) (hQ:Q ø9 s):æ M A (ù4 tg ß8 u) Ò4:=by
 unfold ù4;cases tg <;> first
  | show AE hQ
  | (cases u <;> first
    | show AE hQ
    | (exact za0 (wpAny_load ho ?_)
       rw[hc,hd];change æ M A (if (Ĕ&&vs[0]? == ↑(rawInt _))=true then _ else _) Ò4;rw[ĕ (by intro h;rw[hn,Bool.false_and] at h;cases h)];show AE hQ))
def Pl í Æ4:It:=
 #[λ i H=>∃ xs x,y4 ű/\Ï5,λ i H x H'=>H'=H/\∀ xs,y4 ű->Ï5,λ i H=>∃ xs,y4 ű/\Ø<=i]
def Pk í Æ4:It:=
 #[λ i H=>∃ xs x,yz ű/\Ï5,λ i H x H'=>H'=H/\∀ xs,yz ű->Ï5,λ i H=>∃ xs,yz ű/\Ø<=i]
def dG (lo:Int) Ö8:It:=#[λ i _=>i<n,λ i H x H'=>H'=H/\x=ì (lo+i),λ i _=>n<=i]
def Na ç Ľ ì5(a it:Addr):Turn P w K tg (Pl K a) [it] it (λ i h=>h.IsListIter it a i) where
 mem:=#[]
 obj:=λ i h st b hb=>by
  ext Ù5
  ext Ú9
 keep:=Þ7
 item:=by
  ext ã;let#[xs,x,hq,hx]:=hg;let#[its,rv,p,hz]:=ë2;ext ö2;exact wpAny_pyNext_list_item st p.isList ñ0;ext Ĳ;show#[u,rfl,bV (s:={ s with heap:=h' }) e c d () #[x,H,I1,ru,#[rfl,λ ys hy=>by rw[I.YI hy hq];show hx],st',æ6]]
 done:=by
  ext ã;let#[xs,hq,hx]:=hg;let#[its,rv,p,hz]:=ë2;ext û;have hl:=rv.length;show wpAny_pyNext_list_end Å5 st p.isList (by simp;lia) Ď
 self:=λ _ _ _ _ _ st h=>wpAny_pyIter_listiter st h
def OY ç Ľ ì5(a it:Addr):Turn P w K tg (Pk K a) [it] it (λ i h=>h.IsTupleIter it a i) where
 mem:=#[]
 obj:=λ i h st b hb=>by
  ext Ù5
  ext Ú9
 keep:=Þ7
 item:=by
  ext ã;let#[xs,x,hq,hx]:=hg;let#[its,rv,p,hz]:=Û6 hq;ext ö2;exact wpAny_pyNext_tuple_item st ô2 ñ0;ext Ĳ;show#[u,rfl,bV (s:={ s with heap:=h' }) e c d () #[x,H,I1,ru,#[rfl,λ ys hy=>by rw[I.Z6 hy hq];show hx],st',æ6]]
 done:=by
  ext ã;let#[xs,hq,hx]:=hg;let#[its,rv,p,hz]:=Û6 hq;ext û;have hl:=rv.length;show wpAny_pyNext_tuple_end Å5 st ô2 (by simp;lia) Ď
 self:=λ _ _ _ _ _ st h=>wpAny_pyIter_tupleiter st h
def O_ ç Ľ ì5(it:Addr) (lo:Int) Ö8:Turn P w K tg (dG lo n) [it] it (λ i h=>IsRangeIter h it (lo+(i:Nat)*1) (Ì8-(i:Nat)) 1) where
 mem:=#[]
 obj:=λ i h st b hb=>by
  ext Ù5
  subst e;show#[_,st,λ v z=>by
   have z':Data.fields _=Data.cell v:=z;cases z']
 keep:=λ i h h' st k=>k it #[] _ st
 item:=by
  ext ã;ext û;have W:=Walks.range (prog:=X.prog) (w:=X.w) Å5 it lo 1 n;exact W.item i s Ü hg st λ v h' tk hv st' kk=>?_;let#[t,rfl]:=hv;have I1:Inv ä H { s with heap:=h',toks:=tk }:=I.turned (λ b o hb e=>kk b o (by exists hb) e) f0 f1 f3 f4 f5;exact#[_,rfl,bV (s:={ s with heap:=h',toks:=tk }) (n:="range_iterator") st' rfl rfl () #[ì (lo+i),H,I1,#[t,?_],#[rfl,rfl],st',æ6]];rw[Int.mul_one]
 done:=by
  ext ã;ext û;show wpAny_pyNext_range_end Å5 st (by have:n<=i:=hg;lia) Ď
 self:=λ _ _ _ _ _ st h=>wpAny_pyIter_rangeiter st h
section
variable {ċ}{ì5}
def Um Ç{R:It->Ó}ò3{lo hi:Int}{t u v:Tok}{tk:Nat}ë (h1:-(2 ^ 62)<=lo) (h2:lo<2 ^ 62) (h3:-(2 ^ 62)<=hi) (h4:hi<2 ^ 62)
  (q:R (dG lo (hi-lo).toNat) H):æ Â (pyIter (Ë À)) (Pe ä tg R) E { s with heap:=Ì,toks:=tk }:=by
 exact wpAny_pyIter_range (IsRange.new ..) (small_one h1 h2 h3 h4) ?_;have I1:Inv ä H { s with heap:=Ì,toks:=tk }:=I.kept ò9;exact#[(Ì).objs.size,[(Ì).objs.size],_,_,H,rfl,
  I1.kept (t':=tk) ò9,O_ _ lo (hi-lo).toNat,?_,î9,q]
 .have e1:lo+((0:Nat):Int)*1=lo:=#[];have e2:ß9=Builtin.Range.rangeSize Õ1 1:=by rw[rangeSize_one];split <;> lia
  change IsRangeIter Ü (lo+((0:Nat):Int)*1) (ß9) 1;rw[e1,e2];show Ç4
 .have e:b=(Ì).objs.size:=by exists hb
  subst e;show I1.eL Ŋ (Ô2)
def SF (ta:TA):TI:=fun B H R=>ta Ů λ vs H1=>∃ j:Int,vs=[ì j]/\-(2 ^ 62)<=j/\j<2 ^ 62/\R (dG 0 j.toNat) H1
def SE (ta:TA):TI:=fun B H R=>ta Ů λ vs H1=>∃ i j:Int,vs=Í7/\Þ8/\R (dG i (j-i).toNat) H1
theorem LX {a:Expr}Ï1 (ha:PA X [a] ta) (hs:Ó2 [a] Þ=[(Ý,eval a Þ)]:=by rfl):PI X tg (.Call (.Name "range" p) [a] [] pos) (SF ta):=by
 intro gV s B H R I h;exact Call_ (jR I hg hm boot_range (Ð3 Í3 hs rfl));let#[j,e,q1,q2,q]:=q1;subst e;cases r1 with
 | cons r rr=>
  cases rr;ext å5;show call_range_1 (Um I1 ⋯ ⋯ q1 q2 (by exists q))
theorem LW Î5 Ï1 (ha:PA X [a,b] ta) (hs:Ó2 [a,b] Þ=[(Ý,eval a Þ),(Ý,eval b Þ)]:=by rfl) (hs2:Ó2 [b] Þ=[(Ý,eval b Þ)]:=by rfl):
  PI X tg (.Call (.Name "range" p) [a,b] [] pos) (SE ta):=by
 intro gV s B H R I h;exact Call_ (jR I hg hm boot_range (Ð3 Í3 (by rw[hs,hs2]) (by rw[hs2];rfl)));let#[i,j,e,#[q1,q2,q3,q4],q]:=q1;subst e;cases r1 with
 | cons r rr=>
  cases rr with
  | cons r' rr=>
   cases rr;ext å5;let#[t',rfl]:=r';show call_range_2 (Um I1 q1 q2 q3 q4 q)
def NH (wi:TI) (g:TG) (tb:TS):TS:=λ D B H=>wi Ů λ J H1=>∃ W:ë3,(∃ m,W 0 m B H1)/\∀ i m B H,W i m Ů->
 (J.stop i H/\D.nx Ů)\/(J.go i H/\∃ N:Ð2,(∀ B' H',N Õ4->∃ m',m'<m/\W ù5 m' Õ4)/\∀ x H',ë1->g x B H' fun B2 H2=>tb { D with nx:=N,ct:=N,bk:=D.nx } B2 H2)
def fL (fp:Ė) Ê9:AN:=fp.filterMap λ b=>(ĭ b).map λ o=>(b,o)
def b9 {fp:Ė}Ó6 Î9(hb:b∈fp) (e:Ï2):(b,o)∈fL fp h:=zc9.mpr #[b,hb,by rw[e];rfl]
def JX {fp:Ė}Ó6{p:Addr×Obj}(hp:p∈fL fp h):p.1∈fp/\ĭ p.1=↑p.2:=by
 let#[b,hb,e]:=zc9.mp hp;cases q:ĭ b with
 | none=>rw[q] at e;cases e
 | some o=>
  rw[q] at e;have e':(b,o)=p:=zD5 e;subst e';show#[hb,q]
def Inv.pinned Ç{fp:Ė}ë (hf:Ł) (ho:∀ b∈fp,∃ o,Ê8/\∀ v,o.data≠ Ò1 v):Inv X (gV++fL fp ġ) Ů s:=
 I.Ys λ p hp=>ò7 (λ z=>I.pin p (zB4 _ z)) λ z=>by
  let#[hb,e]:=JX z;let#[f0,f1,f2,_]:=hf p.1 hb;let#[o,e',d]:=ho p.1 hb;rw[e] at e';cases e';show#[e,f0,f1,f2,d]
def Inv.fj {gV pl:AN}Ñ5 Ġ ô3(I:Inv X (gV++pl) Ů s):Á:=I.Ys λ p hp=>I.pin p (zB4 _ (zaO _ hp))
def LD {iter:Expr}{body:Ê4}{wi:TI}{g:TG}{tb:TS}ĉ Õ7 Đ ä3 (hg:PG X tg g) (hb:qI X body tb)
  ņ:PS X (.For tg iter body [] pos) (NH wi g tb):=by
 ext ŷ;exact wpAny_For À1 hs;let#[it,fp,tn,J,H2,e,I2,T,st2,f2,W,#[m0,w0],turn]:=h2;subst e;have stat:∀ {H':Hp},(ŝ)->∀ b∈fp,nH X gV H' b:=λ hn b hb=>#[hn b hb,(f2 b hb).2];exact codeAny_forLoop_any (λ n s'=>∃ i B' H',Œ/\tn i æ4/\(ŝ)/\W i n Õ4) ?_ m0 #[0,B,H2,I2,st2,λ b hb=>(f2 b hb).1,w0];rintro n s3 ⟨i,B3,H3,I3,st3,fr3,w3⟩;rcases turn i n B3 H3 w3 with ⟨stop,qn⟩ | ⟨go,N,hN,step⟩
 .exact zd1 hp (zG (T.done X ã1 gV s3 B3 H3 X.xe Þ5 stop) λ r s4 #[hr,I4]=>?_);subst hr;show zd5 #[B3,H3,I4,qn]
 .exact zd1 hp (zG (T.item X ã1 gV s3 B3 H3 X.xe Þ5 go) λ r s4 #[u,hr,h4]=>?_);subst hr;exact zd1 hp Ì9;ext æ1;exact zd1 hp (zG Û9 ï3);exact zd1 hp (zG (hb _ s6 B6 H6 _ I6 q6) λ f s7 q7=>?_);have again:∀ {B7:St}{H7:Hp},Inv X (gV++fL fp s5.heap) B7 H7 s7->N B7 H7->∃ m,m<n/\∃ i B' H',Inv X gV Õ4 s7/\tn i s7.heap/\(ŝ)/\W i m Õ4:=λ{B7 H7} I7 n7=>by
   let#[m',hm,w7]:=hN B7 H7 n7;exact#[m',hm,i+1,B7,H7,I7.fj,T.keep Ü _ st5 λ b hb o e=>(I7.pin ŵ).1,î9,w7];ext ü5;show (I7.pin ŵ).2.1
  cases f with
  | brk=>let#[B7,H7,I7,q7]:=q7;show#[B7,H7,I7.fj,q7]
  | ret v=>let#[x7,B7,H7,I7,r7,q7]:=q7;show#[x7,B7,H7,I7.fj,r7,q7]
  | _=>let#[B7,H7,I7,n7]:=q7;show again I7 n7
end
abbrev R2:=V->V->á
def yO ô (f:Î->Î->Sem Î) (r:R2):Prop:=
 ∀ Ã (x y:V) (v u:Î) Ñ4,Á->ã6->RelV y u->r è7->
  æ Â (f v u) ļ s
def Wo ô (f:Î->Sem Î) (r:V->á):Prop:=
 ∀ Ã (x:V) (v:Î) Ñ4,Á->ã6->r x H Q->
  æ Â (f v) ļ s
def xC ô (f:Î) (r:Ý2):Prop:=
 ∀ Ã è0 è2 Ñ4,Á->Á5->r xs H Q->
  æ Â (call f us) ļ s
def CQ ô (r:V->Hp->(Í6)->Prop):Prop:=
 ∀ Ã (x:V) (v:Î) (Q:Í6),Á->ã6->r x H Q->
  æ Â (truthy v) ã0
def fk (r:R2) (ta tb:TE):TE:=fun B H Q=>ta Ů λ x H1=>tb B H1 λ y H2=>r x y H2 Q
def Nz (r:V->á) (ta:TE):TE:=fun B H Q=>ta Ů λ x H1=>r x H1 Q
def rI (C:Ô3) (g:Int->Int->V):R2:=λ x y H Q=>∃ i j,x=ò5/\y=ì j/\C i j/\Q Í0 H
def oI (g:Int->Int->V):R2:=λ x y H Q=>∃ i j,x=ò5/\y=ì j/\Q Í0 H
def rU (g:Int->V):V->á:=λ x H Q=>∃ i,x=ò5/\Q (g i) H
section
variable {ċ}{Î5}{ta tb:TE}{ĉ}
def XU ù ü3 ô3 Ñ5 Ġ{R:V->V->Ó}ë
  (h:ta Ů λ x H1=>tb B H1 λ y H2=>R x y H2) ü4 È2
  (hf:∀ v u s2 x y H2,Inv ä H2 s2->ã6->RelV y u->R x y H2->æ Â (f v u) Q X.xe s2):
  æ Â (eval a Þ) (λ v s₁=>æ Â (eval b Þ) (λ u s₂=>æ Â (f v u) Q X.xe s₂) X.xe s₁) X.xe s:=by
 exact Å4;exact zG (hb Þ4) λ u s2 Å6=>?_;show hf v u s2 x y H2 I2 á2 q2
def Kr {op:Operator}{r:R2}(ho:yO X (Ç7 op) r) ù:PE X (.BinOp a op b pos) (fk r À2):=by
 ext Ö;show wpAny_BinOp Ã4
def Km {op:UnaryOp}{r:V->á}(ho:Wo X (unaryOp op) r) Ë5:PE X (.UnaryOp op a pos) (Nz r ta):=by
 ext Ö;show UnaryOp_ (zG æ5 λ v s1 Í=>ho Ć x v Q I1 r1 q1)
def fQ È2{C:Ô3}{g:Int->Int->Int}
  (rule:∀ Ã5,C i j->Ä2):
  yO X f (rI C λ i j=>ì Í0):=by
 ext ý;let#[i,j,rfl,rfl,hc,q]:=h;ext ĺ;show rule i j t t' s Ü hc õ2
def Y0 È2{g:Int->Int->Int}
  (rule:∀ Ã5,Ä2):
  yO X f (oI λ i j=>ì Í0):=by
 ext ä4;show rule i j t t' s Ü õ2
def Y1 È2{g:Int->Int->Bool}
  (rule:∀ Ã5,Q (ù2 Í0) s->ï4):
  yO X f (oI λ i j=>.bl Í0):=by
 ext ä4;show rule i j t t' s Ü #[.bl Í0,H,I,rfl,q]
def r_ (i j:Int):Prop:=0<j/\j<1073741824
def j9 (i j:Int):Prop:=0<=j/\j<=1000000/\i.natAbs<2 ^ 64
def pP (i j:Int):Prop:=(-(2 ^ 64)<i/\i<2 ^ 64)\/(-(2 ^ 64)<j/\j<2 ^ 64)
def pP.ok {i j:Int}(h:pP i j):IntMulOk i j:=by
 rcases h with ⟨h1,h2⟩ | ⟨h1,h2⟩
 .show .of_left (intBits_le_64 h1 h2)
 .show .of_right (intBits_le_64 h1 h2)
def OW (k:Nat):(0:Int)<=2 ^ k:=by
 rw[two_pow_cast];show Int.natCast_nonneg _
def J2:yO X (Ç7 .Add) (oI λ i j=>ì (i+j)):=Y0 λ _ _ _ _ _ _ _ q=>add_int q
def Jk:yO X (Ç7 .Sub) (oI λ i j=>ì (i-j)):=Y0 λ _ _ _ _ _ _ _ q=>sub_int q
def Jq:yO X (Ç7 .Mult) (rI pP λ i j=>ì (i*j)):=fQ λ _ _ _ _ _ _ _ hc q=>mul_int q hc.ok
def Jw:yO X (Ç7 .FloorDiv) (rI r_ λ i j=>ì (i/j)):=fQ λ i j _ _ _ _ _ hc q=>by
 have h1:(0:Int)<j:=hc.1;have h2:j<1073741824:=hc.2;show floordiv_int ⋯ (by rw[Int.fdiv_eq_ediv_of_nonneg i ⋯];show q) (ă (PyProof.noPylong_small ⋯))
def Jr:yO X (Ç7 .Mod) (rI (λ _ j=>0<j) λ i j=>ì (i%j)):=fQ λ i j _ _ _ _ _ hc q=>by
 have h1:(0:Int)<j:=hc;show mod_int' ⋯ (by rw[Int.fmod_eq_emod_of_nonneg i ⋯];show q)
def Jm:yO X (Ç7 .Pow) (rI j9 λ i j=>ì (i ^ j.toNat)):=fQ λ _ _ _ _ _ _ _ hc q=>pow_int_small hc.1 hc.2.1 hc.2.2 q
def Jl:yO X (Ç7 .RShift) (rI ì6):=fQ λ i j _ _ _ _ _ hc q=>
 rshift_int hc (by rw[Int.fdiv_eq_ediv_of_nonneg i (OW _)];show q)
def J0:yO X (Ç7 .BitAnd) (oI ñ6):=Y0 λ _ _ _ _ _ _ _ q=>and_int q
def OT {f:Î->Sem Î}{g:Int->Int}
  (rule:∀ û9 (t:Tok) Ý7 (Q:AH) ý4,Q (ì (g i) ř) { s with toks:=ř+1 }->æ Â (f (ì i t)) Ò4):
  Wo X f (rU λ i=>ì (g i)):=by
 intro gV s B H x v Q I rx h;let#[i,rfl,q]:=h;ext È8;show rule i t s Ü #[ì (g i),H,Ë1,ž,q]
def OS:Wo X (unaryOp .USub) (rU λ i=>ì (-i)):=OT λ _ _ _ _ _ q=>neg_int q
end
section
variable {ċ}{a b c:Expr}{ta tb tc:TE}{ĉ}
def Rm Ç{Q:VK}{k k':Bool}ë (q:Q (.bl k) H) (e:k=k'):EP ä Q (ù2 k') s:=by
 subst e;show#[.bl k,H,I,rfl,q]
def Jt:yO X (Ä7 .Lt) (oI λ i j=>.bl (ŉ (i<j))):=Y1 λ _ _ _ _ _ _ _ q=>lt_int q
def zK:yO X (Ä7 .LtE) (oI Ý9):=Y1 λ _ _ _ _ _ _ _ q=>le_int q
def Td:yO X (Ä7 .GtE) (oI Þ0):=Y1 λ _ _ _ _ _ _ _ q=>ge_int q
def Ju:yO X (Ä7 .Is) (λ x y H Q=>y=.zA/\Q (.bl (ŉ (x=.zA))) H):=by
 ext ý;let#[rfl,q]:=h;cases ry;exact is_none_gen (Rm I q ?_);cases x <;> first
  | (cases rx;rfl)
  | (ext È8;rfl)
def UY:yO X (Ä7 .IsNot) (λ x y H Q=>y=.zA/\Q (.bl (! ŉ (x=.zA))) H):=by
 ext ý;let#[rfl,q]:=h;cases ry;exact isnot_none_gen (Rm I q ?_);cases x <;> first
  | (cases rx;rfl)
  | (ext È8;rfl)
def yO.or È2{r r':R2}(h:yO X f r) (h':yO X f r'):yO X f é3:=by
 intro gV s B H x y v u Q I rx ry q;ext ô4
 .show h Ñ8 q
 .show h' Ñ8 q
def nh (b:Expr) Ù7(h:op≠.In:=by decide) (h2:op≠.NotIn:=by decide):ŀ:=by
 ext ã4
 ext á5
 ext ì4
def K3 Ù7{r:R2}Ķ ù (hm:ŀ):PE ũ (fk r À2):=by
 ext Ö;show wpAny_Compare1 Ã4 hm
def V6 (t:TE):TT:=fun B H Q=>t Ů λ x H'=>∃ k,x=.bl k/\Q k H'
def Lu Ù7{r:R2}Ķ ù (hm:ŀ):PT ũ (V6 (fk r À2)):=by
 ext Ö;exact wpAny_isTrue_Compare1 (zG æ5 λ v s1 Í=>zG (hb Þ4) λ u s2 Å6=>
  zG (ho Å9 u _ I2 á2 q2) λ c s3 í1=>?_) hm
 subst e;cases r3;show zcV #[H3,I3,q3]
def ZF (r r':R2) (ta tb tc:TE):TE:=fun B H Q=>ta Ů λ x H1=>tb B H1 λ y H2=>r x y H2 λ z H3=>∃ k,z=.bl k/\
 (if k=true then tc B H3 λ w' H4=>r' y w' H4 Q else Q (.bl Ý) H3)
def K4 {op op':CmpOp}{r r':R2}Ķ (ho':yO X (Ä7 op') r') ù (hc:PE X c tc)
  È3:PE X æ7 (ZF r r' À2 tc):=by
 ext Ö;exact Compare_chain (zG æ5 λ v s1 Í=>chain_link ģ) hm
 subst e;cases r3;exact zcV ?_;cases k with
 | Ý=>show ite_ff #[.bl Ý,H3,I3,rfl,q3]
 | true=>show ite_tt (chain_last (zG (hc gV s3 B H3 _ I3 q3) λ w' s4 #[z',H4,I4,r4,q4]=>ho' gV s4 B H4 y z' u w' Q I4 r2 r4 q4))
def Lv {op op':CmpOp}{r r':R2}Ķ (ho':yO X (Ä7 op') r') ù (hc:PE X c tc)
  È3:PT X æ7 (V6 (ZF r r' À2 tc)):=by
 ext Ö;exact isTrue_chain (zG æ5 λ v s1 Í=>test_link ģ) hm
 subst e;cases r3;exact zcV ?_;cases k with
 | Ý=>
  let#[k',e',q']:=q3;cases e';show ite_ff #[H3,I3,q']
 | true=>
  exact ite_tt (test_last (zG (hc gV s3 B H3 _ I3 q3) λ w' s4 #[z',H4,I4,r4,q4]=>zG (ho' gV s4 B H4 y z' u w' _ I4 r2 r4 q4) λ d' s5 #[z2,H5,I5,r5,k2,e2,q5]=>?_));subst e2;cases r5;show zcV #[H5,I5,q5]
def Wq í (x:V) Ē (k:Bool):Prop:=
 match x with
 | .zA=>k=Ý
 | .bl b=>k=b
 | ò5=>k=(i != 0)
 | .str y=>æ8
 | .dr y=>ï5
 | Ë p=>(∃ xs,y4 ę p xs/\k=! Ø3)\/(∃ xs,yz ę p xs/\k=! Ø3)\/å2
 | _=>č
def H_ {κ:Type}{Az:List (κ × V)}{vs:List (κ × Î)}(r:KV Az vs):(!vs.isEmpty)=!Az.isEmpty:=by
 cases r <;> rfl
def Su ĵ{its:AI}(r:Ï6):(!its.toArray.isEmpty)=! Ø3:=by
 cases r <;> simp
def jQ:(Û:Nat)<2 ^ 63:=by rw[sizeLine_eq];decide
theorem Ni:CQ X (λ x H Q=>∃ k,Wq X.K x H k/\Q k H):=by
 intro gV s B H x v Q I rx h;let#[k,e,q]:=h;have hl:=jQ;have hs:Û=16777216:=sizeLine_eq;cases x with
 | zA=>
  cases rx;have e':k=Ý:=e;subst e';show truthy_none #[H,I,q]
 | bl b=>
  cases rx;have e':k=b:=e;subst e';show zcV #[H,I,q]
 | int i=>
  ext È8;have e':k=(i != 0):=e;subst e';show PySem.P.truthy_int #[H,I,q]
 | str y=>
  ext È8;obtain⟨hy,e'⟩:æ8:=e;subst e';show PySem.P.truthy_str ⋯ #[H,Ë1,q]
 | dr y=>
  ext È8;obtain⟨hy,e'⟩:ï5:=e;subst e';show PySem.W.truthy_bytes ⋯ #[H,Ë1,q]
 | ref p=>
  cases rx;have e':(∃ xs,y4 è8 xs/\k=! Ø3)\/(∃ xs,yz è8 xs/\k=! Ø3)\/å2:=e;rcases e' with ⟨xs,hx,e'⟩ | ⟨xs,hx,e'⟩ | ⟨Az,hx,e'⟩
  .subst e';let#[its,r,pl,hz]:=I.list hx;have hlen:=Ê0;show wpAny_truthy_list Ð4 æ0
  .subst e';let#[its,r,pl,hz]:=Û6 hx;have hlen:=Ê0;show truthy_tuple pl æ0
  .subst e';obtain⟨hz,hS,vs,r,m⟩:Az.length<=Û/\(p == sysModules)=Ý/\∃ vs,KV Az vs/\s.heap.DictOf (qk þ) p vs:=I.zH p _ hx;have hlen:Az.length=à0:=Paired.length r;show wpAny_truthy_dict hS m ⋯ #[H,Ë1,by rw[H_ r];show q]
 | _=>show (show č from e).elim
def Lr Ë5 Á1:
  PT X a (fun B H Q=>ta Ů λ x H'=>∃ k,Wq X.K x H' k/\Q k H'):=by
 ext Ö;show isTrue_plain (zG æ5 λ v s1 Í=>Ni Ć x v Q I1 r1 q1) (he _)
def J1:yO X (Ç7 .Add) (λ x y H Q=>∃ i j,x=.str i/\y=.str j/\i.length+j.length<=Û/\Q (.str (i++j)) H):=by
 ext ý;let#[i,j,rfl,rfl,hz,q]:=h;ext ĺ;show add_str (λ t' tk=>#[.str (i++j),H,Ë1,ž,q]) hz
def vals1 {x:V}Â0(r:Vals [x] us):∃ u,us=[u]/\á8:=by
 cases r with
 | cons r1 r2=>cases r2;show#[_,rfl,r1]
def vals2 {x y:V}Â0(r:Vals [x,y] us):∃ u w',us=[u,w']/\á8/\RelV y w':=by
 cases r with
 | cons r1 r2=>
  cases r2 with
  | cons r3 r4=>cases r4;show#[_,_,rfl,r1,r3]
def DX Đ:xC X (À8 "max") (λ xs H Q=>∃ i j,xs=Í7/\Q (ì (if j>i then j else i)) H):=by
 ext Ã0;exact max_two_ints Å5 à1;by_cases hj:j>i
 .rw[Ī hj,Ī hj];show ž
 .rw[ĕ hj,ĕ hj];show ž
def DW Đ:xC X (À8 "min") (λ xs H Q=>∃ i j,xs=Í7/\Q (ì (if j<i then j else i)) H):=by
 ext Ã0;exact min_two_ints Å5 à1;by_cases hj:j<i
 .rw[Ī hj,Ī hj];show ž
 .rw[ĕ hj,ĕ hj];show ž
end
structure i4 Ê9 (x dx C:Addr) (mA:A0):Prop where
 obj:ĭ x=↑(ů C dx)
 ns:h.Ns1 dx mA
 ne:dx≠x
def Ha Ó6{dx:Addr}{mA:A0}(n:h.Ns1 dx mA):∃ od,ĭ dx=↑od/\Ü0:=by
 let#[o,es,ep,ho,hd,hk,_,hm]:=n;exact#[o,ho,λ name=>?_];have e:=hm name;unfold nsFind findBy at e;rw[<- Array.find?_toList] at e;unfold PySem.W.lookIn;rw[hd];dsimp only;split
 .rename_i y q;rw[q] at e;show õ3 some e
 .rename_i q;rw[q] at e;have a:es.toList.any (·.refKey)=Ý:=by
   rw[zbC];intro y hy;let#[z,t,hkey]:=hk y (Array.mem_toList_iff.mp hy);simp[DictEntry.refKey,hkey]
  have a':¬ es.toList.any (·.refKey)=true:=by rw[a];show za6
  rw[ĕ a'];show õ3 some e
def i4.look Ó6{x dx C:Addr}{mA:A0}(I:i4 h x dx C mA):∃ od,PySem.W.InstAt h x (ů C dx) C ↑od/\Ü0:=
 let #[od,ho,hl]:=Ha I.ns
 #[od,#[I.obj,rfl,rfl,ho],hl]
section
variable {prog:î6}{w:World}{Ĥ}{Ü7}{Ľ}{x dx C f:Addr}{mA:A0}{name:Str}{v:Î}
def get_map {expr:Bool}ü4 É7 (hg:Ý3 K C name=true) (hh:Ö5)
  (ha:Ũ K à2 name=↑none) (hv:mA name=↑v) (hv':PySem.W.handedIn v=true) (h:Q v { s with toks:=ř+1 }):
  æ ÿ (getAttr (Ë x) name expr) Ò4:=by
 ext å6;show PySem.W.get_value X J (Þ1).1 (PySem.W.findObj_own hh ha rfl (by rw[hl,hv])) hv' h
def FA é5 É7 (hg:Ý3 K C name=true)
  (hf:Ũ K à2 name=↑↑ Ë9) (ht:Ü1) (hv:mA name=none) (h:Q (Ë f,[Ë x]) s):
  æ ÿ (getMethod (Ë x) name pl) Ò4:=by
 ext å6;show PySem.W.method_fn X J (Þ1).1 (Þ1).2 hf (beq_iff_eq.mp ht) (by change (PySem.W.lookIn name od).map (·.isSome)=↑ Ý;rw[hl,hv];rfl) h
def Mu {ns:Ă}Ü6 É7
  (hs:Ê1) (hp:PySem.W.plainOver K C=true) (ht:ù6 K C name=↑none) (hh:Ö5)
  (hw:PySem.Within mA ns) (hsz:Ø4<=Û)
  (h:∀ h',i4 h' x dx C (λ y=>if y=name then ↑v else mA y)->ñ4 dx ġ h'->Q ø9 { s with heap:=h',toks:=ř+2 }):
  æ ÿ (setAttr (Ë x) name v) Ò4:=by
 ext å6;exact PySem.W.set_plain X J hs (PySem.W.osa_open (s:={ s with toks:=ř+1 }) (r:=none) X J hp ht λ b=>?_);let#[cd,hc,hd']:=PySem.W.any_some hh;have hx:å x=↑#[Ë C,↑dx,.plain,Ŗ]:=I.obj;exact za0 (AE (za0 (za0 (wpAny_loadPart hx (za0 (PySem.W.Looks.here (s:={ s with toks:=ř+1 }) (PySem.W.looks_clsIn X hc) ?_))))));rw[hd'];exact AE (a:=↑dx) (za0 (AE (za0 ?_)));exact wpAny_nsSet1 (s:={ s with toks:=ř+1 }) I.ns λ h' hn2 hs2=>?_;let#[oD,esD,epD,hoD,hdD,hcD]:=hn2.count (PySem.Within.cons name v hw);exact za0 (wpAny_lookBehind hoD (by rw[hdD];show pastItsLine_dict (A7 hcD (by rw[zC0];lia))) ?_);show AE (h _ #[(hs2.2 _ (Ne.symm I.ne)).trans I.obj,hn2,I.ne] hs2)
def IQ {R:Result->À7}{vs:AI}{kw:Î8}(X:K.In ġ) (hm:PySem.W.makesIn K C=true)
  (hi:ó0) (hf:PySem.W.typeIn K Ë9=↑(ê6 "function"))
  (h:æ9 (model prog w) (A.under (À8 "type.__call__" #[Ë C::vs,kw])) (.call Ë9 #[Ë Ð5::vs,kw]) (PySem.W.InitBack Ð5 R)
   { s with heap:=ç0 }):
  æ9 ÿ (.call à2 #[vs,kw]) R s:=by
 let#[hh,g,d,t,os]:=s;show PySem.W.make_core (PySem.W.makes_of X hm) (PySem.W.looks_findIn X hi) (λ self=>PySem.W.bind_fn X self hf) Û2 h
end
def pW ü6 (v:V):Â7->Â7
 | []=>[(f,v)]
 | (g,x)::r=>if g=f then (g,v)::r else (g,x)::pW f v r
theorem T9 (f g:Str) (v:V):∀ fs:Â7,(pW f v fs).lookup g=if g=f then ↑v else ù7 g
 | []=>by
  change É3 g [(f,v)]=_;by_cases h:g=f
  .have hb:(g == f)=true:=ó1;simp![É3,hb,Ī h]
  .have hb:(g == f)=Ý:=Ç3 h;simp![É3,hb,ĕ h]
 | (k,x)::r=>by
  have ih:=T9 f g v r;ext Ą
  .rw[Ī hk];by_cases h:g=k
   .have hb:(g == k)=true:=ó1;simp![É3,hb,Ī (h.trans hk)]
   .have hb:(g == k)=Ý:=Ç3 h;simp![É3,hb,ĕ (λ e:g=f=>h (e.trans hk.symm))]
  .rw[ĕ hk];by_cases h:g=k
   .have hb:(g == k)=true:=ó1;simp![É3,hb,ĕ (λ e:g=f=>hk (h.symm.trans e))]
   .have hb:(g == k)=Ý:=Ç3 h;simp![É3,hb];show ih
theorem YS ü6 (v:V):∀ fs:Â7,f∈(pW f v fs).map ê5/\∀ g,g∈fs.map ê5->g∈(pW f v fs).map ê5
 | []=>#[by simp[pW],λ g h=>à3]
 | (k,x)::r=>by
  let#[i1,i2]:=YS f v r;ext Ą
  .rw[Ī hk];subst hk;show#[#[],λ g h=>by exists h]
  .rw[ĕ hk];exact#[?_,λ g h=>?_]
   .rw[AR];show AX _ i1
   .rw[AR] at h ⊢;rcases AL.mp h with e | e
    .show AL.mpr (ă e)
    .show AX _ (i2 g e)
theorem TF ü6 (v:V):∀ fs:Â7,(pW f v fs).length<=ø2+1
 | []=>by simp[pW]
 | (k,x)::r=>by
  have ih:=TF f v r;ext Ą
  .rw[Ī hk,zC0,zC0];lia
  .rw[ĕ hk,zC0,zC0];lia
def pE.some_of {v:V}{o:Ú Î}(r:pE ↑v o):∃ u,o=↑u/\À5:=by
 cases o with
 | none=>show (show č from r).elim
 | some u=>show#[u,rfl,r]
def pE.none_of {o:Ú Î}(r:pE none o):o=none:=by
 cases o with
 | none=>rfl
 | some u=>show (show č from r).elim
def Gz Ó8(r:À5):PySem.W.handedIn u=true:=by
 cases v with
 | zA=>cases (show u=Value.none from r);rfl
 | bl b=>cases (show u=Value.bool b from r);rfl
 | int i=>let#[t,e]:=(show ∃ t,u=Value.int i t from r);cases e;rfl
 | str x=>let#[t,e]:=(show ∃ t,u=Value.str x t from r);cases e;rfl
 | dr b=>let#[t,e]:=(show ∃ t,u=Value.bytes b t from r);cases e;rfl
 | Xo b=>let#[t,e]:=(show ∃ t,u=Value.float b t from r);cases e;rfl
 | ref a=>cases (show u=Ë8 a from r);rfl
 | ty n=>cases (show u=Value.type n from r);rfl
section
variable {ç}{Ġ}{Ó6}{a C dx:Addr}{fs:Â7}
def gq (zH:xB ü1) (e:H a=↑(Ó1)):∃ mA,i4 h a dx C mA/\(Í4)/\õ0/\ø2<=1000/\H dx=↑(.own a):=by
 let#[d,z,ne,ob,mA,n,r,q]:=(show xS ü1 a (Ó1) from zH a _ e)
 show#[mA,#[ob,n,ne],r,q,z,d]
end
structure mw í ã2:Prop where
 pg:Ý3 K C Str.empty=true
 hd:Ö5
 po:PySem.W.plainOver K C=true
 sa:Ê1
def mw.get Ľ{C:Addr}(c:mw K C) ü6:Ý3 K C f=true:=c.pg
def jv í ã2 ü6:Prop:=Ũ K à2 f=↑none
def jv.taker Ľ{C:Addr}{f:Str}(n:jv K C f):ù6 K C f=↑none:=by
 unfold ù6;rw[show Ũ K à2 f=↑none from n];rfl
structure Meth í ã2 (m:Str) (f:Addr):Prop where
 at_:Ũ K à2 m=↑↑ Ë9
 fn:Ü1
 kp:Ô4 K Ë9=true
section
variable {ċ}{Ç}{a C dx:Addr}{fs:Â7}{f:Str}{v:V}{Ĥ}{ò3}
def F9 {b:Bool}ü4 ë Ä0 (n:jv X.K C f) (l:ù7 f=↑v)
  (h:∀ u s',Inv ä H s'->À5->Q u s'):æ (model þ) A (getAttr (í0) f b) Ò4:=by
 ext í7;let#[u,hu,ru]:=pE.some_of (v:=v) (o:=mA f) (by rw[<- l];show r f);show get_map I.rX O (c.get f) c.hd n hu (Gz ru) (h u _ (Ë1) ru)
def F8 {m:Str}{g:Addr}é5 ë Ä0 (k:Meth X.K C m g) (l:ù7 m=none)
  (h:Q (Ë g,[í0]) s):æ (model þ) A (getMethod (í0) m pl) Ò4:=by
 ext í7;have hn:mA m=none:=pE.none_of (by rw[<- l];show r m);show FA I.rX O (c.get m) k.at_ k.fn hn h
def Ms {y:V}ü0 Ü6 ë Ä0 (n:jv X.K C f) (hl:ø2<1000) (ry:RelV y u)
  (h:∀ s',Inv ä (upd H a (.ins C dx (pW f y fs))) s'->Q ø9 s'):æ (model þ) A (setAttr (í0) f u) Ò4:=by
 let#[mA,O,r,wi,_,ho]:=gq I.zH e;have hz:(fs.map ê5).length<=Û:=by rw[AQ,sizeLine_eq];lia
 exact Mu I.rX O c.sa c.po n.taker c.hd wi hz λ h' O' sb=>h _ ?_;have hd:∃ o,Ū dx=↑o:=let #[o,_,_,e',_]:=O'.ns;#[o,e']
 exact I.write (x:=a) (e:=dx) (by rw[e];show True.intro) (Ř ho) (λ b q hb z=>(sb.2 b hb).trans z) hd ?_;exact#[by rw[yw O.ne];show ho,?_,O.ne,O'.obj,_,O'.ns,λ g=>?_,λ g hg=>?_]
 .have:=TF f y fs;lia
 .change pE ((pW f y fs).lookup g) (if g=f then ↑u else mA g);rw[T9];by_cases q:g=f
  .rw[Ī q,Ī q];show ry
  .rw[ĕ q,ĕ q];show r g
 .by_cases q:g=f
  .rw[q];show (YS f y fs).1
  .exact (YS f y fs).2 g (wi g λ z=>hg ?_);change (if g=f then ↑u else mA g)=none;rw[ĕ q];show z
def Inv.made ë:Inv ä (upd (upd H À (.own Ð5)) Ð5 (.ins C À []))
  { s with heap:=ç0 }:=by
 have e1:(Ĉ).get? À=↑ ï6:=zA9 ġ rfl;have e2:(ç0).get? Ð5=↑(ů C À):=by
  have:=zA9 (Ĉ) (o:=ů C À) rfl
  rwa [Ê2] at this
 have e3:(Ĉ).Ns À (ë4):=#[ï6,Ŗ,_,e1,rfl,(λ e he=>Į he #[]),λ _=>rfl];have I1:=I.laid (a:=À) (o:=.own Ð5) (h':=Ĉ) (t':=ř) (λ b u q=>za1 _ q) Ŋ #[_,e1];exact I1.laid (a:=À+1) (o:=.ins C À []) (t':=ř) (λ b u q=>za1 _ q) (zbT (Ê2 Ü)) ?_;have ne:À ≠ À+1:=zB3 (zE2 _);exact#[by rw[yw ne,yR],zD4 _,ne,e2,ë4,(Heap.Ns1.of_empty e3).at λ o q=>za1 _ q,λ _=>True.intro,λ y hy=>Į rfl hy]
def C2 {prog:î6}{w:World}ì7 ī{f:Str}ĉ ô3 ü4(hb:attributeBase e f env (eval e env)=eval e env)
  (h:æ ÿ (eval e env) (λ o s₁=>æ ÿ (getAttr o f true) Q E s₁) E s):æ ÿ (eval (ï7 e f pos) env) Ò4:=
 Attribute_any_ h (by rw[arm_eval_Attribute,hb])
end
def NI í (ta:TE) ü6:TE:=fun B H Q=>ta Ů λ x H1=>∃ a C dx fs v,x=í0/\H1 a=↑(Ó1)/\mw K C/\jv K C f/\ù7 f=↑v/\Q v H1
def MD í (ta tv:TE) ü6:TS:=λ D B H=>tv Ů λ y H1=>ta B H1 λ x H2=>∃ a C dx fs,x=í0/\H2 a=↑(Ó1)/\mw K C/\jv K C f/\ø2<1000/\
 D.nx B (upd H2 a (.ins C dx (pW f y fs)))
section
variable {ċ}{o e value:Expr}{f:Str}{pos pos':Pos}{ta tv:TE}
def Yx (he:PE X e ta) (hb:attributeBase e f Þ (ê8)=ê8):PE X (ï7 e f pos) (NI X.K ta f):=by
 ext Ö;exact C2 hb (zG (he Ê) λ u s1 #[x,H1,I1,rx,a,C,dx,fs,v,ex,ea,c,n,l,q]=>?_);subst ex;obtain rfl:u=Ë8 a:=rx;show F9 I1 ea c n l λ u' s2 I2 ru=>#[v,H1,I2,ru,q]
def LF (ha:PE X o ta) (hv:PE X value tv) (hs:swapsWith value ↑(ï7 o f pos') pos.line Þ=pure Ý):PS X (.Assign [ï7 o f pos'] value pos) (MD X.K ta tv f):=by
 ext ŷ;exact plainObj_wpAny_Assign_Attribute (zG (hv Ê) λ u s1 #[y,H1,I1,ry,q]=>zG (ha Ć _ I1 q) λ ov s2 #[x,H2,I2,rx,a,C,dx,fs,ex,ea,c,n,l,q2]=>?_) hs;subst ex;obtain rfl:ov=Ë8 a:=rx;show Ms I2 ea c n l ry λ s3 I3=>#[B,_,I3,q2]
end
structure y6 (k:Nat) (A:Around):Prop where
 hd:A.handled=none
 dp:A.depth+3*k+5<recursionLimit
 un:A.units+16*k+200<cLine
def y6.mono {j k:Nat}Ĥ(r:y6 k A) (h:j<=k):y6 j A:=#[r.hd,by have:=r.dp;lia,by have:=r.un;lia]
theorem y6.deeper Û0 Ĥ(r:y6 (k+1) A) (env:Env):y6 k (A.deeper env):=
 #[r.hd,by have:=r.dp;change A.depth+1+3*k+5<_;lia,by have:=r.un;change A.units+3+16*k+200<_;lia]
def IT Ĥ{C:Addr}Â0{kw:Î8}:(ė).depth=A.depth+1:=by
 first | rfl | simp[Around.under,Code.weight,Code.isCreation,Code.isGuard,Code.isCaller,Code.frames,Code.isFrame,guardIds]
def IP Ĥ{C:Addr}Â0{kw:Î8}:(ė).units=A.units+1:=by
 first | rfl | simp[Around.under,Code.cUnits,Code.frames,Code.isFrame]
def y6.make Û0 Ĥ(r:y6 (k+1) A) ã2 è2 (kw:Î8):y6 k (ė):=
 #[r.hd,by have:=r.dp;rw[IT];lia,by have:=r.un;rw[IP];lia]
theorem y6.depth Û0 Ĥ(r:y6 k A):A.depth<recursionLimit:=by have:=r.dp;lia
theorem y6.units Û0 Ĥ(r:y6 k A):A.units+64<cLine:=by have:=r.un;lia
def iK:TA:=λ _ H Q=>Q [] H
def fq (ta:TE) (tr:TA):TA:=fun B H Q=>ta Ů λ x H1=>tr B H1 λ xs H2=>Q (x::xs) H2
section
variable {ċ}{ī}{è6}{te:TE}{t:TA}{ĉ}
def kb:PA X [] iK:=λ _ _ _ _ H Q I h=>Calls.spliced_nil #[[],H,I,î3,h]
def kc (ha:PE X e te) (hr:PA X es t) (hs:AY X e es:=by rfl):PA X Ï8 (fq te t):=by
 intro pos gV s B H Q I h;rw[hs];change æ Ü (spliced ((Ý,ê8)::backTo pos (ø4))) Ü s;exact Calls.spliced_cons (zG æ5 λ u s1 Í=>?_);show zG (hr pos Þ4) λ us s2 #[xs,H2,I2,r2,q2]=>#[x::xs,H2,I2,À4 á2,q2]
def N0 (t:TA):TE:=fun B H Q=>t Ů λ xs H1=>Ø<=Û/\∀ p,H1 p=none->Q ù8 (upd H1 p ß5)
def ND (t:TA):TE:=fun B H Q=>t Ů λ xs H1=>Ø<=Û/\∀ p,H1 p=none->Q ù8 (upd H1 p É1)
def Kn {x1} (h:PA X es t):PE X (.Tuple es x1 pos) (N0 t):=by
 intro gV s B H Q I hq;exact wpAny_Tuple_spliced ź;have hf:H1 Ŕ=none:=Ô2;exact#[Ë Ŕ,upd H1 Ŕ ß5,Ö2,rfl,q _ hf];show#[#[z,.new _],us,r,#[_,Ç4,rfl,_,rfl]]
def Kw (h:PA X es t):PE X (.List es pos) (ND t):=by
 intro gV s B H Q I hq;exact wpAny_List_spliced ź;have hf:H1 Ŕ=none:=Ô2;exact#[Ë Ŕ,upd H1 Ŕ É1,Ö2,rfl,q _ hf];show#[z,us,0,r,Ç4]
end
abbrev Sp:=Ñ->Hp->VK->XK->Prop
abbrev mx:=Ö6->Hp->Ù->XK->Î->À7
structure iG Ń í Ñ3 õ:Prop where
 frames:A.frames=↑ Ő
 mod:Mod K mg base
 bs:∀ b o,base.get? b=↑o->Ê8/\Ň
 jn:base.objs.size<=À
 nV:Ý1 base Ő
 jV:∀ b∈nr Ő,Ň
 zH:xB P w H ġ
 bare:AllBare s.gens
def CE (Ő:Ö6) Ń Ē Ý7 Ñ4 (u:Î) ð8:Prop:=
 ∃ v H',s'.os=s.os/\ù0/\Un (nr Ő) [] H H' ġ æ4/\xB P w H' æ4/\À5/\Q v H'
def CR (CX:mx) (Ő:Ö6) Ń Ē Ý7 Ñ4 (E:XK) (r:Result) ð8:Prop:=
 match r with
 | .ok (.ret u)=>CE Ő P w H s Q u s'
 | .ok _=>č
 | .error e=>CX Ő H s E e s'
structure qY Ń í Ñ3 (CX:mx) (k:Nat) (f:Addr) (fd:FuncData) (ps:Ă) (sp:Sp):Prop where
 len:À9
 run:∀ õ (args:Args) è2 (vs:Ñ) Ñ4 (E:XK),y6 k A->iG ē É8->BindsTo s fd args ç1->â0->ù9->
  æ9 É2 A (.call Ë9 args) (CR CX Ő P w H s Q E) s
def iG.make ç Ľ Æ9 Ĥ{Ő:Ö6}ô3 Ġ(e:iG ē É8) ã2 è2 (kw:Î8):
  iG ē (ė) Ő s H:=#[by first | show e.frames | (simpa [Around.under,Code.envs,Code.isFrame,pushEnvs] using e.frames),e.mod,e.bs,e.jn,e.nV,e.jV,e.zH,e.bare]
section
variable {ċ}{ü3}{Ñ5}{Ġ}{s s':Ù}
def Inv.Rw ë:iG þ è1 X.A Á7 s H:=
 #[I.ok.frames,I.ok.mod,I.bs,A7 I.ok.jn I.sz,I.stack,I.VC,I.zH,ø8]
theorem Inv.after {Q:VK}ü0 ë (h:CE Á7 þ H s Q u s'):EP ä Q u s':=by
 let#[v,H',os,bare,un,zH,r,q]:=h;let#[hh,g,d,t,os']:=s';obtain rfl:os'=s.os:=os;show#[v,H',I.call (h':=hh) (g':=g) (d':=d) (t':=t) (ch:=[]) un zH bare (λ b z=>Į z #[]),r,q]
end
def cF ò4:TE:=fun B H Q=>t Ů λ vs H1=>sp à4 H1 Q E
def NC ã2 ò4:TE:=fun B H Q=>t Ů λ vs H1=>∀ x dx,H1 x=none->H1 dx=none->dx≠x->
 sp (Ë x::à4) (upd (upd H1 dx (.own x)) x (.ins C dx [])) õ4 E
def Binds í (fd:FuncData) (ps:Ă) (ds:AI):Prop:=
 ∀ Ý7 è2,K.In ġ->(us++ds).length=Ð6->BindsTo s fd #[us,[]] (ps.zip (us++ds))
def Binds.all Ľ Î0{ps:Ă}(h:∀ us:List Î,us.length=Ð6->bindArgs fd #[us,[]]=pure ç1):Binds K fd ps []:=λ s us _ hl=>by
 rw[zaB] at hl ⊢;show .of_eq (h us hl)
def Passes (CX:mx) ô (E:XK):Prop:=∀ Õ3 Ē Ý7 (e:Î) ð8,Á->CX Á7 H s E e s'->X.xe e s'
section
variable {ċ}{CX:mx}{Û0}{f C:Addr}{Î0}{ps:Ă}{sp:Sp}{dvs:Ñ}{ds:AI}{E:XK}{Ĭ}{p pos:Pos}{ī}{è6}{t:TA}
def cT Ç{Q:VK}Â0{vs:Ñ}Ļ (hr:y6 k X.A) ā
  ë (r:â0) (h:sp à4 H Q E):æ Â (call Ë9 us) ļ s:=by
 have r2:Vals à4 (us++ds):=r.append hd;have hl:(us++ds).length=Ð6:=by rw[<- r2.length];show F.len ä2 h
 exact wpAny_call (ñ7 (F.run X.A Á7 s H #[us,[]] (us++ds) à4 Q E hr I.Rw (hb s us I.rX hl) r2 h) λ r s' hq=>?_);cases r with
 | error e=>show hx gV Ů s e s' I hq
 | ok fl=>
  cases fl with
  | ret u=>show I.after hq
  | _=>show ŧ hq
def K5 Ļ (hr:y6 k X.A) è3 (hm:X.mg x=↑ Ë9) (hk:Ô4 X.K Ë9=true) ā
  á3 Ó9 À3:
  PE X Ç2 (cF sp dvs E t):=by
 ext ö3;exact PySem.W.callWith_K (h₀:=X.base) I.ok.mod.gi hk (zG (ha pos Ê) λ us s1 #[vs,H1,I1,r,q]=>#[I1.rX,?_]) he AV;show cT F hr hb hd hx I1 r q
structure Mk í (C f:Addr):Prop where
 makes:PySem.W.makesIn K C=true
 init:ó0
 fn:Ü1
 kp:Ô4 K à2=true
def MF Ç{Q:VK}Â0{vs:Ñ}(M:Mk X.K C f) Ļ (hr:y6 (k+1) X.A) ā ë (r:â0)
  (h:∀ x dx,H x=none->H dx=none->dx≠x->sp (Ë x::à4) (upd (upd H dx (.own x)) x (.ins C dx [])) õ4 E):
  æ Â (call à2 us) ļ s:=by
 have hq:=h Ð5 À (Ž (Nat.le_succ _)) (Ž Ŋ) (zB3 (zE2 _));have I2:=Inv.made (C:=C) I;have r2:Vals (V.ref Ð5::à4) (Ë8 Ð5::(us++ds)):=À4 rfl (r.append hd);have hl:(Ë8 Ð5::us++ds).length=Ð6:=by
  have e:=r2.length;rw[F.len ä2 hq] at e;show e.symm
 exact wpAny_call (IQ (f:=f) I.rX M.makes M.init (beq_iff_eq.mp M.fn) (ñ7 (F.run _ Á7 Ü #[Ë8 Ð5::us,[]] (Ë8 Ð5::(us++ds)) Ü E (hr.make C us [])
  (I2.Rw.make C us []) (hb _ (Ë8 Ð5::us) I2.rX hl) r2 hq) λ r s' hq'=>?_))
 cases r with
 | error e=>show hx gV B Ü e s' I2 hq'
 | ok fl=>
  cases fl with
  | ret u=>
   let#[v,H',I3,rv,ev,q3]:=I2.after hq';subst ev;show#[rv,#[V.ref Ð5,H',I3,rfl,q3]]
  | _=>show ŧ hq'
def Kv (M:Mk X.K C f) Ļ (hr:y6 (k+1) X.A) è3 (hm:X.mg x=↑ à2) ā
  Ó9:PE X (.Call (.Name x p) [] [] pos) (NC C sp dvs E iK):=by
 ext ö3;show PySem.W.callWith_K0 I.rX M.kp (MF (us:=[]) M F hr hb hd hx I î3 h)
end
structure pG (N P:Ă) (sc:Scope):Prop where
 kind:sc.kind=ê9
 co:sc.isCoroutine=Ý
 gen:sc.isGenerator=Ý
 nd:N.Nodup
 pre:N.take P.length=P
 par:∀ x∈P,ő=↑ ñ2\/ő=↑ Ò1
 Ih:∀ y∈sc.names,y.2≠ Û3
theorem QB Æ8 Ĭ:∀ {binds:Î8}{m:A0},(∀ v,(x,v)∉binds)->bindL kindOf binds m x=m x
 | [],_,_=>rfl
 | (n,v)::r,m,h=>by
  unfold bindL;rw[QB λ w hw=>h w (AX _ hw)];split
  .ext ý6
   simp[this]
  .rfl
theorem QD Æ8 Ĭ:∀ {binds:Î8}{m:A0},(∀ v,(x,v)∉binds)->bindC kindOf binds m x=m x
 | [],_,_=>rfl
 | (n,v)::r,m,h=>by
  unfold bindC;rw[QD λ w hw=>h w (AX _ hw)];split
  .rfl
  .ext ý6
   simp[this]
theorem QC Æ8 Ĭ{v:Î}:∀ {P:Ă}{vs:AI}É5{m:A0},P.Nodup->P[i]?=↑x->vs[i]?=↑v->kindOf x=↑ ñ2->
  bindL kindOf (P.zip vs) m x=↑v
 | [],_,_,_,_,h,_,_=>à3
 | _::_,[],_,_,_,_,h,_=>à3
 | p::P,w::vs,0,m,nd,h1,h2,hk=>by
  simp at h1 h2;subst h1;subst h2;change bindL Ã8 p=_;unfold bindL;rw[QB í2,Ī hk];simp
 | p::P,w::vs,i+1,m,nd,h1,h2,hk=>by
  change bindL Ã8 x=_;unfold bindL;show QC Ú3
theorem QE Æ8 Ĭ{v:Î}:∀ {P:Ă}{vs:AI}É5{m:A0},P.Nodup->P[i]?=↑x->vs[i]?=↑v->kindOf x≠↑ ñ2->
  bindC kindOf (P.zip vs) m x=↑v
 | [],_,_,_,_,h,_,_=>à3
 | _::_,[],_,_,_,_,h,_=>à3
 | p::P,w::vs,0,m,nd,h1,h2,hk=>by
  simp at h1 h2;subst h1;subst h2;change bindC Ã8 p=_;unfold bindC;rw[QD í2,ĕ hk];simp
 | p::P,w::vs,i+1,m,nd,h1,h2,hk=>by
  change bindC Ã8 x=_;unfold bindC;show QE Ú3
def start (N:Ă) (vs:Ñ):St:=vs.map some++å3 (N.length-à0) none
def wj (CX:mx) Ń í Ñ3 (N:Ă) (qual:Str) (ą:Scope) (f:Addr) (cd:Î) õ (E:XK):Cx where
 prog:=P
 w:=w
 K:=K
 mg:=mg
 base:=base
 A:=A.deeper (ĳ)
 N:=N
 s₀:=s
 H₀:=H
 env:=ĳ
 Ő:=Ő
 stack:=ĳ::Ő
 ex:=[]
 calm:=true
 fn:=λ _=>true
 pn:=[]
 xe:=λ e s'=>æ É2 (A.deeper (ĳ)) (leaving (ĳ) e) (λ _ s''=>CX Ő H s E e s'') (λ e' s''=>CX Ő H s E e' s'') s'
def Qp {sc:Scope}Ú2 Ĭ(h:ő=↑ Ò1):∃ c,(ë5 n sc.names []).lookup x=↑c:=by
 have q:=PySem.W.cellsFrom_some sc.names n [] (ă h);show zbU.mp q
def Ge {CX:mx}ç Ľ Æ9{N ps:Ă}{qual:Str}Ù9{f:Addr}{cd:Î}Ĥ{Ő:Ö6}{s s1:Ù}Ġ{E:XK}Â0{vs:Ñ}
  (S:pG N ps ą) (hd:A.handled=none) (e0:iG ē É8) (hl:à0=Ð6) (r:â0)
  (x:InCallC s À (bindL (ĳ).kindOf ç1 ë4) (ë5 Ð5 ĸ []) (bindC (ĳ).kindOf ç1 ë4) s1):
  Inv (ó2) [] Ó4 H s1:=by
 have AV:Ð6<=N.length:=by have:=õ3 List.length S.pre;rw[zbE] at this;lia
 let#[h1,tk,rfl,hk]:=x.done;have noA:∀ b:Addr,b∉(ó2).ex:=λ b z=>ý5;exact#[#[e0.mod,S.kind,rfl,rfl,AM _,λ y z c h1 h2=>?_,λ y hy=>?_,λ y c _ h=>?_,λ _=>hd,Around.frames_deeper e0.frames,Ř #[rfl,rfl],λ b z=>Į z (noA b),e0.bs,e0.jn,λ b _ _=>noA b,λ b z=>Į z (noA b),e0.nV,e0.jV],
  rfl,e0.bare,Un.kept hk,#[_,x.toInCall.ns,λ i y v h1 h2 h3=>?_],λ y c h=>#[_,x.cell y c h],e0.zH.fresh Ŋ,λ y c h=>?_,Ò6,e0.zH.kept hk,?_]
 .show name_of_addr x.apart (đ h1) (đ h2)
 .have hy:Ċ y=↑ Ò1\/Ċ y=↑ Û3:=hy;rcases hy with hy | hy
  .show Qp hy
  .show Į rfl (S.Ih _ (đ hy))
 .show zE3 (x.above y c (đ h))
 .have hi:i<à0:=by
   unfold start at h2;by_cases hi:i<à0
   .show hi
   .rw[zbF (by exists hi)] at h2;rw[zb4] at h2;split at h2 <;> cases h2
  have ha:vs[i]?=↑v:=by
   unfold start at h2;rw[zaS (by exists hi),A9] at h2;cases e:vs[i]? with
   | none=>rw[e] at h2;cases h2
   | some a=>rw[e] at h2;cases h2;rfl
  let#[u,hu,rv]:=r.get ha;have hp:ps[i]?=↑y:=by
   rw[<- S.pre,List.getElem?_take_of_lt ⋯];show h1
  have ndP:ps.Nodup:=by rw[<- S.pre];show S.nd.sublist (List.take_sublist Ü)
  exact#[u,rv,?_];rcases S.par y (zB7 hp) with k | k
  .show ă #[k,QC ndP hp hu k]
  .let#[c,e]:=Qp (n:=À+1) k;exact Ř #[ă k,c,e,?_];have q:=x.cell y c e;rw[QE ndP hp hu (by change Ċ y≠_;rw[k];decide)] at q;show q
 .show e0.zH.fresh (zE3 (x.above y c (đ h)))
 .unfold start;change _=N.length;rw[zD7,AQ,List.length_replicate];lia
def Ea {CX:mx}ç Ľ Æ9 Û0{f:Addr}{name qual:Str}{params:Arguments}{body:Ê4}Ù9{dV kV doc pm AF ct oc:Î}{an od:ù1}
  {osl:ë6}{N ps:Ă}{sp:Sp}(lk:â1 f=↑#[oc,od,.func Ë0,osl]) (hcd:Ï3) (S:pG N ps ą)
  (len:À9)
  (hbody:∀ õ (vs:Ñ) Ñ4 (E:XK),y6 k (A.deeper (envOfC qual ą À f AF))->ù9->
   ∃ t,qI Æ7 body t/\â2):
  qY ē CX (k+1) f Ë0 ps sp:=by
 exact#[len,λ A Ő s H args us vs Q E hr e0 hb r hsp=>?_];have hl:=len ä2 hsp;have KX:K.In ġ:=e0.mod.gi.keeps λ b o e=>(e0.bs ń).1;have lim:s.heap.NoLimit:=e0.mod.nolimit.keeps λ b o e=>(e0.bs ń).1;have hkind:∀ y∈ps.zip us,Ċ y.1=↑ ñ2\/(Ċ y.1=↑ Ò1/\((ë5 Ð5 ĸ []).lookup y.1).isSome=true):=λ#[n,v] hy=>by
  rcases S.par n (zbD hy).1 with q | q
  .show ă q
  .show Ř #[q,PySem.W.cellsFrom_some Ü _ (ă q)]
 exact codeAny_call_function hr.depth (KX Ü lk) rfl S.co S.gen rfl (PySem.W.codeRec_of KX hcd) (hb ä2 ?_);exact wpAny_newFunctionEnv_cells S.kind hkind λ env he s1 x=>?_;subst he;exact#[lim.keeps x.toInCall.keep,codeAny_func ?_];let#[t,ht,hq]:=hbody É8 vs Q E (hr.deeper _) hsp;have I:Inv Æ7 [] Ó4 H s1:=Ge S hr.hd e0 hl r x;exact zcS (ht [] s1 Ó4 H _ I hq) (λ fl s' hs=>?_) λ e s' hs=>hs;have fin:∀ {B':St}{H':Hp}Ó8,Inv Æ7 [] Õ4 s'->À5->Q v H'->CE Ő P w H s Q u s':=
  λ{B' H' v u} J rv q=>#[v,H',J.os,J.bare,J.base,J.zH,rv,q]
 cases fl with
 | ret u=>
  let#[v,B',H',J,rv,q]:=hs;show fin J rv q
 | next=>
  let#[B',H',J,q]:=hs;show fin (v:=V.zA) (u:=Value.none) J rfl q
 | brk=>
  let#[_,_,_,q]:=hs;show ŧ q
 | cont=>
  let#[_,_,_,q]:=hs;show ŧ q
section
variable {ċ}{Ĭ}{p pos:Pos}{ī}{è6}{t:TA}{id T:ö9}{r:Ý2}
def cG (r:Ý2) (t:TA):TE:=fun B H Q=>t Ů λ vs H1=>r vs H1 Q
def l_ (hc:xC X (À8 id) r) Ã2 (hv:É9=↑(À8 id)) á3 Á3 Ó9
  À3:PE X Ç2 (cG r t):=by
 ext é6;show PyProof.Rows.callWith_builtin1 Ã6
def jI (hc:xC X (ê6 T) r) Ã2 (hv:É9=↑(ê6 T)) á3 Á3 Ó9
  À3:PE X Ç2 (cG r t):=by
 ext é6;show Ð3 Ã6
end
end L2
namespace HT
open PySem Á4
def lexLt:Æ2->Æ2->Bool
 | [],[]=>Ý
 | [],_::_=>true
 | _::_,[]=>Ý
 | x::xs,y::ys=>í3
def kW (x y:Int) (xs ys:Æ2):lexLt (x::xs) (y::ys)=í3:=rfl
def Hf:lexLt [] []=Ý:=rfl
def Hg (y:Int) (ys:Æ2):lexLt [] (y::ys)=true:=rfl
def Hh (x:Int) (xs:Æ2):lexLt (x::xs) []=Ý:=rfl
def ED Ò5:∃ e,SeqAt.EqAt A s ü7 e/\(e=true↔a=c):=
 #[(a == c),SeqAt.EqAt.int_int a t c u,#[]]
def La Ò5 Ç0 ý4 (Q:AH) (h:Q (ù2 (ŉ (a<c))) s):
  æ ÿ (richCompare .Lt ü7) Ò4:=
 (PyProof.Rows.lt_int h:æ ÿ (Ä7 .Lt ü7) Ò4)
section
open PySem.SeqAt
open PySem.AutoSeq1 (ú0)
open PySem.MeetsSeq PySem.MeetsSeq2 PySem.MeetsSeq3
def Nf (l b:Addr) (items items2:A1) (n n2:Nat) (dd dd2:ù1) (sl sl2:ë6) (ns ms:Æ2) Ë6:
  Meets (Builtin.«tuple.__lt__» #[[Ë l,Ë b],[]])
   (λ _ R s=>å l=↑{ cls:=ż,dict:=dd,data:=.seq items n,slots:=sl }/\å b=↑{ cls:=ż,dict:=dd2,data:=.seq items2 n2,slots:=sl2 }/\
    R (.ok (.ret à5)) s):=
 .of_wp λ prog w A R s h=>by
  let#[hp,g,d,tk,os]:=s;let#[hl,hb,h]:=h
  have f2:=AutoSeq1.sub_tuple_tuple;have z1:Õ=Ø4:=by rw[<- hi.length];simp
  have z2:items2.size=ms.length:=by rw[<- hj.length];simp
  wp_walk using ú0 hl,ú0 hb,wpAny_forIn_list _ (λ rest b s'=>b.1=none/\s'=Ç8/\∃ (vs ws:AI) (ns' ms':Æ2),rest=vs.zip ws/\
   Ô5 vs ns'/\Ô5 ws ms'/\ns'.length+items2.size=ms'.length+Õ/\R (.ok (.ret (ù2 (lexLt ns' ms')))) Ç8) _
  case turn=>
   rintro⟨y,x⟩ rest b s' ⟨hb',rfl,vs,ws,ns',ms',hz,hvi,hwi,hlen,hR⟩;cases hvi with
   | nil=>rw[List.zip_nil_left] at hz;cases hz
   | cons a t hvi'=>
    cases hwi with
    | nil=>rw[List.zip_nil_right] at hz;cases hz
    | cons c u hwi'=>
     rw[zbV] at hz
     injection hz with hyx hrest
     injection hyx with hy hx
     subst hy hx;rw[kW] at hR;simp![zC0] at hlen;let#[e,he,hiff]:=ED A.in1 Ç8 a t c u;exact za0 (he prog w Ü ?_);cases e with
     | true=>
      rw[Ī (hiff.mp rfl)] at hR
      wp_walk
      show#[rfl,rfl,_,_,_,_,hrest,hvi',hwi',⋯,hR]
     | Ý=>
      rw[ĕ (λ q=>Į (hiff.mpr q) za6)] at hR;have hri:=La A.in1 Ç8 a t c u prog w
      wp_walk using hri
      show#[_,rfl,by exists hR]
  case fin=>
   rintro⟨b1,b2⟩ s' ⟨hb',rfl,vs,ws,ns',ms',hz,hvi,hwi,hlen,hR⟩;simp only at hb';subst hb';have hv:lexLt ns' ms'=ŉ (Õ<items2.size):=by
    cases hvi with
    | nil=>
     cases hwi with
     | nil=>
      simp![zaG] at hlen;rw[Hf];show (zcQ ⋯).symm
     | cons c u hw=>
      simp![zaG,zC0] at hlen;rw[Hg];show (za3 ⋯).symm
    | cons a t hv=>
     cases hwi with
     | nil=>
      simp![zaG,zC0] at hlen;rw[Hh];show (zcQ ⋯).symm
     | cons c u hw=>
      rw[zbV] at hz;cases hz
   rw[hv] at hR
   wp_walk
   show#[_,rfl,by simpa [Builtin.Tuple.tupleCompareSizes] using hR]
  case h=>
   show#[rfl,rfl,items.toList,items2.toList,ns,ms,rfl,hi,hj,⋯,h]
end
section
variable {prog:î6}{w:World}{Ĥ}{Ü7}
def IY {l b:Addr}{items items2:A1}{ns ms:Æ2}ü4(hl:IsTup ġ l items) (hb:IsTup ġ b items2) Ë6
  (hu:A.units<cLine) (h:Q à5 s):æ ÿ (Ä7 .Lt (Ë l) (Ë b)) Ò4:=by
 let#[#[cls,dd,data,sl],ho,hc,n,hd]:=id hl;ext Ŧ;show richCompare_meets_room (op:=.Lt) ö4 PySem.F.slot_tuple_lt PySem.F.entry_tuple_lt (PySem.F.args_tuple_lt_2 Ü) (Nf l b items items2 n n2 dd dd2 sl sl2 ns ms hi hj)
  #[ho,ho2,show Value.bool (lexLt ns ms)≠Value.notImplemented/\Q à5 s from #[(λ x=>nomatch x),h]] hu
def DJ {t b:Addr}{vs ws:AI}ü4(ht:IsTup ġ t Á8) (hb:IsTup ġ b ws.toArray) (hv:vs≠[])
  (h1:ws=[]->Q (Ë t) s) (h2:ws≠[]->Q (Ë À) { s with heap:=É4 { cls:=ż,data:=.seq (vs++ws).toArray } })
  (hsz:à0+ws.length<=Û):æ ÿ (Ç7 .Add (Ë t) (Ë b)) Ò4:=by
 let#[#[cls,dd,data,sl],ho,hc,n,hd]:=id ht;ext Ŧ;have e:Á8++ws.toArray=(vs++ws).toArray:=#[];by_cases hw:ws=[]
 .show concat_meets Ħ
   (tuple_addW1 t b Ý4 (by simp[hw])) #[ho,ho2,h1 hw]
 .exact concat_meets Ħ
   (tuple_addW2 t b Ý4 (by exists hw) (by rw[A6,A6];show hsz)) #[ho,ho2,?_]
  rw[e];show h2 hw
def yh (n d:Nat):Ś->Nat
 | none=>d
 | some v=>Á2
def MC (n d:Nat) (hd:d<=n) (o:Ś):yh n d o<=n:=by
 cases o with
 | none=>show hd
 | some v=>
  change (Á2)<=n;by_cases hv:v<0
  .rw[Ī hv];lia
  .rw[ĕ hv];show Nat.min_le_right Ü
def Qh (v:Int) (n d:Nat):ä0=((yh n d ↑v:Nat):Int):=by
 change ä0=(((Á2):Nat):Int)
 by_cases hv:v<0
 .simp![Ī hv];lia
 .simp![ĕ hv];lia
theorem CL ã3 Ö8:Ô6 Õ1 1 Ì8=(Ì2,((yh n n hi:Nat):Int)):=by
 have h1:¬ (ú1<0):=⋯;unfold Ô6;simp![h1,if_false];exact Prod.ext ?_ ?_
 .cases lo with
  | none=>rfl
  | some v=>show Qh v n 0
 .cases hi with
  | none=>rfl
  | some v=>show Qh v n n
theorem LO (i j:Nat):Ä8 (i:Int) (j:Int) 1=j-i:=by
 unfold Ä8;have h1:ú1>0:=⋯;simp![h1,if_true,Int.ediv_one];split <;> lia
def VP {v:Î}{o:Ś}{Q:Ś->À7}(p:IsPart v o) (h:Q o s):æ ÿ (Builtin.Slice.slicePartIndex v) Ò4:=by
 cases p with
 | none=>show slicePart_none h
 | int i t=>show slicePart_int h
def VQ {sl:Addr}{vl vu:Î}{lo hi:Ś}Ú2{Q:Int×Int×Nat->À7}Ê5
  (h:Q (Ì2,1,yh n n hi-yh n 0 lo) s):æ ÿ (Builtin.Slice.sliceApplied (Ë sl) (pure Ì8)) Ò4:=by
 let#[os,hos,hcs,hds]:=id hs;unfold Builtin.Slice.sliceApplied Builtin.Slice.sliceFields;exact za0 (za0 (zcR hos hds (x:=vl) rfl (za0 (zcR hos hds (x:=vu) rfl (za0 (zcR hos hds (x:=æ2) rfl (AE ?_)))))));exact za0 (slicePart_none ?_);change æ Ü (if (ú1 == 0)=true then _ else _) Ü s;rw[ĕ ()];exact za0 (VP pl (za0 (VP pu (za0 (AE ?_)))));change æ Ü (match Ô6 Õ1 1 Ì8 with | (lo,hi)=>pure (lo,ú1,Ä8 Õ1 1)) Ü s;rw[CL Õ1 n];change æ Ü (pure (Ì2,ú1,Ä8 Ì2 ((yh n n hi:Nat):Int) 1)) Ü s;rw[LO];show AE h
theorem LQ (xs:A1) (i k:Nat):((Î2 k).filterMap λ(m:Nat)=>xs[Ô7]?).toArray=((xs.toList.drop i).take k).toArray:=by
 have e:(λ(m:Nat)=>xs[Ô7]?)=λ m=>xs[i+m]?:=by
  funext m;have:Ô7=i+m:=⋯;rw[this]
 rw[e];have:=pick_run xs i k;rw[List.filterMap_map] at this;have e2:((λ x=>xs[x]?) ∘ λ x=>i+x)=λ m=>xs[i+m]?:=rfl;rw[e2] at this;rw[this]
def FC {t sl:Addr}{items:A1}{vl vu:Î}{lo hi:Ś}ü4(ht:IsTup ġ t items) Ê5
  (hw:¬ (Ø5=0/\ç2=Õ))
  (h:Q (Ë À) { s with heap:=É4 { cls:=ż,data:=.seq (Ĵ).toArray } })
  (hsz:Õ<=Û):æ ÿ (getItem (Ë t) (Ë sl)) Ò4:=by
 have htake:sizeOk (.seq (Ĵ).toArray):=by
  change (Ĵ).toArray.size<=Û;rw[A6,zbE,zaK,zD2];lia
 have hj:ç2<=Õ:=MC Ü Ŋ hi;let#[os,hos,hcs,hds]:=id hs;have hTs:s.TypeIs (Ë sl) "slice":=#[os,hos,hcs];unfold getItem
 try with_reducible exact zcT ?_
 first | exact za0 (AE ?_) | skip
 exact za0 (wpAny_sequenceKey ht.typeIs () ?_);exact za0 (zcZ (name:=Str.ofString "__getitem__") ht.typeIs ï8
  (zcU ï8 ht.typeIs entry_tuple_getitem ?_ (args_tuple_getitem Ü)))
 change æ Ü (Builtin.Tuple.tupleItemsOf (Ë t) >>= _) Ü s;exact za0 (tupleItemsOf_ ht ?_);exact za0 (zd0 hTs ?_);rw[Ī ()];exact za0 (VQ hs pl pu ?_);have hno:¬ (Æ3):=by
  intro q;rw[zE5,zE5] at q;have q1:((Ø5:Nat):Int)=0:=eq_of_beq q.1.1;have q2:ç2-Ø5=Õ:=eq_of_beq q.2;show hw #[⋯,⋯]
 change æ Ü (if Æ3 then _ else _) Ü s;rw[ĕ hno,LQ]
 first
  | show õ5
  | show za0 (m:=Ä1) (zcW (za0 (AE È5)) htake)
  | show za0 (za0 (m:=Ä1) (zcW (AE È5) htake))
  | show za0 (õ5)
end
end HT
namespace L2
open PySem Ö9 Á4
abbrev TO:=St->Hp->(Ś->Ó)->Prop
def PO ô (e:Ú Expr) (t:TO):Prop:=
 ∀ Ã (Q:Ś->Ó),Á->t Ŵ->
  æ Â (evalPart e Þ) (λ u s'=>∃ o H',Ì1/\IsPart u o/\Q o H') X.xe s
def NA:TO:=λ _ H Q=>Q none H
def N5 (t:TE):TO:=fun B H Q=>t Ů λ x H1=>∃ i,x=ò5/\Q ↑i H1
def intsAre_of {ns:Æ2}:∀ Â0,Vals Á0 us->Ô5 us ns:=by
 induction ns with
 | nil=>intro us r;rw[za4] at r;cases r;show î3
 | cons n ns ih=>
  intro us r;rw[AR] at r;cases r with
  | cons r1 r2=>
   let#[t,e]:=r1;subst e;show À4 n t (ih r2)
section
variable {ċ}{ī}{te:TE}{lo hi:Ú Expr}{tl th:TO}{pos p2:Pos}
def LM:PO X none NA:=by
 ext Ö;rw[evalPart_none];show AE #[none,H,I,æ2,h]
def LL (h:PE X e te):PO X ↑e (N5 te):=by
 intro gV s B H Q I hw;rw[evalPart_some];exact zG (h É _ I hw) λ u s1 Í=>?_;let#[i,rfl,q]:=q1;let#[t,rfl]:=r1;show#[↑i,H1,I1,ì i t,q]
def kC ô (r:Í8):Prop:=
 ∀ Ã (x:V) (v vl vu:Î) ã3 (sl:Addr) Ñ4,Á->ã6->ó3->IsPart vl lo->IsPart vu hi->r x Õ1 H Q->
  ∃ T id,typeLookup (ê6 T) "__getitem__"=pure ↑(À8 id)/\s.TypeIs v T/\æ Â (getItem v (Ë sl)) ļ s
def kC.or {r r':Í8}(h:kC X r) (h':kC X r'):kC X (λ x lo hi H Q=>r x Õ1 H Q\/r' x Õ1 H Q):=by
 intro gV s B H x v vl vu lo hi sl Q I rx hs pl pu q;ext ô4
 .show h É x v vl vu Õ1 sl Q I rx hs pl pu q
 .show h' É x v vl vu Õ1 sl Q I rx hs pl pu q
def N1 (r:Í8) (te:TE) (tl th:TO):TE:=fun B H Q=>te Ů λ x H1=>tl B H1 λ l H2=>th B H2 λ u H3=>r x l u H3 Q
theorem Kp {r:Í8}(hr:kC X r) Õ6 (hl:PO X lo tl) (hu:PO X hi th):PE X (ï2 e (.Slice Õ1 none p2) pos) (N1 r te tl th):=by
 ext Ö;exact Subscript_ (zG (he Ê) λ v s1 Í=>?_);exact wpAny_Slice (zG (hl Þ4) λ vl s2 #[l,H2,I2,pl,q2]=>zG (hu gV s2 B H2 _ I2 q2) λ vu s3 #[u,H3,I3,pu,q3]=>?_);rw[evalPart_none];exact AE ?_;have I4:Inv ä H3 { s3 with heap:=Ę }:=I3.kept (t':=s3.toks) Ø6;let#[T,id,hT,ht,hg]:=hr gV { s3 with heap:=Ę } B H3 x v vl vu l u ï9 Q I4 r1 (Heap.IsSliceOf.new ..) pl pu q3;change æ Â (subscriptTail e (.Slice Õ1 none p2) v (Ë ï9)) ļ { s3 with heap:=Ę };show tail_any (ops:=[Ë ï9,v]) ht hT hg (by with_unfolding_all rfl)
def lA è0 ã3:Ñ:=(xs.drop (Ç9)).take (HT.yh Ø Ø hi-Ç9)
def Qb è0 ã3:(ú2).length<=Ø:=by
 unfold lA;rw[zbE,zaK];lia
def Uu í:Í8:=λ x lo hi H Q=>∃ a xs,x=í0/\yz ű/\
 ¬ (Ç9=0/\HT.yh Ø Ø hi=Ø)/\∀ p,H p=none->Q ù8 (upd H p (.tup (ú2)))
theorem Mm:kC X (Uu X.K):=by
 ext Ü8;let#[a,xs,rfl,hx,hw,q]:=h;cases rx;let#[its,r,ht,hz]:=Û6 hx;have hlen:ť=Ø:=by rw[A6];show r.length.symm
 exact#["tuple",_,PyProof.Rows.slot_tuple_getitem.lookup,ht.typeIs,?_];exact HT.FC ht hs pl pu (by rw[hlen];show hw) ?_ (by rw[hlen];show hz);rw[hlen];exact#[Ë À,_,I.laid (t':=ř) (o:=.tup (ú2)) (Ø6) Ŋ ?_,rfl,q _ (Ž Ŋ)];show#[#[A7 (Qb xs Õ1) hz,.new _],_,Þ9,IsTup.new Ü]
def Yn í:R2:=λ x y H Q=>∃ a b ns ms,x=í0/\y=Ë b/\yz ę a Á0/\yz ę b (ms.map V.int)/\Q (.bl (HT.lexLt ns ms)) H
def Js (hu:X.A.units<cLine):yO X (Ä7 .Lt) (Yn X.K):=by
 ext ý;let#[a,b,ns,ms,rfl,rfl,ha,hb,q]:=h;ext Â9;have i1:Ô5 its.toArray.toList ns:=intsAre_of r1;have i2:Ô5 its2.toArray.toList ms:=intsAre_of r2;show HT.IY p1 p2 i1 i2 hu #[.bl (HT.lexLt ns ms),H,I,rfl,q]
def U6 í:R2:=λ x y H Q=>∃ a b xs ys,x=í0/\y=Ë b/\yz ű/\yz ę b ys/\xs≠[]/\Ø+Ð7<=Û/\
 (ys=[]->Q (í0) H)/\(ys≠[]->∀ p,H p=none->Q ù8 (upd H p (.tup (xs++ys))))
def Vals.fT ĵ Â0(r:Á5):us=[]↔xs=[]:=by
 cases r with
 | _=>simp
theorem Jy:yO X (Ç7 .Add) (U6 X.K):=by
 ext ý;let#[a,b,xs,ys,rfl,rfl,ha,hb,hx,hz,q1,q2]:=h;ext Â9;exact HT.DJ p1 p2 (λ z=>hx (r1.fT.mp z)) (λ z=>#[í0,H,I,rfl,q1 (r2.fT.mp z)]) ú3 (by rw[<- r1.length,<- r2.length];show hz);exact#[Ë À,_,I.laid (t':=ř) (o:=.tup (xs++ys)) (Ø6) Ŋ ?_,rfl,q2 (λ w=>z (r2.fT.mpr w)) _ (Ž Ŋ)];show#[#[by rw[zD7];show hz,.new _],_,r1.append r2,IsTup.new Ü]
end
def qc Ö8 û9:Ú Nat:=if 0<=i then (if i<n then ↑i.toNat else none) else if -Ì8<=i then ↑(i+n).toNat else none
def yt {α:Type}(xs:List α) û9:Ú α:=(qc Ø i).bind λ j=>xs[j]?
theorem Sh Ú2{i:Int}{j:Nat}(h:qc n i=↑j):seqIndex? i n=↑j/\j<n/\-Ì8<=i/\i<n:=by
 unfold qc at h;by_cases h0:0<=i
 .rw[Ī h0] at h;by_cases h1:i<n
  .rw[Ī h1] at h;have e:i.toNat=j:=zD5 h;show#[by rw[seqIndex_of h0 h1,e],⋯,⋯,h1]
  .rw[ĕ h1] at h;cases h
 .rw[ĕ h0] at h;by_cases h1:-Ì8<=i
  .rw[Ī h1] at h;have e:(i+n).toNat=j:=zD5 h;show#[by rw[seqIndex_neg ⋯ h1,e],⋯,h1,⋯]
  .rw[ĕ h1] at h;cases h
def X_ {α:Type}{xs:List α}{i:Int}{v:α}(h:yt xs i=↑v):∃ j,seqIndex? i Ø=↑j/\xs[j]?=↑v/\j<Ø/\-(Ø:Int)<=i/\i<Ø:=by
 unfold yt at h;cases e:qc Ø i with
 | none=>rw[e] at h;cases h
 | some j=>
  rw[e] at h;let#[h1,h2,h3,h4]:=Sh e;show#[j,h1,h,h2,h3,h4]
def Pc (b:Expr):Prop:=∀ o i,subscripted b Ý o i=operate [o,i] (getItem o i)
def kD ô (r:R2):Prop:=
 ∀ (value slice:Expr) Ã (x y:V) (v u:Î) Ñ4,Á->ã6->RelV y u->r è7->
  subscripted slice Ý v u=operate [v,u] (getItem v u)->æ Â (subscriptTail value slice v u) ļ s
def lI ô (id:ö9) (r:V->Ý2):Prop:=
 ĥ
section
variable {ċ}{Î5}{ta tb:TE}{ĉ}
def kD.or {r r':R2}(h:kD X r) (h':kD X r'):kD X é3:=by
 intro value slice gV s B H x y v u Q I rx ry q hs;ext ô4
 .show h value slice Ñ8 q hs
 .show h' value slice Ñ8 q hs
def Ky {r:R2}(hr:kD X r) ù (hs:Pc b):PE X (ï2 a b pos) (fk r À2):=by
 ext Ö;show Subscript_ (XU ha hb I h λ v u s2 x y H2 I2 rx ry q=>hr a b Å9 u Q I2 rx ry q (hs Ü))
def Uz í:R2:=λ x y H Q=>∃ p xs i v,x=Ë p/\y=ò5/\y4 ę p xs/\yt xs i=↑v/\Q v H
def Ux í:R2:=λ x y H Q=>∃ p xs i v,x=Ë p/\y=ò5/\yz ę p xs/\yt xs i=↑v/\Q v H
def Uy:R2:=λ x y H Q=>∃ z i c,x=.str z/\y=ò5/\â3<=Û/\yt z.cps.toList i=↑c/\Q (ç3) H
theorem HS:kD X (Uz X.K):=by
 ext Ŝ;let#[its,r,pl,hz]:=ë2;ext ĩ;by_cases h0:0<=i
 .have hj:i.toNat=j:=by
   rw[seqIndex_of h0 h5] at h1;show zD5 h1
  show item_listR Ð4 h0 ⋯ (by rw[hj];exists ew) fin hs
 .have hj:(i+(ť:Int)).toNat=j:=by
   rw[seqIndex_neg ⋯ h4] at h1;rw[A6,<- hl];show zD5 h1
  show subscriptTail_builtinR (x:=w) pl.isList.typeIs slot_list_getitem.lookup
   (wpAny_getItem_list_neg (Q:=λ r s'=>r=w/\EP ä Q r s') Ð4 ⋯ (by rw[A6] <;> lia) ⋯ (by rw[hj];exists ew) #[rfl,fin]) hs
theorem HP:kD X (Ux X.K):=by
 ext Ŝ;let#[its,r,pl,hz]:=Û6 hq;ext ĩ;show subscriptTail_builtinR (x:=w) pl.typeIs slot_tuple_getitem.lookup
  (getItem_tuple (j:=j) (Q:=λ r s'=>r=w/\EP ä Q r s') pl ⋯ ⋯ (by rw[A6,<- hl];show h1) (by exists ew) #[rfl,fin]) hs
theorem HQ:kD X Uy:=by
 ext Þ6;let#[z,i,c,rfl,rfl,hz,he,q]:=h;ext ĺ;ext í8;have hl:z.cps.toList.length=â3:=by simp[Str.length]
 rw[hl] at h1 h4 h5;have hn:=jQ;show tail_any (typeIs_str s z t) slot_str_getitem.lookup (getItem_str (c:=c) (by
  have e1:ŉ (i < -(2 ^ 63:Int))=Ý:=zcQ ⋯;have e2:ŉ (i≥2 ^ 63)=Ý:=zcQ ⋯;rw[e1,e2,Bool.or_false]) (by rw[h1];exists h2) #[ç3,H,Ë1,ž,q]) hs
def U0 í:R2:=λ x y H Q=>Uz K è7\/Ux K è7\/Uy è7
def HR:kD X (U0 X.K):=HS.or (HP.or HQ)
def IM (its:AI) (n j:Nat) (u:Î):ð0 (·.setIfInBounds j u) { cls:=ê,data:=ß4 }={ cls:=ê,data:=.seq (its.set j u).toArray n }:=by
 simp[ð0]
theorem Inv.lst Ç Ü9 ĵ ë (h:H p=↑ É1):
  ∃ (its:AI) (n:Nat),Ï6/\ó4/\Ø<=Û:=by
 let#[z,its,n,r,e]:=I.zH p _ h;show#[its,n,r,e,z]
def Inv.IZ Ç Ü9 â8{its its':AI}{n n':Nat}{f:Obj->Obj}ë (h:H p=↑ É1)
  (ho:ó4) (hf:f { cls:=ê,data:=ß4 }={ cls:=ê,data:=.seq its'.toArray n' }) (r:Vals ys its') (hz:Ð7<=Û) (t:Nat):
  Inv ä (upd H p (ō ys)) { s with heap:=ë7 p f,toks:=t }:=by
 have e:(ë7 p f).get? p=↑{ cls:=ê,data:=.seq its'.toArray n' }:=by
  rw[zd2 f ho (by rw[hf] <;> rfl),hf]
 exact I.write (x:=p) (e:=p) (by rw[h];trivial) Û2 (λ b u hb q=>(zdA Ü (Ne.symm hb)).trans q) #[_,e] ?_;show#[hz,its',n',r,e]
def Ld:V->V->V->Hp->(Ó)->Prop:=λ o i v H Q=>∃ p xs k j,o=Ë p/\i=ì k/\H p=↑ É1/\qc Ø k=↑j/\Q ú4
theorem set_list:Pd X Ld:=by
 intro gV s B H o i v ov iv u Q I ro ri rv h;let#[p,xs,k,j,rfl,rfl,hp,hj,q]:=h;cases ro;let#[t,rfl]:=ri;let#[its,n,r,ho,hz]:=I.lst hp;let#[h1,h2,h3,h4]:=Sh hj;have hl:=Ê0;have hn:=jQ;have I':Inv ä ú4 { s with heap:=ë7 p (ð0 (·.setIfInBounds j u)) }:=
  I.IZ hp ho (IM its n j u) (r.set rv j) (by rw[zbG];show hz) ř
 by_cases h0:0<=k
 .have hk:k.toNat=j:=by
   rw[seqIndex_of h0 h4] at h1;show zD5 h1
  show PySem.W.ki_setAt ho h0 ⋯ (by rw[A6,<- hl];show h4) û1
 .have hk:(k+(ť:Int)).toNat=j:=by
   rw[seqIndex_neg ⋯ h3] at h1;rw[A6,<- hl];show zD5 h1
  show PySem.W.ki_setBack ho ⋯ (by rw[A6,<- hl];show h3) ⋯ û1
def Mi ã3 Ö8:(Ü2 Õ1 none n).1=((HT.yh n 0 lo:Nat):Int)/\(Ü2 Õ1 none n).2.1=((HT.yh n n hi:Nat):Int)/\(Ü2 Õ1 none n).2.2=1:=by
 exact#[?_,?_,rfl]
 .cases lo with
  | none=>simp[Ü2,HT.yh]
  | some i=>
   ext Â3
   .simp![h,if_true] <;> lia
   .simp![h,if_false] <;> lia
 .cases hi with
  | none=>simp[Ü2,HT.yh]
  | some i=>
   ext Â3
   .simp![h,if_true] <;> lia
   .simp![h,if_false] <;> lia
def Mj (its:AI) ã3:slicePick ø Õ1 none=((its.drop (HT.yh â4 0 lo)).take (HT.yh â4 â4 hi-HT.yh â4 0 lo)).toArray:=by
 let#[h1,h2,h3]:=Mi Õ1 ť;unfold slicePick;rw[h1,h2,h3];simp![sliceRange_one,pick_run,A6] <;> rfl
def Uw í:Í8:=λ x lo hi H Q=>∃ a xs,x=í0/\y4 ű/\∀ p,H p=none->Q ù8 (upd H p (ō (ú2)))
theorem Mo:kC X (Uw X.K):=by
 ext Ü8;let#[a,xs,rfl,hx,q]:=h;cases rx;let#[its,r,ht,hz]:=I.list hx;have hlen:=Ê0;exact#["list",_,slot_list_getitem.lookup,ht.isList.typeIs,?_];exact wpAny_getItem_list_slice ht.isList hs pl pu æ2 #[] ?_ (by rw[A6] <;> lia);rw[Mj,<- hlen];exact#[Ë À,_,I.laid (t':=ř) (o:=ō (ú2)) (Ø6) Ŋ ?_,rfl,q _ (Ž Ŋ)];show#[A7 (Qb xs Õ1) hz,_,0,Þ9,Ç4]
theorem Ca:xC X (À8 "len") (λ xs H Q=>∃ p ys,Ø7/\(y4 é7\/yz é7)/\Q (ì Ð7) H):=by
 ext Ç1;have hn:=jQ;rcases hq with hq | hq
 .ext Ŭ;show Calls.call_len_list Ð4 Æ1
 .ext Ë7;have hlen:=r'.length;show len_tuple pl Æ1
theorem D_:xC X (À8 "len") (λ xs H Q=>Ò3):=by
 ext Ĝ;let#[z,rfl,hz,q]:=h;let#[u,rfl,t,rfl]:=vals1 r;have hn:=jQ;show len_str ⋯ #[ì â3,H,Ë1,ž,q]
def xC.or {f:Î}{r r':Ý2}(h:xC X f r) (h':xC X f r'):xC X f (λ xs H Q=>r xs H Q\/r' xs H Q):=by
 intro gV s B H xs us Q I rs q;ext ô4
 .show h É xs us Q I rs q
 .show h' É xs us Q I rs q
theorem DY:xC X (ê) (λ xs H Q=>∃ p ys,Ø7/\(y4 é7\/yz é7)/\Þ2):=by
 ext Ç1;have fin:∀ (its:AI),Vals ys its->Ð7<=Û->∀ (h':Heap) (c':Nat),(∀ b o',å b=↑o'->Ū b=↑o')->
   Ū À=↑{ cls:=ê,dict:=none,data:=.seq ø c',slots:=Ŗ }->EP ä Q (Ë À) { s with heap:=h' }:=λ its r' hz h' c' kp e=>
  #[Ë À,_,I.laid (t':=ř) kp Ŋ (show xS þ _ h' _ (ō ys) from #[hz,its,c',r',e]),rfl,q _ (Ž Ŋ)]
 rcases hq with hq | hq
 .ext Ŭ;let#[o,ho,hc,n,hd]:=Ð4;show call_list_seq p Û2 Ï0
 .ext Ë7;have hlen:=r'.length;let#[o,ho,hc,n,hd]:=pl;show call_list_seq p (Ř rfl) Ï0
theorem DL:xC X (ż) (λ xs H Q=>∃ p ys,Ø7/\((y4 é7/\Ü3)\/(yz é7/\Q ù8 H))):=by
 ext Ĝ;let#[p,ys,rfl,h]:=h;ext ö5;rcases h with ⟨hq,q⟩ | ⟨hq,q⟩
 .ext Ŭ;exact call_tuple_list Ð4 (λ h' kp=>?_) ã5;have I1:Ö7:=I.kept (t':=ř) kp;have I2:Inv ä (upd H h'.objs.size (.tup ys)) { s with heap:=h'.push { cls:=ż,data:=.seq ø } }:=
   I1.laid (t':=ř) (ò9) Ŋ (show xS þ Ü _ (.tup ys) from #[#[hz,.new _],its,r',IsTup.new Ü])
  show#[Ë h'.objs.size,_,I2,rfl,q _ (Ô2)]
 .ext Ë7;show call_tuple_same pl #[Ë p,H,I,rfl,q]
def Vz í (T:ö9) (x:V) Ē:Prop:=match x with
 | .str _=>T="str"
 | ì _=>T="int"
 | Ë p=>(T="list"/\∃ xs,y4 ę p xs)\/(T="tuple"/\∃ o,â1 p=↑o/\o.cls=ż/\ø1)\/
   (T="dict"/\((∃ Az,H p=↑(.dK Az))\/∃ Az,H p=↑(.dT Az)))\/(T="set"/\∃ S n,H p=↑(.set S n))
 | _=>č
def Z4 Ç{T:ö9}{x:V}{v:Î}ë (r:ã6) (ty:Vz X.K T x H):
  s.TypeIs v T/\∀ a,v=í0->∃ ob,å a=↑ob/\ob.dict=none:=by
 cases x with
 | str z=>
  ext å5;cases (show T="str" from ty);show#[typeIs_str s z t,λ _ e=>nomatch e]
 | int i=>
  ext å5;cases (show T="int" from ty);show#[typeIs_int s i t,λ _ e=>nomatch e]
 | ref p=>
  cases r;rcases ty with ⟨rfl,xs,hq⟩ | ⟨rfl,o,hk,hc,hd⟩ | ⟨rfl,hk⟩ | ⟨rfl,S,n,hk⟩
  .let#[its,_,pl,_]:=ë2;exact#[pl.isList.typeIs,λ a e=>?_];cases e;let#[o,n,e,c,hd,_]:=pl;show#[o,e,hd]
  .exact#[#[o,I.rX p o hk,hc],λ a e=>?_];cases e;show#[o,I.rX _ o hk,hd]
  .have z:∃ o,å p=↑o/\o.ExactDict:=by
    rcases hk with ⟨Az,hk⟩ | ⟨Az,hk⟩
    .ext Ñ9;show#[o,e,ex]
    .ext Ñ9;show#[o,e,ex]
   let#[o,e,ex]:=z;ext Ý6
  .let#[o,_,_,_,e,ex,_]:=I.zH p _ hk;ext Ý6
 | _=>show ŧ ty
def jF í (T:ö9) (r:V->Ý2) (to:TE) (t:TA):TE:=fun B H Q=>to Ů λ x H1=>Vz K T x H1/\t B H1 λ xs H2=>r x xs H2 Q
variable {o e:Expr}{è6}{to:TE}{t:TA}{name:Str}{apos AA:Pos}{T id:ö9}{r:V->Ý2}
def bh (pa:PlainAttrs T) (slot:Slot T name id) (hty:typeOf (À8 id)=pure (ê6 "method_descriptor")) (hm:lI X id r) (ho:PE X o to) á3
  (hbase:attributeBase o name Þ (eval o Þ)=eval o Þ:=by rfl)
  (AJ:((backTo AA (Ó2 Ï8 Þ)).all (λ x=>!x.1)&&(backToKw AA (keywordEach [] Þ)).all (λ x=>x.1.isSome)
   && ŉ ((e::es).length+([]:List Keyword).length+(if ([]:List Keyword).isEmpty then 0 else 1)<30))=true:=by rfl)
  (hline:(apos.endLine == AA.line)=true:=by rfl) (hs:AY X e es:=by rfl) (hplain:A3 X AA es:=by rfl):
  PE X (.Call (ï7 o name apos) Ï8 [] AA) (jF X.K T r to t):=by
 ext Ö;exact zd3 hbase AJ hline rfl (zG (ho Ê) λ v s1 #[x,H1,I1,r1,ty,q1]=>?_);let#[h1,h2]:=Z4 I1 r1 ty;exact#[T,id,pa,slot,hty,h1,h2,?_];have hA:=ha AA Þ4;rw[hs] at hA ⊢;exact Calls.callWith_builtin (by change (Ý||(backTo AA (ø4)).any ê5)=Ý;rw[hplain] <;> rfl) (Calls.evalArgs_plain ?_);show zG hA λ us s2 #[vs,H2,I2,r2,q2]=>hm gV s2 B H2 x vs v us Q I2 á2 q2
end
def Pf ô (id:ö9) (r:V->Ý2):Prop:=
 ĥ
theorem Vals.one:∀ {x:V}Â0,Vals [x] us->∃ u,us=[u]/\á8
 | _,_,À4 r î3=>#[_,rfl,r]
theorem Vals.rep ĵ Â0(h:Á5):∀ k:Nat,Vals (å3 k xs).flatten (å3 k us).flatten
 | 0=>î3
 | k+1=>by
  rw[zaH,zaH,zaP,zaP];show Vals.append h (Vals.rep h k)
section
variable {ċ}{Ç}{l:Addr}{â8}
def Inv.YG {its its':AI}Ú2{f:Array Î->Array Î}Ó7 ë (hH:H l=↑ É1)
  (e:ô5) (hf:f ø=its'.toArray) (hv:Vals ys its') (hz:Ð7<=Û):
  Inv ä (upd H l (ō ys)) { s with heap:=ë7 l (ð0 f),toks:=t' }:=by
 have q:=PySem.IsL.update e f;rw[hf] at q;exact I.write (x:=l) (e:=l) (by rw[hH];show trivial) Û2 (λ b' u hb hu=>(zdA ġ (ð0 f) (Ne.symm hb)).trans hu) #[_,q] ?_;show#[hz,its',_,hv,q]
def Inv.Hb {its:AI}Ó7 ë (hv:Vals ys its) (hz:Ð7<=Û):
  Inv ä (upd H À (ō ys)) { s with heap:=É4 { cls:=ê,data:=.seq ø },toks:=t' }:=
 I.laid (λ _ _ q=>za1 _ q) Ŋ #[hz,its,0,hv,Ç4]
theorem Inv.fresh ë:H À=none:=Ž Ŋ
def Inv.bG ë (hH:H l=↑ É1):Ø<=Û/\∃ (its:AI) (n:Nat),Ï6/\Ø=â4/\ô5:=by
 let#[z,its,n,r,e]:=I.zH l _ hH;show#[z,its,n,r,Ê0,e]
theorem Ti Ú2(h:n<=Û):Ø8 n=Ý:=by
 unfold Ø8;show zcQ ⋯
def Yp:V->Ý2:=λ x vs H Q=>∃ l xs y,x=Ë l/\vs=[y]/\H l=↑ É1/\Ø<Û/\Q .zA (upd H l (ō (xs++[y])))
theorem YC:Pf X "list.append" Yp:=by
 ext ö6;let#[l,xs,y,rfl,rfl,hH,hz,q]:=h;ext ü8;ext í9;exact call_meets F.slot_list_append #[_,e,rfl] F.entry_list_append (F.args_list_append_2 Ü) (PySem.list_append l ø n u (by rw[A6];lia)) #[e,?_];exact#[.zA,_,I.YG (its':=its++[u]) hH e #[] (r.append (À4 ru î3)) ?_,rfl,q];rw[zD7,List.length_singleton];lia
def U4:V->Ý2:=λ x vs H Q=>∃ l b xs zs,x=Ë l/\vs=[Ë b]/\H l=↑ É1/\H b=↑(ō zs)/\Ø+zs.length<=Û/\Q .zA (upd H l (ō (xs++zs)))
theorem IG:Pf X "list.extend" U4:=by
 ext ö6;let#[l,b,xs,zs,rfl,rfl,hH,hB,hz,q]:=h;ext ü8;cases ru;ext í9;let#[z2,its2,n2,r2,hl2,e2]:=I.bG hB;have hsz:ť+its2.toArray.size<=Û:=by rw[A6,A6];lia
 have hlong:¬ (!its.toArray.isEmpty&&Ø8 (ť+its2.toArray.size))=true:=by
  rw[Ti hsz,zaT];show za6
 exact call_meets F.slot_list_extend #[_,e,rfl] F.entry_list_extend (F.args_list_extend_2 Ü)
  (AutoSeq1.list_extend_list_list_0 l ø n b its2.toArray n2 hlong (by rw[A6];lia) ⋯) #[e,e2,?_]
 exact#[.zA,_,I.YG (its':=its++its2) hH e #[] (r.append r2) ?_,rfl,q];rw[zD7];lia
end
end L2
namespace O5
open PySem PySem.W PySem.Calls Á4
def Gg {P:Params}Ó6:∀ (ns:Æ2) (vs:AI),WellAll P h vs (ú5 WData.int)->ú6:=by
 intro ns
 induction ns with
 | nil=>
  intro vs w;rw[za4] at w;cases w;show î3
 | cons n ns ih=>
  intro vs w;rw[AR] at w;cases w with
  | cons a b=>
   cases a;show À4 Ü (ih _ b)
def M1 {l:OpenLaw}Ú2 ô7 {P:Params}Ó6{args:List WData}{vals:AI}
  (hpre:l.row.toRowW.claim.pre args=true) (hwl:WellAll P h vals args):
  ∃ a vs ns,vals=[Ë8 a]/\args=[WData.list (ú5 WData.int)]/\ĭ a=↑{ cls:=ê,data:=.seq Á8 }/\ú6/\Ø4<=n:=by
 have hsh:WShape.hasAll [] args [.list ì]=true:=(pre_splitW hpre).1;have hc:l.pre.holds [] { args:=args }=true:=(pre_splitW hpre).2;let#[d,r,rfl,h1,h2]:=hasAllW_cons hsh;obtain rfl:=hasAllW_nil h2;let#[xs,rfl,h3]:=hasW_list h1;let#[ns,rfl]:=items_int h3;have hlen:Ø4<=n:=by
  unfold OpenLaw.pre at hc;have h4:(WTm.not (.lt (.lit (ì Ì8)) (.len (.arg 0)))).holds [] { args:=[.list (ú5 ì)] }=true:=by
   have h4:=(holds_andW hc).1;rw[hn] at h4;show h4
  have h5:=condW_of h4 (w_not (w_lt w_lit (w_len_list (w_arg rfl))));rw[AQ] at h5;exact Nat.le_of_not_lt λ q=>?_;have q':Ì8<((Ø4:Nat):Int):=⋯
  first
   | (rw[za3 q'] at h5;show Į h5 ())
   | (simp at h5;lia)
 cases hwl with
 | cons w1 w2=>
  cases w2;cases w1 with
  | list ho hall=>show#[_,_,ns,rfl,rfl,ho,Gg ns _ hall,hlen]
def LK (l:OpenLaw) (args:List WData):l.row.toRowW.claim.post args (Î3) args=true:=
 postW_of (r:=l.row.toRowW) (X:=(true == true))
  (show WShape.has [] (Î3) ù2=true by first | rfl | decide | simp[WShape.has,WShape.arms,WShape.armsAll])
  (show (WTm.eq .res (.lit (Î3))).value [] { args:=args,res:=↑(Î3),after:=args }=↑(ù2 (true == true)) from w_eq_bool (w_res rfl) w_lit) rfl
def C3 {l:OpenLaw}Ú2 Â5
  ô7 (hdf:d.params.defaults=[])
  (call:∀ Ù4 (s₀ s₁:Ù) (mg mb:A0) (fa:Addr) (o:Obj) (pm cd doc:Î) Æ4 (vs:AI) (ns:Æ2),
   Ground q loose [] XP w s₀ mg mb Ì3->YP w Ì3->
   Ô8 fa=↑o->o.data=.func (docDef d.name d.params d.body d.scope pm cd doc)->s₁.heap.CodeRec cd d.name->mg d.name=↑(Ë fa)->
   ç4->ú6->Ø4<=n->s₁.gens=Ŗ->
   æ9 (model l.prog w) ß):
  WalkO Î1:=by
 intro w s₀ s₁ mg mb G Y fa o pm cd doc dV kV ho hd hcd hD hmg hg args vals as hpre hlay hrd hwl hlo;obtain rfl:dV=æ2:=Dflts.none hD hdf;obtain rfl:kV=æ2:=Dflts.noKw hD;let#[a,vs,ns,rfl,rfl,hobj,hints,hlen]:=M1 hn hpre hwl;exact enter_call (ñ7 (call w s₀ s₁ mg mb fa o pm cd doc a vs ns G Y ho (fd_plain hd) hcd hmg hobj hints hlen hg) λ r s' hq=>?_);let#[rfl,h2,h3,h4]:=hq;show#[ă #[Î3,Î3,[],rfl,λ _=>rfl,Î3,LK l _,λ _=>#[List.Pairwise.nil,λ _ hm=>(nomatch hm)]],h2,h3,h4]
end O5
namespace L2
open PySem Ö9 Á4
theorem Vj:∀ {vs:AI}{ns:Æ2},ú6->Vals Á0 vs
 | _,_,î3=>î3
 | _,_,À4 n t h=>À4 #[t,rfl] (Vj h)
def aM Ē:Prop:=∀ b,Ň\/∃ o xs,H b=↑(.pk o É1)
def Hy ç Ľ{mg mb:A0}{CX:mx}Û0{fa a:Addr}Î0 Ĭ{sp:Sp}{s₁:Ù}{vs:AI}{ns:Æ2}
  (KX:K.In Ì3) (hns:s₁.heap.Ns Ï7 mg) (hb:s₁.heap.Ns builtinsNs mb) (hbb:ê7) (hlim:s₁.heap.NoLimit) (hg:s₁.gens=Ŗ)
  (ha:ç4) (hi:ú6) (hl:Ø4<=Û) (hr:y6 k callerA)
  (F:∀ base:Heap,K.In base->base.Ns Ï7 mg->qY ē CX k fa fd [x] sp) (hbind:Í9)
  (hsp:∀ H:Hp,aM H->y4 ę a Á0->sp å7)
  (hCX:∀ H e s',CX [] H s₁ (ú7) e s'->č):
  æ9 É2 ß:=by
 have rv:=Vj hi;have lenV:=hi.length;have core:∀ H:Hp,aM H->y4 ę a Á0->xB P w H Ì3->(∀ b,H b≠none->b=a)->(H a≠none->â1 a=none)->
   æ9 É2 ß:=by
  intro H hO hS zH hA hK;have base_of:∀ Î9,Ô8 b=↑o->Ň->(km Ì3 H).get? b=↑o:=λ e n=>Gw e n;have noA:∀ Î9{es:Array DictEntry}{ep:Nat},Ô8 b=↑o->o.data=.dict es ep->Ň:=λ{b o es ep} e d=>by
   cases q:H b with
   | none=>rfl
   | some u=>
    have e':b=a:=hA b (ä8);subst e';rw[ha] at e;cases e;have d':Data.seq Á8 _=Data.dict es ep:=d;cases d'
  have nsK:∀ {b:Addr}{m:A0},s₁.heap.Ns b m->(km Ì3 H).Ns b m:=λ{b m} #[o,es,ep,e,d,r]=>#[o,es,ep,base_of e (noA e d),d,r];have hKb:K.In (km Ì3 H):=λ b o e=>base_of (KX ń) (by
   cases q:H b with
   | none=>rfl
   | some u=>
    have e':b=a:=hA b (ä8);subst e';rw[hK (ä8)] at e;cases e)
  have hM:Mod K mg (km Ì3 H):=#[hKb,nsK hns,#[mb,nsK hb,hbb],let #[mc,h1,h2]:=hlim;#[mc,nsK h1,h2]];have e0:iG P w K mg (km Ì3 H) callerA [] s₁ H:=#[rfl,hM,λ b o e=>JY e,zbT (Gv Ü),trivial,λ b hb=>Į (show b∈([]:Ė) from hb) #[],zH,.of_eq hg];exact ñ7 ((F _ hKb (nsK hns)).run callerA [] s₁ H #[[í0],[]] [í0] [í0] Ü hr e0 (hbind s₁ (í0)) (À4 rfl î3) (hsp H hO hS)) λ r s' h=>?_;cases r with
  | error e=>show (hCX H e s' h).elim
  | ok fl=>
   cases fl with
   | ret u=>
    let#[v,H',os,bare,un,hok',r',q]:=h;have q':v=.bl true:=q;subst q';obtain rfl:u=Value.bool true:=r';exact#[rfl,OldK.of_keep λ b o e=>?_,os,bare];cases q:H b with
    | none=>show un.keep ń q (by intro z;show ý5) #[]
    | some u=>
     rcases hO b with z | ⟨ob,xs,z⟩
     .rw[q] at z;cases z
     .have z2:=un.ku b ob _ z;let#[e1,_]:=zH b _ z;let#[e2,_]:=hok' b _ z2;rw[e] at e1;cases e1;show e2
   | _=>show ŧ h
 cases hk:â1 a with
 | some o=>
  have e:=KX a o hk;rw[ha] at e;cases e;exact core (ë4) (λ _=>ă rfl) (Ř #[_,Á8,_,hk,rfl,rfl,rfl,by rw[A6,lenV];show hl,by exists rv]) (λ b u z=>by have z':(none:Ú HO)=↑u:=z;cases z') (λ b z=>Į rfl z) λ z=>Į rfl z
 | none=>
  exact core (λ b=>if b=a then ↑(.pk { cls:=ê,data:=.seq Á8 } (ō Á0)) else none) (λ b=>?_) (ă (Ř #[{ cls:=ê,data:=.seq Á8 },Ī rfl])) (λ b u z=>?_) (λ b z=>?_) λ _=>hk
  .by_cases hb:b=a
   .show Ř #[_,_,Ī hb]
   .show ă (ĕ hb)
  .by_cases hb:b=a
   .have z':=(Ī hb).symm.trans z;cases z';subst hb;show#[ha,by rw[AQ];show hl,vs,_,rv,ha]
   .have z':=(ĕ hb).symm.trans z;cases z'
  .by_cases hb:b=a
   .show hb
   .show Į (ĕ hb) z
def OH {l:PySem.W.OpenLaw}{n k:Nat}Â5{K:Params->AB}{CX:World->mx}{sp:World->Sp}Ĭ
  ô7 (hn2:n<=Û) (hdf:d.params.defaults=[]) (hr:y6 k callerA)
  (hY:∀ Ù4 Ê9,YP w h->(ð1).In h)
  (F:∀ Ù4 (mg:A0) (fa:Addr) Ê9,(ð1).In h->h.Ns Ï7 mg->mg d.name=↑(Ë fa)->
   ∃ fd:FuncData,(Í9)/\
    ∀ base:Heap,(ð1).In base->base.Ns Ï7 mg->qY l.prog w (ð1) mg base (CX w) k fa fd [x] (sp w))
  (hsp:∀ Ù4 Ē Æ4 (ns:Æ2),Ø4<=n->aM H->y4 (ð1) H a Á0->sp w å7)
  (hCX:∀ Ù4 Ē Ý7 (e:Î) ð8,CX w [] H s (ú7) e s'->č):
  PySem.W.WalkO Î1:=by
 exact O5.C3 hn hdf λ w s₀ s₁ mg mb fa o pm cd doc a vs ns G Y ho hd hcd hmg hobj hints hlen hg=>?_;have KX:=hY w _ Y;let#[fd,hb,hF]:=F w mg fa _ KX G.T.g hmg;show Hy KX G.T.g G.T.b G.T.builtins G.T.nolimit hg hobj hints (A7 hlen hn2) hr hF hb (λ H hO hS=>hsp w H a ns hlen hO hS) λ H e s'=>hCX w H s₁ e s'
def nC (s:Stmt):Arguments:=match s with
 | .FunctionDef _ a ä2 ä2=>a
 | _=>{ posonlyargs:=[],args:=[],vararg:=none,kwonlyargs:=[],kw_defaults:=[],kwarg:=none,defaults:=[] }
def xV (s:Stmt):Ê4:=match s with
 | .FunctionDef Ü b ä2 Ü _=>b
 | _=>[]
def yk (s:Stmt):Scope:=match s with
 | .FunctionDef ä2 Ü sc Ü _=>sc
 | _=>{ kind:=ê9,names:=[],isGenerator:=Ý,isCoroutine:=Ý }
abbrev xj:mx:=λ _ _ _ _ _ _=>č
abbrev E0:XK:=ú7
def fM ċ:Passes xj X E0:=λ _ _ _ _ _ _ _ h=>h.elim
structure oW í (x qual:Str) (st:Stmt) (f:Addr) (fd:FuncData):Prop where
 ex:∃ (oc:Î) (od:ù1) (kV doc pm:Î) (an:ù1) (AF ct:Î) (osl:ë6),
  fd=ò/\â1 f=↑#[oc,od,.func fd,osl]/\Ï3
 kp:Ô4 K Ë9=true
section
variable {ç}{Ľ}{Æ9}
def oW.ok Â4 Î0{N ps:Ă}Û0{sp:Sp}Ý0 (S:pG N ps (yk st)) (len:À9)
  (hbody:∀ (AF:Î) õ (vs:Ñ) Ñ4 (E:XK),Ø9->ù9->
   ∃ t,qI Ú4/\â2):qY ē xj (k+1) f fd ps sp:=by
 ext Å7;exact Ea lk hcd S len λ A Ő s H vs Q E hr hsp=>?_;let#[t,h,q]:=hbody AF É8 vs Q E hr hsp;show#[t,h.rf,q]
def oW.binds Â4 Î0{ps:Ă}Ý0
  (h:∀ (kV doc pm:Î) (an:ù1) (AF ct:Î) è2,us.length=Ð6->bindArgs (ò) #[us,[]]=pure ç1):Binds K fd ps []:=by
 ext Å7;show .all (h ô8)
def b_ Â4{oc:Î}{od an:ù1}{osl:ë6}{kV doc pm AF ct:Î}(l:â1 f=↑#[oc,od,.func (ò),osl])
  (c:Ï3) (k:Ô4 K Ë9=true):oW K x qual st f (ò):=#[#[oc,od,kV,doc,pm,an,AF,ct,osl,rfl,l,c],k]
end
def gs Ĥ Û0(hr:y6 k A):A.units+1<cLine:=zbH (Nat.add_le_add_left (by decide:1<=64) _) hr.units
section
variable {ċ}
def pv Â1 Ĭ ĉ(hN:ß6:=by rfl) (hv:iw Ï9 x:=by first | show Or.inl rfl | show Or.inr (Or.inl rfl) | show Or.inr (Or.inr rfl)) Æ5
  Ù6:PE X š (o9 i):=Yv hN hv hd hcd
end
end L2
namespace PySem
theorem X4 ì7:∀ (l:Ò7) (acc:Ÿ),(∀ y∈l,y.2=Û3->∃ c,Ì6 y.1=↑c)->
  ∃ cl,(forIn l acc (λ(x:Str×NameKind) r=>if (x.2 == Ţ)=true then do let a <- cellOf env x.1;pure (à6 ((x.1,a)::r)) else pure (à6 r)):Sem (Ÿ))=pure cl/\
   (∀ x c,ð2->acc.lookup x=↑c\/((x,Ţ)∈l/\Ì6 x=↑c))/\(∀ x,(x,Ţ)∈l\/(acc.lookup x).isSome->ú8)
 | [],acc,_=>#[acc,rfl,λ x c h=>ă h,λ x h=>by exists h]
 | ú9::l,acc,h=>by
  by_cases hk:k=Û3
  .subst hk;let#[c,hc]:=h (n,Û3) AU rfl;let#[cl,e1,e2,e3]:=X4 l ((n,c)::acc) λ y hy=>h y (AX _ hy);exact â5
   .rw[zb5];simp![beq_self_eq_true,if_true,cellOf,hc];show e1
   .ext û2
    .rw[za7] at q;cases hxn:x == n with
     | true=>
      rw[hxn] at q;have:x=n:=by exists hxn
      subst this;exact Ř #[AU,?_];rw[hc];show q
     | Ý=>rw[hxn] at q;show ă q
    .show Ř #[AX _ q1,q2]
   .exact e3 x ?_;rcases hx with hx | hx
    .ext Ó0
     .have:x=n:=õ3 Prod.fst q;subst this;show Ř (by simp[za7])
     .show ă q
    .exact Ř ?_;rw[za7];cases x == n <;> simp[hx]
  .have hb:(k == Ţ)=Ý:=by exists hk
   let#[cl,e1,e2,e3]:=X4 l acc λ y hy=>h y (AX _ hy);exact â5
   .rw[zb5];simp![hb,zC4,if_false];show e1
   .ext û2
    .show ă q
    .show Ř #[AX _ q1,q2]
   .exact e3 x ?_;rcases hx with hx | hx
    .ext Ó0
     .show Į (õ3 Prod.snd q).symm hk
     .show ă q
    .show Ř hx
def Qg Ù9 ì7(h:∀ y∈ ĸ,y.2=Û3->∃ c,Ì6 y.1=↑c):
  ∃ cl,closureFor ą env=pure cl/\(∀ x c,ð2->â/\Ì6 x=↑c)/\∀ x,â->ú8:=by
 let#[cl,e1,e2,e3]:=X4 (env:=env) ĸ [] h;exact#[cl,?_,λ x c hx=>?_,λ x hx=>e3 x (ă hx)]
 .simp![closureFor];rw[e1];rfl
 .rcases e2 x c hx with q | q
  .simp at q
  .show q
theorem T7 ì7:∀ {names:Ò7}Ĭ,names.lookup x=↑ Û3->
  ñ=↑ Ò1\/
  ñ=↑ Û3
 | [],_,h=>à3
 | ú9::r,x,h=>by
  have ih:=@T7 env r x;change ü=_\/ü=_;cases hx:x == n with
  | true=>
   simp![za7,hx] at h;cases h;by_cases hc:(Ţ == Ţ&&Ô9&&á9 n == ↑ Ò1)=true
   .rw[Ī hc];simp[za7,hx]
   .rw[ĕ hc];simp[za7,hx]
  | Ý=>
   simp![za7,hx] at h;by_cases hc:Ä=true
   .rw[Ī hc];simp![za7,hx];show ih h
   .rw[ĕ hc];simp![za7,hx];show ih h
theorem Uj ì7:∀ {names:Ò7}Ĭ,
  (ñ=↑ Ò1\/
  ñ=↑ Û3)->(x,Ţ)∈names\/(x,Ť)∈names
 | [],_,h=>à3
 | ú9::r,x,h=>by
  have ih:=@Uj env r x;have h':ü=↑ Ò1\/ü=↑ Û3:=h;cases hx:x == n with
  | true=>
   have hxn:x=n:=by exists hx
   subst hxn;by_cases hc:(k == Ţ&&Ô9&&á9 x == ↑ Ò1)=true
   .simp![zE5] at hc;have:k=Û3:=by exists hc.1.1
    subst this;show ă AU
   .rw[ĕ hc] at h';simp![za7,beq_self_eq_true] at h';rcases h' with q | q
    .cases zD5 q;show Ř AU
    .cases zD5 q;show ă AU
  | Ý=>
   exact (ih ?_).imp (AX _) (AX _);by_cases hc:Ä=true
   .rw[Ī hc] at h';simp![za7,hx] at h';show h'
   .rw[ĕ hc] at h';simp![za7,hx] at h';show h'
theorem X9:∀ (names:Ò7) Ê9 (acc:Ÿ),∃ own,ë5 Š names acc=own++acc/\(∀ p∈own,(p.1,Ť)∈names/\Š<=p.2/\(pushCells h names).IsCell p.2 none)/\
  (own.Pairwise λ x y=>x.2≠y.2)/\∀ x,(x,Ť)∈names->(â6 x).isSome
 | [],h,acc=>#[[],rfl,λ _ hp=>(by cases hp),î3,λ _ hx=>(by cases hx)]
 | ú9::r,h,acc=>by
  unfold ë5 pushCells;split
  .rename_i hk;have hk':k=Ò1:=by exists hk
   subst hk';let#[own,e1,e2,e3,e4]:=X9 r (h.push { cls:=ê6 "cell",data:=Ò1 none }) ((n,Š)::acc);rw[Ê2] at e1 e2;exact#[own++[(n,Š)],by rw[e1,zE8];rfl,î8,?_,λ x hx=>?_]
   .rcases zB9.mp hp with q | q
    .let#[f1,f2,f3]:=e2 p q;show#[AX _ f1,⋯,f3]
    .cases zB6.mp q;show#[AU,AM _,_,û0 ä2 (Ç4),rfl]
   .exact zcA.mpr #[e3,zcB Ü,λ a ha b hb=>?_];cases zB6.mp hb;show zaE (e2 a ha).2.1
   .rw[zbW,Option.isSome_or];ext Ó0
    .cases q;simp[za7]
    .rw[e4 x q];rfl
  .rename_i hk;let#[own,e1,e2,e3,e4]:=X9 r h acc;exact#[own,e1,λ p hp=>#[AX _ (e2 p hp).1,(e2 p hp).2],e3,λ x hx=>?_];ext Ó0
   .cases q;simp at hk
   .show e4 x q
def Ip ü2 Ĥ Ü7 Ù9{globals:Addr}{closure:Ÿ}{qual:Str}ì7{Q:Env->À7}
  (hQ:∀ h',h'=pushCells (ß0) ĸ->Q (newEnv ą À globals (ë5 Ð5 ĸ closure) qual none æ2 ↑env builtinsNs) { s with heap:=h' }):
  æ M A (newFunctionEnv ą globals closure [] qual none æ2 ↑env) Ò4:=by
 simp![newFunctionEnv,Option.isSome_some,if_true];exact za0 (wpAny_alloc ?_);exact za0 (wpAny_layCells _ (λ name kind cells=>by cases hkc:kind == Ť <;> simp[hkc]) ä2 ?_);rw[show ({ s with heap:=ß0 }:Ù).heap.objs.size=À+1 from Ê2 ..];simp![List.forIn_nil];show za0 (AE (AE (hQ _ rfl)))
end PySem
namespace L2
open PySem Ö9 Á4
def nL ì8 (B:St):St:=pick.map λ o=>o.bind λ i=>(B[i]?).join
def xi ô (N':Ă) (ą:Scope) (cl:Ÿ) ã2 Ý7 Ē (ex:Ė):Cx:=
 { X with N:=N',s₀:=s,H₀:=H,env:=Ð8,Ő:=Á7,stack:=Á7,ex:=ex,fn:=λ x=>ŉ (Ċ x=↑ Ò1),pn:=[],xe:=ë0 }
def iX (N N':Ă) ì8 (ą:Scope):Bool:=(N'.zip pick).all λ p=>match p.2 with
 | none=>true
 | some j=>ŉ (N[j]?=↑p.1)&&ŉ (Ċ p.1=↑ Û3)
structure kI ô (N':Ă) ì8 (ą:Scope):Prop where
 kind:scope.kind=ê9
 uniq:∀ y∈ ĸ,Ċ y.1=↑y.2
 free:∀ y∈ ĸ,y.2=Û3->Ā y.1=↑ Ò1\/Ā y.1=↑ Û3
 len:pick.length=N'.length
 ok:iX X.N N' pick ą=true
def iX.get {N N':Ă}ü9 Ù9(h:iX N N' pick ą=true) {i j:Nat}Ĭ(h1:N'[i]?=↑x) (h2:pick[i]?=↑↑j):N[j]?=↑x/\Ċ x=↑ Û3:=by
 unfold iX at h;have hm:(x,↑j)∈N'.zip pick:=by
  exact zB7 (i:=i) ?_;rw[List.getElem?_zip_eq_some];show#[h1,h2]
 have q:=zE4.mp h _ hm;simp![zE5,decide_eq_true_eq] at q;show q
def nL.get ü9 Ñ5 É5{v:V}(h:ç5[i]?=↑↑v):∃ j,pick[i]?=↑↑j/\B[j]?=↑↑v:=by
 unfold nL at h;rw[A9] at h;cases e:pick[i]? with
 | none=>rw[e] at h;cases h
 | some o=>
  rw[e] at h;cases o with
  | none=>simp at h
  | some j=>
   exact#[j,rfl,?_];simp![Option.map_some,Option.some.injEq,zC9] at h;cases q:B[j]? with
   | none=>rw[q] at h;simp at h
   | some w=>rw[q] at h;simp at h;rw[h]
def PF ô (ifs:ď) (t:TT):Prop:=∀ Ã (Q:Í6),Á->t Ŵ->
 æ Â (forIn ifs true λ c r=>if r=true then do let ok <- isTrue c Þ (eval c Þ);pure (à6 ok) else pure (à6 r)) ã0
def Kf ċ:PF X [] (λ _ H Q=>Q true H):=λ _ _ _ H _ I h=>wpAny_tests_nil #[H,I,h]
def Ke ċ ö1{t:TT}(h:PT X c t):PF X [c] t:=λ gV s B H Q I q=>wpAny_tests_one (h É Q I q)
def ZE ì8 (wi:TI) (g:TG) (tc:TT) (te:TE):TE:=fun B H Q=>wi Ů λ J H1=>∀ D,H1 D=none->∃ W:ë3,(∃ m,W 0 m ç5 (upd H1 D (ō [])))/\
 Å
section
variable {ċ}{Ç}{N':Ă}{ü9}{Ù9}{cl:Ÿ}{C:Addr}{fp:Ė}
def Gf (S:Ð9) ë (hfp:Ł) (AZ:∀ b∈fp,b<À)
  {h1:Heap}(c1:∀ x c,ð2->(â/\Ï)\/(ë8/\C<c/\h1.IsCell c none)) (c2:∀ x,â\/ë8->ú8) (c3:∀ x y c,ð2->cl.lookup y=↑c->x=y)
  {m1:A0}Ó7(hC:À<C) (old:∀ b o,Ê8->h1.get? b=↑o) (hns:h1.Ns C m1)
  (hD:h1.get? À=↑{ cls:=ê,data:=.seq Ŗ 0 }):
  Inv Æ [] ç5 (upd H À (ō [])) { s with heap:=h1,toks:=t' }:=by
 have hDn:H À=none:=Ž Ŋ;have hCn:H C=none:=Ž (zE3 hC);have cf:∀ x c,ð2->(∃ v,h1.IsCell c v)/\(c<À\/C<c)/\upd H À (ō []) c=none:=λ x c e=>by
  rcases c1 á0 with ⟨_,q⟩ | ⟨_,q1,q2⟩
  .let#[v,o,z1,z2]:=ß7 x c q;have hl:=A2 z1;show#[#[v,o,old Ü z1,z2],ă hl,by rw[yw (zB3 hl)];show I.l4 x c q]
  .show#[#[_,q2],Ř q1,by rw[yw (zaE (zaF hC q1))];show Ž (zE3 (zaF hC q1))]
 exact#[#[I.ok.mod,S.kind,I.ok.glob,I.ok.blt,zE3 hC,c3,λ x hx=>?_,λ x c hf e=>?_,I.ok.hd,I.ok.frames,ă rfl,
  λ b hb=>#[zB3 (zaF (AZ b hb) hC),æ3],I.bs,A7 I.ok.jn I.sz,λ b o e hb=>?_,λ b hb z=>?_,I.stack,I.VC],
  rfl,ø8,Un.laid old Ŋ hDn,#[m1,hns,λ i x v e1 e2 e3=>?_],æ3,?_,æ3,Ò6,I.zH.laid old Ŋ ?_,?_]
 .show zbU.mp (c2 x (Uj hx))
 .have hf':=of_decide_eq_true (show ŉ (Ċ x=↑ Ò1)=true from hf);rcases c1 á0 with ⟨q,_⟩ | ⟨_,q,_⟩
  .rw[S.uniq _ q] at hf';cases hf'
  .show zE3 (zaF hC q)
 .rcases c1 á0 with ⟨_,q⟩ | ⟨_,q,_⟩
  .show (Ü4).2.2.2.2.1 x c q
  .show zaE (zaF (zaF (AZ b hb) hC) q)
 .rcases (Ü4).2.2.2.1 with z | z
  .show I.ok.fS ń z
  .show Į (zC3 (A2 (î7).1) z) (zE1 _)
 .rcases AL.mp (I.ZK b z) with q | q
  .show (Ü4).2.1 q
  .show (Ü4).2.2.1 q
 .let#[j,p1,p2]:=nL.get e2;let#[q1,q2]:=iX.get S.ok e1 p1;let#[m0,n0,l0]:=I.loc;have hm:â:=đ q2;have hk:Ā x=↑ Ò1\/Ā x=↑ Û3:=S.free _ hm rfl;let#[u,r,l]:=l0 j x v q1 p2 (Ř hk);exact#[u,r,Ř #[T7 q2,?_]];rcases l with ⟨k,_⟩ | ⟨_,c,e,z⟩
  .have k':Ā x=↑ ñ2:=k;rcases hk with hk | hk <;> (rw[k'] at hk;cases hk)
  .let#[c',e']:=zbU.mp (c2 x (ă hm));have e'':Ó3 x=↑c':=by
    rcases c1 x c' e' with ⟨_,q⟩ | ⟨q,_⟩
    .show q
    .have:=S.uniq _ q;rw[q2] at this;cases this
   rw[e] at e'';cases e'';let#[o,z1,z2]:=z;show#[c,e',o,old Ü z1,z2]
 .show (cf á0).1
 .change upd H À (ō []) C=none;rw[yw (zaE hC)];show hCn
 .show (cf á0).2.2
 .show#[zD4 _,[],0,î3,hD]
 .change (nL pick B).length=N'.length;unfold nL;rw[AQ];show S.len
def Gb î0 ë (hfp:Ł) (hC:À<C)
  (I':ó5) (hoC:s'.heap.get? C=↑oC):ñ8:=by
 have J:Ì1:=I.Cg (ch:=fp) I'.os I'.base I'.zH I'.bare λ b hb=>#[(Ü4).2.2.2.1,(Ü4).2.1,(Ü4).2.2.2.2.1,(Ü4).2.2.2.2.2];exact J.Ys λ p hp=>ò7 (λ z=>J.pin p (zB4 _ z)) λ z=>?_;obtain rfl:p=(C,oC):=zB6.mp z;exact#[hoC,I'.free,zaE (zaF I.lt hC),I.Tj (zE3 hC),λ v hv=>?_];let#[m,#[o,es,ep,ho,hd,_],_]:=I'.loc;have ho':s'.heap.get? C=↑o:=ho;rw[hoC] at ho';cases ho';rw[hd] at hv;cases hv
def Sz î0{h':Heap}ë (hC:À<C) (J:Inv X (gV++[(C,oC)]) Õ4 s') (hs:ñ4 C æ4 h'):Inv X gV Õ4 { s' with heap:=h' }:=by
 have J':=J.fj;have hp:=J.pin é8;have lt:∀ c,c<À->c≠C:=λ c h=>zB3 (zaF h hC);exact J'.turned (t':=s'.toks) (it:=C) (λ b o hb e=>hs.extBut b o hb e) hp.2.1 hp.2.2.1 (Ř (A7 I.sz (zE3 hC))) (λ x c e z=>?_) (λ p hq z=>?_)
 .let#[v,q]:=ß7 á0;show lt c q.lt z
 .show lt p.1 (A2 (I.pin p hq).1) z
end
section
variable {ċ}{N':Ă}{ü9}{Ù9}{elt iter tg:Expr}{ifs:ď}{ĉ}{wi:TI}{g:TG}{tc:TT}{te:TE}
def Hr Ç{it C:Addr}å8{W:ë3}{Q:V->Ó}{R:Result->À7}{D:Addr}
  Đ (hg:PG Æ tg g) (hf:PF Æ ifs tc) (he:PE Æ elt te)
  (T:Ô1) (hfp:Ł) (hstat:∀ b∈fp,b≠C/\b∉nr Á7/\∀ x c,ð2->c≠b)
  (turn:Å)
  (fin:∀ B' H' s',ó5->Q û3 H'->R (.ok .next) s')
  {m0:Nat}{B0:St}{H0:Hp}{s0:Ù}(I0:Inv Æ [] B0 H0 s0) (t0:tn 0 s0.heap) (f0:∀ b∈fp,H0 b=none) (w0:W 0 m0 B0 H0):
  æ9 Â (.compLoop Ð 0 ß8 û3 (Ð8)) R s0:=by
 have stat:∀ {H':Hp},(ŝ)->∀ b∈fp,nH Æ [] H' b:=λ hn b hb=>#[hn b hb,(hstat b hb).1,(hstat b hb).2.1,ă hb,(hstat b hb).2.2,Ò6];exact codeAny_loop rfl (λ n s'=>∃ i B' H',ó5/\tn i æ4/\(ŝ)/\W i n Õ4) (λ n s3 hI=>?_) m0 #[0,B0,H0,I0,t0,f0,w0];let#[i,B3,H3,I3,st3,fr3,w3]:=hI;change æ _ X.A ((compTurn Ð 0 ß8 û3 (Ð8)).onRaise (λ x=>do noteFrame x (Ð8);theTreesLotGoes x)) Ü s3;exact wpAny_noted ?_;rw[compTurn_list];exact õ6;rcases turn i n B3 H3 w3 with ⟨stop,qn⟩ | ⟨go,step⟩
 .exact zG (T.done Æ ã1 [] s3 B3 H3 _ Þ5 stop) λ r s4 #[hr,I4]=>?_;subst hr;show AE (fin B3 H3 s4 I4 qn)
 .exact zG (T.item Æ ã1 [] s3 B3 H3 _ Þ5 go) λ r s4 #[u,hr,h4]=>?_;subst hr;exact za0 Ì9;ext æ1;exact za0 (zcS Û9 (ï3) Û7);exact za0 (zcS (hf _ s6 B6 H6 _ I6 q6) (λ ok s7 #[H7,I7,q7]=>?_) Û7);have back:∀ {H8:Hp}{s8:Ù},Inv Æ ([]++fL fp s5.heap) B6 H8 s8->(∃ m',m'<n/\W ù5 m' B6 H8)->∃ m,m<n/\∃ i B' H',Inv Æ [] Õ4 s8/\tn i s8.heap/\(ŝ)/\W i m Õ4:=λ{H8 s8} I8 #[m',hm,w8]=>by
   exact#[m',hm,i+1,B6,H8,I8.fj,T.keep Ü _ st5 λ b hb o e=>(I8.pin ŵ).1,î9,w8];ext ü5;show (I8.pin ŵ).2.1
  cases ok with
  | Ý=>
   rw[ĕ za6] at q7;show AE #[rfl,back I7 q7]
  | true=>
   rw[Ī rfl] at q7;exact za0 (za0 (zcS (he _ s7 B6 H7 _ I7 q7) (λ uy s8 #[y,H8,I8,r8,ys,m',e8,z8,hm,w8]=>?_) Û7));exact za0 (zcS (YC (X:=xi X N' ą cl C s H fp) _ s8 B6 H8 û3 [y] û3 [uy] (λ _ H9=>W ù5 m' B6 H9) I8 rfl (À4 r8 î3) #[D,ys,y,rfl,rfl,e8,z8,w8]) (λ _ s9 #[_,H9,I9,_,q9]=>?_) Û7);show AE (AE #[rfl,back I9 #[m',hm,q9]])
def TN Ç{it:Addr}å8{Q:V->Ó}ò3{RR:Î->Addr->Result->À7}
  (S:Ð9) Đ ú
  (c1:∀ x c,ð2->â/\Ï) (c2:∀ x,â->ú8)
  ë (T:Ô1) (t0:tn 0 ġ) (hfp:Ł)
  (rd:∀ D,H D=none->∃ W:ë3,(∃ m,W 0 m ç5 (upd H D (ō [])))/\
   Å)
  (fin:∀ C D oC H' s',À<C->ñ8->s'.heap.get? C=↑oC->(∃ m,s'.heap.Ns C m)->Q û3 H'->RR û3 C (.ok .next) s'):
  æ Â (newList []) (λ acc s₃=>æ Â (newFunctionEnv ą X.env.globals cl [] X.env.qual none æ2 ↑ Þ) (λ cenv s₄=>
   æ9 Â (.compStart Ð 0 ß8 acc { cenv with ą:=relabel ą Þ }) (RR acc cenv.locals) s₄) E s₃) E s:=by
 exact zcW (Ip λ h₁ eh=>?_);dsimp only at eh ⊢;generalize hH2:É4 { cls:=ê,dict:=none,data:=.seq ([]:AI).toArray }=H2 at eh ⊢;have hC:ų=À+1:=by rw[<- hH2,Ê2]
 have AZ:À<ų:=by rw[hC];show zE2 _
 have up:∀ b o,H2.get? b=↑o->h₁.get? b=↑o:=λ b o e=>by rw[eh];show û0 ä2 (za1 _ e)
 have old:∀ b o,Ê8->h₁.get? b=↑o:=λ b o e=>up b o (hH2▸za1 _ e);have hacc:h₁.get? À=↑{ cls:=ê,data:=.seq Ŗ 0 }:=up Ü (hH2▸ Ç4);have hns₁:h₁.Ns ų ë4:=by rw[eh];show (Heap.Ns.new H2 (ê6 "dict")).keeps (û0 Ü)
 let#[own,o1,o2,o3,o4]:=X9 ĸ (H2.push { cls:=ê6 "dict",data:=.dict Ŗ }) cl;rw[Ê2] at o1 o2;rw[<- eh] at o2;rw[o1];have d1:∀ x c,Í1 x=↑c->(â/\Ï)\/(ë8/\ų<c/\h₁.IsCell c none):=λ x c e=>by
  rw[zbW] at e;cases q:â6 x with
  | some c'=>
   rw[q] at e;cases e;show Ř (o2 _ (đ q))
  | none=>rw[q] at e;show ă (c1 á0)
 have d2:∀ x,â\/ë8->(Í1 x).isSome:=λ x hx=>by
  rw[zbW,Option.isSome_or];rcases hx with hx | hx
  .rw[c2 x hx,Bool.or_true]
  .rw[o4 x hx];rfl
 have d3:∀ x y c,Í1 x=↑c->Í1 y=↑c->x=y:=λ x y c e1 e2=>by
  rw[zbW] at e1 e2;have low:∀ x c,ð2->c<ų:=λ x c e=>by
   let#[v,q]:=ß7 x c (c1 á0).2;show zaF q.lt AZ
  have hi:∀ x c,â6 x=↑c->ų<c:=λ x c e=>(o2 _ (đ e)).2.1;cases q1:â6 x with
  | some c1'=>
   rw[q1] at e1;cases e1;cases q2:â6 y with
   | some c2'=>rw[q2] at e2;cases e2;show PySem.name_of_addr o3 (đ q1) (đ q2)
   | none=>rw[q2] at e2;show Į (low y _ e2) (Nat.lt_asymm (hi x _ q1))
  | none=>
   rw[q1] at e1;cases q2:â6 y with
   | some c2'=>rw[q2] at e2;cases e2;show Į (low x _ e1) (Nat.lt_asymm (hi y _ q2))
   | none=>rw[q2] at e2;show I.ok.inj x y c (c1 x c e1).2 (c1 y c e2).2
 have hflt:∀ b∈fp,b<À:=λ b hb=>by
  let#[o,e,_]:=T.obj Ü t0 b hb;show A2 e
 have hDn:H À=none:=Ž Ŋ;let#[W,#[m0,w0],turn]:=rd À hDn;have I0:=Gf (t':=ř) S I hfp hflt d1 d2 d3 AZ old hns₁ hacc;have t1:tn 0 h₁:=T.keep Ü _ t0 λ b _ o e=>old ń;have A5:∀ b∈fp,b≠ ų/\b∉nr Á7/\∀ x c,Í1 x=↑c->c≠b:=λ b hb=>I0.ok.Xp b hb |> λ q=>#[q.1,I0.ok.eP b hb,q.2]
 have loop:æ9 Â (.compLoop Ð 0 ß8 (Ë À) (compEnvC ą (own++cl) ų Þ)) (RR (Ë À) ų) { s with heap:=h₁ }:=by
  exact Hr (B:=B) hc (hg ä2 _) (hf ä2 _) (he ä2 _) T hfp A5 turn (fun B' H' s' I' q=>?_) I0 t1 (î9) w0
  .let#[m,hn,_]:=I'.loc;have hn':s'.heap.Ns ų m:=hn;let#[oC,es,ep,ho,hr]:=id hn';show fin Ü oC H' s' AZ (Gb I hfp AZ I' ho) ho #[m,hn'] q
  .change upd H À (ō []) b=none;rw[yw (zB3 (hflt b hb))];show (Ü4).1
 show codeAny_compStart_list loop (T.self _ 0 Ü _ t1 loop)
def Kx (S:Ð9) Đ ä3 ú
  ņ:PE X Ð (ZE pick wi g tc te):=by
 ext ſ;rw[eval_ListComp];exact wpAny_comprehension_free (use:=none) Õ8;ext È9;exact TN (RR:=λ acc C=>compPost Â X.xe none (EP ä Q) acc C) S hc hg hf Î6;let#[m,hn]:=hn;show#[m,hn,λ h' hs'=>#[Ë D,H',Sz I2 hC J' hs',rfl,q]]
def L8 É5{y:Str}{py spos:Pos}(S:Ð9) Đ ä3 ú
  (hN:X.N.Nodup) (hy:X.N[i]?=↑y) (hx:Loc Ï9 y)
  (hsw:swapsWith Ð ↑(.Name y py) spos.line Þ=pure true:=by rfl)
  (hfn:X.fn y=true\/Ā y=↑ ñ2:=by ext î2)
  ņ:PS X (.Assign [.Name y py] Ð spos) (cH (ZE pick wi g tc te) (gC i)):=by
 ext ſ;rw[exec_Assign_Name_used ä2 hsw];exact õ6;change æ _ X.A (do let _ <- comprehension Ð ą Þ _ (newList []) Ý (eval iter Þ) ↑ Ù0) Ü s;exact za0 (zcS (wpAny_comprehension_free (use:=↑ Ù0) (Q:=λ _ s'=>SP X gV Q .next s') Õ8) (λ _ s' hq=>AE (AE hq)) λ _ _ e=>e)
 ext È9;exact TN (Q:=λ x H1=>gC i x B H1 Q.nx) (RR:=λ acc C=>compPost Â X.xe ↑ Ù0 (λ _ s'=>SP X gV Q .next s') acc C) S hc hg hf Î6;change æ _ X.A (assign (.Name y py) Þ û3) Ü _;exact wpAny_assign_Name (ZJ J' hN hy hx (v:=Ë D) rfl (λ s3 J3=>?_) hfn);have hp:=(J3.pin é8).1;let#[m,o,es,ep,ho',hr]:=hn;have:o=oC:=zD5 (ho'.symm.trans ho);subst this;show#[m,#[o,es,ep,hp,hr],λ h' hs'=>#[_,H',Sz I2 hC J3 hs',q]]
end
end L2
namespace L3
open PySem Ö9 L2
open Á4 hiding St
inductive D where
 | zA | bl (b:Bool) | int û9 | str ç9 | tup (ds:ş) | qv (ds:ş) | ref Æ4
def gO í Ē Æ4 è0:Prop:=
 (∃ o,H a=↑(.pk o É1))\/
  ķ
def gO.sq Ľ Ġ Ê7 ĵ(h:gO ű):y4 ű:=by
 rcases h with h | h
 .show ă (Ř h)
 .show Ř h
mutual
def zj í Ē:D->V->Prop
 | .zA,v=>v=.zA
 | .bl b,v=>v=.bl b
 | ò5,v=>v=ò5
 | ä7,v=>v=ä7
 | Õ0,v=>∃ a xs,v=í0/\yz ű/\Ĺ
 | .qv ds,v=>∃ a xs,v=í0/\gO ű/\Ĺ
 | í0,v=>v=í0
def zu í Ē:ş->Ñ->Prop
 | [],xs=>xs=[]
 | d::ds,xs=>∃ x r,xs=x::r/\Ñ0/\zu ę ds r
end
structure Ext (H H':Hp):Prop where
 tup:İ
 pk:À6
 ext:∀ b φ,H b=↑(.ext φ)->H' b=↑(.ext φ)
 ds:∀ b x vs,H b=↑(.dS x vs)->∃ us,H' b=↑(.dS x us)
def Ext.refl Ē:Ext H H:=#[λ _ _ h=>h,λ _ _ _ h=>h,λ _ _ h=>h,λ _ _ _ h=>#[_,h]]
def Ext.trans {H H1 H2:Hp}(a:Ext H H1) (b:Ext H1 H2):Ext H H2:=#[λ c xs h=>b.tup c xs (a.tup c xs h),λ c o u h=>b.pk c o u (a.pk c o u h),λ c u h=>b.ext c u (a.ext c u h),λ c x u h=>by let#[_,h]:=a.ds c x u h;show b.ds c x _ h]
def Ext.new Ġ Ü9(h:H p=none) (o:HO):Ext H (upd H p o):=
 #[λ b xs q=>Ú1,λ b ob u q=>Ú1,λ b u q=>Ú1,λ b x u q=>#[u,Ú1]]
theorem Ext.lst Ġ Ü9 ĵ(h:H p=↑ É1) (o:HO):Ext H (upd H p o):=
 #[λ b ys q=>ı,λ b ob u q=>ı,λ b u q=>ı,λ b x u q=>#[u,ı]]
def Ext.cL Ľ Å2 Ê7 ĵ å9 (h:yz ű):yz K H' a xs:=by
 rcases h with (h | ⟨o,h⟩) | h
 .show ă (ă (e.tup Ü h))
 .show ă (Ř #[o,e.pk Ü _ h])
 .show Ř h
def Ext.cM Ľ Å2 Ê7 ĵ å9 (h:gO ű):gO K H' a xs:=by
 rcases h with ⟨o,h⟩ | h
 .show ă #[o,e.pk Ü _ h]
 .show Ř h
section
variable {Ľ}{Å2}
mutual
theorem zj.ext å9:∀ (d:D) {v:V},ë9->zj K H' d v
 | .zA,v,h=>Á9
 | .bl b,v,h=>Á9
 | ò5,v,h=>Á9
 | ä7,v,h=>Á9
 | í0,v,h=>Á9
 | Õ0,v,h=>by
  ext Ý5;show#[a,xs,h1,e.cL h2,à7 e ds h3]
 | .qv ds,v,h=>by
  ext Ý5;show#[a,xs,h1,e.cM h2,à7 e ds h3]
theorem à7 å9:∀ (ds:ş) ĵ,Ĺ->zu K H' ds xs
 | [],xs,h=>by simpa only [zu] using h
 | d::ds,xs,h=>by
  simp![zu] at h ⊢;ext Ŷ;show#[x,r,h1,zj.ext e d h2,à7 e ds h3]
end
theorem zu.length:∀ è9 ĵ,Ĺ->È0=Ø
 | [],xs,h=>by ext Ý8;subst h;rfl
 | d::ds,xs,h=>by
  ext Ý8;let#[x,r,h1,_,h3]:=h;subst h1;simp[zu.length h3]
theorem zu.get:∀ è9 ĵ É5 ý0,Ĺ->ds[i]?=↑d->∃ x,Ï5/\Ñ0
 | [],_,i,d,_,e=>by simp at e
 | c::ds,xs,i,d,h,e=>by
  ext Ý8;ext Ŷ;subst h1;cases i with
  | zero=>simp at e;subst e;show#[x,rfl,h2]
  | succ i=>
   let#[y,e1,e2]:=zu.get (i:=i) h3 (by exists e);show#[y,by simpa using e1,e2]
theorem zu.append:∀ {ds es:ş}â8,Ĺ->zu ę es ys->zu ę (ds++es) (xs++ys)
 | [],es,xs,ys,h,h'=>by ext Ý8;subst h;exists h'
 | d::ds,es,xs,ys,h,h'=>by
  ext Ý8;ext Ŷ;subst h1;change zu ę (d::(ds++es)) (x::(r++ys));simp![zu];show#[x,r++ys,rfl,h2,zu.append h3 h']
def zu.nil:zu ę [] []:=by simp![zu]
def zu.cons ý0 è9{x:V}ĵ(h:Ñ0) (h':Ĺ):zu ę (d::ds) (x::xs):=by
 simp![zu];show#[x,xs,rfl,h,h']
def zu.snoc ý0 è9{x:V}ĵ(h':Ĺ) (h:Ñ0):zu ę (ds++[d]) (xs++[x]):=h'.append (À4 h î3)
theorem zu.ints:∀ {ns:Æ2}ĵ,zu ę (ú5 D.int) xs->xs=ú5 V.int
 | [],xs,h=>õ7
 | n::ns,xs,h=>by
  ext á6;rw[AR,zu.ints h3]
theorem zu.Y3:∀ (ns:Æ2),zu ę (ú5 D.int) Á0
 | []=>î3
 | n::ns=>À4 (à) (zu.Y3 ns)
theorem zu.bools:∀ {ns:î1}ĵ,zu ę (ú5 D.bl) xs->xs=ú5 V.bl
 | [],xs,h=>õ7
 | n::ns,xs,h=>by
  ext á6;rw[AR,zu.bools h3]
end
inductive O where
 | lst (ds:ş)
 | xa (Az:ô1)
 | kS
 /-- an instance of Desk and its dict -/
 | zF (Az:ô1)
abbrev SS:=Addr->Ú O
def xI í Ē:ô1->ê4->Prop:=Paired λ p q=>p.1=q.1/\zj ę p.2 q.2
def mW í (c:Str) ã2:Prop:=PySem.W.nsIn K Ï7 c=↑↑ à2
def lD í Ē Æ4:O->Prop
 | ō ds=>∃ xs,H a=↑ É1/\Ĺ
 | .xa Az=>∃ vs,H a=↑(.dK vs)/\xI ę Az vs
 | .kS=>∃ C dx,mW K "Desk" C/\H a=↑(.ins C dx [])
 | .zF Az=>∃ C dx q vs,mW K "Desk" C/\H a=↑(.ins C dx [("kept",Ë q)])/\H q=↑(.dS a vs)/\xI ę Az vs
def yq í Ē (S:SS):Prop:=∀ a o,S a=↑o->lD ę a o
def ups (S:SS) Æ4 (o:O):SS:=λ b=>if b=a then ↑o else S b
def mz á4 Ê7{o:O}:ups S a o a=↑o:=by unfold ups;rw[Ī rfl]
def mY á4{a b:Addr}{o:O}(h:b≠a):ups S a o b=S b:=by unfold ups;rw[ĕ h]
def Sx (S S':SS):Prop:=∀ b o,S b=↑o->S' b=↑o
def Sx.refl (S:SS):Sx S S:=λ _ _ h=>h
def Sx.trans {S S1 S2:SS}(a:Sx S S1) (b:Sx S1 S2):Sx S S2:=λ c o h=>b c o (a c o h)
def Sx.new á4 Ü9(h:S p=none) (o:O):Sx S (ups S p o):=λ b u q=>by
 rw[mY (by intro z;subst z;rw[h] at q;cases q)];show q
theorem Sx.none {S S':SS}(e:Sx S S') Ü9(h:S' p=ç6):S p=ç6:=by
 cases q:S p with
 | none=>rfl
 | some o=>rw[e p o q] at h;cases h
section
variable {Ľ}{Å2}{á4}
def lD.has Ê7{o:O}(h:lD ę a o):H a≠none:=by
 cases o with
 | lst ds=>let#[xs,h,_]:=h;rw[h];simp
 | xa Az=>let#[xs,h,_]:=h;rw[h];simp
 | kS=>let#[C,dx,_,h]:=h;rw[h];simp
 | zF Az=>let#[C,dx,q,vs,_,h,_]:=h;rw[h];simp
theorem yq.none (r:ū) Ü9(h:H p=ç6):S p=ç6:=by
 cases q:S p with
 | none=>rfl
 | some o=>show Į h (r p o q).has
theorem xI.ext å9 {Az:ô1}{vs:ê4}(h:xI ę Az vs):xI K H' Az vs:=
 Paired.bD h λ p q z=>#[z.1,zj.ext e p.2 z.2]
def lD.keep Ê7{o:O}å9 (k:∀ u,H a=↑u->H' a=↑u) (kd:∀ q vs,ä1) (h:lD ę a o):lD K H' a o:=by
 cases o with
 | lst ds=>let#[xs,h1,h2]:=h;show#[xs,k _ h1,à7 e ds h2]
 | xa Az=>let#[xs,h1,h2]:=h;show#[xs,k _ h1,h2.ext e]
 | kS=>let#[C,dx,h0,h1]:=h;show#[C,dx,h0,k _ h1]
 | zF Az=>let#[C,dx,q,vs,h0,h1,h2,h3]:=h;show#[C,dx,q,vs,h0,k _ h1,kd Ü h2,h3.ext e]
theorem yq.keep å9 (k:∀ a u o,S a=↑o->H a=↑u->H' a=↑u) (kd:∀ q a vs,ä1) (r:ū):yq K H' S:=λ a o h=>(r a o h).keep e (λ u q=>k a u o h q) λ q vs z=>kd q a vs z
theorem yq.new Ü9{u:HO}(hp:H p=ç6) (r:ū):yq K û4 S:=
 r.keep (Ext.new hp u) (λ a v o _ q=>by rw[yw (m9 q hp)];show q) λ _ _ _ q=>by rw[yw (m9 q hp)];show q
theorem yq.ups Ü9{u:HO}{o:O}(e:Ext H û4) (hn:lD K û4 p o) (r:ū) (hu:∀ x us,u≠.dS x us:=by show λ _ _=>nofun):yq K û4 (ups S p o):=λ a o' h=>by
 by_cases ha:a=p
 .subst ha;rw[mz] at h;cases h;show hn
 .rw[mY ha] at h;exact (r a o' h).keep e (λ v q=>by rw[yw ha];show q) λ q vs z=>?_;have hq:q≠p:=λ y=>by
   subst y;let#[us,e1]:=e.ds Ü _ z;rw[yR] at e1;show hu Ü (zD5 e1)
  rw[yw hq];show z
end
abbrev yX:=List (Ú D)
def xH í Ē (Y:yX) (B:St):Prop:=Y.length=B.length/\∀ Â1 (d:D),Y[i]?=↑↑d->∃ v,B[i]?=↑↑v/\ë9
theorem xH.ext Ľ Å2{Y:yX}Ñ5 å9 (r:Ű):xH K H' Y B:=#[r.1,λ i d h=>by
 let#[v,h1,h2]:=r.2 i d h;show#[v,h1,zj.ext e d h2]]
theorem xH.set Ľ Ġ{Y:yX}Ñ5 Â1 ý0{v:V}(r:Ű) (h:ë9):xH ę (Y.set i ↑d) å0:=by
 exact#[by rw[zbG,zbG];show r.1,λ j c hc=>?_];rw[zbX] at hc ⊢;by_cases hj:i=j
 .subst hj;rw[Ī rfl] at hc ⊢;by_cases hl:i < Y.length
  .rw[Ī hl] at hc;rw[Ī (by rw[<- r.1];show hl)];cases hc;show#[v,rfl,h]
  .rw[ĕ hl] at hc;cases hc
 .rw[ĕ hj] at hc ⊢;show r.2 j c hc
abbrev DK:=D->ě
abbrev zx:=yX->ñ9
abbrev xb:=yX->SS->(õ8)->Prop
abbrev yy:=yX->SS->(ş->ě)->Prop
def y8 (t:zx):Prop:=∀ Y S (Q Q':DK),ľ->Ù1
def pM (t:xb):Prop:=∀ Y S (Q Q':õ8),ľ->Ù1
def o5 ý1:Prop:=∀ Y S (Q Q':ş->ě),ľ->Ù1
def qS í Ē Ñ4:DK:=λ d S'=>∀ v H',õ9
def eW í Ē (Q:Í6):õ8:=λ b S'=>∀ H',ł->Ù2->Q b H'
def ET í Ē (Q:Ñ->Ó):ş->ě:=λ ds S'=>∀ vs H',zu K H' ds vs->ł->Ù2->Q vs H'
def oP í Ē (Q:Ð2):û5:=fun Y S'=>∀ B H',xH K H' Y B->ł->Ù2->Q B H'
def qS.ext Ľ Å2{Q:VK}å9 ý0 á4(h:qS ę Q d S):qS K H' Q d S:=å4
def eW.ext Ľ Å2{Q:Í6}å9 {d:Bool}á4(h:eW ę Q d S):eW K H' Q d S:=λ H2 x q=>h H2 (e.trans x) q
def oP.ext Ľ Å2{Q:Ð2}å9 {d:yX}á4(h:oP ę Q d S):oP K H' Q d S:=å4
def zU í (t:zx):TE:=fun B H Q=>∃ Y S,Ű/\ū/\t Y S (qS ę Q)
def qL í (t:xb):TT:=fun B H Q=>∃ Y S,Ű/\ū/\t Y S (eW ę Q)
def rR í ý1:TA:=fun B H Q=>∃ Y S,Ű/\ū/\t Y S (ET ę Q)
structure PD ô â9 (t:zx):Prop where
 mo:y8 t
 pe:PE X e (zU X.K t)
structure zD ô â9 (t:xb):Prop where
 mo:pM t
 pt:PT X e (qL X.K t)
structure y7 ô (es:ď) ý1:Prop where
 mo:o5 t
 pa:PA X es (rR X.K t)
def Ù3 ċ ī{t t':TE}(h:PE X e t) Ě:PE X e t':=Ō
def PT.imp ċ ī{t t':TT}(h:PT X e t) Ě:PT X e t':=Ō
def PA.imp ċ{e:ď}{t t':TA}(h:PA X e t) Ě:PA X e t':=λ pos gV s B H Q I q=>h pos É Q I (hi Ŵ q)
def PS.imp ċ{e:Stmt}{t t':TS}(h:PS X e t) ô9:PS X e t':=â7
def qI.imp ċ{e:Ê4}{t t':TS}(h:qI X e t) ô9:qI X e t':=â7
section
variable {ċ}{Ľ}
def ó6 {t:zx}Ñ5 Ġ{Q:VK}{Y:yX}á4{R:DK}(mo:y8 t) Ñ6 (k:∀ d S' v H',R d S'->õ9):zU K t Ŵ:=
 Ä3
def qL.go {t:xb}Ñ5 Ġ{Q:Í6}{Y:yX}á4{R:õ8}(mo:pM t) Ñ6 (k:∀ d S' H',R d S'->ł->Ù2->Q d H'):qL K t Ŵ:=
 #[Y,S,r1,r2,mo į (λ d S' q H' b c=>k d S' H' q b c) h]
def rR.go {t:yy}Ñ5 Ġ{Q:Ñ->Ó}{Y:yX}á4{R:ş->ě}(mo:o5 t) Ñ6 (k:∀ d S' v H',R d S'->zu K H' d v->ł->Ù2->Q v H'):rR K t Ŵ:=
 Ä3
def yN Â1:zx:=fun Y S Q=>match Y[i]? with
 | some ↑d=>Q d S
 | _=>č
def dC (d:D):zx:=λ _ S Q=>Q d S
def UN Â1 Ĭ ĉ(h:PE X š (o9 i)):PD X š (yN i):=by
 exact#[fun Y S Q Q' hq h=>?_,Ù3 h Ğ]
 .unfold yN at h ⊢;ext é0
  .show È1
  .show h
 .ext ŋ;unfold yN at h;ext é0
  .rename_i d e;let#[v,h1,h2]:=r1.2 i d e;show#[v,h1,h v H h2 ò0 r2]
  ext Ĩ
def dC.mo (d:D):y8 (dC d):=λ _ _ _ _ hq h=>È1
def jJ ī ý0{v:V}(h:PE X e (tC v)) (r:∀ H,zj è5 d v):PD X e (dC d):=
 #[dC.mo d,Ù3 h λ _ H _ #[_,_,_,r2,h]=>h v H (r H) ò0 r2]
def u5 {i j pos}:PD X (Ø2 (ò5) j pos) (dC (ò5)):=jJ Kz λ _=>à
def uN {i j pos}:PD X (Ø2 (ù2 i) j pos) (dC (.bl i)):=jJ K7 λ _=>à
def vV {j pos}:PD X (Ø2 æ2 j pos) (dC .zA):=jJ Ku λ _=>à
def we {x j pos}:PD X (Ø2 (ä7) j pos) (dC (ä7)):=jJ Ko λ _=>à
abbrev xA:=D->D->ñ9
def rZ (f:xA):Prop:=∀ x y S (Q Q':DK),ľ->f x y S Q->f x y S Q'
def rO í (f:xA) (r:R2):Prop:=∀ x y d e H S Q,Ñ0->zj ę e y->ū->f d e S (qS ę Q)->r è7
def yW (f:xA) (ta tb:zx):zx:=fun Y S Q=>ta Y S λ x S1=>tb Y S1 λ y S2=>f x y S2 Q
def yW.mo {f:xA}{ta tb:zx}(hf:rZ f) Ã7:y8 ð3:=fun Y S Q Q' hq h=>
 ha į (λ x S1 h=>hb é1 (λ y S2 h=>hf x y S2 Ü hq h) h) h
def cx Å8(hr:rO K f r) (hf:rZ f) Ã7 Ñ5 Ġ{Q:VK}(h:zU K ð3 Ŵ):fk r (zU K ta) (zU K tb) Ŵ:=by
 let#[Y,S,r1,r2,h]:=h;exact ó6 ha á2 h ś;exact ó6 hb é2;show hr v w x y H2 S2 Q (zj.ext e2 x q1) q2 p2 (hf x y S2 Ü (λ d S' z=>z.ext (Í5 e2)) h2)
def kQ Î5{op:Operator}ĉ Å8(ho:yO X (Ç7 op) r) Õ9 È:PD X (.BinOp a op b pos) ð3:=
 #[yW.mo hf ň,Ù3 (Kr ho Ö0) λ _ _ _ h=>cx hr hf ň h]
def jK Î5 Ù7 ĉ Å8 Ķ Õ9 È (hm:ŀ):PD ũ ð3:=
 #[yW.mo hf ň,Ù3 (K3 ho Ö0 hm) λ _ _ _ h=>cx hr hf ň h]
def pz (t:zx):xb:=fun Y S Q=>t Y S λ x S1=>match x with
 | .bl b=>Q b S1
 | _=>č
def pz.mo {t:zx}(h:y8 t):pM (pz t):=fun Y S Q Q' hq q=>h į (λ d S' z=>by
 cases d <;> first
  | show à8
  | show z) q
def ka Î5 Ù7 ĉ Å8 Ķ Õ9 È (hm:ŀ):zD ũ (pz ð3):=by
 exact#[pz.mo (yW.mo hf ň),PT.imp (Lu ho Ö0 hm) fun B H Q h=>?_];let#[Y,S,r1,r2,h]:=h;exact cx hr hf ň #[Y,S,r1,r2,yW.mo hf ň į (λ d S' z v H' a b c=>?_) h];cases d with
 | bl k=>simp![zj] at a;show#[k,a,z H' b c]
 | _=>show z.elim
def fI (C:Ô3) (g:Ñ1):xA:=λ x y S Q=>match x,y with
 | ò5,ì j=>C i j/\Q Í0 S
 | _,_=>č
def fI.mo {C:Ô3}{g:Ñ1}:rZ (fI C g):=λ x y S Q Q' hq h=>by
 unfold fI at h ⊢;ext é0
 .show ì0
 ext Ĩ
def zE (g:Ñ1):xA:=λ x y S Q=>match x,y with
 | ò5,ì j=>Q Í0 S
 | _,_=>č
def zE.mo {g:Ñ1}:rZ (zE g):=λ x y S Q Q' hq h=>by
 unfold zE at h ⊢;ext é0
 .show È1
 ext Ĩ
def fI.fits {C:Ô3}ħ:rO K (fI C g) (rI C g'):=λ x y d e H S Q h1 h2 h3 h=>by
 unfold fI at h;ext é0
 .ext Ú6;show#[_,_,h1,h2,h.1,h.2 _ H (hg Ü H) ò0 h3]
 ext Ĩ
def zE.fits ħ:rO K (zE g) (oI g'):=λ x y d e H S Q h1 h2 h3 h=>by
 unfold zE at h;ext é0
 .ext Ú6;show#[_,_,h1,h2,h _ H (hg Ü H) ò0 h3]
 ext Ĩ
variable {Î5}{ta tb:zx}{ĉ}
def vI È:PD X (.BinOp a .Sub b pos) (yW (zE λ i j=>ì (i-j)) À2):=kQ Jk (Ñ2) zE.mo ha hb
def vZ È:PD X (.BinOp a .Mod b pos) (yW (fI (λ _ j=>0<j) λ i j=>ì (i%j)) À2):=kQ Jr Ż
def uE È:PD X (.BinOp a .FloorDiv b pos) (yW (fI r_ λ i j=>ì (i/j)) À2):=kQ Jw Ż
def vR È:PD X (.BinOp a .Pow b pos) (yW (fI j9 λ i j=>ì (i ^ j.toNat)) À2):=kQ Jm Ż
def vQ È:PD X (.BinOp a .RShift b pos) (yW (fI ì6) À2):=kQ Jl Ż
def uO È:PD X (.BinOp a .BitAnd b pos) (yW (zE ñ6) À2):=kQ J0 (Ñ2) zE.mo ha hb
abbrev ae:xA:=zE Ý9
abbrev af:xA:=zE Þ0
def fit_le:rO K ae (oI Ý9):=Ñ2
def Rj:rO K af (oI Þ0):=Ñ2
def uq È:PD X (ö0 a [.LtE] [b] pos) (yW ae À2):=jK zK fit_le Ú7
def uD È:PD X (ö0 a [.GtE] [b] pos) (yW af À2):=jK Td Rj Ú7
def wV È:zD X (ö0 a [.LtE] [b] pos) (pz (yW ae À2)):=ka zK fit_le Ú7
def w_ È:zD X (ö0 a [.GtE] [b] pos) (pz (yW af À2)):=ka Td Rj Ú7
end
section
variable {ċ}{Ľ}{a b c:Expr}{ta tb:zx}{ĉ}
def di (ta tb:zx):zx:=fun Y S Q=>ta Y S λ x S1=>match x with
 | .bl k=>if k=true then tb Y S1 Q else Q (.bl Ý) S1
 | _=>č
def de (ta tb:zx):zx:=fun Y S Q=>ta Y S λ x S1=>match x with
 | .bl k=>if k=true then Q (.bl true) S1 else tb Y S1 Q
 | _=>č
def df (ta:zx):zx:=fun Y S Q=>ta Y S λ x S1=>match x with
 | .bl k=>Q (.bl (!k)) S1
 | _=>č
def qP {c:Prop} [Decidable c] {A B A' B':Prop}(h1:A->A') (h2:B->B') (h:if c then A else B):if c then A' else B':=by
 by_cases q:c
 .rw[Ī q] at h ⊢;show h1 h
 .rw[ĕ q] at h ⊢;show h2 h
def di.mo Ã7:y8 (di À2):=fun Y S Q Q' hq h=>ha į (λ x S1 z=>by
 cases x <;> first
  | show qP (hb é9) (hq Ü) z
  | show z) h
def de.mo Ã7:y8 (de À2):=fun Y S Q Q' hq h=>ha į (λ x S1 z=>by
 cases x <;> first
  | show qP (hq Ü) (hb é9) z
  | show z) h
def df.mo (ha:y8 ta):y8 (df ta):=fun Y S Q Q' hq h=>ha į (λ x S1 z=>by
 cases x <;> first
  | show à8
  | show z) h
def vT {op} {t:zx}(h:PD X a t):PD X (œ op [a] pos) t:=#[h.mo,Ks h.pe]
variable {rest:ď}
theorem uR Ö1 (hb:PD è4 tb):PD í5 (di À2):=by
 exact#[di.mo ň,Ù3 (K8 Ö0) Ğ];ext Ò;cases x with
 | bl k=>
  ext Ô0;exact#[k,q1,Ä9]
  .show ó6 hb.mo ó
  .show z _ H1 (à) e1 p1
 | _=>show ð4
theorem vS Ö1 (hb:PD í6 tb):PD ô6 (de À2):=by
 exact#[de.mo ň,Ù3 (Kq Ö0) Ğ];ext Ò;cases x with
 | bl k=>
  ext Ô0;exact#[k,q1,Ä9]
  .show z _ H1 (à) e1 p1
  .show ó6 hb.mo ó
 | _=>show ð4
theorem vU Ö1:PD É6 (df ta):=by
 exact#[df.mo ha.mo,Ù3 (Kt ha.pe) Ğ];ext Ò;cases x with
 | bl k=>
  ext Ô0;show#[k,q1,h1 _ H1 (à) e1 p1]
 | _=>show ð4
def eU (t u:xb):xb:=fun Y S Q=>t Y S λ k S1=>if k=true then u Y S1 Q else Q Ý S1
def eS (t u:xb):xb:=fun Y S Q=>t Y S λ k S1=>if k=true then Q true S1 else u Y S1 Q
def eT (t:xb):xb:=fun Y S Q=>t Y S λ k S1=>Q (!k) S1
variable {t u:xb}
def eU.mo (h:pM t) (h':pM u):pM (eU t u):=fun Y S _ _ hq z=>h į (λ k S1 z=>qP (h' é9) (hq Ü) z) z
def eS.mo (h:pM t) (h':pM u):pM (eS t u):=fun Y S _ _ hq z=>h į (λ k S1 z=>qP (hq Ü) (h' é9) z) z
def eT.mo (h:pM t):pM (eT t):=fun Y S _ _ hq z=>h į (λ k S1 z=>à8) z
structure xw ô â9 (t:xb):Prop where
 mo:pM t
 pw:PW X e (qL X.K t)
def PW.imp ī{t t':TT}(h:PW X e t) Ě:PW X e t':=λ whole gV s B H Q I q=>h whole É Q I (hi Ŵ q)
theorem xw.pt ī{t:xb}(h:xw X e t):zD X e t:=#[h.mo,PW.pt h.pw]
def wM (h:zD X a t):xw X (œ .And [a] pos) t:=#[h.mo,Lj h.pt]
def wL (h:zD X a t):xw X (œ .Or [a] pos) t:=#[h.mo,Lh h.pt]
def yD (ha:zD X a t) (hb:xw è4 u):xw í5 (eU t u):=by
 exact#[eU.mo ň,PW.imp (Lk ha.pt hb.pw) Ğ];ext ŋ;exact qL.go ha.mo á2 h λ k S1 H1 h1 e1 p1=>qP ú3 (λ z=>z ê1) h1;show Ä4
def yC (ha:zD X a t) (hb:xw í6 u):xw ô6 (eS t u):=by
 exact#[eS.mo ň,PW.imp (Li ha.pt hb.pw) Ğ];ext ŋ;exact qL.go ha.mo á2 h λ k S1 H1 h1 e1 p1=>qP (λ z=>z ê1) ú3 h1;show Ä4
def wR (ha:zD X a t):zD É6 (eT t):=by
 exact#[eT.mo ha.mo,PT.imp (Ls ha.pt) Ğ];ext ŋ;show qL.go ha.mo á2 h λ k S1 H1 h1 e1 p1=>h1 ê1
def dg (t:xb) (ta tb:zx):zx:=fun Y S Q=>t Y S λ k S1=>if k=true then ta Y S1 Q else tb Y S1 Q
def dg.mo (h:pM t) Ã7:y8 (dg t À2):=fun Y S _ _ hq z=>h į (λ k S1 z=>qP (ha é9) (hb é9) z) z
def u9 (hc:zD X c t) È:PD X (.IfExp c a b pos) (dg t À2):=by
 exact#[dg.mo hc.mo ň,Ù3 (K1 hc.pt Ö0) Ğ];ext ŋ;exact qL.go hc.mo á2 h λ k S1 H1 h1 e1 p1=>Ä9
 .show ó6 ha.mo ó
 .show ó6 hb.mo ó
def o6 (d:D) (S:SS) (Q:õ8):Prop:=match d with
 | .zA=>Q Ý S
 | .bl k=>Q k S
 | ò5=>Q (i != 0) S
 | ä7=>x.length<=Û/\Q ((x.length:Int) != 0) S
 | Õ0=>ð5
 | .qv ds=>ð5
 | Ë p=>match S p with
  | Ì5=>ð5
  | some (.xa Az)=>Q (!Az.isEmpty) S
  | _=>č
def Xw (ta:zx):xb:=fun Y S Q=>ta Y S λ x S1=>o6 x S1 Q
def o6.mo ý0 á4{Q Q':õ8}(hq:∀ k S',Q k S'->Q' k S') (h:o6 d S Q):o6 d S Q':=by
 cases d with
 | str x=>show ì0
 | ref p=>
  unfold o6 at h ⊢;dsimp only at h ⊢;ext é0
  .show È1
  .show È1
  .show h
 | _=>show È1
theorem zu.isEmpty Ġ è9 ĵ(h:Ĺ):ds.isEmpty=Ø3:=by
 have:=h.length;cases ds <;> cases xs <;> simp_all
def CT {α β:Type}{F:α->β->Prop}{xs:List α}{ys:List β}(h:Paired F xs ys):Ø3=ys.isEmpty:=by cases h <;> rfl
def o6.fits Ġ ý0{v:V}á4{Q:Í6}(r:ë9) (p:ū) (h:o6 d S (eW ę Q)):∃ k,Wq K v H k/\Q k H:=by
 cases d with
 | zA=>ext Ê6;show#[Ý,rfl,ì1]
 | bl k=>ext Ê6;show#[k,rfl,ì1]
 | int i=>ext Ê6;show#[_,rfl,ì1]
 | str x=>ext Ê6;show#[_,#[h.1,rfl],h.2 H Ģ p]
 | tup ds=>
  ext ê3;show#[_,Ř (ă #[xs,r1,ó7]),ì1]
 | qv ds=>
  ext ê3;show#[_,ă #[xs,r1.sq,ó7],ì1]
 | ref a=>
  ext Ê6;unfold o6 at h;dsimp only at h;ext é0
  .rename_i ds e;let#[xs,e1,r2]:=p a _ e;show#[_,ă #[xs,y4.of e1,ó7],ì1]
  .rename_i Az e;let#[xs,e1,r2]:=p a _ e;show#[_,Ř (Ř #[xs,e1,by rw[CT r2]]),ì1]
  ext Ĩ
def wO Ö1 Á1:zD X a (Xw ta):=by
 exact#[fun Y S Q Q' hq h=>ha.mo į (λ x S1 z=>o6.mo hq z) h,PT.imp (Lr ha.pe he) Ğ];ext Ò;show o6.fits q1 p1 (o6.mo (λ k S' z=>z.ext e1) h1)
def l9:yy:=λ _ S Q=>Q [] S
def nD (te:zx) (tr:yy):yy:=fun Y S Q=>te Y S λ x S1=>tr Y S1 λ xs S2=>Q (x::xs) S2
variable {ī}{è6}{te:zx}{tA:yy}
def nD.mo (h:y8 te) (h':o5 tA):o5 (nD te tA):=fun Y S _ _ hq z=>h į (λ x S1 z=>h' é1 (λ xs S2 z=>à8) z) z
def wx:y7 X [] l9:=#[λ _ _ _ _ hq h=>È1,PA.imp kb fun B H Q #[_,_,_,r2,h]=>h [] H î3 Ģ r2]
def wy (ha:û6) (hr:y7 X es tA) (hs:AY X e es):y7 X Ï8 (nD te tA):=by
 exact#[nD.mo ha.mo hr.mo,PA.imp (kc ha.pe hr.pa hs) Ğ];ext Ò;exact rR.go hr.mo (Ì4) p1 h1 λ xs S2 w H2 h2 q2 e2 p2=>?_;show h2 (v::w) H2 (À4 (zj.ext e2 x q1) q2) (Í5 e2) p2
def RH ý1:zx:=fun Y S Q=>t Y S λ ds S1=>È0<=Û/\Q (Õ0) S1
def RO ý1:zx:=fun Y S Q=>t Y S λ ds S1=>È0<=Û/\∀ p,S1 p=none->Q ù8 (ups S1 p (ō ds))
def vG {k} (h:y7 X es tA):PD X ï1 (RH tA):=by
 exact#[fun Y S _ _ hq z=>h.mo į (λ ds S1 z=>Ó5) z,Ù3 (Kn h.pa) Ğ];ext Ņ;exact h1.2 Ü ?_ (Í5 ç7) (p1.new hp);simp![zj];show#[p,xs,rfl,yz.of yR,à7 ç7 ds q1]
theorem uh (h:y7 X es tA):PD X (.List es pos) (RO tA):=by
 exact#[fun Y S _ _ hq z=>h.mo į (λ ds S1 z=>#[z.1,λ p hp=>hq Ü (z.2 p hp)]) z,Ù3 (Kw h.pa) Ğ];ext Ņ;exact h1.2 p (p1.none hp) Ü (à) (Í5 ç7) ?_;show p1.ups ç7 #[xs,yR,à7 ç7 ds q1]
def px:xA:=λ x y S Q=>match x,y with
 | Õ0,ò5=>match yt ds i with
  | some d=>Q d S
  | none=>č
 | .qv ds,ò5=>match yt ds i with
  | some d=>Q d S
  | none=>č
 | Ë p,ò5=>match S p with
  | Ì5=>match yt ds i with
   | some d=>Q d S
   | none=>č
  | _=>č
 | .str z,ò5=>â3<=Û/\match yt z.cps.toList i with
  | some c=>Q (ç3) S
  | none=>č
 | _,_=>č
def px.mo:rZ px:=λ x y S Q Q' hq h=>by
 unfold px at h ⊢;ext é0
 .skip
  ext é0
  .show È1
  .show h
 .skip
  ext é0
  .show È1
  .show h
 .skip
  ext é0
  .skip
   ext é0
   .show È1
   .show h
  ext Ĩ
 .let#[h0,h]:=h;exact#[h0,?_];ext é0
  .show È1
  .show h
 ext Ĩ
theorem zu.yt Ġ è9 ĵ{i:Int}ý0(h:Ĺ) (e:L2.yt ds i=↑d):∃ x,L2.yt xs i=↑x/\Ñ0:=by
 unfold L2.yt at e ⊢;rw[h.length] at e;cases q:qc Ø i with
 | none=>rw[q] at e;cases e
 | some j=>
  rw[q] at e;show h.get e
def px.fits:rO K px (U0 K):=λ x y d e H S Q h1 h2 h3 h=>by
 unfold px at h;ext é0
 .ext é0
  .ext Â2;show Ř (ă #[a,xs,_,x',rfl,h2,r1,e1,û7])
  ext Ĩ
 .ext é0
  .ext Â2;show ă #[a,xs,_,x',rfl,h2,r1.sq,e1,û7]
  ext Ĩ
 .ext é0
  .rename_i q0;ext é0
   .rename_i q;ext Ú6;subst h1;let#[xs,r1,r2]:=h3 Ü q0;let#[x',e1,e2]:=r2.yt q;show ă #[_,xs,_,x',rfl,h2,y4.of r1,e1,û7]
   ext Ĩ
  ext Ĩ
 .let#[h0,h]:=h;ext é0
  .rename_i q;ext Ú6;show Ř (Ř #[_,_,_,h1,h2,h0,q,h _ H (à) Ģ h3])
  ext Ĩ
 ext Ĩ
def uv È (hs:Pc b):PD X (ï2 a b pos) (yW px À2):=
 #[yW.mo px.mo ň,Ù3 (Ky HR Ö0 hs) λ _ _ _ h=>cx px.fits px.mo ň h]
abbrev x9:=ş->ñ9
def qK (f:x9):Prop:=∀ ds S (Q Q':DK),ľ->f ds S Q->f ds S Q'
def pO í (f:x9) (r:Ý2):Prop:=∀ xs ds H S Q,Ĺ->ū->f ds S (qS ę Q)->r xs H Q
def qp (f:x9) ý1:zx:=fun Y S Q=>t Y S λ ds S1=>f ds S1 Q
def qp.mo {f:x9}(hf:qK f) (h:o5 tA):y8 (qp f tA):=fun Y S _ _ hq z=>h į (λ ds S1 z=>hf ds ê0 z) z
def Vy {f:x9}{r:Ý2}(hf:qK f) (hr:pO K f r) (h:o5 tA) Ñ5 Ġ{Q:VK}(hu:zU K (qp f tA) Ŵ):cG r (rR K tA) Ŵ:=by
 let#[Y,S,r1,r2,h']:=hu;exact rR.go h á2 h' ó8;show hr xs ds H1 S1 Q q1 p1 (hf ds S1 Ü (λ d S' z=>z.ext e1) h1)
def m6 {f:x9}{r:Ý2}ī(h:PE X e (cG r û8)) (hf:qK f) (hr:pO X.K f r) (ha:o5 tA):PD X e (qp f tA):=
 #[qp.mo hf ha,Ù3 h λ _ _ _ hu=>Vy hf hr ha hu]
def yx (d:D) (S:SS):Ú (ş):=match d with
 | Õ0=>↑ds
 | .qv ds=>↑ds
 | Ë p=>match S p with
  | Ì5=>↑ds
  | _=>none
 | _=>none
theorem yx.sq Ġ á4 ý0{v:V}è9(r:ë9) (p:ū) (e:yx d S=↑ds):∃ a xs,v=í0/\(y4 ű\/yz ű)/\Ĺ:=by
 unfold yx at e;split at e
 .ext Ú0;show#[a,xs,h1,Ř h2,h3]
 .ext Ú0;show#[a,xs,h1,ă h2.sq,h3]
 .split at e
  .rename_i q;cases e;ext Ê6;let#[xs,h1,h2]:=p Ü q;show#[_,xs,rfl,ă (y4.of h1),h2]
  .cases e
 .cases e
def zu.one Ġ ý0 ĵ(h:zu ę [d] xs):∃ x,xs=[x]/\Ñ0:=by
 ext Ý8;let#[x,r,rfl,h2,rfl]:=h;show#[x,rfl,h2]
def zu.two Ġ{d d':D}ĵ(h:zu ę [d,d'] xs):∃ x y,xs=[x,y]/\Ñ0/\zj ę d' y:=by
 ext Ý8;let#[x,r,rfl,h2,y,r',rfl,h3,rfl]:=h;show#[x,y,rfl,h2,h3]
def ma:x9:=λ ds S Q=>match ds with
 | [d]=>match yx d S with
  | some ds=>Q (ì È0) S
  | none=>match d with
   | .str z=>â3<=Û/\Q (ì â3) S
   | _=>č
 | _=>č
def ma.mo:qK ma:=λ ds S Q Q' hq h=>by
 unfold ma at h ⊢;ext é0
 .skip
  ext é0
  .show È1
  .ext é0
   .show ì0
   ext Ĩ
 ext Ĩ
abbrev Lf í:Ý2:=λ xs H Q=>(∃ p ys,Ø7/\(y4 ę p ys\/yz ę p ys)/\Q (ì Ð7) H)\/(Ò3)
def ma.fits:pO K ma (Lf K):=λ xs ds H S Q h0 h2 h=>by
 unfold ma at h;ext é0
 .ext ŕ;ext é0
  .ext Ú8;exact ă #[a,ys,rfl,q,?_];rw[<- Ê0];show h _ H (à) Ģ h2
  .ext é0
   .simp![zj] at h1;subst h1;show Ř #[_,rfl,h.1,h.2 _ H (à) Ģ h2]
   ext Ĩ
 ext Ĩ
def n_:x9:=λ ds S Q=>match ds with
 | [d]=>match yx d S with
  | some ds=>∀ p,S p=none->Q ù8 (ups S p (ō ds))
  | none=>č
 | _=>č
def n_.mo:qK n_:=λ ds S Q Q' hq h=>by
 unfold n_ at h ⊢;ext é0
 .skip
  ext é0
  .show λ p hp=>hq Ü (h p hp)
  ext Ĩ
 ext Ĩ
def n_.fits:pO K n_ (λ xs H Q=>∃ p ys,Ø7/\(y4 ę p ys\/yz ę p ys)/\Þ2):=λ xs ds H S Q h0 h2 h=>by
 unfold n_ at h;ext é0
 .ext ŕ;ext é0
  .ext Ú8;exact#[a,ys,rfl,q,λ l hl=>?_];show h l (h2.none hl) Ü (à) Ü5 (h2.ups Ü5 #[ys,yR,à7 Ü5 _ r])
  ext Ĩ
 ext Ĩ
def nX:x9:=λ ds S Q=>match ds with
 | [Õ0]=>Q (Õ0) S
 | [.qv ds]=>Q (Õ0) S
 | [Ë p]=>match S p with
  | Ì5=>Q (Õ0) S
  | _=>č
 | _=>č
def nX.mo:qK nX:=λ ds S Q Q' hq h=>by
 unfold nX at h ⊢;ext é0
 .show È1
 .show È1
 .skip
  ext é0
  .show È1
  ext Ĩ
 ext Ĩ
def nX.fits:pO K nX (λ xs H Q=>∃ p ys,Ø7/\((y4 ę p ys/\Ü3)\/(yz ę p ys/\Q ù8 H))):=λ xs ds H S Q h0 h2 h=>by
 unfold nX at h;ext é0
 .ext ŕ;have h1':=h1;simp![zj] at h1;ext Ò0;show#[a,xs,rfl,Ř #[r1,h _ H h1' Ģ h2]]
 .ext ŕ;simp![zj] at h1;ext Ò0;exact#[a,xs,rfl,ă #[r1.sq,ð6]];simp![zj];show Î4
 .ext ŕ;ext é0
  .rename_i e;simp![zj] at h1;subst h1;let#[xs,r1,r2]:=h2 Ü e;exact#[_,xs,rfl,ă #[y4.of r1,ð6]];simp![zj];show Î4
  ext Ĩ
 ext Ĩ
def ny (g:Ñ1):x9:=λ ds S Q=>match ds with
 | Í7=>Q Í0 S
 | _=>č
def ny.mo {g:Ñ1}:qK (ny g):=λ ds S Q Q' hq h=>by
 unfold ny at h ⊢;ext é0
 .show È1
 ext Ĩ
def ny.fits ħ:pO K (ny g) (λ xs H Q=>∃ i j,xs=Í7/\Q (g' i j) H):=λ xs ds H S Q h0 h2 h=>by
 unfold ny at h;ext é0
 .let#[x,y,hx,h1,h3]:=h0.two;subst hx;simp![zj] at h1 h3;subst h1 h3;show#[_,_,rfl,h _ H (hg Ü H) Ģ h2]
 ext Ĩ
def zad:xA:=λ x y S Q=>match x,y with
 | Ë p,Ë q=>match S p,S q with
  | Ì5,↑(ō es)=>È0+es.length<=Û/\∀ r,S r=none->Q (Ë r) (ups S r (ō (ds++es)))
  | _,_=>č
 | _,_=>č
def mh (to te:zx):zx:=fun Y S Q=>to Y S λ x S1=>match x with
 | Ë p=>(∃ ds,S1 p=↑(ō ds))/\te Y S1 λ y S2=>match S2 p with
  | Ì5=>È0<Û/\Q .zA (ups S2 p (ō (ds++[y])))
  | _=>č
 | _=>č
def mh.mo {to te:zx}ä5:y8 (mh to te):=fun Y S Q Q' hq z=>h į (λ x S1 z=>by
 cases x with
 | ref p=>
  exact#[z.1,h' é1 (λ y S2 w=>?_) z.2];split at w
  .show#[w.1,hq Ü w.2]
  .show w.elim
 | _=>show z) z
theorem QT {to te:zx}ä5 (B:St) Ē Ñ4 (hu:zU K (mh to te) Ŵ):jF K "list" Yp (zU K to) (fq (zU K te) iK) Ŵ:=by
 ext è;exact ó6 h á2 z ś;cases x with
 | ref p=>
  let#[#[ds,hd],h1]:=h1;ext Ô0;subst q1;let#[xs,g1,g2]:=p1 Ü hd;exact#[ă #[rfl,xs,y4.of g1],?_];exact ó6 h' é2;split at h2
  .rename_i ds' e3;let#[xs',g3,g4]:=p2 Ü e3;exact#[p,xs',w,rfl,rfl,g3,by rw[<- g4.length];show h2.1,?_];have e4:Ext H2 (upd H2 p (ō (xs'++[w]))):=ō g3 _;show h2.2 Ü (à) ((Í5 e2).trans e4) (p2.ups e4 #[_,yR,à7 e4 _ (g4.snoc q2)])
  .show h2.elim
 | _=>show ð4
def KZ {o e:Expr}{to te:zx}{e0:Expr}(hpe:PE X e0 (jF X.K "list" Yp (zU X.K to) (fq (zU X.K te) iK))) ä5:PD X e0 (mh to te):=#[mh.mo h h',Ù3 hpe (QT h h')]
end
structure j7 where
 nx:û5
 rt:DK
 bk:û5:=ë0
 ct:û5:=ë0
abbrev xf:=j7->û5
structure j7.Le (E E':j7):Prop where
 nx:∀ Y S,E.nx Y S->E'.nx Y S
 rt:∀ d S,E.rt d S->E'.rt d S
 bk:∀ Y S,E.bk Y S->E'.bk Y S
 ct:∀ Y S,E.ct Y S->E'.ct Y S
def mU (t:xf):Prop:=∀ E E' Y S,j7.Le E E'->t E Y S->t E' Y S
def mf í Ē (D:Ends):j7:=#[oP ę D.nx,qS ę D.rt,oP ę D.bk,oP ę D.ct]
theorem mf.ext Ľ Å2{D:Ends}å9:(mf ę D).Le (mf K H' D):=#[ç8,λ _ _ h=>qS.ext e h,ç8,ç8]
def Zy í (t:xf):TS:=λ D B H=>∃ Y S,Ű/\ū/\t (mf ę D) Y S
structure zw ô (st:Stmt) (t:xf):Prop where
 mo:mU t
 ps:PS X st (Zy X.K t)
structure yT ô (st:Ê4) (t:xf):Prop where
 mo:mU t
 ps:qI X st (Zy X.K t)
section
variable {ċ}{Ľ}{st:Stmt}{rest:Ê4}{t u:xf}{ĉ}{ī}{te:zx}
def RL:xf:=λ E Y S=>E.nx Y S
def k5 (t u:xf):xf:=λ E Y S=>t { E with nx:=u E } Y S
def k5.mo (h:mU t) (h':mU u):mU (k5 t u):=λ E E' Y S hE z=>h { E with nx:=u E } { E' with nx:=u E' } Y S #[fun Y S q=>h' E E' Y S hE q,hE.rt,hE.bk,hE.ct] z
def vd:yT X [] RL:=#[λ _ _ _ _ hE h=>hE.nx Ü h,qI.imp Ly λ D B H #[Y,S,r1,r2,h]=>h Ů r1 Ģ r2]
def wa (h:zw X st t):yT X [st] t:=#[h.mo,Lx h.ps]
def xK (h:zw X st t) (h':yT X rest u):yT X (st::rest) (k5 t u):=by
 exact#[k5.mo h.mo h'.mo,qI.imp (Lz h.ps h'.ps) Ë2];ext è;exact#[Y,S,r1,r2,h.mo { mf è5 D with nx:=u (mf è5 D) } _ Y S #[fun Y' S' q B' H' q1 q2 q3=>?_,Á6,Á6,Á6] z];show#[Y',S',q1,q3,h'.mo Ü Y' S' (mf.ext q2) q]
def gI (te:zx):xf:=λ E Y S=>te Y S λ _ S1=>E.nx Y S1
def vn (he:û6) (hs:å1):zw X (.Expr e pos) (gI te):=by
 exact#[λ E E' Y S hE z=>he.mo į (λ _ _ q=>hE.nx Ü q) z,PS.imp (LG he.pe hs) Ë2];ext è;show ó6 he.mo á2 z λ x S1 v H1 h1 q1 e1 p1=>h1 B H1 (Ì4) e1 p1
def jj (te:zx):xf:=λ E Y S=>te Y S E.rt
def wc (he:û6):zw X (.Return ↑e pos) (jj te):=by
 exact#[λ E E' Y S hE z=>he.mo į (λ _ _ q=>hE.rt Ü q) z,PS.imp (LA he.pe) Ë2];ext è;show ó6 he.mo á2 z λ x S1 v H1 h1 q1 e1 p1=>h1 v H1 q1 e1 p1
def jk (c:xb) (t u:xf):xf:=λ E Y S=>c Y S λ k S1=>if k=true then t E Y S1 else u E Y S1
def wu ö1{p q:Ê4}{tc:xb}(hc:zD X c tc) (h:yT X p t) (h':yT X q u):zw X (.If c p q pos) (jk tc t u):=by
 exact#[λ E E' Y S hE z=>hc.mo į (λ k S1 z=>qP (h.mo Ü Y S1 hE) (h'.mo Ü Y S1 hE) z) z,PS.imp (LC hc.pt h.ps h'.ps) Ë2];ext è;exact qL.go hc.mo á2 z λ k S1 H1 h1 e1 p1=>Ä9
 .show#[Y,S1,Ì4,p1,h.mo Ü Y S1 (mf.ext e1) z]
 .show#[Y,S1,Ì4,p1,h'.mo Ü Y S1 (mf.ext e1) z]
abbrev qq:=D->yX->SS->(û5)->Prop
abbrev pC:=ş->yX->SS->(û5)->Prop
def aV (t:qq):Prop:=Å0
def Ph (t:pC):Prop:=Å0
def cy í (t:qq):TG:=λ v B H Q=>∃ d Y S,ë9/\Ű/\ū/\t d Y S (oP ę Q)
def Vv í (t:pC):kB:=λ v B H Q=>∃ d Y S,zu ę d v/\Ű/\ū/\t d Y S (oP ę Q)
structure mq ô â9 (t:qq):Prop where
 mo:aV t
 pg:PG X e (cy X.K t)
structure gP ô (es:ď) (t:pC):Prop where
 mo:Ph t
 pg:lG X es (Vv X.K t)
def PG.imp ī{t t':TG}(h:PG X e t) ñ1:PG X e t':=Ñ7
def lG.imp {e:ď}{t t':kB}(h:lG X e t) ñ1:lG X e t':=Ñ7
def hName Â1:qq:=λ d Y S Q=>Q (Y.set i ↑d) S
def KP ī É5(h:PG X e (gC i)):mq X e (hName i):=
 #[λ _ _ _ _ _ hq z=>à8,PG.imp h λ v B H Q #[d,Y,S,r1,r2,r3,z]=>z _ H (r2.set i r1) Ģ r3]
def Xc:pC:=λ ds Y S Q=>ds=[]/\Q Y S
def Xd (t:qq) (u:pC):pC:=λ ds Y S Q=>match ds with
 | d::r=>t d Y S fun Y' S'=>u r Y' S' Q
 | []=>č
def v9:gP X [] Xc:=by
 exact#[λ _ _ _ _ _ hq z=>Ó5,lG.imp LZ ó9];let#[d,Y,S,r1,r2,r3,z1,z2]:=hu;subst z1;simp![zu] at r1;show#[r1,z2 Ů r2 Ģ r3]
def vA ī è6{t:qq}{u:pC}(h:mq X e t) (h':gP X es u) (hs:Ã3):gP X Ï8 (Xd t u):=by
 exact#[λ ds Y S Q Q' hq z=>?_,lG.imp (L_ h.pg h'.pg hs) ó9]
 .cases ds with
  | nil=>show z
  | cons d r=>show h.mo d į (fun Y' S' z=>h'.mo r Y' S' Ü hq z) z
 .let#[ds,Y,S,r1,r2,r3,z]:=hu;cases ds with
  | nil=>show z.elim
  | cons d r=>
   simp![zu] at r1;let#[x,xs,rfl,q1,q2]:=r1;exact#[x,xs,rfl,d,Y,S,q1,r2,r3,h.mo d į (fun Y' S' z B' H' g1 g2 g3=>?_) z];show#[r,Y',S',à7 g2 r q2,g1,g3,h'.mo r Y' S' Ü (fun Y2 S2 z2=>oP.ext g2 z2) z]
def gA Ö8 (t:pC):qq:=λ d Y S Q=>match d with
 | Õ0=>È0=n/\t ds Y S Q
 | _=>č
def KO ī Ú2{t:pC}(h:PG X e (SR X.K n (Vv X.K t))) (hm:Ph t):mq X e (gA n t):=by
 exact#[λ d Y S Q Q' hq z=>?_,PG.imp h ó9]
 .cases d with
  | tup ds=>show#[z.1,hm ds į hq z.2]
  | _=>show z
 .let#[d,Y,S,r1,r2,r3,z]:=hu;cases d with
  | tup ds=>
   simp![zj] at r1;let#[a,xs,rfl,q1,q2]:=r1;show#[a,xs,rfl,q1,by rw[<- q2.length];show z.1,ds,Y,S,q2,r2,r3,z.2]
  | _=>show z.elim
def p9 (te:zx) (g:qq):xf:=λ E Y S=>te Y S λ x S1=>g x Y S1 E.nx
def p9.mo {g:qq}(h:y8 te) (h':aV g):mU (p9 te g):=λ E E' Y S hE z=>h į (λ x S1 q=>h' x é1 (fun Y S q=>hE.nx Ü q) q) z
def KD {e0:Stmt}É5(h:PS X e0 (cH (zU X.K te) (gC i))) (hm:y8 te):zw X e0 (p9 te (hName i)):=by
 exact#[p9.mo hm λ _ _ _ _ _ hq z=>à8,PS.imp h Ë2];ext è;exact ó6 hm á2 z ś;show h1 _ H1 ((Ì4).set i q1) e1 p1
end
structure cn where
 items:ş
 keep:ě
abbrev qV:=yX->SS->(cn->ě)->Prop
def aU (t:qV):Prop:=∀ Y S (Q Q':cn->ě),(∀ I S',Q I S'->Q' I S')->Ù1
def dH í (H1:Hp) (J:It) (I:cn):Prop:=∀ Â1 Ē (S:SS),Ext H1 H->ū->I.keep S->
 (∀ d,I.items[i]?=↑d->J.go i H/\∀ x H',ë1->ł/\yq K H' S/\zj K H' d x)/\(Ë3<=i->J.stop i H)
def EU í Ē (R:It->Ó):cn->ě:=λ I S1=>∀ J H1,Ext H H1->yq K H1 S1->dH K H1 J I->R J H1
def oq í (t:qV):TI:=fun B H R=>∃ Y S,Ű/\ū/\t Y S (EU ę R)
structure yv ô (tg iter:Expr) (t:qV):Prop where
 mo:aU t
 pi:PI X tg iter (oq X.K t)
def PI.imp ċ{tg e:Expr}{t t':TI}(h:PI X tg e t) Ě:PI X tg e t':=Ō
section
variable {ċ}{Ľ}{tg e:Expr}{ĉ}
theorem zu.at Ġ è9 ĵ É5 ý0{x:V}(r:Ĺ) (h1:ds[i]?=↑d) (h2:Ï5):Ñ0:=by
 let#[y,e1,e2]:=r.get h1;rw[h2] at e1;cases e1;show e2
def oH (lo:Int) Ö8:ş:=(Î2 n).map λ(k:Nat)=>D.int (lo+(k:Int))
def Lc {lo:Int}{n i:Nat}ý0(h:(oH lo n)[i]?=↑d):i<n/\d=ì (lo+(i:Int)):=by
 unfold oH at h;rw[A9] at h;cases q:(Î2 n)[i]? with
 | none=>rw[q] at h;cases h
 | some j=>
  rw[q] at h;let#[h1,h2]:=zA2.mp q;rw[zC5] at h1;rw[zcC] at h2;subst h2;cases h;show#[h1,rfl]
def Lb (lo:Int) Ö8:(oH lo n).length=n:=by unfold oH;rw[AQ,zC5]
def dH.range {H1:Hp}{lo:Int}Ú2:dH K H1 (dG lo n) #[oH lo n,ì2]:=λ i H S _ x2 _=>by
 exact#[λ d hd=>?_,λ hl=>by rw[show (cn.mk (oH lo n) ì2).items=oH lo n from rfl,Lb] at hl;show hl];let#[h1,rfl]:=Lc hd;exact#[h1,ò1];let#[rfl,rfl]:=q;show#[.refl _,x2,à]
def YW ý1:qV:=fun Y S R=>t Y S λ ds S1=>match ds with
 | [ì j]=>(-(2 ^ 62)<=j/\j<2 ^ 62)/\R #[oH 0 j.toNat,ì2] S1
 | _=>č
def YV ý1:qV:=fun Y S R=>t Y S λ ds S1=>match ds with
 | Í7=>Þ8/\R #[oH i (j-i).toNat,ì2] S1
 | _=>č
variable {tA:yy}
def KN (h:PI X tg e (SF û8)) (hm:o5 tA):yv X tg e (YW tA):=by
 exact Ä5
 .split at z
  .show Ó5
  .show z.elim
 .ext Ş;split at h1
  .let#[x,rfl,q]:=q1.one;simp![zj] at q;subst q;show#[_,rfl,h1.1.1,h1.1.2,h1.2 _ ê1 .range]
  .show ð4
def KL (h:PI X tg e (SE û8)) (hm:o5 tA):yv X tg e (YV tA):=by
 exact Ä5
 .split at z
  .show Ó5
  .show z.elim
 .ext Ş;split at h1
  .let#[x,y,rfl,q,q']:=q1.two;simp![zj] at q q';subst q q';show#[_,_,rfl,h1.1,h1.2 _ ê1 .range]
  .show ð4
def dh (ti:qV) (g:qq) (tb:xf):xf:=λ E Y S=>ti Y S λ I S1=>∃ W:Nat->û5,W 0 Y S1/\(∀ i Y S,W i Y S->I.keep S)/\
 (∀ i d Y S,I.items[i]?=↑d->W i Y S->g d Y S fun Y2 S2=>tb { E with nx:=W ù5,ct:=W ù5,bk:=E.nx } Y2 S2)/\∀ Y S,W Ë3 Y S->E.nx Y S
def dh.mo {ti:qV}{g:qq}{tb:xf}(hi:aU ti) (hg:aV g) (hb:mU tb):mU (dh ti g tb):=λ E E' Y S hE z=>hi į (λ I S1 #[W,w0,wk,ws,wd]=>by
 exact#[W,w0,wk,λ i d Y S hd hw=>hg d į (fun Y2 S2 z=>hb { E with nx:=W ù5,ct:=W ù5,bk:=E.nx } { E' with nx:=W ù5,ct:=W ù5,bk:=E'.nx } Y2 S2 #[Á6,hE.rt,hE.nx,Á6] z) (ws i d Y S hd hw),fun Y S q=>hE.nx Ü (wd Y S q)]) z
def vm {iter:Expr}{body:Ê4}{ti:qV}{g:qq}{tb:xf}Õ7 Đ (hi:yv X tg iter ti) (hg:mq X tg g) (hb:yT X body tb)
  (hs:à9):zw X (.For tg iter body [] pos) (dh ti g tb):=by
 exact#[dh.mo hi.mo hg.mo hb.mo,PS.imp (LD hp hc hi.pi hg.pg hb.ps hs) Ë2];ext è;exact#[Y,S,r1,r2,hi.mo į (λ I S1 hW J H1 e1 p1 rep=>?_) z];let#[W,w0,wk,ws,wd]:=hW;exact#[λ i m B H2=>m=Ë3-i/\i<=Ë3/\Ext H1 H2/\∃ Y S,xH X.K H2 Y B/\yq X.K H2 S/\W i Y S,#[_,rfl,zD4 _,.refl _,Y,S1,Ì4,p1,w0],?_];rintro i m B2 H2 ⟨rfl,hi',x2,Y2,S2,q1,q2,w2⟩;let#[g1,g2]:=rep i H2 S2 x2 q2 (wk i Y2 S2 w2);by_cases hl:i<Ë3
 .have hd:I.items[i]?=↑I.items[i]:=by simp[hl]
  let#[go,yl]:=g1 _ hd;exact Ř #[go,fun B' H'=>Ext H1 H'/\∃ Y S,xH X.K H' Y B'/\yq X.K H' S/\W ù5 Y S,fun B' H' q=>#[_,⋯,rfl,hl,q],λ x H3 hy=>?_];let#[x3,p3,d3]:=yl x H3 hy;exact#[_,Y2,S2,d3,q1.ext x3,p3,hg.mo _ Y2 S2 Ü (fun Y4 S4 z4 B4 H4 a1 a2 a3=>?_) (ws i _ Y2 S2 hd w2)];exact#[Y4,S4,a1,a3,hb.mo Ü Y4 S4 #[À0,λ _ _ q=>qS.ext ò2 q,λ _ _ q=>oP.ext ò2 q,À0] z4]
 .have e:i=Ë3:=⋯;subst e;show ă #[g2 Ŋ,wd Y2 S2 w2 B2 H2 q1 (Í5 x2) q2]
abbrev q8:=ş->ñ9
def jw (sp:q8):Prop:=∀ ds S (Q Q':DK),ľ->sp ds S Q->sp ds S Q'
def pR í (sp:q8):Sp:=λ vs H Q _=>∃ ds S,zu ę ds vs/\ū/\sp ds S (qS ę Q)
def jm (sp:q8) ý1:zx:=fun Y S Q=>t Y S λ ds S1=>sp ds S1 Q
def Qq {sp:q8}{E:XK}(hs:jw sp) (hm:o5 tA) (B:St) Ē Ñ4 (hu:zU K (jm sp tA) Ŵ):cF (pR K sp) [] E (rR K tA) Ŵ:=by
 ext Ş;rw[zaB];show#[ds,S1,q1,p1,hs ds S1 Ü (λ d S' q=>qS.ext e1 q) h1]
def KY {sp:q8}{E:XK}ī(h:PE X e (cF (pR X.K sp) [] E û8)) (hs:jw sp) (hm:o5 tA):PD X e (jm sp tA):=
 #[fun Y S Q Q' hq z=>hm į (λ ds S1 z=>hs ds ê0 z) z,Ù3 h (Qq hs hm)]
def q_ (N:Ă) (ds:ş):yX:=ds.map some++å3 (N.length-È0) none
theorem xH.init Ġ{N:Ă}è9{vs:Ñ}(r:zu ę ds vs):xH ę (q_ N ds) Ó4:=by
 have hl:=Ê0;exact#[by unfold q_ L2.start;simp[hl],λ i d h=>?_];unfold q_ at h;have hi:i<È0:=by
  rcases za8 i È0 with q | q
  .show q
  .rw[zbF (by exists q),zb4] at h;split at h <;> cases h
 rw[zaS (by exists hi),A9] at h;cases q:ds[i]? with
 | none=>rw[q] at h;cases h
 | some d'=>
  rw[q] at h;cases h;let#[x,e1,e2]:=r.get q;exact#[x,?_,e2];unfold L2.start;rw[zaS (by exists by lia),A9,e1];rfl
def bZ ç Ľ Æ9 Â4 Î0{N ps:Ă}Û0{sp:q8}Ý0 (Sc:pG N ps (yk st))
  (len:∀ ds S Q,sp ds S Q->È0=Ð6)
  (hbody:∀ (AF:Î) õ (E:XK),Ø9->
   ∃ t,yT Ú4/\∀ ds S Q,sp ds S Q->t { nx:=λ _ S'=>Q .zA S',rt:=Q } (q_ N ds) S):qY ē xj (k+1) f fd ps (pR K sp):=by
 exact F.ok Sc (λ vs H Q E h=>?_) λ AF A Ő s H vs Q E hr h=>?_
 .let#[ds,S,r1,_,z]:=h;rw[<- r1.length];show len Ü _ z
 .let#[ds,S,r1,r2,z]:=h;let#[t,ht,hq]:=hbody AF É8 E hr;exact#[_,ht.ps,q_ N ds,S,.init r1,r2,ht.mo { nx:=λ _ S'=>qS ę Q .zA S',rt:=qS ę Q } Ü _ #[fun Y S' q B' H' _ b c=>q .zA H' (à) b c,Á6,λ _ _ q=>ŧ q,λ _ _ q=>ŧ q] (hq ds S _ z)]
def nM ì8 (Y:yX):yX:=pick.map λ o=>o.bind λ i=>(Y[i]?).join
theorem xH.pick Ġ{Y:yX}Ñ5(r:Ű) ì8:xH ę (nM pick Y) ç5:=by
 exact#[by unfold nM nL;simp,λ i d h=>?_];unfold nM at h;rw[A9] at h;cases q:pick[i]? with
 | none=>rw[q] at h;cases h
 | some o=>
  rw[q] at h;cases o with
  | none=>simp at h
  | some j=>
   simp![Option.map_some,zC9,Option.some.injEq] at h;have hj:Y[j]?=↑↑d:=by
    cases q2:Y[j]? with
    | none=>rw[q2] at h;cases h
    | some o2=>rw[q2] at h;simp![Option.join_some] at h;rw[h]
   let#[v,e1,e2]:=r.2 j d hj;exact#[v,?_,e2];unfold nL;rw[A9,q];simp[e1]
def ix (Y Y':yX):Prop:=Y.length=Y'.length/\∀ Â1 d,Y[i]?=↑↑d->Y'[i]?=↑↑d
def ix.rep Ġ{Y Y':yX}Ñ5(h:ix Y Y') (r:xH ę Y' B):Ű:=#[h.1.trans r.1,λ i d q=>r.2 i d (h.2 i d q)]
structure gQ ô (ifs:ď) (t:xb):Prop where
 mo:pM t
 pf:PF X ifs (qL X.K t)
def PF.imp {ifs:ď}{t t':TT}(h:PF X ifs t) Ě:PF X ifs t':=Ō
def R5:xb:=λ _ S Q=>Q true S
def vD:gQ X [] R5:=#[λ _ _ _ _ hq z=>à8,PF.imp Kf λ _ H _ #[_,_,_,r2,z]=>z H Ģ r2]
def vC ö1{t:xb}(h:zD X c t):gQ X [c] t:=#[h.mo,Ke h.pt]
end
end L3
namespace L2
open PySem Ö9 Á4
def Gq í (tl:TE):TI:=fun B H R=>tl Ů λ x H1=>∃ a,x=í0/\(((∃ xs,y4 K H1 a xs)/\R (Pl K a) H1)\/((∃ xs,yz K H1 a xs)/\R (Pk K a) H1))
def LV ċ{tg l:Expr}{tl:TE}(hl:PE X l tl):PI X tg l (Gq X.K tl):=by
 intro gV s B H R I h;exact zG (hl Ê) λ v s1 #[x,H1,I1,r1,a,hx,q1]=>?_;subst hx;cases r1;have new:∀ b∈[Ŕ],nH X gV H1 b:=λ b hb=>by
  obtain rfl:b=Ŕ:=zB6.mp hb;show I1.eL Ŋ (Ô2)
 rcases q1 with ⟨⟨xs,hq⟩,q⟩ | ⟨⟨xs,hq⟩,q⟩
 .let#[its,_,pl,_]:=I1.list hq;show zd7 Ð4 #[_,_,_,_,H1,rfl,ß1,Na a _,Þ3,new,q]
 .let#[its,_,pt,_]:=I1.tuple hq;show wpAny_pyIter_tuple (show s1.heap.IsTuple a ø from pt) #[_,_,_,_,H1,rfl,ß1,OY a _,Þ3,new,q]
def range_all (bs:î1):(Î2 bs.length).all (Å3)=bs.all id:=by
 rw[zC7,zE4,zE4];constructor
 .intro h b hb;let#[i,hi,rfl]:=zaI.mp hb;have:=h i (A8.mpr hi);simpa [hi] using this
 .intro h i hi;have hi':=A8.mp hi;have:=h bs[i] (zD8 hi');simpa [hi'] using this
def range_any (bs:î1):(Î2 bs.length).any (Å3)=bs.any id:=by
 rw[zC7,zD0,zD0];constructor
 .rintro⟨i,hi,h⟩;have hi':=A8.mp hi;show#[bs[i],zD8 hi',by simpa [hi'] using h]
 .rintro⟨b,hb,h⟩;let#[i,hi,rfl]:=zaI.mp hb;show#[i,A8.mpr hi,by simpa [hi] using h]
theorem Q7 {bs:î1}{its:AI}(r:Vals (bs.map V.bl) its) É5{v:Î}(h:ø[i]?=↑v):v=ù2 (bs.getD i true):=by
 have hl:=Ê0;rw[AQ] at hl;have h':its[i]?=↑v:=by exists h
 have hi:i<bs.length:=by
  rw[hl];rcases za8 i â4 with q | q
  .show q
  .rw[zbI q] at h';cases h'
 let#[u,e1,e2]:=r.get (i:=i) (x:=.bl bs[i]) (by simp[hi]);rw[h'] at e1;cases e1;have:v=ù2 bs[i]:=e2;rw[this];simp[hi]
section
variable {ċ}
theorem Cf Đ:xC X (À8 "all") (λ xs H Q=>∃ p,∃ bs:î1,Ø7/\y4 è8 (bs.map V.bl)/\Q (.bl (bs.all id)) H):=by
 ext ä6
 exact call_all_walk (zd7 Ð4 ?_);exact î
 .rw[Q7 rv hv];show zcV hq'
 .have e:(Î2 ť).all (Å3)=bs.all id:=by rw[A6,<- hl,range_all]
  ext Ų
theorem Ce Đ:xC X (À8 "any") (λ xs H Q=>∃ p,∃ bs:î1,Ø7/\y4 è8 (bs.map V.bl)/\Q (.bl (bs.any id)) H):=by
 ext ä6
 exact call_any_walk (zd7 Ð4 ?_);exact î
 .rw[Q7 rv hv];show zcV hq'
 .have e:(Î2 ť).any (Å3)=bs.any id:=by rw[A6,<- hl,range_any]
  ext Ų
end
end L2
namespace L3
open PySem Ö9 L2
open Á4 hiding St
structure Bt (mg:A0):Prop where
 len:mg "len"=none
 range:mg "range"=none
 any:mg "any"=none
 all:mg "all"=none
 sorted:mg "sorted"=none
 isinstance:mg "isinstance"=none
 bool:mg "bool"=none
 int:mg "int"=none
 str:mg "str"=none
 list:mg "list"=none
 tuple:mg "tuple"=none
 max:mg "max"=none
 min:mg "min"=none
section
variable {ċ}{a e:Expr}{è6}{te:zx}{pos p:Pos}
def zL {N':Ă}ü9{ą esc:Scope}{N:Ă}(hE:Ï9=esc:=by rfl) (hN:X.N=N:=by rfl) (h1:scope.kind=ê9:=by rfl)
  (h2:scope.names.all (λ y=>ŉ (Ċ y.1=↑y.2))=true:=by decide +kernel)
  (h4:scope.names.all (λ y=>! ŉ (y.2=Û3)||(ŉ (esc.names.lookup y.1=↑ Ò1)||ŉ (esc.names.lookup y.1=↑ Û3)))=true:=by decide +kernel)
  (h5:pick.length=N'.length:=by rfl) (h6:iX N N' pick ą=true:=by decide +kernel):Ð9:=by
 exact#[h1,λ y hy=>of_decide_eq_true (zE4.mp h2 y hy),λ y hy hf=>?_,h5,by rw[hN];show h6];have:=zE4.mp h4 y hy;rw[za3 hf] at this;rw[hE];exists this
def vB Â1 Ĭ ï (hf:Ò9):mq X š (hName i):=
 KP (Kc hN hi hx hf)
def UM Û0{t:pC}Ú2(h:gP X es t) Đ (hn:(Ì7).length=n) (A5:(Ì7).findIdx? ê5=none):mq X ï1 (gA n t):=
 KO (Ka hc h.pg hn A5) h.mo
def vg Â1 Ĭ{pos':Pos}(hN:X.N.Nodup) (he:û6) (hi:ß6) (hx:Loc Ï9 x) (hs:Ò2)
  (hf:Ò9):zw X ñ5 (p9 te (hName i)):=
 KD (L9 hN hi hx he.pe hs hf) he.mo
def YU (te:zx):qV:=fun Y S R=>te Y S λ x S1=>match x with
 | Õ0=>R #[ds,ì2] S1
 | .qv ds=>R #[ds,ì2] S1
 | Ë p=>match S1 p with
  | Ì5=>R #[ds,λ S=>S p=↑(ō ds)] S1
  | _=>č
 | _=>č
def vz ì5(h:û6):yv X tg e (YU te):=by
 exact#[fun Y S Q Q' hq z=>h.mo į (λ x S1 z=>?_) z,?_]
 .cases x with
  | ref p=>
   dsimp only at z ⊢;split at z
   .show à8
   .show z.elim
  | qv ds=>show à8
  | tup ds=>show à8
  | _=>show z
 .exact PI.imp (LV h.pe) fun B H R hu=>?_
  ext è;exact ó6 h.mo á2 z ś;cases x with
  | tup ds=>
   ext ì9;exact#[a,rfl,Ř #[#[xs,g1],h1 _ ê1 λ i H2 S2 x1 x2 _=>#[λ d hd=>?_,λ hl=>#[xs,x1.cL g1,by rw[<- g2.length];show hl]]]];let#[y,hy,_]:=g2.get hd;exact#[#[xs,y,x1.cL g1,hy],ò1];let#[rfl,q]:=q;show#[.refl _,x2,(à7 x1 ds g2).at hd (q xs (x1.cL g1))]
  | ref p=>
   dsimp only at h1;split at h1
   .rename_i ds e2;ext Ô0;subst q1;let#[xs0,g1,_]:=p1 Ü e2;exact#[p,rfl,ă #[#[xs0,y4.of g1],h1 _ ê1 λ i H2 S2 x1 x2 hk=>?_]];let#[xs,g3,g4]:=x2 Ü hk;exact#[λ d hd=>?_,λ hl=>#[xs,y4.of g3,by rw[<- g4.length];show hl]];let#[y,hy,_]:=g4.get hd;exact#[#[xs,y,y4.of g3,hy],ò1];let#[rfl,q]:=q;show#[.refl _,x2,g4.at hd (q xs (y4.of g3))]
   .show ð4
  | qv ds=>
   ext ì9;exact#[a,rfl,ă #[#[xs,g1.sq],h1 _ ê1 λ i H2 S2 x1 x2 _=>#[λ d hd=>?_,λ hl=>#[xs,(x1.cM g1).sq,by rw[<- g2.length];show hl]]]];let#[y,hy,_]:=g2.get hd;exact#[#[xs,y,(x1.cM g1).sq,hy],ò1];let#[rfl,q]:=q;show#[.refl _,x2,(à7 x1 ds g2).at hd (q xs (x1.cM g1).sq)]
  | _=>show ð4
)
example:=`(
example À:=Option
example ĺ _:=x prog w
example Á:=(rk ĺ).hash
example Â:=List Int
example å9:=(by change X.A.units+1+_<_;lia)
example Ã _:=x (λ y hy=>gM I a3 hz a6 g2 w1 a4 a1 rx (A:=X.A.in1) å9 å9 (by exists hy)) #[.bl _,H,I,rfl,?_]
example Ä:=List T
example Å _:=x ‹_› hA
example Æ:=s.heap.objs.size
example Ç _:=x S Z Y J
example È _:=x _ _
example É:=if_neg
example Ê:=by rcases xJ e with ⟨rfl,hl,e⟩ | ⟨n,e⟩
example Ë{ds:List D}:=0
example Ì _:=x (model ĺ) A
example Í:=if_pos
example Î(I:Inv X gV B H s):=0
example Å9:=Int×Int
example Ï:=List (Å9)
example È3:=decide
example Ð:=λ kv=>È3 (kv.1=k)
example č:=AK.mp e
example ì7:=by let#[x,e1,e2]:=č
example ý _:=x e1 λ d S1 s1 r1=>?_
example Ñ:=by ext ì7;exact h Ç x _ hE ý
example Í0:=by let#[c,cs,rfl,h1,h2]:=h
example Ò:=by simp![zp] at h;ext Í0
example Ó:=sizeLine
example Ä2:=(oj its ts u)
example Ô:=by rw[show its.toArray.any Ä2=its.any Ä2 by simp,aG I a3 hz a6 g2 w1];show q
example Õ:=by rcases h with h | ⟨_,_,_,h,_⟩ | ⟨_,_,_,_,h,_⟩
example Ö(i:Nat):=0
example Ø:=yL M h n
example Ù:=t.place.toList
example ż{H:Hp}:=0
example Á1:=Shared
example Ù6{s:Á1}:=0
example Ú{gV:AN}{B:St}ż Ù6:=0
example Û _:=x S (.refl S)
example ć:=t.place
example Æ5:=below ć j
example Ü:=insertAt ć (Æ5) j
example Ý:=.ref
example Þ(he:AY X e es) (AV:A3 X pos es):=0
example È0(hc:X.calm=true):=0
example Ë7:=(xi X N' scope cl C s H fp)
example ß(Sc:kI X N' pick scope) È0 (hi:yv X tg iter ti) (hg:∀ cl C s H fp,mq Ë7 tg g) (hf:∀ cl C s H fp,gQ Ë7 ifs tcc) (he:∀ cl C s H fp,PD Ë7 elt te):=0
example à:=false
example á:=(λ _=>nofun)
example â:=zp S ts ds
example à2 _:=x S1 Z Y J
example ë4:=s1.trans
example Ĳ:=(ë4 s2)
example Ŷ:=hE.grow s1
example ã _:=x à2 y _ (Ŷ) e2 λ d S2 s2 r2=>hq d S2 Ĳ (Cl.cl s1 r2)
example ä:=p.getD
example å:=Ev->À (Ä)
example Æ0:=List Key
example â7:=List (Æ0 ×V)
example ú:=Value
example ì9:=List (Æ0 ×Addr× ú)
example æ{Az:â7}{xs:ì9}(r:KT H Az xs):=0
example ç:=Addr->Prop
example è:=owner
example é5 _:=x P w K mg base
example é(hbody:∀ (AF:ú) (A:Around) (outer:List Env) (s:Á1) (H:Hp) (E:XK),y6 k (A.deeper (envOfC x (yk st) Æ f AF))-> ∃ t,yT (wj xj é5 N x (yk st) f AF A outer s H E).rf (xV st) t/\yu R g t):=0
example ł:=Value.ref
example ê:=insertAt es p (Á key,ł b)
example ë _:=x ⋯ ⋯
example î5:=xn ts
example œ:=cLine
example ì:=by intro gV s B H x y v w Q I rx ry h;let#[S,d,e,u,ts,ds,a1,a2,a3,a4,a5,a6,a7,a8,q]:=h;have hz:î5<œ:=⋯;let#[l,xs,rfl,g1,g2]:=yx.sq a2 a3 a5;cases ry;rcases g1 with g1 | g1
example í:=xs.length
example î:=t.mask
example Í1:=List (κ × V)
example ï{Az:Í1}{vs:List (κ × ú)}(r:KV Az vs):=0
example æ0{k:Nat}:=0
example é9(ha:PD X a ta) (hb:PD X b tb):=0
example ð æ0(hr:y6 k X.A) é9:=0
example ñ:=.int
example ò:=Array
example ó:=Ev->À Ev
example ô:=(intKind ĺ)
example õ:=Á1->Prop
example ň:=.lst
example ö:=ň ts
example ø:=w.params.followText "set-order"
example İ:=wpAny
example ù:=by exact za0 ?_;change İ È (forIn items È) È s;rw[<- Array.forIn_toList];exact wpAny_forIn_list _ (λ rest r s'=>r.1=none/\s'=s/\∀ v∈rest,∃ n t,v=ñ n t) _ ?_ ?_ È #[rfl,rfl,items_int hi]
example û:=List (Key×T)
example ü:=by rcases xJ e' with ⟨rfl,hl,e'⟩ | ⟨n,e'⟩
example þ:=by dsimp only
example ÿ _:=x (g:=cy X.K g) (tc:=qL X.K tcc) (te:=zU X.K te) Sc hc hi.pi (λ cl C s H fp=>(hg cl C s H fp).pg) (λ cl C s H fp=>(hf cl C s H fp).pf) (λ cl C s H fp=>(he cl C s H fp).pe)
example Ā:=(yp S Z)
example ā:=Ev->À Bool
example Ă:=ts.length
example ă:=List.range
example ņ:=List (Key×D)
example Ą{Az:ņ}{vs:List (Key×V)}:=0
example Þ7:=s.heap.get?
example ą:=Þ7 b=↑o
example ß7:=λ kv=>if kv.1=k then (kv.1,v) else kv
example Ð6:=(Az.any Ð)
example Ć:=if Ð6=true then Az.map (ß7) else Az++[(k,v)]
example Æ6:=SetTable
example Ĉ{t:Æ6}{hs:Â}(T:Tab t hs):=0
example ĉ:=vs.length
example Ċ{α:Type}:=0
example Ð8:=A_.mp
example Þ4:=by let#[d,rfl,h1]:=oY hv
example ċ:=by ext Þ4;let#[ts,e1,rfl]:=Ð8 e;let#[es,h2,h3]:=h1.seq e1
example È2:=absurd
example Č:=È2 z' (by simp![dep];lia)
example Ď(ha:yV fa ta) (hb:yV fb tb):=0
example ģ:=.inl
example ń:=.inr
example ď _:=x (by rw[typeLookup_type,builtinLookup_eq_fast];kernel_rfl) (zdK) (zdK) (zdK) (by first | show ģ (zdK) | show ń (zdK)) (by rw[isSubtype_type];kernel_rfl)
example Đ:=(·.1)
example đ:=List (Â)
example Ã6:=ò (Int× ú)
example Ē{es:Ã6}{ep:Nat}{t:Æ6}:=0
example ē{ts:Ä}:=0
example Ú2 _:=x S0 Z0
example Ĕ:=FR Ú2 Ç
example ĕ{a:Addr}:=0
example Ė(ha:y7 X (e::es) tA):=0
example Ì5:=(a == sysModules)=à
example Ĵ:=Az.length
example ė:=Ĵ<=Ó/\Ì5/\∃ vs,KV Az vs/\h.DictOf (qk P w) a vs
example Ę:=by subst ey;cases (show u=ł b from ry);let#[z,hd,xs,rel,dd]:=gE I.zH e
example ę:=by simpa only [Sn] using q
example Ü3:=by simp[h.len]
example Ě:=#[#[h.er.zd,λ j t e=>?_,λ j ts e=>?_],Ü3,h.sx,h.z0,h.zz,h.zn,λ j ts p e e'=>?_,λ j k ts us p n e1 e2 e3 e4=>?_]
example ě:=vs.toArray
example Â2 _:=x X.K H
example Ö9:=zu Â2 ds xs
example Ĝ{its:AI}(hz:î5<œ) (h1:â) (h2:Ö9) (h3:Vals xs its):=0
example ĝ:=by let#[Y,S,r1,r2,z]:=hu
example ñ0:=codeAny_builtin
example Ğ:=by exact ñ0 F.entry_set_update_loop ?_;rw[Around.under_plainId F.plain_set_update_loop _];change İ _ A.in1 (pyNext (Ý I) >>= _) È s
example ğ:=by rcases g with ⟨Az,k,e,ey,l⟩ | ⟨Az,k,b,e,ey,eb,l⟩
example Ġ:=by .rintro⟨r1,r2⟩ s' ⟨hr,rfl,_⟩;simp only at hr;subst hr;show AE h
example ġ:=by cases h
example Ģ:=by simp![zj]
example Ĥ(M:Nat):=0
example ĥ:=by rcases xJ e1 with ⟨rfl,hl,e⟩ | ⟨n1,e1⟩
example Ħ:=[].toArray
example ħ:=xs.map
example Ĩ:=T->T->À T
example ĩ:=(f J).bind
example Ī:=s.heap.push (pS w)
example ī:=(À Nat)
example Ĭ:=way M h k
example ĭ _:=x (λ _ _ _=>pH) λ _ _ _=>nofun
example Į:=List α
example Ù3:=.set es ep t
example Ŕ:=.type "set"
example į:=h.get? a=↑{ cls:=Ŕ,dict:=none,data:=Ù3 }
example ı:=by rw[yw (pX q h (by intro z;cases z))];show q
example ä4:=by unfold yN;rw[h1]
example ĳ:=by let#[p,b,h1,h2,h3]:=bp hE h;change yN i Y S _;ext ä4
example ĵ:=HT.lexLt
example Ķ:=.tup
example Ï3(o:Ord lt):=0
example ų:=ò Nat
example ķ Ï3 {p:ų}:=0
example Í9:=Program
example Ä5{w:World}:=0
example ĸ{P:Í9}Ä5:=0
example Ĺ:=(lives M è).map
example Ļ{A:Around}:=0
example ļ{Az:List (Key×V)}:=0
example Ľ _:=x e (λ z=>nomatch z) fin
example ľ:=Nat->Nat->Bool
example Ŀ:=s.heap
example ŀ:=I.items.length
example Ł:=Array.getElem?_eq_some_iff.mp
example Ń(he:PD X e te) (hg:Gl X "isinstance"):=0
example Ņ:=by let#[x,e1,e0]:=č;let#[xs,e2,e3]:=AK.mp e0;cases e3;exact h Ç x _ hE ý;exact h' à2 xs _ (Ŷ) e2 λ ds S2 s2 r2=>?_
example Ň:=(·.2)
example ŉ:=Sn S t d
example Ŋ:=(Á key)
example ŋ:=by rintro r ⟨a1,a2,a3,a4⟩;show#[a1,⋯,⋯,a4]
example Ō _:=x ha.pa () () he AV
example ō:=by obtain⟨ds,rfl | ⟨a,rfl,h1⟩,h2⟩:=Vw.lst r1
example Ï0:=bits h
example Ų:=(M+1)
example Ŏ:=layClean.free M è (turns M) (Ï0%Ų) (Ï0)
example ŏ _:=x X.prog X.w
example Ő{S:SS}:=0
example ő:=#[hp.below ⋯,hp.below ⋯,?_]
example Œ:=.cons
example Ý8:=s.heap.update a (Obj.mapSeq λ _=>Ħ)
example ŕ:=(((Ý8).push (seqObj "tuple" ě 0)).push (seqObj "list" Ħ 0)).get?
example Ŗ _:=x È _
example ŗ:=.Name
example Ř:=(.ListComp elt [#[tg,iter,ifs,0]] scope pos)
example ř:=(Ø).1
example Ś{d:D}:=0
example ś(p:yq Â2 S):=0
example Ŝ:=by simp![dep] at hn hu hu';let#[e1,e2,q]:=el hn hu hu' g1 g2 r1 r2 v1 v2;exact en (λ z=>by cases hq z;rfl) ?_;rw[Xr,<- e1,<- e2]
example ò0{g:T->ó}:=0
example ŝ{pick:List ī}{it:å}ò0{c:ā}{f:AD}{J:Ev}(xs:Į) (hi:it J=↑(ħ enc)) (hl:í<=16777216):=0
example Ş:=A.units
example ş:=hq _ Û (Cl.of á pH)
example Š:=gB (by rw[h.len];show hl)
example š:=order.filterMap (es[·]?)
example Ţ _:=x (e::es) [] pos
example É6:=by intro gV s B H x y v u Q I rx ry h
example ţ:=by ext É6;let#[S,d,e,t,u',a1,a2,a3,a4,a5,a6,a7,q]:=h
example Ť:=PyProof.Rows
example ť:=(seqObj "list" ě 0)
example Ŧ:=Sx S S'
example ŧ{g:Int->Int->T}{g':Int->Int->D}(h:∀ i j S,Sn S (g i j) (g' i j)) (n:∀ i j ts,g i j≠ ö):=0
example Ũ(h:Int):=0
example ũ:=IsTupleKey
example Ū:=by have:=congrArg List.length X.es;exists this
example Ù7(w:World):=0
example ū(prog:Í9) Ù7:=0
example Ŭ _:=x _ hE e1 λ ds S1 s1 r1=>?_
example Æ7:=(by kernel_rfl)
example ŭ _:=x (o:=['r','o','t','a','r','e','t','i','_','t','e','s']) Æ7 UU
example Ů:=by rcases xJ e2 with ⟨rfl,hl,e⟩ | ⟨n2,e2⟩
example ů:=by let#[_,_,_,q,_]:=h2.kU p r2
example ì0:=its.size
example Ö2:=(zD4 _)
example Ű _:=x (λ _ _ q=>q) hn ì0 0 _ [] ⋯ Ö2 #[#[_,zA9 _ rfl,rfl,rfl],hl1.push _]
example ű:=(.new hp _)
example Ŵ:=of_decide_eq_false
example Ò0:=(Ý p)
example ŵ:=Y[i]?=↑↑ Ò0
example ŷ:=by let#[_,_,_,q,_]:=h2.kK r2;cases q
example Û4{h:Heap}:=0
example Ä7 _:=x (prog:=prog) (w:=w)
example Ò6:=List (Â ×Addr)
example Ÿ Û4{es:Ã6}{t:Æ6}{xs:Ò6}(X:j8 Ä7 h es t xs):=0
example Ì2:=if_false
example Ź:=by simp![zB5,zC4,Ì2]
example ź:=by rcases xJ e2 with ⟨rfl,hl,_⟩ | ⟨n2,e2⟩
example Ż:=g y J=↑J'-> (∀ Y',ER S Z Y' J'->ix B Y'->Y'.length=J'.length->Q Y' S)->t d Y S Q
example á2:=tupleKind (qk P w)
example Ž:=Ĵ<=Ó/\Ì5/\ ∃ xs,KT H Az xs/\h.DictOfH (á2) a xs
example ž:=by subst ey;let#[z,hd,vs,rel,dd]:=aj I.zH e
example ſ:=(.dK Az)
example À0:=PySem.W.kia_one
example À1:=hq _ S1 s1 h2 λ _ _=>trivial
example À2(ok:xB P w H h):=0
example À3:=(Cl.of á pJ)
example À4(ry:RelV y u):=0
example À5 _:=x PySem.F.slot_dict_get dd.typeIs PySem.F.entry_dict_get (PySem.F.args_dict_get_3 Ŗ)
example À6:=.str
example À7 _:=x _ H (Ģ) (.refl H)
example À8:=nomatch h2.flat r2
example À9:=xs.size
example Á0:=by repeat (any_goals (first | assumption | wp_step))
example Á2:=h'.get? b=↑o
example Á3:=X.env
example Á4:=zp.sx
example Á5:=∀ a,Z a->S a≠none
example Á6:=(J.set i ↑(.im y))
example Á7:=è[j]?=↑↑k
example Á8:=owner.setIfInBounds j ↑m
example Á9:=λ e=>Á e.1
example Â0{f:AD}{te:zx}:=0
example Â1{Z:ç}{Y:yX}{J:Ev}:=0
example Â3:=by exact#[dd.typeIs,λ b q=>?_,hd];cases q;let#[ob,_,_,h1,h2,_]:=dd;show#[ob,h1,h2.2.1]
example Û3:=by subst this
example Â4:=by ext Û3;rw[Zz I p ts us (by simp![dep] at z;lia) (by simp![dep] at z';lia) g3 k3 g2 k2]
example Ú1{R:Rk}:=0
example Ü7:=List Str
example Â5 Ú1 [Lo R] {x:Str}{st:Stmt}{N ps:Ü7}{k n:Nat}{g:Sm}(F:oW K x x st f fd):=0
example Â6:=∃ (i:Nat) (e:Â ×Addr),ć[i]?=↑(way î Ŋ m).j/\xs[i]?=↑e/\e.1≠key
example î4:=ds.length
example Ð9:=î4+es.length<=Ó
example Â7:=Ð9/\∀ r,S r=none->Q (Ý r) (ups S r (ň (ds++es)))
example Â8:=h1.length.trans (r1.length.trans (r2.length.symm.trans h2.length.symm))
example Â9:=∀ J,I p J->∃ J',turn g b (enc x) J=↑(.nx J')/\I (p++[x]) (xm is J')
example Ã0:=λ r=>qh n r.2/\r.1<=n/\oS lt r.2 r.1
example Ã1 _:=x qR.fits qR.mo ha hb (nh _)
example Ã2:=za0 (seqEpoch_at g6 rfl (za0 (listUpdate_at g6 rfl ?_ Ö2 ?_)))
example Ã3:=ts.any λ t=>eqT t u
example Ã4:=lt (ä m 0) (ä (m-1) 0)
example Ã5:=t.place.size
example Ã7:=λ kv=>if kv.1=k then (kv.1,d) else kv
example Ã8 _:=x (tupleKind_room_in1 hu) (fX I.zH eb)
example Ã9(hu:X.A.units+1<œ) (ho:PE X o td):=0
example Ä0:=by rintro v rest r s' ⟨hr,rfl,hall⟩
example Ä1:=us.length
example á4:=(.xa Az)
example Ä3:=some ↑(.own á4)
example Ä4:=hs.length
example Ä6(hM:oV M):=0
example Ä8 _:=x val its ks
example Ä9:=(∀ b o,b<Æ->ą->Á2)->Q (Ý Æ) { s with heap:=h',toks:=tk }
example Å0 _:=x hi.mo (hg [] 0 s H []).mo (hf [] 0 s H []).mo (he [] 0 s H []).mo
example Å1:=key∈ ħ Đ/\xs'=xs\/key∉ ħ Đ/\xs'.Perm (xs++[(key,b)])
example Å2:=by rw[h1.length,h2.length,h3.length]
example Å3:=by let#[q1,q2]:=nU q
example Å4:=by let#[xs,e1,e2]:=č
example Å5:=zp Ā ts ds
example Å6:=below xs j
example Å7(hp:qh n p):=0
example Å8:=(ä k 0)
example Ü8:=by simp![zp] at h;subst h
example Æ1:=by ext Ü8;exists zp.nil
example Æ2:=by let#[y',h1,h2]:=iM e;cases h2
example Æ3 æ0(hr:y6 k X.A) (ho:PD X o td):=0
example ä5:=vs.toArray.zip ě
example Æ4:=(arrOf (SortSt.mk' general' (ä5) Ħ 7 none)).map Ň
example Æ8(r:zj K H d v):=0
example Æ9:=by simp;lia
example Ö4:=False
example Ç0:=(show Ö4 from r).elim
example Ç1:=(yp S' λ a=>Z a\/a=p)
example Ç2:=R S S' Z y d
example Ç3:=(mN pick ti g tcc te)
example è9:=L2.yt
example Ç4(e2:è9 ds i=↑d) (h:Q d S):=0
example Ç5{S S':SS}:=0
example Ç6:=(backToKw AA (keywordEach [] Á3)).all (λ x=>x.1.isSome)
example Ç7:=by .simpa only [Sn] using h
example Û7:=by split at e2
example ì6:=by let#[b,e1,e2]:=č
example Ç8:=by ext ì6;exact h Ç b _ hE e1 λ S1 s1=>?_;ext Û7
example Ç9:=λ a b=>ĵ b a=à
example È1{us:AI}{l:Addr}(g:â) (r:zu K H ds xs) (v:Vals xs us):=0
example È4:=runEnd
example È5(hu:X.A.units+64<œ):=0
example È6:=o.refl _
example È7:=by let#[p,o,h1,h2,h3,h4]:=hE.ow i _ h;ext ä4
example å3:=h.er.ow
example È8:=by let#[p',ds,h1,h2,h3,h4]:=å3 i ts e;rw[ed] at h1
example È9{a:û}{b:ņ}:=0
example É0:=by have hT:=hk.typeIs;let#[o,items,n,ho,_,hd,hi]:=hk
example É1:=True.intro
example É2:=zj Â2 d x
example É3:=(g J).bind
example Ñ2:=t.put j
example É4:=(Ñ2).1={ t with place:=insertAt ć (Ñ2).2 j }
example É5:=by rename_i hb;rw[Í hb]
example É7:=ps.map
example É8:=(ŗ "isinstance" p)
example É9:=(ts.getD j .zA)
example Ê0:=λ z=>e (h1.trans z)
example Ê1:=.Subscript o i pos'
example Ê2:=some ↑(.own (ö))
example Ê3:=by simp![zj] at r
example Ê4:=List Bool
example Ê5:=by subst ex;obtain rfl:u=ł a:=rx
example Ê6:=by cases h;rfl
example Ê7{i:Nat}:=0
example Ê8:=by unfold SetTable.tooFull at this;rw[hfill,hmt] at this;exists this
example Ê9:=kat_nil (by simpa [ĵ] using h)
example Ë0:=hq S1 s1
example Ë1(S:SS) (Z:ç):=0
example Ë2:=by ext ĝ;exact zU.go ho.mo r1 r2 z λ x S1 w H1 h1 q1 e1 p1=>?_
example Ë3:=by rename_i hb;rw[É hb]
example Ë4:=Æ<=h1.objs.size->Q' vs { s with heap:=h1,toks:=tk }
example Ë5:=∃ k,(way î h k).j=j/\∀ k'<k,(way î h k').j∈ Ù
example Ë6:=Option.none
example Ë8{rows:đ}:=0
example Ë9(ps:Ï):=0
example Ì0:=za0 (zcX ho rfl X.fits ?_)
example ß0:=putK Az k v
example Ì1:=by have hl:(ß0).length<=Ó:=by have:=TC Az k v;lia
example Ì3:=.builtin
example Ì4:=its[i]?=↑v
example Ì6:=xI K H Az vs
example Ì7:=(Ø).2
example Ì8{X:Cx}:=0
example Ì9(f:AD):=0
example Í2:=by simp![Sn] at q ⊢;let#[ds,q1,q2]:=q
example Í3:=by rename_i t h;cases e;let#[d,h1,h2]:=hE.im i _ h;ext ä4
example Í4:=∃ bs:Ê4,yx d S=↑(bs.map D.bl)/\Q (.bl (g bs)) S
example Í5(n:Nat):=0
example Í6:=by have q:=h1.flat r1;subst q
example Í7{Q:Bool->õ}:=0
example Í8:=xp.mono
example Þ9:=.Call
example Î0:=(Þ9 (.Attribute o "get" apos) [e,f] [] AA)
example Î1:=(r.getD 0 0,r.getD 1 0)
example Î2:=#[p,AU,zC6 _,zC6 _]
example Î3:=by let#[c,cs,rfl,r1,r2]:=r;let#[J1,e1,e2]:=č
example Î4(hl:s.heap.IsList l its\/s.heap.IsTuple l its):=0
example Î5:=(kas_rev p i j).getD k 0
example Î6:=(model ŏ)
example Î7:=r1.ext e1
example Î8:=Y.length=J.length
example Î9:=F.grow s1
example Ï1:=λ u hu=>hall u (AX _ hu)
example Ï2:=(Á e.1,ł e.2)
example Ï4:=by exact za0 (AE ?_)
example Ï5(rows:đ):=0
example Ï6 _:=x È Å
example Ï7(g:T->ó):=0
example Ï8(hs:∀ x,foldedSetIterable iter Á3 x=pure x):=0
example Ï9(hr:mT xs.toList):=0
example Ð0:=by let#[a',xs',ds',q,k1,k2,k3]:=h2.kU p r2
example Ð1 _:=x gV s1 B H1 _ I1 q1
example Ð2:=Le lt (ä a 0) (ä b 0)
example Ð3:=h.get? b=↑o
example Ð4:=Paired.length
example Ð5:=Ķ ts
example Ð7:=(Az.map λ kv=>if kv.1=k then (kv.1,y) else kv)
example Ñ0:=(nM pick Y)
example Ñ1:=#[h.1,h.2.1,λ r hr=>hq È (h.2.2 r hr)]
example Ñ3:=es.size
example Ñ4(K:AB) (H:Hp):=0
example Ñ5{p:Addr}:=0
example Ñ6(k:Key):=0
example Ñ7(enc:α->T):=0
example Ñ8:=Í rfl
example Ñ9:=λ i j hij hj=>?_
example Ò1:=(show ty=_ from hx)
example Ò2:=Wk I a3 t u' (A:=X.A) ë a4 a5 a1 a2 rx ry
example Ò3:=Wf I p hz h1 h2 h3 u (j:=j) (by simp[hj])
example Ò4:=(ģ k)
example Ò5:=Sn (yp S' Z) y d
example Ò7:=by simp![Sn] at r;let#[ds,rfl,r]:=r;simp![o7] at e;split at e
example Ò8 _:=x D ?_ Ű ?_ ?_ #[λ e he=>(by cases he),λ j r hj=>⋯] ?_
example Ò9:=by have:i=j:=⋯;ext Û3;show È6
example Ó0{n:Nat}:=0
example Ó1:=by let#[Z,ys,y,hz,r,e,hq]:=hs;unfold zR at e
example Ó2:=zX (bR ĭ) ha hb
example Ó3:=(∀ i:Nat,pick[i]?=↑none->B[i]?=↑none)
example Ó4:=t.place.getD i 0
example Ó5:=by let#[a',xs',ds',q,k1,k2,k3]:=h2.kK r2
example Ó6:=by let#[y,e1,e2]:=č
example Ó7 _:=x (A:=A.in1.in1.in1) (by simp[hh]) _ l hneI its
example Ó8:=.tuple_list ‹_› Å
example Ó9:=H b=↑(Ķ (k.map kV))
example Ô0:=(e1.trans e2).trans e3
example Ô1:=h' à2 y _ (Ŷ) e2 λ S2 s2=>hq S2 Ĳ
example Ô2:=(Ĺ Đ).toArray.toList
example Ô3 _:=x hg2 () () he hg h1 h2 h3
example Ô4:=by rcases xJ e with ⟨rfl,hl',e⟩ | ⟨n,e⟩
example Ô5 _:=x b its.toArray its2.toArray n n2 dd dd2 sl sl2
example Ô6:=List (κ × β)
example Ô7:=by simp![Sn]
example Ô8(a:Addr) (es:Ã6) (ep:Nat):=0
example Ô9:=by cases ef;cases hx.int;cases hy.int
example Õ0:=by have q:=h.flat r;subst q
example Õ1:=(show 0<M+1 by lia)
example Õ2:=by unfold È4;split <;> lia
example Õ3:=.list_tuple ‹_› Å
example Õ4:=List Nat
example Õ5:=by cases e2;change Q (!ds.isEmpty) S1;rw[h2.empty];show Ë0
example Õ6{i j:Nat}:=0
example Õ7:=by simp![zC4,Ì2]
example Õ8:=(ă n).map λ(k:Nat)=>T.int (lo+(k:Int))
example Õ9:=#[es,ep,t,ho,X,hled,AV,AJ]
example Ö0:=by let#[p,ob,h1,h2,h3,h4]:=F.er.ow i _ h
example Ö1:=by unfold SetTable.fill;rw[p3.ji,p3.len];simp;lia
example Ö3:=AL.mp
example Ö5:=fun B H Q hu=>?_
example Ö6:=(ň ds)
example Ö7:=.bl b
example Ö8:=.zF ks ts
example Ø0:=zA2.mp
example Ø1:=h1.symm.trans e
example Ø2:=Inv X gV B H s'
example Ø3:=(I.tok _)
example Ø4:=Heap.SameBut
example Ø5:=i.length+j.length<=Ó
example å1:=J[i]?
example Ø6:=å1=↑↑(.own ts)
example Ø7:=(xm is J)
example Ø8:=ys.length
example Ø9:=wC is g b ys J2
example Ù0:=below.go xs j f lo hi
example Ù1:=(way î h k1).j
example Ù2:=xs.take p
example Ù4:=hperm.length_eq
example Ù5{α β:Type}:=0
example Ù8(ts:Ä):=0
example Ù9(H:Hp) (a:Addr):=0
example Ú0(J:Ev):=0
example Ú3 _:=x n e1 e2 e3 e4
example Ú4:=.nil
example Ú5:=l.length
example Ú6:=PySem.Spec
example Ú7:=Value.type
example Ú8:=xq S a b
example Ú9:=hq #[ds,_] S1 s1 h2 λ S'' s=>s È h1
example Û0:=owner.size
example Û1:=Obj.putSet
example Û2:=by rcases X.tab.mask with e | e | e <;> lia
example Û5{b:Bool}:=0
example Û6(h:yV f t):=0
example Û8(è:ò ī):=0
example Û9(pick:List ī):=0
example Ü0:=by .subst q;unfold md;ext þ;rw[h1,h3];show key
example Ü1:=by have q:=h2.flat r2;cases q;rfl
example Ü2:=by simp![zp] at q ⊢;let#[c,cs,q1,q2,q3]:=q
example Ü4(k:Nat):=0
example Ü5(neg:Bool):=0
example Ü6{è:ò ī}:=0
example Ü9:=by rename_i h;cases ef
example Ý0{j:Nat}:=0
example Ý1{neg:Bool}:=0
example Ý2:=t::ts
example Ý3:=(.bl (cond neg (!eqT t u) (eqT t u)))
example Ý4:=(Az.find? Ð).map Ň
example Ý5 _:=x Q E s
example Ý6(Sc:pG N ps (yk st)) (hn:n=ps.length):=0
example Ý7(hashes:ò Int) (hl:hashes.size<=M+1):=0
example Ý9:=String
example Þ0:=hq _ S1 s1 À3
example Þ1:=(Ī).objs.size
example Þ2:=by by_cases e:p.1=k
example Þ3 _:=x (Î7) p1 h1 λ y S2 w2 H2 h2 q2 e2 p2=>?_
example Þ5:=by let#[y,e1,rfl]:=Ð8 e
example Þ6:=by have:lo=hi:=⋯;ext Û3;show#[h3,h4,h5]
example Þ8:=h.objs.size
example ß1:=λ S3 Z3 Y3 F3=>#[Z3,J2,F3,e']
example ß2:=(Ü).toList
example ß3:=(sb.2 c (λ z=>hc (z▸AU))).trans e
example ß4{vs:AI}:=0
example ß5{Q:AH}(hu:Ş+1<œ):=0
example ß6 _:=x a (Ý b) Ŋ true fuel
example ß8:=(∀ c S',Ŧ->R S S' Z z c->Q c S')
example ß9:=Sn (yp S λ a=>Z a/\a≠p) (ö) Ò0
example ë8:=probe.go
example à0:=ë8 t hashAt h f (way î h k)
example à1:=order.toList.filterMap λ k=>xs[k]?
example ð3:=Ä->ó
example à3 ò0{h:ð3}{t:qq}{u:pC}:=0
example à4{Q:DK}(hs:zM R (zR N n g) ds S Q):=0
example à5:=by unfold md at h ⊢;dsimp only at h ⊢;split at h
example à6:=ä i 0
example à7:=by exists h
example à8:=(i+1)
example à9:=(rh ty T)
example á0:=S p=none
example á1:=by simp[eqT]
example á3:=rel.val k
example á5:=Sn.sx
example á6:=(hName i)
example á7:=hq _ S1 s1 (ZQ È) λ _ _=>trivial
example á8:=(É7 o_)
example á9:=h.elim
example â0:=È4 M i-i
example â1:=xs.drop p
example â2:=L.size
example â3:=setSearchFrom
example â4:=(ħ Đ).Nodup
example â5 _:=x (.type ty) (.type T)
example â6{f:AD}{t:zx}:=0
example â8:=by ext Ê3;let#[a,xs,rfl,g1,_]:=r;cases h
example â9:=by simp only at hc hd hc2 hd2;subst hc hd hc2 hd2
example ã0:=by have:l=r:=⋯;ext Û3;show#[h2,ha,hb]
example ã1:=((x2.trans x3).trans a2).trans x5
example ã2{E:AH}:=0
example ã3 _:=x (λ _ j=>0<=j) λ i j=>ñ (i/2 ^ j.toNat)
example ã4(h:i<À9):=0
example ã5:=backTo AA (starEach [e,f] Á3)
example ã6:=(∀ Y',FR Ú2 S Z Y' J'->Q Y' S)
example ã7:=wC is g b (ħ enc) J=↑(.nx J')
example ã8:=xo.mpr #[q,AU,zC6 _,zC6 _]
example ã9:=#[λ e he=>?_,λ j r hj hrj=>?_]
example ä0{tg:Expr}(hm:X.mg "range"=none):=0
example ä1 _:=x ŏ X.xe _ #[.bl _,H,I,rfl,q]
example ä2:=by constructor
example ä3 _:=x gV s B H _ I h
example ä6:=Ý a
example ä7:=Value.none
example ä8:=I.tuple
example ä9:=ñ i
example å0:=(.bl (cond neg (!(Ã3)) (Ã3)))
example å2:=Vw S Z y d
example å4:=λ j k us vs q n e1 e2 e3 e4=>?_
example å5:=by exists hi
example å6:=owner.getD
example å7:=wpAny_storeSet_of ho rfl ?_ hsl
example å8:=za0 (zd8 (AE ?_))
example æ1 _:=x È È
example æ2:=by simp![bne_self_eq_false,zC4,Ì2]
example æ3 _:=x Ç y _ F.er
example æ4:=by let#[ys,e1,e2]:=č;exact h Ç ys Ŭ
example æ5{xs:List V}:=0
example æ6:=by cases y <;> first | show#[h.1,hq È h.2] | show h
example æ7:=by ext Ê3;let#[a,xs,rfl,g1,g2]:=r
example æ8:=List (V× Â)
example æ9:=by rename_i e;cases h;let#[xs,g1,_]:=p È e
example ç0:=(λ b o hb q=>by rw[mY hb];show q)
example ç1:=ŗ "tuple" q
example ç2:=yx d S=↑ds
example ç3:=by simp[qd]
example ç4:=#[rfl,rfl]
example ç5:=λ i j=>ñ (Builtin.bitAnd i j)
example ç6:=#[d,h1,á5 (g9 s hp) t h2]
example ç7:=Classical.em
example ç8:=∃ (e:Nat),e<=M/\è[e]?=↑ Ë6
example ç9:=by have e:j=k:=⋯;subst e;by_cases hi:i=j
example è0:=by ext þ;rw[É za6]
example è1{y:V}{u:ú}:=0
example è2{Z:ç}{y:T}:=0
example è3(hf:qA f te):=0
example è4:=by ext Ê3;let#[a,xs,rfl,_]:=r;rfl
example è5:=PySem
example è6:=is'.toArray.size
example è7:=.bool_tuple _ Å
example è8:=(.Compare a [.NotEq] [b] pos)
example é0:=hq _ Û (Cl.of (n È) (h Ŗ))
example é1:=h.fr i ts p e ed
example é2:=#[[Ŕ,a],[]]
example é3:=za0 (zcX S.get rfl S.fits ?_)
example é4 _:=x ny.mo (ny.fits λ _ _ _=>Ģ) ha.mo
example é6 _:=x ts (m.map Ň)
example é7 _:=x A s (Ý l) (Ý l')
example é8(h:T->À (À T)):=0
example ê0:=by ext Ä0;let#[m,t,rfl]:=hall v AU
example ê1:=by rw[A9] at hg;let#[e,e1,e2]:=Ð8 hg
example ê2:=(if ([]:List Keyword).isEmpty then 0 else 1)
example ê3:=by ext þ;rw[e];show h
example ê4:=#[v,hv,by simp[oy];lia]
example ê5:=by cases Vw.bl r1
example ê6:=by rintro⟨v,hv,hg⟩;have:=hl v hv
example ê7:=.tuple_bool _ Å
example ê8(val:κ->β->ú) (its:A1) (ks:List κ):=0
example ê9:=by cases e2;show Ë0
example ë0:=by rename_i hb;ext þ
example ë1:=É (by rw[T.ji];simp[has])
example ë2:=(apos.endLine == AA.line)=true
example ë3:=(.dT Az)
example ë5:=List.drop_eq_getElem_cons AZ
example ë6:=È4 M ř
example ë7:=((Ĭ).i*5+1+(Ĭ).perturb/32)
example ë9:=∀ q'<q,ju è (way M h q').j
example ì1:=İ Ì (call (Ŕ) [Ý l]) Ý5
example ì2(h:Heap):=0
example ì3:=by simp![Sn] at h
example ì4(m:M2 X o "get" apos e f AA):=0
example ì5:=by ext Ñ;ext Û7
example ì8 _:=x #[_,ho,rfl] #[_,ho2,rfl]
example í0:=by exact za0 (zcX ho hd X.fits ?_);ext þ
example í1:=by rw[h2.len,h4.len];show h
example í2:=by simp![plainT] at h;cases h
example í3:=by simp[valueAt,zaL,e']
example í4:=by .rename_i h;rw[Í h] at e;show eJ e
example í5:=by cases Vw.int r1
example í6:=xp.bind
example í7:=(AM _)
example í8:=get?_update_seq
example í9:=(call (Ì3 "sorted") [ä6])
example î0:=(qs.map Ň)
example î1:=H a=↑ ſ
example î2:=List Expr
example î3:=ŗ "bool" q
example î6:=m.map Đ=ks
example î7:=#[c,rfl,h1]
example î8:=is.toArray.size
example î9:=.bool_list _ Å
example ï0:=compareOp
example ï1:=[(k,d)]
example ï2:=(a,b)::Az
example ï3:=#[y,by simpa using e1,e2]
example ï4:=ts.drop
example ï5:=Sn Ā y d
example ï6:=ER Ç
example ï7:=(yN i)
example ï8:=hq _ Û À3
example ï9:=Decidable
example ð0:=Ê4->Bool
example ð1:=(nq λ a z=>z.1)
example ð2:=λ b o q=>?_
example ð4:=Ä->À (Ä)
example ð5:=#[cls2,dd2,data2,sl2]
example ð6:=λ k=>hashes.toList.getD k 0
example ð7:=∃ k c,v=Ý c/\ũ ô Ŀ k c
example ð8:=unsupported
example ð9:=(hperm.map _).nodup_iff.mpr
example ñ1:=Up Ä8 i xs
example ñ2:=Heap->Ô6->Prop
example ñ3:=by let#[its,w1,pl,_]:=I.list g1
example ñ4(Az:Í1) (k:κ):=0
example ñ5{k:Key}:=0
example ñ6 _:=x (k:=Sum.inl k) g1
example ñ7(Az:û):=0
example ñ8(R:Rk):=0
example ñ9(hg:yu R g t) (hh:yu R h u):=0
example ò1{xs:Į}:=0
example ò2{M:Nat}:=0
example ò3(L:Lay M hs è m) (hm:m<=M):=0
example ò4:=.list_bool _ Å
example ò5:=by rw[oa (hn p AU)];show h3
example ò6(k j:Key) (d:T):=0
end
end L3
namespace L4
open è5 PySem.W Ť
def xp Ċ Í5 (lt:ľ):KasT α->(α->Prop)->Prop
 | .ret a,Q=>Q a
 | .ask i j k,Q=>i<n/\j<n/\xp n lt (k (lt i j)) Q
theorem Í8 Ċ Ó0{lt:ľ}{Q Q':α->Prop}(hq:∀ a,Q a->Q' a):∀ {t:KasT α},xp n lt t Q->xp n lt t Q'
 | .ret _,h=>hq _ h
 | .ask Ŗ,h=>#[h.1,h.2.1,Í8 hq h.2.2]
theorem í6 Ù5 Ó0{lt:ľ}{f:α->KasT β}{Q:β->Prop}:∀ {t:KasT α},xp n lt t (λ a=>xp n lt (f a) Q)->xp n lt (t.bind f) Q
 | .ret _,h=>h
 | .ask Ŗ,h=>#[h.1,h.2.1,í6 h.2.2]
section
variable {Ó0}{lt:ľ}
def Le (lt:ľ) (a b:Nat):Prop:=lt b a=à
structure Ord (lt:ľ):Prop where
 tr:∀ a b c,Le lt a b->Le lt b c->Le lt a c
 as:∀ a b,lt a b=true->Le lt a b
def Ord.refl Ï3 (a:Nat):Le lt a a:=by
 cases h:lt a a with
 | à=>show h
 | true=>show o.as a a h
def qh Í5 (p:ų):Prop:=p.Perm (ă n).toArray
theorem qh.size {p:ų}(h:qh n p):p.size=n:=by rw[Array.Perm.size_eq h];simp
theorem qh.below {p:ų}(h:qh n p) Ê7(hi:i<n):à6<n:=by
 have hs:=h.size;have hm:à6 ∈p:=by
  rw[zbY,zB8 ⋯];show Array.getElem_mem ⋯
 have:à6 ∈(ă n).toArray:=(Array.Perm.mem_iff h).mp hm;exists this
def eJ {p q:ų}Õ6(h:p[i]?=q[j]?):à6=q.getD j 0:=by rw[zbY,zbY,h]
def oS (lt:ľ) (p:ų) Ü4:Prop:=∀ i j,i<=j->j<k->Le lt (à6) (ä j 0)
def lM (lt:ľ) (p:ų) Ü4:Prop:=∀ i j,i<=j->j<k->Le lt (ä j 0) (à6)
def oS.next ķ æ0(h:oS lt p k) (hk:1<=k) (hl:Le lt (ä (k-1) 0) Å8):oS lt p (k+1):=λ i j hij hj=>by
 by_cases hjk:j<k
 .show h i j hij hjk
 .ext ç9
  .subst hi;show È6
  .show o.tr Ŗ (h i (j-1) ë) hl
def lM.next ķ æ0(h:lM lt p k) (hk:1<=k) (hl:Le lt Å8 (ä (k-1) 0)):lM lt p (k+1):=λ i j hij hj=>by
 by_cases hjk:j<k
 .show h i j hij hjk
 .ext ç9
  .subst hi;show È6
  .show o.tr Ŗ hl (h i (j-1) ë)
theorem Wb ķ Å7:∀ (f a:Nat),1<=a->a+f<=n->oS lt p a->
  xp n lt (kas_asc p f a) λ m=>a<=m/\m<=a+f/\oS lt p m/\(m=a+f\/Ã4=true)
 | 0,a,_,_,hs=>#[AM _,AM _,hs,ģ rfl]
 | f+1,a,h1,h2,hs=>by
  exact ő;cases c:lt (ä a 0) (ä (a-1) 0) with
  | true=>show#[AM _,⋯,hs,ń c]
  | à=>
   exact Í8 ?_ (Wb o hp f (a+1) ë (hs.next o h1 c));rintro m ⟨g1,g2,g3,g4⟩;show#[⋯,⋯,g3,g4.imp (λ e=>⋯) id]
def fC {p:ų}Å7 (i j:Nat):qh n (kas_rev p i j):=Array.Perm.trans (mirror_perm æ1) hp
theorem fD {p:ų}Å7 Õ6(hj:j<=n) Ü4:Î5=if i<=k/\k<j then ä (i+j-1-k) 0 else ä k 0:=by
 have e:=getElem?_mirror_all (xs:=p) (i:=i) (j:=j) (by rw[hp.size];show hj) k;split
 ext í4
 .rename_i h;rw[É h] at e;show eJ e
def rev_eq ķ Å7 Õ6(hj:j<=n) (he:∀ a b,i<=a->a<j->i<=b->b<j->Ð2) Ü4:
  Le lt (Î5) Å8/\Le lt Å8 (Î5):=by
 rw[fD hp hj];split
 .rename_i h;show#[he È ë h.1 h.2,he È h.1 h.2 ë]
 .show#[È6,È6]
def lM.of_eq Ï3 {p q:ų}æ0(h:lM lt p k) (e:∀ k,Le lt (q.getD k 0) Å8/\Le lt Å8 (q.getD k 0)):lM lt q k:=λ i j hij hj=>
 o.tr Ŗ (e j).1 (o.tr Ŗ (h i j hij hj) (e i).2)
def WT (lt:ľ) (p:ų) (m q:Nat):Prop:=∀ a b,m-(q+1)<=a->a<m->m-(q+1)<=b->b<m->Ð2
theorem ao Ï3:∀ (f:Nat) (p:ų) (m q:Nat),qh n p->1<=m->m+f<=n->lM lt p m->q+1<=m->WT lt p m q->
  xp n lt (kas_desc f p m q) λ r=>qh n r.1/\m<=r.2.1/\r.2.1<=m+f/\lM lt r.1 r.2.1/\r.2.2+1<=r.2.1/\WT lt r.1 r.2.1 r.2.2
 | 0,p,m,q,hp,_,_,hd,hq,hb=>#[hp,AM _,AM _,hd,hq,hb]
 | f+1,p,m,q,hp,h1,h2,hd,hq,hb=>by
  have one:∀ p':ų,WT lt p' (m+1) 0:=λ p' a b a1 a2 b1 b2=>by
   have:a=b:=⋯;ext Û3;show È6
  exact ő;cases c:Ã4 with
  | true=>
   ext þ;rw[Ñ8];have hl:=o.as È c;by_cases h0:q>0
   .rw[Í h0];have e:=rev_eq o hp (i:=m-(q+1)) (j:=m) ⋯ hb;have hp':=fC hp (m-(q+1)) m;exact Í8 ?_ (ao o f _ (m+1) 0 hp' ë ((hd.of_eq o e).next o h1 (o.tr Ŗ (e m).1 (o.tr Ŗ hl (e (m-1)).2))) ⋯ (one _));ext ŋ
   .rw[É h0];exact Í8 ?_ (ao o f _ (m+1) 0 hp ë (hd.next o h1 hl) ⋯ (one _));ext ŋ
  | à=>
   ext è0;exact ő;cases d:lt (ä (m-1) 0) (ä m 0) with
   | true=>show#[hp,AM _,(by change m<=m+(f+1);lia),hd,hq,hb]
   | à=>
    ext è0;exact Í8 ?_ (ao o f _ (m+1) (q+1) hp ë (hd.next o h1 d) ⋯ λ a b a1 a2 b1 b2=>?_)
    .ext ŋ
    .by_cases ha:a=m
     .by_cases hb':b=m
      .subst ha;subst hb';show È6
      .subst ha;show o.tr Ŗ d (hb (a-1) b ë ë)
     .by_cases hb':b=m
      .subst hb';show o.tr Ŗ (hb a (b-1) ë ë) c
      .show hb a b ë ë
theorem V5 ķ{m:Nat}Å7 (h1:1<=m) (h2:m<=n) (hd:lM lt p m):xp n lt (kas_tail3 m n p) Ã0:=by
 exact í6 (Í8 ?_ (Wb o (fC hp 0 m) (n-m) m h1 ⋯ Ñ9))
 .rintro k ⟨a1,a2,a3,_⟩;show#[fC hp 0 m,⋯,a3]
 .rw[fD hp h2,fD hp h2,Í #[zD4 _,⋯],Í #[zD4 _,hj]];show hd È ë
theorem RA ķ{m:Nat}Å7 (h1:1<=m) (h2:m<n) (hd:lM lt p m) (hl:Ã4=true):xp n lt (kas_descPart m n p) Ã0:=by
 exact í6 (Í8 ?_ (ao o (n-(m+1)) p (m+1) 0 hp ë (hd.next o h1 (o.as È hl)) ⋯ λ a b a1 a2 b1 b2=>?_))
 .rintro⟨p',m',q'⟩ ⟨a1,a2,a3,a4,a5,a6⟩;dsimp only at a1 a2 a3 a4 a5 a6 ⊢;by_cases h0:q'>0
  .rw[Í h0];show V5 o (fC a1 È) ë (a4.of_eq o (rev_eq o a1 (i:=m'-(q' + 1)) (j:=m') ⋯ a6))
  .rw[É h0];show V5 o a1 ë a4
 .have:a=b:=⋯;ext Û3;show È6
theorem Dq ķ Å7 (h1:1<=n):xp n lt (kas_count n p) Ã0:=by
 exact í6 (Í8 ?_ (Wb o hp (n-1) 1 í7 ⋯ Ñ9))
 .rintro m ⟨a1,a2,a3,a4⟩;by_cases hm:m=n
  .rw[Í (by simp[hm])];show#[hp,⋯,a3]
  .rw[É (by simp[hm])];have hl:Ã4=true:=a4.resolve_left ⋯;by_cases h2:m>1
   .rw[Í h2];exact ő;cases c:lt (ä 0 0) (ä (m-1) 0) with
    | true=>show#[hp,⋯,a3]
    | à=>
     ext è0;have all:∀ a b,0<=a->a<m->0<=b->b<m->Ð2:=λ a b _ ha _ hb=>
      o.tr Ŗ (a3 a (m-1) ë) (o.tr Ŗ c (a3 0 b ⋯ hb))
     have e:=rev_eq o hp (i:=0) (j:=m) ⋯ all;exact RA o (fC hp 0 m) ë (λ i j hij hj=>o.tr Ŗ (e j).1 (o.tr Ŗ (all È Ö2 hj Ö2 ⋯) (e i).2)) ?_;rw[fD hp ⋯,fD hp ⋯,É ⋯,Í ⋯];cases q:lt (ä m 0) (ä (0+m-1-(m-1)) 0) with
     | true=>rfl
     | à=>
      have:=o.tr Ŗ (all (m-1) (0+m-1-(m-1)) Ö2 ⋯ Ö2 ⋯) q;unfold Le at this;rw[this] at hl;cases hl
   .rw[É h2];have e:m=1:=⋯;subst e;exact RA o hp í7 ⋯ (Ñ9) hl;ext Ò9
 .ext Ò9
theorem Yr {p:ų}æ0 Å7 (hk:k<n) (hs:oS lt p k) Ï3:∀ (f l r:Nat),r-l<=f->l<=r->r<=k->(∀ i,i<l->Le lt (à6) Å8)->(∀ i,r<=i->i<k->lt Å8 (à6)=true)->
  xp n lt (kas_place p k f l r) λ m=>m<=k/\(∀ i,i<m->Le lt (à6) Å8)/\(∀ i,m<=i->i<k->lt Å8 (à6)=true)
 | 0,l,r,h0,h1,h2,ha,hb=>by
  ext ã0
 | f+1,l,r,h0,h1,h2,ha,hb=>by
  unfold kas_place;by_cases hlr:l≥r
  .rw[Í hlr];ext ã0
  .rw[É hlr];exact#[hp.below hk,hp.below ⋯,?_];cases c:lt Å8 (ä ((l+r)/2) 0) with
   | true=>
    ext þ;rw[Ñ8];exact Yr hp hk hs o f l ((l+r)/2) ë ⋯ ha λ i hi hik=>?_;cases q:lt Å8 (à6) with
    | true=>rfl
    | à=>
     have:=o.tr Ŗ (hs ((l+r)/2) i hi hik) q;unfold Le at this;rw[this] at c;cases c
   | à=>
    ext è0;exact Yr hp hk hs o f ((l+r)/2+1) r ë h2 (λ i hi=>?_) hb;show o.tr Ŗ (hs i ((l+r)/2) ë) c
theorem QF Ï3:∀ (f:Nat) (p:ų) Ü4,qh n p->k+f=n->oS lt p k->xp n lt (kas_bin f p k) λ r=>qh n r/\oS lt r n
 | 0,p,k,hp,h1,hs=>by
  have:k=n:=⋯;ext Û3;show#[hp,hs]
 | f+1,p,k,hp,h1,hs=>by
  exact í6 (Í8 ?_ (Yr hp ⋯ hs o k 0 k ⋯ Ö2 í7 (λ i hi=>È2 hi (Nat.not_lt_zero _)) λ i hi hik=>È2 hik ⋯));rintro l ⟨a1,a2,a3⟩;exact QF o f _ (k+1) (Array.Perm.trans (bubble_perm Ŗ) hp) ⋯ Ñ9;have ev:∀ x,(bubble p k (k-l)).getD x 0=if x=l then ä k 0 else if l<x/\x<=k then ä (x-1) 0 else ä x 0:=λ x=>by
   have e:=getElem?_bubble (xs:=p) (src:=k) (by rw[hp.size];lia) (k-l) ⋯ x;rw[show k-(k-l)=l by lia] at e;split
   ext í4
   .rename_i h;rw[É h] at e;split
    .rename_i h';rw[Í h'] at e;show eJ e
    .rename_i h';rw[É h'] at e;show eJ e
  rw[ev i,ev j];by_cases hi:i=l
  .rw[Í hi];by_cases hj':j=l
   .rw[Í hj'];show È6
   .rw[É hj',Í #[⋯,⋯]];show o.as È (a3 (j-1) ë)
  .rw[É hi];by_cases hj':j=l
   .rw[Í hj',É ⋯];show a2 i ⋯
   .rw[É hj'];by_cases hi2:l<i/\i<=k
    .rw[Í hi2,Í #[⋯,⋯]];show hs È ë
    .rw[É hi2];by_cases hj2:l<j/\j<=k
     .rw[Í hj2];show hs È ë
     .rw[É hj2];show hs È hij ⋯
theorem Mg Ï3 (h1:1<=n):xp n lt (kas_sort n) λ r=>qh n r/\oS lt r n:=by
 have hp:qh n (ă n).toArray:=Array.Perm.refl _;exact í6 (Í8 ?_ (Dq o hp h1));rintro⟨m,p⟩ ⟨a1,a2,a3⟩;dsimp only at a1 a2 a3 ⊢;by_cases hm:m<n
 .rw[Í hm];exact QF o _ p (max m 1) a1 ⋯ ?_;by_cases h0:m=0
  .subst h0;intro i j hij hj;ext Ò9
  .rw[show max m 1=m by lia];show a3
 .rw[É hm];have:m=n:=⋯;ext Û3;show#[a1,a3]
end
end L4
namespace L4
open è5 PySem.W PySem.Calls Ť
section
variable {prog:Í9}{Ä5}{Ļ}{ã2}{Ù6}
def Core ū (A:Around) (E:AH) (vs:AI) (Out:ò ú->Prop) (s6:Á1):Prop:=
 İ Ì (keyKind' ě) (fun κ s'=>s'=s6/\İ Ì ((sortRuns').run (SortSt.mk' κ (ä5) Ħ 7 none))
  (λ r s''=>s''=s6/\failedOf r.2=none/\Out ((arrOf r.2).map Ň)/\(arrOf r.2).size=ĉ) E s') E s6
def Hd ĕ ß4 Ó0{P:PySem.Fin->õ}{Out:ò ú->Prop}(ho:Þ7 a=↑(seqObj "list" ě n)) (hz:ĉ<=Ó)
  (core:2<=ĉ->∀ s6:Á1,(∀ b o,b≠a->ą->s6.heap.get? b=↑o)->Core ĺ A E vs Out s6) (short:ĉ<2->Out ě)
  (fin:∀ out:ò ú,Out out->out.size=ĉ->P (.done (.ret .none)) { s with heap:=sortedHeap Ŀ a vs out }):
  İ Ì (Builtin.«list.sort» #[[ä6],[]]) P E s:=by
 have ha:a<Æ:=A2 ho;obtain⟨e1,g1⟩:∃ e1,(Ý8).get? a=↑(seqObj "list" Ħ e1):=#[_,í8 ho (λ _=>Ħ)];have hz':vs.toArray.size<=Ó:=by rw[A6];show hz
 have g6:ŕ a=↑(seqObj "list" Ħ e1):=za1 _ (za1 _ g1);have keep:∀ b o,b≠a->ą->ŕ b=↑o:=
  λ b o hb e=>za1 _ (za1 _ (by rw[zdB æ1 hb];show e))
 rw[list_sort_plain];exact za0 (listItems_at ho rfl (za0 (listUpdate_at ho rfl (za0 (seqEpoch_at g1 rfl (za0 (wpAny_newTuple (za0 (wpAny_newList (zcT ?_))) (by exists hz))))) hz' Ö2)));by_cases h2:vs.toArray.size<2
 .rw[Í h2,Í h2];have e2:Æ4=ě:=by
   change (ä5).map Ň=ě;apply Array.ext #[];intro i h1 h2;simp
  ext Ï4;ext þ;rw[StateT.run_pure];ext Ï4;ext þ;exact Ã2
  .ext æ2;have q:=fin _ (e2▸short (by exists h2)) (by rw[e2];simp);show AE q
  .change ((Æ4)).size<=Ó+1;rw[e2];lia
 .rw[É h2,É h2];have h2':2<=ĉ:=by exists h2
  exact za0 (zcS (core h2' _ keep) (fun κ s7 #[hs,h7]=>?_) λ _ _ z=>z);subst hs;exact za0 (zcS h7 (λ r s8 #[hs,hf,hout,hsz]=>?_) λ _ _ z=>z);subst hs;obtain⟨⟨⟩,st⟩:=r;exact Ã2
  .have hf':failedOf st=none:=hf;rw[hf'];ext æ2;show AE (fin _ hout (by rw[zbJ];show hsz))
  .change ((arrOf st).map Ň).size<=Ó+1;rw[zbJ];have:(arrOf st).size=ĉ:=hsz;lia
def Mf Û4 ß4(out:A1):∃ e,(sortedHeap (h.push ť) Þ8 vs out).get? Þ8=↑(seqObj "list" out e):=by
 have there:(h.push ť).get? Þ8=↑ ť:=zA9 _ rfl;show#[_,í8 (za1 _ (za1 _ (í8 there λ _=>Ħ))) λ _=>out]
def VG ĕ ß4{Q:AH}{Out:ò ú->Prop}{N:ç}
  (C:∀ Q':List ú->õ,(∀ h1 tk,(∀ b o,¬ N b->ą->h1.get? b=↑o)->Ë4)->İ (model ĺ) A.in1 (collect (ä6)) Q' E s) (hz:ĉ<=Ó)
  (core:2<=ĉ->∀ s6:Á1,(∀ b o,¬ N b->ą->s6.heap.get? b=↑o)->Core ĺ A.in1.in1 E vs Out s6) (short:ĉ<2->Out ě)
  (fin:∀ (out:A1) (h':Heap) (tk l:Nat),Out out->out.size=ĉ->Æ<=l->(∀ b o,¬ N b->ą->Á2)->(∃ e,h'.get? l=↑(seqObj "list" out e))->Q (Ý l) { s with heap:=h',toks:=tk }):
  İ Ì í9 Ý5:=by
 exact Calls.call_function_entry kind_sorted plain_sorted entry_sorted (args_sorted1 _) ?_;unfold Builtin.«sorted»;exact za0 (m:=checkCount "sorted" 1 1 _) (AE (za0 (C _ λ h1 tk k1 k2=>za0 (wpAny_newList ?_ hz))));have hoL:(h1.push ť).get? h1.objs.size=↑ ť:=zA9 _ rfl;change İ È Ŗ { s with heap:=h1.push ť,toks:=tk };exact za0 (zcT (zcU slot_list_sort #[_,hoL,rfl] entry_list_sort (Hd hoL hz (λ h2 s6 k=>core h2 s6 λ b o n q=>k b o (zB3 (A2 (k1 b o n q))) (za1 _ (k1 b o n q))) short λ out g1 g2=>#[_,rfl,?_]) (args_list_sort _)));exact AE #[_,rfl,fin out _ tk h1.objs.size g1 g2 k2 (λ b o n q=>?_) (Mf out)];have q1:=k1 b o n q;have hb:=zB3 (A2 q1);unfold sortedHeap;rw[zdB æ1 hb];exact za1 _ (za1 _ ?_);rw[zdB æ1 hb];show za1 _ q1
end
end L4
namespace L4
open è5 PySem.W PySem.Calls Ť L2
theorem YL:∀ a b:Â,ĵ a b=true->ĵ b a=à
 | [],[],h=>ġ
 | [],_::_,_=>rfl
 | _::_,[],h=>ġ
 | x::a,y::b,h=>by
  rw[HT.kW] at h ⊢;by_cases e:x=y
  .subst e;rw[Ñ8] at h ⊢;show YL a b h
  .rw[É e] at h;rw[É (Ne.symm e)];have:=of_decide_eq_true h;show zcQ ⋯
theorem YM:∀ a b:Â,ĵ a b=à->ĵ b a=à->a=b
 | [],[],_,_=>rfl
 | [],_::_,h,_=>ġ
 | _::_,[],_,h=>ġ
 | x::a,y::b,h,h'=>by
  rw[HT.kW] at h h';by_cases e:x=y
  .subst e;rw[Ñ8] at h h';rw[YM a b h h']
  .rw[É e] at h;rw[É (Ne.symm e)] at h';have h1:=Ŵ h;have h2:=Ŵ h';lia
theorem YK:∀ a b c:Â,ĵ b a=à->ĵ c b=à->ĵ c a=à
 | [],[],[],_,_=>rfl
 | [],[],_::_,_,h=>h
 | [],_::_,[],_,h=>ġ
 | [],_::_,_::_,_,_=>rfl
 | _::_,[],_,h,_=>ġ
 | _::_,_::_,[],_,h=>ġ
 | x::a,y::b,z::c,h,h'=>by
  rw[HT.kW] at h h' ⊢;by_cases e1:y=x
  .subst e1;rw[Ñ8] at h;by_cases e2:z=y
   .subst e2;rw[Ñ8] at h' ⊢;show YK a b c h h'
   .rw[É e2] at h' ⊢;show h'
  .rw[É e1] at h;have h1:=Ŵ h;by_cases e2:z=y
   .subst e2;rw[É e1];show h
   .rw[É e2] at h';have h2:=Ŵ h';rw[É ⋯];show zcQ ⋯
theorem Yu Ċ{r:α->α->Prop}(an:∀ a b,r a b->r b a->a=b):∀ {l₁ l₂:Į},l₁.Perm l₂->l₁.Pairwise r->l₂.Pairwise r->l₁=l₂
 | [],l₂,h,_,_=>(List.nil_perm.mp h).symm
 | a::l₁,[],h,_,_=>È2 (List.perm_nil.mp h) #[]
 | a::l₁,b::l₂,h,h1,h2=>by
  have hab:a=b:=by
   have ha:a∈b::l₂:=h.mem_iff.mp AU;have hb:b∈a::l₁:=h.mem_iff.mpr AU;rcases Ö3 ha with e | ha
   .show e
   .rcases Ö3 hb with e | hb
    .show e.symm
    .show an È (List.rel_of_pairwise_cons h1 hb) (List.rel_of_pairwise_cons h2 ha)
  subst hab;rw[Yu an (List.Perm.cons_inv h) (za9.mp h1).2 (za9.mp h2).2]
def qb Ï5:đ:=rows.mergeSort λ a b=>! ĵ b a
def lh Ï5:(qb rows).Perm rows:=List.mergeSort_perm È
def cP Ï5:(qb rows).Pairwise Ç9:=by
 have:=List.pairwise_mergeSort (le:=λ a b:Â=>! ĵ b a) (λ a b c h1 h2=>by simp at h1 h2 ⊢;show YK a b c h1 h2)
  (λ a b=>by
   cases h:ĵ b a with
   | à=>simp
   | true=>simp[YL b a h]) rows
 show this.imp λ h=>à7
def VH {rows out:đ}(hp:out.Perm rows) (hs:out.Pairwise Ç9):out=qb rows:=
 Yu (λ a b h1 h2=>YM a b h2 h1) (hp.trans (lh rows).symm) hs (cP rows)
def fA Ï5 (i j:Nat):Bool:=ĵ (rows.getD i []) (rows.getD j [])
def MO Ï5:Ord (fA rows):=#[λ _ _ _ h1 h2=>YK Ŗ h1 h2,λ _ _ h=>YL È h]
section
variable {prog:Í9}{Ä5}{Ļ}{ã2}{Ù6}{Í7}
theorem T_ Û5:∀ (ns ms:Â) (us ws:AI) Ö,IntsAre us ns->IntsAre ws ms->Q (ĵ ns ms) s->KatLex ĺ A b (È3 (ns.length<ms.length)) Q (us.zip ws) i s
 | [],[],_,_,_,Ú4,Ú4,h=>Ê9
 | [],_::_,_,_,_,Ú4,Œ Ŗ,h=>Ê9
 | _::_,[],_,_,_,Œ Ŗ,Ú4,h=>Ê9
 | n::ns,m::ms,_,_,i,Œ _ t hu,Œ _ u hw,h=>by
  rw[HT.kW] at h;exact kat_cons (SeqAt.EqAt.int_int n t m u ĺ È (kat_go (λ e=>kat_yes ?_) λ e=>kat_no ?_))
  .have e':n=m:=by exists e
   rw[Í e'] at h;rw[show È3 ((n::ns).length<(m::ms).length)=È3 (ns.length<ms.length) by simp];show T_ ns ms È à8 hu hw h
  .have e':¬ n=m:=by exists e
   rw[É e'] at h;cases b&&i == 0 with
   | true=>show kat_lt_int h
   | à=>show kat_one È (lt_int h)
def i3 ì2:List ú->đ->Prop:=Paired λ v r=>r≠[]/\∃ b o its n,v=Ý b/\Ð3/\o.cls=.type "tuple"/\o.data=.seq its n/\IntsAre its.toList r
theorem i3.Rl Û4:∀ ß4 Ë8,i3 h vs rows->∃ fs,KatTups h vs fs/\fs.length=ĉ/\∀ v∈fs,∃ n t,v=Value.int n t
 | _,_,Ú4=>#[[],KatTups.nil,rfl,λ _ hv=>È2 hv #[]]
 | _,_,Œ #[AW,b,o,its,n,hv,ho,hc,hd,hi] r=>by
  let#[fs,h1,h2,h3]:=i3.Rl r;subst hv;let#[its]:=its;cases hi with
  | nil=>show È2 rfl AW
  | cons k t _=>show#[ñ k t::fs,KatTups.cons ho hc hd rfl h1,by simp[h2],λ v hv=>(Ö3 hv).elim (λ e=>#[k,t,e]) (h3 v)]
theorem Paired.at' Ù5{F:α->β->Prop}:∀ {l₁:Į}{l₂:List β}Ê7,Paired F l₁ l₂->i<l₁.length->∀ (d:α) (e:β),F (l₁.getD i d) (l₂.getD i e)
 | _,_,_,Ú4,h,_,_=>È2 h #[]
 | _,_,0,Œ r _,_,_,_=>r
 | _,_,i+1,Œ _ t,h,d,e=>by exists Paired.at' (i:=i) t (à7) d e
def i3.ask ß4 Ë8 Û5(r:i3 Ŀ vs rows) Õ6(hi:i<ĉ) (hj:j<ĉ) {C:Bool->õ}(h:C (fA rows i j) s):kas_ask ĺ A (tuples' b) vs i j C s:=by
 let#[_,b1,o1,its1,n1,e1,g1,_,d1,q1]:=Paired.at' r hi ä7 [];let#[_,b2,o2,its2,n2,e2,g2,_,d2,q2]:=Paired.at' r hj ä7 [];unfold kas_ask;rw[e1,e2];exact kat_lt g1 d1 g2 d2 ?_;have l1:=q1.length;have l2:=q2.length;rw[zD2] at l1 l2;rw[l1,l2];show T_ æ1 0 q1 q2 h
theorem Vd Ċ Ó0{lt:ľ}{cmp:Nat->Nat->(Bool->õ)->õ}{Q:α->õ}(hc:∀ i j C,i<n->j<n->C (lt i j) s->cmp i j C s):∀ {t:KasT α},xp n lt t (λ a=>Q a s)->t.kasWp cmp Q s
 | .ret _,h=>h
 | .ask i j _,h=>hc i j _ h.1 h.2.1 (Vd hc h.2.2)
def Wu (vs:AI) Ï5 (out:A1):Prop:=
 ∃ ps:List (ú × Â),ps.Perm (vs.zip rows)/\out.toList=É7 Đ/\(É7 Ň).Pairwise Ç9
theorem O6 Ù5{l:Į}{m:List β}(h:Ú5=m.length) (a:α) (b:β):(ă Ú5).map (λ i=>(l.getD i a,m.getD i b))=l.zip m:=by
 exact zbK (Æ9) λ i h1 h2=>?_;have h3:i<Ú5/\i<m.length:=by simp at h1;lia
 simp[h3.1,h3.2]
theorem NZ Ë8{p:ų}Ó0(hn:p.size=n) (h:oS (fA rows) p n):(p.toList.map λ i=>rows.getD i []).Pairwise Ç9:=by
 rw[zaU,zbL];intro i j hi hj hij;have:=h i j (zE3 hij) (by rw[<- hn];exists hj);simp![zD2] at hi hj;unfold Le fA at this;simpa [zbY,hi,hj] using this
theorem Dr ß4 Ë8(r:i3 Ŀ vs rows) (h2:2<=ĉ) (qx:ĉ<64):Core ĺ A E vs (Wu vs rows) s:=by
 let#[fs,t,hl,hf]:=r.Rl;unfold Core;exact kat_kind (T:=.type "int") t ⋯ (λ v hv=>?_) rfl #[rfl,?_]
 .let#[n,t,rfl]:=hf v hv;show Looks.of_pure rfl
 .exact kat_run (ks:=vs) (Q:=λ st s''=>s''=s/\failedOf st=none/\Wu vs rows ((arrOf st).map Ň)/\(arrOf st).size=ĉ) (G:=λ p s''=>s''=s/\qh ĉ p/\oS (fA rows) p ĉ) rfl h2 qx (λ p st s' hs ha hfl hg=>?_) ?_
  .let#[h1,h3,h4]:=hg;exact#[h1,hfl,#[p.toList.map λ i=>(vs.getD i ä7,rows.getD i []),?_,?_,?_],by rw[ha,zbJ];show hs]
   .rw[<- O6 (Ð4 r) ä7 []];have:=Array.Perm.toList h3;show List.Perm.map _ (by exists this)
   .rw[kat_snds rfl ha,A4];rfl
   .rw[A4];show NZ hs h4
  .show Vd (λ i j C hi hj hC=>r.ask hi hj hC) (Í8 (λ p hp=>#[rfl,hp]) (Mg (MO rows) ⋯))
end
section
variable {Ì8}
def Paired.perm Ù5{F:α->β->Prop}{l l':Į}(p:l'.Perm l):∀ {m:List β},Paired F l m->∃ m',m'.Perm m/\Paired F l' m':=by
 induction p with
 | nil=>intro m h;show#[m,.refl _,h]
 | cons x _ ih=>
  intro m h;cases h with
  | cons a h=>
   let#[m',h1,h2]:=ih h;show#[_,h1.cons _,Œ a h2]
 | swap x y l=>
  intro m h;cases h with
  | cons a h=>
   cases h with
   | cons b h=>show#[_,.swap Ŗ,Œ b (Œ a h)]
 | trans _ _ ih1 ih2=>
  intro m h;let#[m1,h1,h2]:=ih2 h;let#[m2,h3,h4]:=ih1 h2;show#[m2,h3.trans h1,h4]
abbrev Q_ Ñ4 (v:V) (r:Â):Prop:=r≠[]/\∃ b,v=V.ref b/\yz K H b (r.map V.int)
abbrev js Ñ4 (ys:List V) Ï5:Prop:=Paired (Q_ K H) ys rows
abbrev VR Ñ4:List ú->æ8->Prop:=Paired λ u q=>RelV q.1 u/\Q_ K H q.1 q.2
theorem VR.of {K:AB}ż:∀ {ys:List V}ß4 Ë8,Vals ys vs->js K H ys rows->VR K H vs (ys.zip rows)
 | _,_,_,Ú4,Ú4=>Ú4
 | _,_,_,Œ r t,Œ r' t'=>Œ #[r,r'] (VR.of t t')
abbrev dE (qs:æ8) (H:Hp) (Q:VK):Prop:=∀ p (ps:æ8),H p=none->ps.Perm qs->(É7 Ň).Pairwise (Ç9)->Q Ò0 (upd H p (ň (É7 Đ)))
def ZN {gV:AN}{B:L2.St}ż Ù6 ĕ ß4{qs:æ8}{Q:VK}Î
  (C:∀ Q':List ú->õ,(∀ h1 tk,(∀ b o,¬ Ö4->ą->h1.get? b=↑o)->Ë4)->İ Î6 X.A.in1 (collect (ä6)) Q' X.xe s)
  (hv:VR Â2 vs qs) (qx:qs.length<64) (q:dE qs H Q):İ Î6 X.A í9 (EP X gV B Q) X.xe s:=by
 have hl:ĉ=qs.length:=Ð4 hv;have hz:qs.length<=Ó:=A7 (zE3 qx) ();have rows_at:∀ h6:Heap,(∀ b o,¬ Ö4->ą->h6.get? b=↑o)->i3 h6 vs î0:=λ h6 k=>by
  clear q hl qx hz C
  induction hv with
  | nil=>show Ú4
  | cons g t ih=>
   exact Œ ?_ ih;let#[r1,AW,b,e1,hb]:=g;rw[e1] at r1;cases r1;let#[its2,rv2,#[o,e,hc,n,hd],_]:=ä8 hb;show#[AW,b,o,_,n,rfl,k È id e,hc,hd,by exists intsAre_of rv2]
 exact VG (Out:=Wu vs î0) C ⋯ (λ h2 s6 k=>Dr (rows_at _ k) h2 ⋯) (λ h1=>#[vs.zip î0,.refl _,by rw[List.map_fst_zip (Æ9)],?_]) λ out h' tk p ho hs hp k hat=>?_
 .rw[List.map_snd_zip (Æ9),zbL];intro i j hi hj hij;simp at hi hj;lia
 .let#[ps,g1,g2,g3]:=ho;let#[e,he]:=hat;have z:Paired (λ p q=>RelV q.1 p.1/\p.2=q.2) (vs.zip î0) qs:=by
   clear g1 hs hl qx hz C rows_at q
   induction hv with
   | nil=>show Ú4
   | cons a _ ih=>show Œ #[a.1,rfl] ih
  let#[qs',q1,q2]:=Paired.perm g1 z;have f:Vals (qs'.map Đ) (É7 Đ)/\qs'.map Ň=É7 Ň:=by
   clear q1 g1 g2 g3
   induction q2 with
   | nil=>show#[Ú4,rfl]
   | cons a _ ih=>show#[Œ a.1 ih.1,by rw[AR,AR,ih.2,a.2]]
  exact#[Ý p,_,I.laid (t':=tk) (o:=ň (qs'.map Đ)) (λ b o e=>k b o id e) hp #[?_,out.toList,e,by rw[g2];show f.1,by exists he],rfl,q p qs' (I.zH.fresh hp) q1 (by rw[f.2];show g3)];rw[AQ,q1.length_eq];show hz
end
end L4
namespace L2
open è5 Ú6 Ť
def rh (ty T:Ý9):Bool:=ty == T||(ty == "bool"&&T == "int")
def cz (ty T:Ý9):Bool:=PySem.W.kitMeta T&&È3 ((fastBuiltinMro ty).map (λ l=>l.contains (Ú7 T))=↑ à9)
def OV:(["NoneType","bool","int","str","tuple","list","dict"].all λ ty=>["int","bool","tuple","list","str"].all λ T=>cz ty T)=true:=by decide +kernel
def HB {K:AB}{ty T:Ý9}(h:cz ty T=true):PySem.W.kitOne K â5=↑ à9:=by
 unfold cz at h;rw[zE5] at h;unfold PySem.W.kitOne;split
 .rename_i e;have e':ty=T:=by have:=eq_of_beq e;injection this
  subst e';simp[rh]
 .change (if PySem.W.kitMeta T=true then PySem.W.subIn K â5 else none)=_;rw[Í h.1];show of_decide_eq_true h.2
def QZ Ñ4:V->Ý9->Prop
 | .zA,t=>t="NoneType"
 | .bl _,t=>t="bool"
 | ñ _,t=>t="int"
 | À6 _,t=>t="str"
 | ä6,t=>(t="tuple"/\∃ xs,yz K H a xs)\/(t="list"/\∃ xs,y4 K H a xs)\/(t="dict"/\∃ Az,î1)
 | _,_=>Ö4
def Cd Ì8:xC X (Ì3 "isinstance") (λ xs H Q=>∃ x T ty,xs=[x,.ty T]/\QZ Â2 x ty/\cz ty T=true/\Q (.bl à9) H):=by
 intro gV s B H xs us Q I r h;let#[x,T,ty,rfl,hx,hT,q]:=h;let#[u,c,rfl,ru,rc]:=vals2 r;cases (show c=Ú7 T from rc);have e:PySem.W.kitOne X.K â5=↑ à9:=HB hT;have fin:∀ tk,EP X gV B Q (.bool à9) { s with toks:=tk }:=λ tk=>#[.bl _,H,I.tok tk,rfl,q];cases x with
 | zA=>cases (show u=ä7 from ru);cases Ò1;show À0 PySem.W.kitx_none I.rX É1 Ľ
 | bl y=>cases (show u=Value.bool y from ru);cases Ò1;show À0 PySem.W.kitx_bool I.rX É1 Ľ
 | int i=>let#[t,rfl]:=(show ∃ t,u=Value.int i t from ru);cases Ò1;show À0 PySem.W.kitx_int I.rX É1 Ľ
 | str y=>let#[t,rfl]:=(show ∃ t,u=Value.str y t from ru);cases Ò1;show À0 PySem.W.kitx_str I.rX É1 Ľ
 | ref a=>
  cases (show u=ł a from ru);rcases hx with ⟨rfl,ys,hq⟩ | ⟨rfl,ys,hq⟩ | ⟨rfl,Az,hq⟩
  .let#[its,_,#[o,h1,h2,_],_]:=ä8 hq;show À0 PySem.W.kitx_tuple I.rX #[o,h1,h2] Ľ
  .let#[its,_,#[o,n,h1,h2,_],_]:=I.list hq;show À0 PySem.W.kitx_list I.rX #[o,h1,h2] Ľ
  .let#[_,_,vs,_,p]:=(show xS ŏ H Ŀ a ſ from I.zH a _ hq)
   let#[o,es,ep,h1,h2,_]:=p;show À0 PySem.W.kitx_dict I.rX #[o,h1,h2.1] Ľ
 | _=>show hx.elim
end L2
namespace L3
open è5 Ú6 L2
open Ť hiding St
section
variable {Ì8}{K:AB}{a b e:Expr}{es:î2}{te:zx}{tA:yy}{pos p q:Pos}
def uo (hm:X.mg "len"=none) Ė (hg:Gl X "len") Þ:PD X (Þ9 (ŗ "len" p) Ţ) (qp ma tA):=
 m6 (l_ (Ca.or D_) hg hm PySem.boot_len Ō) ma.mo ma.fits ha.mo
def um (hm:X.mg "list"=none) Ė (hg:Gl X "list") Þ:PD X (Þ9 (ŗ "list" p) Ţ) (qp n_ tA):=
 m6 (jI DY hg hm PyProof.Rows.boot_list Ō) n_.mo n_.fits ha.mo
def vF (hm:X.mg "tuple"=none) Ė (hg:Gl X "tuple") Þ:PD X (Þ9 (ŗ "tuple" p) Ţ) (qp nX tA):=
 m6 (jI DL hg hm PyProof.Rows.boot_tuple Ō) nX.mo nX.fits ha.mo
abbrev Rp:x9:=ny λ i j=>ñ (if j>i then j else i)
abbrev Ro:x9:=ny λ i j=>ñ (if j<i then j else i)
def uc (hm:X.mg "max"=none) Ė È0 (hg:Gl X "max") Þ:PD X (Þ9 (ŗ "max" p) Ţ) (qp Rp tA):=
 m6 (l_ (DX hc) hg hm boot_max Ō) é4
def v_ (hm:X.mg "min"=none) Ė È0 (hg:Gl X "min") Þ:PD X (Þ9 (ŗ "min" p) Ţ) (qp Ro tA):=
 m6 (l_ (DW hc) hg hm boot_min Ō) é4
def oE (r:Â):D:=Ķ (r.map D.int)
theorem zu.ba ż:∀ {ps:æ8},(∀ q∈ps,zj K H (oE q.2) q.1)->zu K H ((É7 Ň).map oE) (É7 Đ)
 | [],_=>Ú4
 | q::ps,h=>Œ (h q AU) (zu.ba λ q hq=>h q (AX _ hq))
theorem zu.cp ż:∀ Ë8{ys:List V},zu K H (rows.map oE) ys->∀ q∈ys.zip rows,zj K H (oE q.2) q.1
 | [],ys,_,q,hq=>by simp at hq
 | r::rows,ys,h,q,hq=>by
  rw[AR] at h;simp![zu] at h;let#[x,ys',rfl,h1,h3]:=h;rcases Ö3 hq with e | hq
  .subst e;show h1
  .show zu.cp h3 q hq
theorem cU ż:∀ Ë8{ys:List V},zu K H (rows.map oE) ys->(∀ r∈rows,r≠[])->L4.js K H ys rows
 | [],ys,h,_=>by simp![za4,zu] at h;subst h;show Ú4
 | r::rows,ys,h,hn=>by
  rw[AR] at h;simp![zu,oE,zj] at h;let#[x,ys',rfl,#[a,xs,rfl,g1,g2],h3]:=h;rw[g2.ints] at g1;show Œ #[hn r AU,a,rfl,g1] (cU h3 λ r' hr=>hn r' (AX _ hr))
def v7 ä0 (ha:y7 X [a] tA) (hg:Gl X "range") (hs:starEach [a] Á3=[(à,eval a Á3)]):yv X tg (Þ9 (ŗ "range" p) [a] [] pos) (YW tA):=KN (LX hg hm ha.pa hs) ha.mo
def v5 ä0 (ha:y7 X [a,b] tA) (hg:Gl X "range") (hs:starEach [a,b] Á3=[(à,eval a Á3),(à,eval b Á3)]) (hs2:starEach [b] Á3=[(à,eval b Á3)]):yv X tg (Þ9 (ŗ "range" p) [a,b] [] pos) (YV tA):=KL (LW hg hm ha.pa hs hs2) ha.mo
def jE (d:D) (S:SS):À Ý9:=match d with
 | .zA=>↑"NoneType"
 | .bl _=>↑"bool"
 | ñ _=>↑"int"
 | À6 _=>↑"str"
 | Ķ _=>↑"tuple"
 | .qv _=>↑"list"
 | Ý p=>match S p with
  | some (ň _)=>↑"list"
  | some (.xa _)=>↑"dict"
  | _=>none
def gH (T:Ý9) (te:zx):zx:=fun Y S Q=>te Y S λ x S1=>match jE x S1 with
 | some ty=>Q (.bl à9) S1
 | _=>Ö4
theorem jE.ok ż Ś{v:V}Ő{ty:Ý9}Æ8 (p:yq K H S) (h:jE d S=↑ty):QZ K H v ty/\ty∈["NoneType","bool","int","str","tuple","list","dict"]:=by
 cases d with
 | tup ds=>
  ext â8;show#[ģ #[rfl,xs,g1],#[]]
 | qv ds=>
  ext â8;show#[ń (ģ #[rfl,xs,g1.sq]),#[]]
 | ref a=>
  ext Ê3;subst r;unfold jE at h;dsimp only at h;split at h
  .ext æ9;show#[ń (ģ #[rfl,xs,y4.of g1]),#[]]
  .ext æ9;show#[ń (ń #[rfl,xs,g1]),#[]]
  .cases h
 | _=>ext Ê3;subst r;cases h;show#[rfl,#[]]
def bo {T:Ý9}{x:Str}(hT:T∈["int","bool","tuple","list","str"]) (hm:X.mg "isinstance"=none) (hm2:X.mg x=none) (hv:bootBuiltins x=↑(.type T)) (hg2:Gl X x) (hn:x≠"__name__") (hd:(x == ("__debug__":Str))=à) Ń
  (h1:AY X e [ŗ x q]) (h2:A3 X pos [ŗ x q]) (h3:AY X (ŗ x q) []):
  PD X (Þ9 É8 [e,ŗ x q] [] pos) (gH T te):=by
 exact#[fun Y S Q Q' hq z=>he.mo Y S È (λ y S1 z=>?_) z,PE.imp (l_ Cd hg hm boot_isinstance (kc he.pe (kc (K6 (v:=.ty T) hg2 hm2 hv rfl hn hd) kb h3) h1) () () h1 h2) Ö5]
 .split at z
  .show hq È z
  .show z
 .ext ĝ;exact zU.go he.mo r1 r2 z λ y S1 v H1 z1 q1 e1 p1=>?_;split at z1
  .rename_i ty ht;let#[g1,g2]:=jE.ok q1 p1 ht;exact#[v,T,ty,rfl,g1,?_,z1 _ H1 (Ģ) e1 p1];show zE4.mp (zE4.mp OV ty g2) T hT
  .show z1.elim
def u3 (T:Bt X.mg) Ń (hg2:Gl X "bool") (h1:AY X e [î3]) (h2:A3 X pos [î3]) (h3:AY X (î3) []):
  PD X (Þ9 É8 [e,î3] [] pos) (gH "bool" te):=bo #[] T.isinstance T.bool PyProof.Rows.boot_bool Ô3
def u0 (T:Bt X.mg) Ń (hg2:Gl X "int") (h1:AY X e [ŗ "int" q]) (h2:A3 X pos [ŗ "int" q]) (h3:AY X (ŗ "int" q) []):
  PD X (Þ9 É8 [e,ŗ "int" q] [] pos) (gH "int" te):=bo #[] T.isinstance T.int PyProof.Rows.boot_int Ô3
def ux (T:Bt X.mg) Ń (hg2:Gl X "tuple") (h1:AY X e [ç1]) (h2:A3 X pos [ç1]) (h3:AY X (ç1) []):
  PD X (Þ9 É8 [e,ç1] [] pos) (gH "tuple" te):=bo #[] T.isinstance T.tuple PyProof.Rows.boot_tuple Ô3
def uf {o:Expr}{to:zx}{apos AA:Pos}(ho:PD X o to) (he:PD X e te)
  (hbase:attributeBase o "append" Á3 (eval o Á3)=eval o Á3)
  (AJ:((backTo AA (starEach [e] Á3)).all (λ x=>!x.1)&&Ç6
   && È3 ([e].length+([]:List Keyword).length+ê2<30))=true)
  (hline:ë2) (hs:AY X e []) (hplain:A3 X AA []):
  PD X (Þ9 (.Attribute o "append" apos) [e] [] AA) (mh to te):=
 KZ (o:=o) (e:=e) (bh PySem.F.plainAttrs_list PySem.F.slot_list_append PySem.F.type_list_append YC ho.pe (kc he.pe kb hs) hbase AJ hline hs hplain) ho.mo he.mo
structure FD (P:Í9) Ù7 (K:AB) (mg:A0) (base:Heap) (x:Str) Ü4 (ps:Ü7) (sp:q8):Prop where
 ex:∃ (f:Addr) (fd:FuncData),qY é5 xj k f fd ps (pR K sp)/\mg x=↑(Ý f)/\PySem.W.keepIn K (Ý f)=true/\Binds K fd ps []
 mo:jw sp
def KW {x:Str}æ0{ps:Ü7}{sp:q8}(F:FD ŏ X.K X.mg X.base x k ps sp) (hr:y6 k X.A) Ė (hg:Gl X x) (hdb:(x == ("__debug__":Str))=à)
  Þ:PD X (Þ9 (ŗ x p) Ţ) (jm sp tA):=by
 let#[#[f,fd,h1,h2,h3,h4],hm]:=F;show KY (E:=E0) (K5 h1 hr hg h2 h3 h4 Ú4 fM ha.pa hdb he AV) hm ha.mo
end
def Ey Ő Ñ5 Ë{Q:DK}(e:S p=↑ Ö6) (h:Q (Ķ ds) S):nX [Ý p] S Q:=by
 unfold nX;ext ê3
def Ez Ő Ś Ë{Q:DK}(e:ç2) (h:∀ p,á0->Q Ò0 (ups S p Ö6)):n_ [d] S Q:=by
 unfold n_;ext ê3
def E4 Ő Ś Ë{Q:DK}(e:ç2) (h:Q (ñ î4) S):ma [d] S Q:=by
 unfold ma;ext ê3
def Nh Ő Ñ5 Ë{Q:Bool->SS->Prop}(e:S p=↑ Ö6) (h:Q (!ds.isEmpty) S):o6 Ò0 S Q:=by
 unfold o6;ext ê3
def E7 Ő Ñ5 Ë{i:Int}Ś{Q:DK}(e:S p=↑ Ö6) Ç4:px Ò0 (ä9) S Q:=by
 unfold px;ext þ;rw[e];ext þ;rw[e2];show h
def E5 Ő Ë{i:Int}Ś{Q:DK}Ç4:px (Ķ ds) (ä9) S Q:=by
 unfold px;ext þ;rw[e2];show h
def E6 Ő Ë{i:Int}Ś{Q:DK}Ç4:px (.qv ds) (ä9) S Q:=by
 unfold px;ext þ;rw[e2];show h
inductive T where
 | zA | bl (b:Bool) | int (i:Int) | str (x:Str) | tup Ù8 | lst Ù8 | zF (ks:Æ0) Ù8
mutual
def eqT:T->T->Bool
 | .zA,.zA=>true
 | .bl a,Ö7=>a == b
 | .bl a,ñ b=>(if a then 1 else 0) == b
 | ñ a,Ö7=>a == (if b then 1 else 0)
 | ñ a,ñ b=>a == b
 | À6 a,À6 b=>a == b
 | Ķ a,Ķ b=>qd a b
 | ň a,ň b=>qd a b
 | .zF k a,.zF l b=>È3 (k=l)&&qd a b
 | _,_=>à
def qd:Ä->Ä->Bool
 | [],[]=>true
 | a::as,b::bs=>eqT a b&&qd as bs
 | _,_=>à
end
mutual
def dep:T->Nat
 | Ð5=>1+î5
 | ö=>1+î5
 | .zF È=>œ
 | _=>0
def xn:Ä->Nat
 | []=>0
 | Ý2=>max (dep t) (î5)
end
def Y2:Ä->Bool
 | []=>true
 | ñ _::ts=>Y2 ts
 | _=>à
def J4 (ns:Â):Y2 (ns.map T.int)=true:=by
 induction ns with
 | nil=>rfl
 | cons n ns ih=>show ih
mutual
def Sn (S:SS):T->D->Prop
 | .zA,d=>d=.zA
 | Ö7,d=>d=Ö7
 | ä9,d=>d=ä9
 | À6 x,d=>d=À6 x
 | Ð5,d=>∃ ds,d=Ķ ds/\â
 | ö,d=>∃ ds,((d=.qv ds/\Y2 ts=true)\/∃ a,d=ä6/\S a=↑ Ö6)/\â
 | Ö8,d=>∃ a m,(d=ä6/\î6)/\S a=↑(.zF m)/\zp S é6
def zp (S:SS):Ä->List D->Prop
 | [],ds=>ds=[]
 | Ý2,ds=>∃ c cs,ds=c::cs/\Sn S t c/\zp S ts cs
end
mutual
theorem EB:∀ t:T,eqT t t=true
 | .zA=>á1
 | Ö7=>á1
 | ä9=>á1
 | À6 x=>á1
 | Ð5=>by simp![eqT];show eQ ts
 | ö=>by simp![eqT];show eQ ts
 | .zF _ ts=>by simp[eqT,eQ ts]
theorem eQ:∀ ts:Ä,qd ts ts=true
 | []=>ç3
 | Ý2=>by simp![qd,EB t,eQ ts,zbM]
end
theorem Xr:∀ ts us:Ä,qd ts us=((ă (min Ă Ä1)).all (λ j=>eqT É9 (us.getD j .zA))&&Ă == Ä1)
 | [],[]=>ç3
 | [],_::_=>ç3
 | _::_,[]=>ç3
 | Ý2,u::us=>by
  simp![qd,Xr ts us,zC0];rw[show min (Ă+1) (Ä1+1)=min Ă Ä1+1 by lia,List.range_succ_eq_map,zaV,zaW];have:(Ă+1 == Ä1+1)=(Ă == Ä1):=by rw[zC7];simp
  rw[this,Bool.and_assoc];rfl
theorem zp.length Ő:∀ ē Ë,â->Ă=î4
 | [],ds,h=>by ext Ü8;rfl
 | Ý2,ds,h=>by
  simp![zp] at h;let#[c,cs,rfl,_,h2]:=h;simp[zp.length h2]
section
variable {Ì8}{Ú}{Ő}
theorem Sy Î ĕ{xs ys:List V}(h1:yz Â2 a xs) (h2:y4 Â2 a ys):Ö4:=by
 let#[_,_,#[o,e,c,_],_]:=ä8 h1;let#[_,_,#[o',n,e',c',_],_]:=I.list h2;rw[e] at e';cases e';rw[c] at c'
 injection c' with q
 show È2 q ()
def Sn.kU ś ē Ś{x:V}(h:Sn S (ö) d) (r:É2):∃ a xs ds,x=ä6/\y4 Â2 a xs/\Ö9/\â:=by
 ext ì3;obtain⟨ds,⟨h,_⟩ | ⟨a,h,e⟩,h2⟩:=h
 .subst h;ext æ7;show#[a,xs,ds,rfl,g1.sq,g2,h2]
 .subst h;ext Ê3;let#[xs,g1,g2]:=p È e;show#[a,xs,ds,r,y4.of g1,g2,h2]
def Sn.kK ē Ś{x:V}(h:Sn S (Ð5) d) (r:É2):∃ a xs ds,x=ä6/\yz Â2 a xs/\Ö9/\â:=by
 ext ì3;let#[ds,rfl,h2]:=h;ext æ7;show#[a,xs,ds,rfl,g1,g2,h2]
theorem Sn.flat {t:T}Ś{x:V}(h:ŉ) (r:É2):match t with
  | .zA=>x=.zA
  | Ö7=>x=Ö7
  | ä9=>x=ä9
  | À6 y=>x=À6 y
  | _=>True:=by
 cases t <;> first
  | trivial
  | (ext ì3;subst h;simpa only [zj] using r)
mutual
theorem Z2 Î ś:∀ (t u:T) {d e:D}{x:V},dep t<œ->dep u<œ->ŉ->Sn S u e->É2->zj Â2 e x->t=u
 | Ð5,u,d,e,x,z,z',h1,h2,r1,r2=>by
  let#[a,xs,ds,rfl,g1,g2,g3]:=h1.kK r1;cases u with
  | zF _ _=>show Č
  | tup us=>
   ext Ó5;cases q;have:=I.Z6 g1 k1;ext Â4
  | lst us=>
   ext Ð0;cases q;show (Sy I g1 k1).elim
  | _=>show À8
 | ö,u,d,e,x,z,z',h1,h2,r1,r2=>by
  let#[a,xs,ds,rfl,g1,g2,g3]:=h1.kU p r1;cases u with
  | zF _ _=>show Č
  | lst us=>
   ext Ð0;cases q;have:=I.YI g1 k1;ext Â4
  | tup us=>
   ext Ó5;cases q;show (Sy I k1 g1).elim
  | _=>show À8
 | .zA,u,d,e,x,z,z',h1,h2,r1,r2=>by
  ext Í6;cases u with
  | zF _ _=>show Č
  | zA=>rfl
  | tup us=>ext ŷ
  | lst us=>ext ů;cases q
  | _=>show À8
 | Ö7,u,d,e,x,z,z',h1,h2,r1,r2=>by
  ext Í6;cases u with
  | zF _ _=>show Č
  | bl _=>ext Ü1
  | tup us=>ext ŷ
  | lst us=>ext ů;cases q
  | _=>show À8
 | ñ b,u,d,e,x,z,z',h1,h2,r1,r2=>by
  ext Í6;cases u with
  | zF _ _=>show Č
  | int _=>ext Ü1
  | tup us=>ext ŷ
  | lst us=>ext ů;cases q
  | _=>show À8
 | À6 b,u,d,e,x,z,z',h1,h2,r1,r2=>by
  ext Í6;cases u with
  | zF _ _=>show Č
  | str _=>ext Ü1
  | tup us=>ext ŷ
  | lst us=>ext ů;cases q
  | _=>show À8
 | .zF È,u,d,e,x,z,z',h1,h2,r1,r2=>È2 z (by simp![dep];lia)
theorem Zz Î ś:∀ (ts us:Ä) {ds es:List D}æ5,î5<œ->xn us<œ->â->zp S us es->Ö9->zu Â2 es xs->ts=us
 | [],us,ds,es,xs,z,z',h1,h2,r1,r2=>by
  have e:=Â8;cases us with
  | nil=>rfl
  | cons _ _=>simp at e
 | Ý2,[],ds,es,xs,z,z',h1,h2,r1,r2=>by
  have e:=Â8;simp at e
 | Ý2,u::us,ds,es,xs,z,z',h1,h2,r1,r2=>by
  simp![zp] at h1 h2;let#[c,cs,rfl,a1,a2]:=h1;let#[c',cs',rfl,b1,b2]:=h2;simp![zu] at r1 r2;let#[y,ys,rfl,g1,g2]:=r1;let#[y',ys',q,k1,k2]:=r2;cases q;simp![xn] at z z';rw[Z2 I p t u ë a1 b1 g1 k1,Zz I p ts us ë a2 b2 g2 k2]
end
theorem zp.get ē Ë(h:â):∀ Ý0,j<Ă->∃ c,ds[j]?=↑c/\Sn S É9 c:=by
 induction ts generalizing ds with
 | nil=>intro j hj;simp at hj
 | cons t ts ih=>
  intro j hj;ext Ò;cases j with
  | zero=>show î7
  | succ j=>
   let#[c',e,h3]:=ih h2 (j:=j) (by exists hj);show#[c',by simpa using e,by exists h3]
theorem gG:∀ ē Ý0,j<Ă->dep É9<=î5
 | [],j,h=>by simp at h
 | Ý2,0,_=>by simp![xn,List.getD_cons_zero];lia
 | Ý2,j+1,h=>by
  have:=gG (ts:=ts) (j:=j) (à7);simp![xn,List.getD_cons_succ];lia
inductive iy Ñ4 (S:SS) (s:Á1):T->ú->Prop
 | zA:iy K H S s .zA .none
 | bl Û5:iy K H S s (Ö7) (.bool b)
 | int {i:Int}{k:Tok}:iy K H S s (ä9) (ñ i k)
 | str {i:Str}{k:Tok}:iy K H S s (À6 i) (À6 i k)
 | tup ē Ë æ5 È1 (h:s.heap.IsTuple l us.toArray):iy K H S s (Ð5) (Ý l)
 | lst ē Ë æ5 È1 (h:s.heap.IsList l us.toArray):iy K H S s (ö) (Ý l)
def VU Î ś {t:T}Ś{x:V}{a:ú}(h:ŉ) (r:É2) (v:RelV x a) (z:dep t<œ):iy Â2 S s t a:=by
 cases t with
 | zA=>ext Õ0;cases v;show .zA
 | bl _=>ext Õ0;cases v;show .bl
 | int _=>ext Õ0;let#[_,rfl]:=v;show ñ
 | str _=>ext Õ0;let#[_,rfl]:=v;show À6
 | tup _=>let#[l,xs,ds,rfl,g,r,q]:=h.kK r;cases v;let#[_,w,i,_]:=ä8 g;show Ķ q r w i
 | lst _=>let#[l,xs,ds,rfl,g,r,q]:=h.kU p r;cases v;let#[_,w,i,_]:=I.list g;show ň q r w i.isList
 | _=>simp![dep] at z;lia
abbrev J3 (A:Around) (s:Á1) (a b:ú) (k:Bool):Prop:=SeqAt.EqAt A s a b k/\SeqAt.RcAt A s a b k/\SeqAt.RcNeAt A s a b (!k)
theorem CH Î ś:∀ Í5 (t u:T) Ļ{d e:D}{x y:V}{a b:ú},dep t<n->Ş+dep t<œ->Ş+dep u<œ->ŉ->Sn S u e->É2->zj Â2 e y->RelV x a->RelV y b->J3 A s a b (eqT t u):=by
 intro n
 induction n with
 | zero=>intros;lia
 | succ n ih=>
  intro t u A d e x y a b hn hu hu' h1 h2 r1 r2 v1 v2;have hq:a=b->t=u:=λ z=>by subst z;have:=v1.inj v2;ext Û3;show Z2 I p t u ë h1 h2 r1 r2
  have c1:=VU I p h1 r1 v1 ⋯;have c2:=VU I p h2 r2 v2 ⋯;clear h1 h2 r1 r2 v1 v2;have hA:Ş<œ:=⋯;have el:∀ {ts us:Ä}{ds ds':List D}{xs xs':List V}{is is':AI},1+î5<n+1->Ş+(1+î5)<œ->Ş+(1+xn us)<œ->â->zp S us ds'->Ö9->zu Â2 ds' xs'->Vals xs is->Vals xs' is'->î8=Ă/\è6=Ä1/\
    ∀ (j:Nat) (h1:j<î8) (h2:j<è6),SeqAt.EqAt A.in1 s is.toArray[j] is'.toArray[j] (eqT É9 (us.getD j .zA)):=by
   intro ts us ds ds' xs xs' is is' a1 a2 a3 g1 g2 r1 r2 v1 v2;have e1:î8=Ă:=by rw[A6,<- v1.length,<- r1.length,<- g1.length]
   have e2:è6=Ä1:=by rw[A6,<- v2.length,<- r2.length,<- g2.length]
   exact#[e1,e2,λ j h1 h2=>?_];let#[_,k1,s1]:=g1.get (e1▸h1);let#[_,k2,s2]:=g2.get (e2▸h2);let#[_,f1,q1]:=r1.get k1;let#[_,f2,q2]:=r2.get k2;let#[w1,o1,m1]:=v1.get f1;let#[w2,o2,m2]:=v2.get f2;have y1:=gG (e1▸h1);have y2:=gG (e2▸h2);let#[_,z1]:=Ø0 o1;let#[_,z2]:=Ø0 o2;rw[List.getElem_toArray,List.getElem_toArray,z1,z2];show (ih È (A:=A.in1) ⋯ (by change Ş+1+_<_;lia) (by change Ş+1+_<_;lia) s1 s2 q1 q2 m1 m2).1
  have en:∀ {l l':Addr}{ts us:Ä},(ł l=Ý l'->ts=us)->SeqAt.RcAt é7 (qd ts us)/\SeqAt.RcNeAt é7 (!qd ts us)->J3 é7 (qd ts us):=λ{l l' ts us} h q=>by
   exact#[?_,q];by_cases z:l=l'
   .subst z;rw[h rfl,eQ];show .same _
   .show .of_refs z q.1
  cases c1 <;> cases c2 <;> simp![eqT,zB5,zB2]
  .show#[.same _,.none_none,.none_none]
  .show#[.none_bool _,.none_bool _,.none_bool _]
  .show#[.none_int È,.none_int È,.none_int È]
  .show#[.none_str È,.none_str È,.none_str È]
  .show#[.none_tuple Å,.none_tuple Å,.none_tuple Å]
  .show#[.none_list Å,.none_list Å,.none_list Å]
  .show#[.bool_none _,.bool_none _,.bool_none _]
  .show#[.bool_bool È,.bool_bool È,.bool_bool È]
  .show#[.bool_int Ŗ,.bool_int Ŗ,.bool_int Ŗ]
  .show#[.bool_str Ŗ,.bool_str Ŗ,.bool_str Ŗ]
  .show#[è7,è7,è7]
  .show#[î9,î9,î9]
  .show#[.int_none È,.int_none È,.int_none È]
  .show#[.int_bool Ŗ,.int_bool Ŗ,.int_bool Ŗ]
  .show#[.int_int æ1,.int_int æ1,.int_int æ1]
  .show#[.int_str æ1,.int_str æ1,.int_str æ1]
  .show#[.int_tuple Ï6,.int_tuple Ï6,.int_tuple Ï6]
  .show#[.int_list Ï6,.int_list Ï6,.int_list Ï6]
  .show#[.str_none È,.str_none È,.str_none È]
  .show#[.str_bool Ŗ,.str_bool Ŗ,.str_bool Ŗ]
  .show#[.str_int æ1,.str_int æ1,.str_int æ1]
  .show#[.str_str æ1,.str_str æ1,.str_str æ1]
  .show#[.str_tuple Ï6,.str_tuple Ï6,.str_tuple Ï6]
  .show#[.str_list Ï6,.str_list Ï6,.str_list Ï6]
  .show#[.tuple_none Å,.tuple_none Å,.tuple_none Å]
  .show#[ê7,ê7,ê7]
  .show#[.tuple_int Ï6,.tuple_int Ï6,.tuple_int Ï6]
  .show#[.tuple_str Ï6,.tuple_str Ï6,.tuple_str Ï6]
  .rename_i g1 r1 v1 k1 _ _ _ _ _ g2 r2 v2 k2;ext Ŝ;show#[.tuples k1 k2 hA q,.tuples k1 k2 hA q]
  .show#[Ó8,Ó8,Ó8]
  .show#[.list_none Å,.list_none Å,.list_none Å]
  .show#[ò4,ò4,ò4]
  .show#[.list_int Ï6,.list_int Ï6,.list_int Ï6]
  .show#[.list_str Ï6,.list_str Ï6,.list_str Ï6]
  .show#[Õ3,Õ3,Õ3]
  .rename_i i1 _ g1 r1 v1 k1 _ _ _ i2 _ g2 r2 v2 k2;ext Ŝ;by_cases z:i1.toArray.size=i2.toArray.size
   .rw[<- z,Nat.min_self,beq_self_eq_true,Bool.and_true];show#[.lists k1 k2 z hA q,.lists k1 k2 z hA q]
   .rw[beq_eq_false_iff_ne.mpr z,zaT];have z':=bne_iff_ne.mpr z;show#[.lists_lengths k1 k2 z' hA,.lists_lengths k1 k2 z' hA]
def Wk Î ś (t u:T) Ļ{d e:D}{x y:V}{a b:ú}(hu:Ş+dep t<œ) (hu':Ş+dep u<œ) (h1:ŉ) (h2:Sn S u e) (r1:É2) (r2:zj Â2 e y) (v1:RelV x a) (v2:RelV y b):J3 A s a b (eqT t u):=CH I p _ t u (zE2 _) hu hu' h1 h2 r1 r2 v1 v2
end
def Yo (K:AB) Ü5:R2:=λ x y H Q=>∃ S d e t u,zj K H d x/\zj K H e y/\yq K H S/\ŉ/\Sn S u e/\dep t<=60/\dep u<=60/\Q Ý3 H
def qR Ü5:xA:=λ x y S Q=>∃ t u,Sn S t x/\Sn S u y/\dep t<=60/\dep u<=60/\Q Ý3 S
def qR.mo Ý1:rZ (qR neg):=λ _ _ _ _ _ hq #[t,u,a,b,c,d,h]=>#[t,u,a,b,c,d,hq È h]
def qR.fits {K:AB}Ý1:rO K (qR neg) (Yo K neg):=λ x y d e H S Q h1 h2 h3 #[t,u,a,b,c,c',h]=>#[S,d,e,t,u,h1,h2,h3,a,b,c,c',h À7 h3]
section
variable {Ì8}{a b:Expr}{ta tb:zx}{pos:Pos}
theorem Te È5:yO X (ï0 .Eq) (Yo X.K à):=by
 ext ţ;show (Ò2).2.1 ä1
theorem U_ È5:yO X (ï0 .NotEq) (Yo X.K true):=by
 ext ţ;show (Ò2).2.2 ä1
def uF ð:PD X (.Compare a [.Eq] [b] pos) (yW (qR à) ta tb):=jK (Te hr.units) Ã1
def vX ð:PD X è8 (yW (qR true) ta tb):=jK (U_ hr.units) Ã1
def vb ð:zD X (.Compare a [.Eq] [b] pos) (pz (yW (qR à) ta tb)):=ka (Te hr.units) Ã1
def wt ð:zD X è8 (pz (yW (qR true) ta tb)):=ka (U_ hr.units) Ã1
def cZ (K:AB) Ü5:R2:=λ x y H Q=>∃ S d e u ts ds,zj K H d x/\zj K H e y/\yq K H S/\Sn S u d/\yx e S=↑ds/\â/\dep u<=60/\î5<=60/\Q å0 H
def mJ Ü5:xA:=λ x y S Q=>∃ u ts ds,Sn S u x/\yx y S=↑ds/\â/\dep u<=60/\î5<=60/\Q å0 S
def mJ.mo Ý1:rZ (mJ neg):=λ _ _ _ _ _ hq #[u,ts,ds,a,b,c,d,e,h]=>#[u,ts,ds,a,b,c,d,e,hq È h]
def mJ.fits {K:AB}Ý1:rO K (mJ neg) (cZ K neg):=λ x y d e H S Q h1 h2 h3 #[u,ts,ds,a,b,c,c',c2,h]=>#[S,d,e,u,ts,ds,h1,h2,h3,a,b,c,c',c2,h À7 h3]
open Classical in
def oj (its:AI) Ù8 (u:T) (v:ú):Bool:=if h:∃ j,its[j]?=↑v then eqT (ts.getD (Classical.choose h) .zA) u else à
def Wf Ú Ő Î ś ē Ë æ5 Ĝ (u:T) Ý0{v:ú}(hj:its[j]?=↑v):
  oj its ts u v=eqT É9 u:=by
 have h:∃ j,its[j]?=↑v:=#[j,hj];unfold oj;rw[dif_pos h];have hc:=Classical.choose_spec h;have lt:∀ i,Ì4->i<Ă:=λ i hi=>by
  ext Å2;show (Ø0 hi).1
 let#[c1,e1,s1]:=h1.get (lt _ hc);let#[c2,e2,s2]:=h1.get (lt _ hj);let#[x1,f1,r1]:=h2.get e1;let#[x2,f2,r2]:=h2.get e2;let#[v1,g1,q1]:=h3.get f1;let#[v2,g2,q2]:=h3.get f2;rw[hc] at g1;cases g1;rw[hj] at g2;cases g2;have hx:=q1.inj q2;subst hx;rw[Z2 I p È (zbH (gG (lt _ hc)) hz) (zbH (gG (lt _ hj)) hz) s1 s2 r1 r2]
theorem aG Ú Ő Î ś ē Ë æ5 Ĝ (u:T):its.any Ä2=Ã3:=by
 have hl:Ă=its.length:=by ext Å2
 rw[zC7,zD0,zD0];ext ä2
 .rintro⟨v,hv,h⟩;let#[j,hj,rfl]:=zaI.mp hv;rw[Ò3] at h;have hj':j<Ă:=⋯;show#[ts[j],zD8 hj',by simpa [hj'] using h]
 .rintro⟨t,ht,h⟩;let#[j,hj,rfl]:=zaI.mp ht;have hj':j<its.length:=⋯;show#[its[j],zD8 hj',by rw[Wf I p hz h1 h2 h3 u (j:=j) (by simp[hj'])];simpa [hj] using h]
def gM Ú Ő Î ś ē Ë æ5 Ĝ {u:T}Ś{x:V}{v:ú}(hu:Sn S u d) (hd:É2) (hx:RelV x v) Ļ(b1:Ş+î5<œ) (b2:Ş+dep u<œ) {y:ú}(hy:y∈its):
  SeqAt.EqAt A s y v (oj its ts u y):=by
 let#[j,hj,rfl]:=zaI.mp hy;have hjt:j<Ă:=by ext Å2;show hj
 rw[Ò3];let#[c1,e1,s1]:=h1.get hjt;let#[x1,f1,r1]:=h2.get e1;let#[v1,g1,q1]:=h3.get f1;have:its[j]=v1:=by
  have:=Ø0 g1;show this.2
 rw[this];have:=gG hjt;show (Wk I p _ u (A:=A) ⋯ b2 s1 hu r1 hd q1 hx).1
theorem Tc È5:yO X (ï0 .In) (cZ X.K à):=by
 ext ì
 .ext ñ3;exact SeqAt.in_listAt Ä2 pl.isList Ã;ext Ô
 .let#[its,w1,pt,_]:=ä8 g1;exact SeqAt.in_tupleAt Ä2 pt Ã;ext Ô
theorem Jn È5:yO X (ï0 .NotIn) (cZ X.K true):=by
 ext ì
 .ext ñ3;exact SeqAt.notIn_listAt Ä2 pl.isList Ã;ext Ô
 .let#[its,w1,pt,_]:=ä8 g1;exact SeqAt.notIn_tupleAt Ä2 pt Ã;ext Ô
def wQ ð (hm:behindInMarks .NotIn b=à):zD X (.Compare a [.NotIn] [b] pos) (pz (yW (mJ true) ta tb)):=ka (Jn hr.units) mJ.fits mJ.mo ha hb hm
end
end L3
namespace L2
open è5 Ú6 Ť
section
variable {κ:Type}[DecidableEq κ]
def qZ ñ4:À V:=Ý4
def putK ñ4 (v:V):Í1:=
 Ć
def Zw {p:κ × V}{r:Í1}{k:κ}(e:p.1=k):qZ (p::r) k=↑p.2:=by simp[qZ,zaL,e]
def Zx {p:κ × V}{r:Í1}{k:κ}(e:¬ p.1=k):qZ (p::r) k=qZ r k:=by simp[qZ,zaL,e]
theorem Vk (k:κ):∀ Az:Í1,Ð6=(qZ Az k).isSome
 | []=>rfl
 | p::r=>by
  rw[zaA];ext Þ2
  .simp![Zw e,za3 e,Bool.true_or,Option.isSome_some]
  .rw[Zx e,zcQ e,Bool.false_or];show Vk k r
def TC ñ4 (v:V):(ß0).length<=Ĵ+1:=by
 unfold putK;split
 .rw[AQ];lia
 .rw[zD7,zC0,zaG];lia
def pE.YZ {o:À V}{u:À ú}(r:pE o u):o.isSome=u.isSome:=by
 cases o with
 | none=>cases u with
  | none=>rfl
  | some _=>show Ç0
 | some _=>cases u with
  | none=>show Ç0
  | some _=>rfl
theorem pE.getD {o:À V}{u:À ú}{d:V}{d':ú}(r:pE o u) (rd:RelV d d'):RelV (o.getD d) (u.getD d'):=by
 cases o with
 | none=>cases u with
  | none=>show rd
  | some _=>show Ç0
 | some _=>cases u with
  | none=>show Ç0
  | some _=>show r
def KV.val ï (k:κ):pE (qZ Az k) (valueAt vs k):=by
 unfold KV at r
 induction r with
 | nil=>show É1
 | @cons p q ps qs h t ih=>
  let#[h1,h2]:=h;ext Þ2
  .have e':q.1=k:=Ø1;have b:valueAt (q::qs) k=↑q.2:=í3
   rw[Zw e,b];show h2
  .have e':¬ q.1=k:=Ê0;have b:valueAt (q::qs) k=valueAt qs k:=í3
   rw[Zx e,b];show ih
theorem KV.any ï (k:κ):Ð6=vs.any Ð:=by
 unfold KV at r
 induction r with
 | nil=>rfl
 | cons h t ih=>rw[zaA,zaA,ih,h.1]
def KV.lj ï (k:κ) è1 À4:
  KV Ð7 (vs.map λ kv=>if kv.1=k then (kv.1,u) else kv):=by
 unfold KV at r ⊢
 induction r with
 | nil=>show Ú4
 | @cons p q ps qs h t ih=>
  rw[AR,AR];exact Œ ?_ ih;let#[h1,h2]:=h;ext Þ2
  .rw[Í e,Í (Ø1)];show#[h1,ry]
  .rw[É e,É (Ê0)];show#[h1,h2]
def KV.put ï (k:κ) è1 À4:KV (putK Az k y) (stored vs k u):=by
 unfold putK stored;rw[r.any k];by_cases e:(vs.any Ð)=true
 .rw[Í e,Í e];show r.lj k ry
 .rw[É e,É e];show Paired.snoc r #[rfl,ry]
theorem KV.length ï:Ĵ=ĉ:=Ð4 r
end
def fZ ĸ ñ5{u:ú}(r:RelV (kV k) u):(qk P w).is k u=true:=by
 cases k with
 | inl i=>let#[t,e]:=(show ∃ t,u=Value.int i t from r);subst e;show IJ P w i t
 | inr x=>let#[t,e]:=(show ∃ t,u=Value.str x t from r);subst e;show II P w x t
theorem So ĸ:∀ {ks:Æ0}{us:AI},Vals (ks.map kV) us->ItemsAre (qk P w) ks us
 | [],_,r=>by rw[za4] at r;cases r;show Ú4
 | k::ks,_,r=>by
  rw[AR] at r;cases r with
  | cons h t=>show Œ (fZ h) (So t)
abbrev KT (H:Hp):â7->ì9->Prop:=Paired λ p q=>p.1=q.1/\H q.2.1=↑(Ķ (p.1.map kV))/\RelV p.2 q.2.2
def KT.val ż æ (k:Æ0):pE (qZ Az k) ((atKey xs k).map Ň):=by
 induction r with
 | nil=>show É1
 | @cons p q ps qs h t ih=>
  let#[h1,_,h2]:=h;ext Þ2
  .have e':q.1=k:=Ø1;have b:atKey (q::qs) k=↑q.2:=by simp[atKey,zaL,e']
   rw[Zw e,b];show h2
  .have e':¬ q.1=k:=Ê0;have b:atKey (q::qs) k=atKey qs k:=by simp[atKey,zaL,e']
   rw[Zx e,b];show ih
def KT.lj ż æ (k:Æ0) è1 À4:
  KT H Ð7 (ħ (putAt k u)):=by
 induction r with
 | nil=>show Ú4
 | @cons p q ps qs h t ih=>
  rw[AR,AR];exact Œ ?_ ih;let#[h1,h2,h3]:=h;unfold putAt;ext Þ2
  .rw[Í e,Í (Ø1)];show#[h1,h2,ry]
  .rw[É e,É (Ê0)];show#[h1,h2,h3]
def KT.put ż æ (k:Æ0) {b:Addr}è1(hb:Ó9) À4:
  KT H (putK Az k y) (storedH xs k b u):=by
 have e:Ð6=(atKey xs k).isSome:=by
  rw[Vk,(r.val k).YZ,zbZ]
 unfold putK storedH;rw[e];by_cases q:(atKey xs k).isSome=true
 .rw[Í q,Í q];show r.lj k ry
 .rw[É q,É q];show Paired.snoc r #[rfl,hb,ry]
def KT.keeps {H H':Hp}æ (ht:∀ b ys,H b=↑(Ķ ys)->H' b=↑(Ķ ys)):KT H' Az xs:=
 Paired.bD r λ _ _ z=>#[z.1,ht È z.2.1,z.2.2]
section
variable {ĸ}{ż}{Û4}{ĕ}
def Uk {u:HO}À2 (e:Rd H a u):xS P w H h a u:=e.ok ok
def ak ļ À2 (e:Rd H a ſ):ė:=
 show xS P w H h a ſ from Uk ok e
def EV ļ À2 (e:î1):ė:=ak ok (ģ e)
def fX {ks:Æ0}À2 (e:H a=↑(Ķ (ks.map kV))):(á2).is h ks a:=by
 let#[_,its,r,o,h1,h2,n,h3]:=(show xS P w H h a (Ķ (ks.map kV)) from ok a _ e)
 show#[o,its.toArray,n,h1,h2,h3,by exists So r]
def gE {Az:â7}À2 (e:Rd H a ë3):Ž:=by
 let#[z,y,xs,r,o,es,ep,h1,h2,h3,h4,h5]:=(show xS P w H h a ë3 from Uk ok e)
 exact#[z,y,xs,r,o,es,ep,h1,h2,h3,h4,λ x hx=>?_,h5];have all:∀ {l:â7}{m:ì9},KT H l m->∀ x∈m,(á2).is h x.1 x.2.1:=by
  intro l m q
  induction q with
  | nil=>intro x hx;show nomatch hx
  | @cons p q ps qs hq t ih=>
   intro x hx;rcases Ö3 hx with e | hx
   .subst e;show fX ok (by rw[<- hq.1];show hq.2.1)
   .show ih x hx
 show all r x hx
def EN {Az:â7}À2 (e:H a=↑ ë3):Ž:=gE ok (ģ e)
end
def Pb Ù9 (Az:List (Key×V)):Prop:=Rd H a ſ\/∃ x,H a=↑(.dS x Az)
def aj ĸ ż Û4 ĕ ļ À2 (e:Pb H a Az):ė:=by
 rcases e with e | ⟨x,e⟩
 .show ak ok e
 .show ok a _ e
def mv Ù9 (y:V) (r:À V):Prop:=
 (∃ Az k,Pb H a Az/\y=kV k/\r=qZ Az k)\/∃ Az k b,Rd H a ë3/\y=Ý b/\Ó9/\r=qZ Az k
def ff Ù9 (y v:V) (H':Hp):Prop:=
 (∃ Az k,î1/\y=kV k/\Ĵ<Ó/\H'=upd H a (.dK (ß0)))\/
 ∃ Az k b,H a=↑ ë3/\y=Ý b/\Ó9/\Ĵ<Ó/\H'=upd H a (.dT (ß0))
theorem mv.k ż ĕ ļ ñ5(e:î1):mv H a (kV k) (qZ Az k):=ģ #[Az,k,ģ (ģ e),rfl,rfl]
theorem ff.k ż ĕ ļ ñ5{v:V}(e:î1) (hl:Ĵ<Ó):ff H a (kV k) v (upd H a (.dK (ß0))):=ģ #[Az,k,e,rfl,hl,rfl]
section
variable {Ì8}{Ú}{ĕ}{y v:V}{u r:ú}{o:À V}{Ļ}{ã2}
theorem Inv.big Î:sysModules<Æ:=by
 have h:mainGlobals<Æ:=(I.mod.glob.keeps I.bk).lt;show zaF () h
def Dh ß5 Î (g:mv H a y ↑v) À4 (h:∀ w' s',Ø2->RelV v w'->Q w' s'):
  İ Î6 A (getItem (ä6) u) Ý5:=by
 ext ğ
 .ext ž;let#[w',hw,rw']:=pE.some_of (v:=v) (o:=valueAt vs k) (by rw[l];show á3);show wpAny_getItem_of (fZ ry) dd.mapOf hw (h w' _ Ø3 rw')
 .ext Ę;let#[w',hw,rw']:=pE.some_of (v:=v) (o:=(atKey xs k).map Ň) (by rw[l];show á3);let#[p,hp,gy]:=Ð8 hw;exact wpAny_getItem_heap Ã8 dd hp ?_;rw[gy];show h w' _ Ø3 rw'
def Df ß5 Î (g:mv H a y o) À4 (h:∀ s',Ø2->Q (.bool (!o.isSome)) s'):
  İ Î6 A (ï0 .NotIn u (ä6)) Ý5:=by
 ext ğ
 .ext ž;exact wpAny_notIn_of (fZ ry) hd dd.mapOf ?_;rw[<- (á3).YZ,<- l];show h _ Ø3
 .ext Ę;exact wpAny_notIn_heap Ã8 hd dd ?_;have q:=(á3).YZ;rw[zbZ] at q;rw[<- q,<- l];show h _ Ø3
def RG {h':Heap}{t':Nat}{ob:HO}Î (mu:gR (H a)) (hs:Ø4 a Ŀ h') (he:∃ q,h'.get? a=↑q) (new:xS ŏ (upd H a ob) h' a ob):
  Inv X gV B (upd H a ob) { s with heap:=h',toks:=t' }:=
 I.write (x:=a) (e:=a) mu (ģ rfl) (λ b q hb z=>(hs.2 b hb).trans z) he new
def EW ĸ{H':Hp}{h':Heap}ļ{vs:List (Key× ú)}(z:Ĵ<=Ó) (hd:Ì5) (rel:KV Az vs) (dd:h'.DictOf (qk P w) a vs):
  xS P w H' h' a ſ:=#[z,hd,vs,rel,dd]
def De {H':Hp}{Q:Unit->õ}(hu:Ş+1<œ) Î (g:ff H a y v H') À4 (rv:RelV v r) (h:∀ s',Inv X gV B H' s'->Q Unit.unit s'):
  İ Î6 A (setItem (ä6) u r) Ý5:=by
 rcases g with ⟨Az,k,e,ey,l,eH⟩ | ⟨Az,k,b,e,ey,eb,l,eH⟩
 .subst ey eH;let#[z,hd,vs,rel,dd]:=EV I.zH e;have hz:ĉ<=Ó:=by rw[<- rel.length];show z
  ext Ì1
  exact wpAny_setItem_pairs (hsz:=hz) (fZ ry) dd λ h' dd' hs=>h _ ?_;have he:∃ q,h'.get? a=↑q:=let #[q,_,_,hq,_]:=dd';#[q,hq]
  show RG I (by rw[e];show É1) hs he (EW hl hd (rel.put k rv) dd')
 .subst ey eH;cases (show u=ł b from ry);let#[z,hd,xs,rel,dd]:=EN I.zH e;have hz:í<=Ó:=by rw[<- Ð4 rel];show z
  ext Ì1
  exact wpAny_setItem_heap (hsz:=hz) Ã8 dd λ h' dd' hs=>h _ ?_;let#[q,es,ep,hq,h2,h3,h4,_,h5]:=dd';exact RG I (by rw[e];show É1) hs #[q,hq] #[hl,hd,_,(rel.put k eb rv).keeps λ c ys ec=>?_,q,es,ep,hq,h2,h3,h4,h5];rw[yw (pX ec e (λ z=>nomatch z))];show ec
end
section
variable {Ì8}{Ú}{ĕ}{ļ}{Ļ}{ã2}
theorem Dg {Q:AH}Î (e:Rd H a ſ) (h:∀ t s',Ø2->Q (ñ Ĵ t) s'):İ Î6 A (call (Ì3 "len") [ä6]) Ý5:=by
 let#[z,hd,vs,rel,dd]:=ak I.zH e;exact call_len_dict hd dd (by rw[<- rel.length];rw[sizeLine_eq] at z;lia) ?_;rw[<- rel.length];show h È Ø3
end
def i5 (i:Expr):Prop:=∀ ov iv,subscripted i à ov iv=operate [ov,iv] (getItem ov iv)
def V9 {prog:Í9}Ä5 Ļ ã2 Ù6{env:Env}{value slice:Expr}{pos:Pos}{T id:Ý9}{Q:AH}
  (hl:typeLookup (.type T) "__getitem__"=pure ↑(Ì3 id)) (hs:i5 slice)
  (h:İ Ì (eval value env) (λ o s₁=>İ Ì (eval slice env) (λ i s₂=>s₂.TypeIs o T/\İ Ì (getItem o i) Q E s₂) E s₁) E s):
  İ Ì (eval (.Subscript value slice pos) env) Ý5:=by
 exact Subscript_ (zcS h (λ o s₁ h₁=>zcS h₁ (λ i s₂ h₂=>?_) λ _ _ x=>x) λ _ _ x=>x);let#[hT,h₂]:=h₂;unfold subscriptTail;exact za0 ?_;rw[getitemInPython_of_ne hT.not_modules];exact za0 (wpAny_specialOf hT hl ?_);have fin:İ Ì (subscripted slice à o i) (λ r s₃=>İ Ì (letTemporaryGo value o r >>= λ _=>pure r) Q E s₃) E s₂:=by
  rw[hs o i];show wpAny_operating (zcS h₂ (λ r s₃ h₃=>za0 (wpAny_letTemporaryGo (AE h₃))) λ _ _ x=>x)
 first
  | show AE (za0 fin)
  | show za0 (AE (za0 fin))
  | show za0 fin
def EZ Ì8 Ú ĕ{y:V}{o:À V}Î (g:mv H a y o):s.TypeIs (ä6) "dict":=by
 rcases g with ⟨Az,k,e,_,_⟩ | ⟨Az,k,b,e,_,_,_⟩
 .let#[_,_,vs,_,dd]:=aj I.zH e;show dd.typeIs
 .let#[_,_,xs,_,dd]:=gE I.zH e;show dd.typeIs
def NN (td ty:TE):TE:=fun B H Q=>td B H λ x H1=>ty B H1 λ y H2=>∃ a v,x=ä6/\mv H2 a y ↑v/\Q v H2
def NJ (ty td:TE):TE:=fun B H Q=>ty B H λ y H1=>td B H1 λ x H2=>∃ a o,x=ä6/\mv H2 a y o/\Q (.bl (!o.isSome)) H2
def ME (td ty tv:TE):TS:=λ D B H=>tv B H λ v H1=>td B H1 λ x H2=>ty B H2 λ y H3=>∃ a H4,x=ä6/\ff H3 a y v H4/\D.nx B H4
section
variable {Ì8}{o i value:Expr}{pos pos':Pos}{td ty tv:TE}
def UL Ã9 (hi:PE X i ty) (hs:i5 i):PE X (.Subscript o i pos) (NN td ty):=by
 intro gV s B H Q I h;exact V9 PySem.F.slot_dict_getitem.lookup hs (zG (ho ä3) λ u s1 #[x,H1,I1,rx,q1]=>zG (hi Ð1) λ iv s2 #[y,H2,I2,ry,a,v,ex,g,q2]=>?_);ext Ê5;show#[EZ I2 g,Dh hu I2 g ry λ w' s3 I3 rw'=>#[v,H2,I3,rw',q2]]
def K_ (hu:X.A.units+1<œ) (hi:PE X i ty) (ho:PE X o td):PC X .NotIn i o (NJ ty td):=by
 intro gV s B H Q I h;exact zG (hi ä3) λ iv s1 #[y,H1,I1,ry,q1]=>zG (ho Ð1) λ u s2 #[x,H2,I2,rx,a,ov,ex,g,q2]=>?_;ext Ê5;show Df hu I2 g ry λ s3 I3=>#[.bl (!ov.isSome),H2,I3,rfl,q2]
def UB Ã9 (hi:PE X i ty) (hv:PE X value tv) (hs:swapsWith value ↑(Ê1) pos.line Á3=pure à):
  PS X (.Assign [Ê1] value pos) (ME td ty tv):=by
 intro gV s B H D I h;exact wpAny_Assign_Subscript (zG (hv ä3) λ r s1 #[v,H1,I1,rv,q1]=>zG (ho Ð1) λ u s2 #[x,H2,I2,rx,q2]=>zG (hi gV s2 B H2 _ I2 q2) λ iv s3 #[y,H3,I3,ry,a,H4,ex,g,q3]=>?_) hs;ext Ê5;show De hu I3 g ry rv λ s4 I4=>#[B,H4,I4,q3]
end
def EX ĸ ż ì2 (hb:sysModules<Þ8):xS P w H (h.push { cls:=.type "dict",data:=.dict Ħ }) Þ8 (.dK []):=
 #[zD4 _,beq_eq_false_iff_ne.mpr (Ne.symm (zB3 hb)),[],Ú4,Heap.DictOf.new h]
def NK:TE:=λ _ H Q=>∀ p,H p=none->Q Ò0 (upd H p (.dK []))
section
variable {Ì8}{pos:Pos}
def UK:PE X (.Dict [] [] pos) NK:=λ gV s B H Q I h=>
 wpAny_Dict_empty #[Ý Æ,_,I.laid (a:=Æ) (o:=.dK []) (t':=s.toks) (λ _ _ q=>za1 _ q) í7 (EX Ŀ I.big),rfl,h _ (I.zH.fresh í7)]
end
structure M2 (X:Cx) (o:Expr) (m:Str) (apos:Pos) (e f:Expr) (AA:Pos):Prop where
 base:attributeBase o m Á3 (eval o Á3)=eval o Á3
 eM:((ã5).all (λ x=>!x.1)&&Ç6
  && È3 (([e,f]:î2).length+([]:List Keyword).length+ê2<30))=true
 line:ë2
 trees:ã5=[(à,eval e Á3),(à,eval f Á3)]
def Pn Ù9:Prop:=(∃ Az,Rd H a ſ)\/∃ Az,Rd H a ë3
def Ga Ì8 Ú ĕ Î (d:Pn H a):
  s.TypeIs (ä6) "dict"/\(∀ b,ł a=Ý b->∃ ob,Þ7 b=↑ob/\ob.dict=none)/\Ì5:=by
 rcases d with ⟨Az,e⟩ | ⟨Az,e⟩
 .let#[_,hd,vs,_,dd]:=ak I.zH e;ext Â3
 .let#[_,hd,xs,_,dd]:=gE I.zH e;ext Â3
section
variable {Ì8}{Ú}{ĕ}{y d:V}{u r:ú}{o:À V}{Ļ}{ã2}
def Di ß5 Î (g:mv H a y o) À4 (rd:RelV d r) (h:∀ w' s',Ø2->RelV (o.getD d) w'->Q w' s'):
  İ Î6 A (call (Ì3 "dict.get") [ä6,u,r]) Ý5:=by
 ext ğ
 .ext ž;exact call_meetsIn À5 (meets_dict_get_default (qk ŏ) a (fZ ry) hd r) #[_,dd.mapOf,h È Ø3 ?_];rw[l];show (á3).getD rd
 .ext Ę;exact call_meetsIn À5 (meetsH_dict_get_default (tupleKind (qk ŏ)) a b hd r) #[tupleKind_room_in1 hu,k,xs,fX I.zH eb,dd,h È Ø3 ?_];rw[l];show (á3).getD rd
end
def NM (td ty tx:TE):TE:=fun B H Q=>td B H λ x H1=>∃ a,x=ä6/\Pn H1 a/\ty B H1 λ y H2=>tx B H2 λ z H3=>∃ o,mv H3 a y o/\Q (o.getD z) H3
section
variable {Ì8}{o e f:Expr}{apos AA:Pos}{td ty tx:TE}
def K2 Ã9 (he:PE X e ty) (hf:PE X f tx) ì4:PE X Î0 (NM td ty tx):=by
 intro gV s B H Q I h;exact wpAny_Call_method m.base m.eM m.line PySem.F.plainAttrs_dict PySem.F.slot_dict_get PySem.F.type_dict_get (zG (ho ä3) λ u s1 #[x,H1,I1,rx,a,ex,d,q1]=>?_);ext Ê5;let#[t1,t2,_]:=Ga I1 d;exact#[t1,t2,?_];rw[m.trees];exact Calls.callWith_builtin rfl (Calls.evalArgs_plain (Calls.spliced_cons (zG (he Ð1) λ iv s2 #[y,H2,I2,ry,q2]=>
  Calls.spliced_cons (zG (hf gV s2 B H2 _ I2 q2) λ fv s3 #[z,H3,I3,rz,ov,g,q3]=>Calls.spliced_nil ?_))))
 show Di hu I3 g ry rz λ w' s4 I4 rw'=>#[_,H3,I4,rw',q3]
end
end L2
namespace L3
open è5 Ú6 L2
open Ť hiding St
def qa (Az:ņ) Ñ6:À D:=Ý4
def putD (Az:ņ) Ñ6 (v:D):ņ:=
 Ć
section
variable {K:AB}{ż}
theorem xI.val:∀ Ą,Ì6->∀ k,(qa Az k=none/\qZ vs k=none)\/∃ d v,qa Az k=↑d/\qZ vs k=↑v/\zj K H d v
 | _,_,Ú4,k=>ģ ç4
 | (a,d)::Az,(b,v)::vs,Œ #[e,r] t,k=>by
  have e':a=b:=e;subst e';by_cases h:a=k
  .subst h;show ń #[d,v,by simp[qa],by simp[qZ],r]
  .rcases xI.val t k with ⟨h1,h2⟩ | ⟨d',v',h1,h2,h3⟩
   .show ģ #[by simpa [qa,h] using h1,by simpa [qZ,h] using h2]
   .show ń #[d',v',by simpa [qa,h] using h1,by simpa [qZ,h] using h2,h3]
theorem xI.any Ą(h:Ì6) Ñ6:Ð6=vs.any Ð:=by
 induction h with
 | nil=>rfl
 | cons r _ ih=>rw[zaA,zaA,ih,r.1]
def xI.len Ą(h:Ì6):Ĵ=ĉ:=Ð4 h
theorem xI.lj ñ5 Ś{v:V}Æ8:∀ Ą,Ì6->xI K H (Az.map Ã7) (vs.map ß7)
 | _,_,Ú4=>Ú4
 | (a1,a2)::_,(b1,b2)::_,Œ #[e,q] t=>by
  have e':a1=b1:=e;subst e';exact Œ ?_ (xI.lj r t);by_cases hk:a1=k
  .simp[hk,r]
  .simpa [hk] using q
theorem xI.snoc ñ5 Ś{v:V}Æ8:∀ Ą,Ì6->xI K H (Az++ï1) (vs++[(k,v)])
 | _,_,Ú4=>Œ #[rfl,r] Ú4
 | _,_,Œ q t=>Œ q (xI.snoc r t)
def xI.put Ą(h:Ì6) Ñ6 Ś{v:V}Æ8:xI K H (putD Az k d) (putK vs k v):=by
 unfold putD putK;rw[h.any k];split
 .show xI.lj r h
 .show xI.snoc r h
def OL (a:Key) (b:D) (Az:ņ) (j:Key):qa (ï2) j=if a=j then ↑b else qa Az j:=by
 by_cases h:a=j <;> simp[qa,h]
end
section
variable {Ì8}{o i e f v:Expr}{td ty tx tv:zx}{pos pos' apos AA:Pos}
def RW:zx:=λ _ S Q=>∀ p,á0->Q Ò0 (ups S p (.xa []))
theorem uI:PD X (.Dict [] [] pos) RW:=by
 exact#[λ _ _ _ _ hq z p hp=>hq È (z p hp),PE.imp UK fun B H Q hu p hp=>?_];ext ĝ;show z p (r2.none hp) È (Ģ) ű (r2.ups ű #[[],yR,Ú4])
def R_ (td ty:zx):zx:=fun Y S Q=>td Y S λ x S1=>ty Y S1 λ y S2=>∃ p Az k d,x=Ý p/\y=ñ k/\S2 p=↑ á4/\qa Az Ò4=↑d/\Q d S2
def uH Æ3 (hi:PD X i ty) (hs:i5 i):PD X (.Subscript o i pos) (R_ td ty):=by
 exact#[fun Y S Q Q' hq z=>ho.mo Y S È (λ x S1 z=>hi.mo Y S1 È (λ y S2 #[p,Az,k,d,a,b,c,e,h]=>#[p,Az,k,d,a,b,c,e,hq È h]) z) z,PE.imp (UL (gs hr) ho.pe hi.pe hs) Ö5];ext Ë2;exact zU.go hi.mo Þ3;let#[p,Az,k,d,rfl,rfl,c1,c2,h]:=h2;simp![zj] at q1 q2;subst q1 q2;let#[vs,g1,g2]:=p2 È c1;rcases xI.val g2 Ò4 with ⟨n1,_⟩ | ⟨d',v',n1,n2,n3⟩
 .rw[c2] at n1;cases n1
 .rw[c2] at n1;cases n1;show#[p,v',rfl,n2▸mv.k ñ6,h v' H2 n3 (e1.trans e2) p2]
def RZ (td ty tx:zx):zx:=fun Y S Q=>td Y S λ x S1=>∃ p,x=Ý p/\(∃ Az,S1 p=↑ á4)/\ty Y S1 λ y S2=>tx Y S2 λ z S3=>∃ k Az,y=ñ k/\S3 p=↑ á4/\Q ((qa Az Ò4).getD z) S3
def uJ Æ3 (he:PD X e ty) (hf:PD X f tx) ì4:PD X Î0 (RZ td ty tx):=by
 exact#[fun Y S Q Q' hq z=>ho.mo Y S È (λ x S1 #[p,a,b,z]=>#[p,a,b,he.mo Y S1 È (λ y S2 z=>hf.mo Y S2 È (λ w S3 #[k,Az,a,b,h]=>#[k,Az,a,b,hq È h]) z) z]) z,PE.imp (K2 (gs hr) ho.pe he.pe hf.pe m) Ö5];ext Ë2;let#[p,rfl,#[kvs0,c0],h1]:=h1;simp![zj] at q1;subst q1;let#[vs0,g0,_]:=p1 È c0;exact#[p,rfl,ģ #[vs0,ģ g0],?_];exact zU.go he.mo Þ3;exact zU.go hf.mo ((Î7).ext e2) p2 h2 λ y3 S3 w3 H3 h3 q3 e3 p3=>?_;let#[k,Az,rfl,c1,h]:=h3;simp![zj] at q2;subst q2;let#[vs,g1,g2]:=p3 È c1;exact#[qZ vs Ò4,mv.k ñ6,?_];rcases xI.val g2 Ò4 with ⟨n1,n2⟩ | ⟨d',v',n1,n2,n3⟩
 .rw[n1] at h;rw[n2];show h _ H3 q3 (Ô0) p3
 .rw[n1] at h;rw[n2];show h _ H3 n3 (Ô0) p3
def RY (td ty tv:zx):xf:=λ E Y S=>tv Y S λ v S1=>td Y S1 λ x S2=>ty Y S2 λ y S3=>∃ p Az k,x=Ý p/\y=ñ k/\S3 p=↑ á4/\Ĵ<Ó/\E.nx Y (ups S3 p (.xa (putD Az Ò4 v)))
theorem Ext.dK ż Ñ5 ļ(h:H p=↑ ſ) (o:HO):Ext H (upd H p o):=
 #[λ b ys q=>ı,λ b ob u q=>ı,λ b u q=>ı,λ b x u q=>#[u,ı]]
theorem vo Æ3 (hi:PD X i ty) (hv:PD X v tv) (hs:swapsWith v ↑(Ê1) pos.line Á3=pure à):zw X (.Assign [Ê1] v pos) (RY td ty tv):=by
 exact#[λ E E' Y S hE z=>hv.mo Y S È (λ w S1 z=>ho.mo Y S1 È (λ x S2 z=>hi.mo Y S2 È (λ y S3 #[p,Az,k,a,b,c,d,h]=>#[p,Az,k,a,b,c,d,hE.nx È h]) z) z) z,PS.imp (UB (gs hr) ho.pe hi.pe hv.pe hs) λ D B H hu=>?_];ext ĝ;exact zU.go hv.mo r1 r2 z λ w S1 w1 H1 h1 q1 e1 p1=>?_;exact zU.go ho.mo (Î7) p1 h1 λ x S2 w2 H2 h2 q2 e2 p2=>?_;exact zU.go hi.mo ((Î7).ext e2) p2 h2 λ y S3 w3 H3 h3 q3 e3 p3=>?_;let#[p,Az,k,rfl,rfl,c1,c2,h]:=h3;simp![zj] at q2 q3;subst q2 q3;let#[vs,g1,g2]:=p3 È c1;have e4:Ext H3 (upd H3 p (.dK (putK vs Ò4 w1))):=.dK g1 _;exact#[p,_,rfl,ff.k ñ6 (by rw[<- g2.len];show c2),?_];show h B _ ((((Î7).ext e2).ext e3).ext e4) ((Ô0).trans e4) (p3.ups e4 #[_,yR,(xI.put g2 _ (zj.ext (e2.trans e3) w q1)).ext e4])
def Cb:xC X (Ì3 "len") (λ xs H Q=>∃ p Az,xs=[Ý p]/\H p=↑ ſ/\Q (ñ Ĵ) H):=by
 intro gV s B H xs us Q I r h;let#[p,Az,rfl,e,q]:=h;let#[u,rfl,ru]:=vals1 r;cases ru;show Dg I (ģ e) λ t s' I'=>#[ñ _,H,I',#[_,rfl],q]
def Rq:x9:=λ ds S Q=>∃ p Az,ds=[Ý p]/\S p=↑ á4/\Q (ñ Ĵ) S
def uG {es:î2}{tA:yy}{p:Pos}(hm:X.mg "len"=none) Ė (hg:Gl X "len") Þ:PD X (Þ9 (ŗ "len" p) Ţ) (qp Rq tA):=
 m6 (l_ Cb hg hm PySem.boot_len Ō) (λ _ _ _ _ hq #[p,Az,a,b,h]=>#[p,Az,a,b,hq È h]) (λ xs ds H S Q h0 h2 #[p,Az,a,b,h]=>by
  subst a;let#[x,rfl,h1]:=h0.one;simp![zj] at h1;subst h1;let#[vs,g1,g2]:=h2 È b;exact#[p,vs,rfl,g1,?_];rw[<- g2.len];show h À7 h2) ha.mo
end
end L3
namespace L3
open è5 L2
section
variable {Ç5}
mutual
theorem á5 (h:Ŧ):∀ (t:T) Ś,ŉ->Sn S' t d
 | .zA,d,q=>ę
 | Ö7,d,q=>ę
 | ä9,d,q=>ę
 | À6 x,d,q=>ę
 | Ð5,d,q=>by
  ext Í2;show#[ds,q1,Á4 h ts q2]
 | ö,d,q=>by
  ext Í2;exact#[ds,?_,Á4 h ts q2];rcases q1 with q1 | ⟨a,q1,q3⟩
  .show ģ q1
  .show ń #[a,q1,h È q3]
 | Ö8,d,q=>by
  simp![Sn] at q ⊢;let#[a,m,q1,q2,q3]:=q;show#[a,m,q1,h È q2,Á4 h ts q3]
theorem Á4 (h:Ŧ):∀ Ù8 Ë,â->zp S' ts ds
 | [],ds,q=>by simpa only [zp] using q
 | Ý2,ds,q=>by
  ext Ü2;show#[c,cs,q1,á5 h t q2,Á4 h ts q3]
end
def zp.nil:zp S [] []:=by simp![zp]
def zp.cons {t:T}ē Ś Ë(h:ŉ) (h':â):zp S (Ý2) (d::ds):=by
 simp![zp];show#[d,ds,rfl,h,h']
theorem zp.append:∀ {ts us:Ä}{ds es:List D},â->zp S us es->zp S (ts++us) (ds++es)
 | [],us,ds,es,h,h'=>by ext Ü8;exists h'
 | Ý2,us,ds,es,h,h'=>by
  ext Ò;show zp.cons h1 (zp.append h2 h')
theorem zp.bW:∀ ē Ë Ê7{t:T},â->ts[i]?=↑t->∃ d,ds[i]?=↑d/\ŉ
 | [],_,i,t,_,e=>by simp at e
 | u::ts,ds,i,t,h,e=>by
  ext Ò;cases i with
  | zero=>simp at e;subst e;show î7
  | succ i=>
   let#[y,e1,e2]:=zp.bW (i:=i) h2 (by exists e);show ï3
theorem zp.Xi:∀ ē Ë Ê7 Ś,â->ds[i]?=↑d->∃ t,ts[i]?=↑t/\ŉ
 | [],ds,i,t,h,e=>by ext Ü8;simp at e
 | u::ts,ds,i,t,h,e=>by
  ext Ò;cases i with
  | zero=>simp at e;subst e;show#[u,rfl,h1]
  | succ i=>
   let#[y,e1,e2]:=zp.Xi (i:=i) h2 (by exists e);show ï3
def zp.len ē Ë(h:â):î4=Ă:=(L3.zp.length h).symm
theorem zp.at ē Ë{i:Int}{t:T}(h:â) (e:è9 ts i=↑t):∃ d,è9 ds i=↑d/\ŉ:=by
 unfold è9 at e ⊢;rw[h.len];cases q:L2.qc Ă i with
 | none=>rw[q] at e;cases e
 | some j=>
  rw[q] at e;show h.bW e
theorem zp.VV:∀ ē Ë{t:T}Ś Ö,â->ŉ->zp S (ts.set i t) (ds.set i d)
 | [],ds,t,d,i,h,_=>Æ1
 | u::ts,ds,t,d,0,h,hd=>by
  ext Ò;show zp.cons hd h2
 | u::ts,ds,t,d,i+1,h,hd=>by
  ext Ò;show zp.cons h1 (zp.VV i h2 hd)
theorem zp.take':∀ ē Ë Í5,â->zp S (ts.take n) (ds.take n)
 | ts,ds,0,h=>by exists zp.nil
 | [],ds,n+1,h=>Æ1
 | Ý2,ds,n+1,h=>by
  ext Ò;show zp.cons h1 (zp.take' n h2)
theorem zp.drop':∀ ē Ë Í5,â->zp S (ï4 n) (ds.drop n)
 | ts,ds,0,h=>h
 | [],ds,n+1,h=>Æ1
 | Ý2,ds,n+1,h=>by
  ext Ò;show zp.drop' n h2
def zp.empty ē Ë(h:â):ds.isEmpty=ts.isEmpty:=by
 have:=h.len;cases ds <;> cases ts <;> simp_all
theorem zp.QA:∀ {bs:Ê4}Ë,zp S (bs.map T.bl) ds->ds=bs.map D.bl
 | [],ds,h=>by simpa only [za4,zp] using h
 | b::bs,ds,h=>by
  rw[AR] at h;simp![zp,Sn] at h;let#[c,cs,rfl,rfl,h3]:=h;rw[zp.QA h3];rfl
end
end L3
local macro_rules|`(tactic|cases $e:ident)=>`(tactic|first|(injection $e:ident with z;subst z)|cases ($e))
namespace L5
open è5 L2 L3
def yp Ë1:SS:=open Classical in λ a=>if Z a then none else S a
section
variable {Ç5}{Z Z':ç}{a p:Addr}
def oa (h:¬ Z a):yp S Z a=S a:=É h
def Xa (h:Z a):yp S Z a=none:=Í h
def nU {o:O}(h:yp S Z a=↑o):¬ Z a/\S a=↑o:=by
 by_cases z:Z a
 .rw[Xa z] at h;cases h
 .rw[oa z] at h;show#[z,h]
def gz Ë1:Sx Ā S:=λ _ _ h=>(nU h).2
def pj (h:Ŧ):Sx Ā (yp S' Z):=λ b o q=>by
 ext Å3;rw[oa q1];show h È q2
def nq (h:∀ a,Z' a->Z a):Sx Ā (yp S Z'):=λ b o q=>by
 ext Å3;rw[oa (λ z=>q1 (h _ z))];show q2
def g9 (h:Ŧ) (hp:á0):Sx Ā Ç1:=λ b o q=>by
 ext Å3;rw[oa]
 .show h È q2
 .rintro (z | z)
  .show q1 z
  .subst z;rw[hp] at q2;cases q2
theorem Gs {o:O}(h:Z p):yp (ups S p o) Z=yp S Z:=by
 funext b;by_cases z:Z b
 .rw[Xa z,Xa z]
 .rw[oa z,oa z,mY (λ e=>z (by rw[e];show h))]
end
inductive C where
 | lst Ù8 | xa ñ7 | zF (ks:Æ0) Ù8
def xq {κ:Type}(S:SS):List (κ × T)->List (κ × D)->Prop
 | [],l=>l=[]
 | (k,t)::r,l=>∃ d m,l=(k,d)::m/\ŉ/\xq S r m
theorem xq.sx {κ:Type}Ç5(h:Ŧ):∀ {a:List (κ × T)}{b:List (κ × D)},Ú8->xq S' a b
 | [],_,q=>q
 | (k,t)::r,_,q=>by
  let#[d,m,q1,q2,q3]:=q;show#[d,m,q1,á5 h t q2,xq.sx h q3]
def lE (S:SS):C->O->Prop
 | ö,ň ds=>â
 | .xa a,.xa b=>Ú8
 | Ö8,.zF m=>î6/\zp S é6
 | _,_=>Ö4
theorem lE.sx Ç5(h:Ŧ):∀ {c:C}{o:O},lE S c o->lE S' c o
 | ö,ň ds,q=>Á4 h ts q
 | .xa a,.xa b,q=>xq.sx h q
 | .zF _ ts,.zF _,q=>#[q.1,Á4 h ts q.2]
inductive W where
 | im (t:T) | own (c:C)
abbrev Ev:=List (À W)
abbrev AD:=Ev->À T
abbrev AG:=Ä->À T
structure ER Ë1 (Y:yX) Ú0:Prop where
 zd:Á5
 im:∀ Ö t,å1=↑↑(.im t)->∃ d,Y[i]?=↑↑d/\Sn Ā t d
 ow:∀ Ö c,å1=↑↑(.own c)->∃ p o,ŵ/\S p=↑o/\lE Ā c o/\Z p
def Vw Ë1 (y:T) (d:D):Prop:=ï5\/(∃ ts p ds,y=ö/\d=Ý p/\S p=↑ Ö6/\Å5/\Z p)\/∃ ks ts p m,y=Ö8/\d=Ý p/\S p=↑(.zF m)/\î6/\zp Ā é6/\Z p
abbrev Rk:=SS->SS->(ç)->T->D->Prop
def Pa:Rk:=λ _ S' Z y d=>Vw S' Z y d
def zq:Rk:=λ _ S' Z y d=>Ò5
def zl:Rk:=λ S S' Z y d=>Ò5/\∀ ts,y=ö->∃ p ds,d=Ý p/\á0/\S' p=↑ Ö6/\zp Ç1 ts ds
class Cl ñ8:Prop where
 cl:∀ {S S1 S':SS}è2 Ś,Sx S S1->R S1 S' Z y d->Ç2
 of:∀ Ç5 è2 Ś,(∀ ts,y≠ ö)->Ò5->Ç2
instance:Cl Pa:=#[λ _ h=>h,λ _ h=>ģ h]
instance:Cl zq:=#[λ _ h=>h,λ _ h=>h]
instance:Cl zl:=#[λ s h=>#[h.1,λ ts e=>by
 let#[p,ds,h1,h2,h3]:=h.2 ts e;show#[p,ds,h1,s.none h2,h3]],λ n h=>#[h,λ ts e=>È2 e (n ts)]]
section
variable {Ç5}{Â1}{y:T}{Ś}
def ER.grow (h:ï6) (s:Ŧ):ER S' Z Y J:=
 #[λ a z q=>h.zd a z (s.none q),λ i t e=>by
  let#[d,h1,h2]:=h.im i t e;show#[d,h1,á5 (pj s) t h2],λ i ts e=>by
  let#[p,ds,h1,h2,h3,h4]:=h.ow i ts e;show#[p,ds,h1,s È h2,lE.sx (pj s) h3,h4]]
def Vw.grow (h:å2) (s:Ŧ):Vw S' Z y d:=by
 rcases h with h | ⟨ts,p,ds,h1,h2,h3,h4,h5⟩ | ⟨ks,ts,p,m,h1,h2,h3,h4,h5,h6⟩
 .show ģ (á5 (pj s) y h)
 .show ń (ģ #[ts,p,ds,h1,h2,s È h3,Á4 (pj s) ts h4,h5])
 .show ń (ń #[ks,ts,p,m,h1,h2,s È h3,h4,Á4 (pj s) ts h5,h6])
def Vw.sn (h:å2):Sn S y d:=by
 rcases h with h | ⟨ts,p,ds,rfl,rfl,h3,h4,_⟩ | ⟨ks,ts,p,m,rfl,rfl,h3,h4,h5,_⟩
 .show á5 (gz S Z) y h
 .ext Ô7;show#[ds,ń #[p,rfl,h3],Á4 (gz S Z) ts h4]
 .ext Ô7;show#[p,m,#[rfl,h4],h3,Á4 (gz S Z) ts h5]
theorem Vw.zA (h:Vw S Z .zA d):d=.zA:=by
 ext Õ
 ext Ç7
 .cases h
 .cases h
theorem Vw.bl Û5(h:Vw S Z (Ö7) d):d=Ö7:=by
 ext Õ
 ext Ç7
 .cases h
 .cases h
theorem Vw.int {b:Int}(h:Vw S Z (ñ b) d):d=ñ b:=by
 ext Õ
 ext Ç7
 .cases h
 .cases h
theorem Vw.str {b:Str}(h:Vw S Z (À6 b) d):d=À6 b:=by
 ext Õ
 ext Ç7
 .cases h
 .cases h
theorem Vw.tup ē(h:Vw S Z (Ð5) d):∃ ds,d=Ķ ds/\Å5:=by
 ext Õ
 ext Ç7
 .cases h
 .cases h
theorem Vw.lst ē(h:Vw S Z (ö) d):∃ ds,(d=.qv ds\/∃ a,d=ä6/\S a=↑ Ö6)/\Å5:=by
 rcases h with h | ⟨us,p,ds,h1,h2,h3,h4,_⟩ | ⟨_,_,_,_,h,_⟩
 .ext ì3;let#[ds,h1,h2]:=h;exact#[ds,?_,h2];rcases h1 with h1 | ⟨a,h1,h3⟩
  .show ģ h1.1
  .show ń #[a,h1,(nU h3).2]
 .cases h1;show#[ds,ń #[p,h2,h3],h4]
 .cases h
def qN:T->À (Ä)
 | Ð5=>↑ts
 | ö=>↑ts
 | _=>none
@[simp] theorem My Ù8:qN (Ð5)=↑ts:=rfl
@[simp] theorem Mz Ù8:qN (ö)=↑ts:=rfl
def Vw.seq ē(h:å2) (e:qN y=↑ts):∃ ds,ç2/\Å5:=by
 cases y with
 | tup us=>cases e;let#[ds,rfl,h2]:=h.tup;show#[ds,rfl,h2]
 | lst us=>
  cases e;obtain⟨ds,h1 | ⟨a,rfl,h1⟩,h2⟩:=h.lst
  .subst h1;show#[ds,rfl,h2]
  .show#[ds,by unfold yx;ext þ;rw[h1],h2]
 | _=>cases e
theorem Vw.zF {ks:Æ0}ē(h:Vw S Z (Ö8) d):∃ a m,(d=ä6/\î6)/\S a=↑(.zF m)/\zp Ā é6:=by
 rcases h with h | ⟨_,_,_,h,_⟩ | ⟨ks',ts',p,m,e,rfl,h1,h2,h3,_⟩
 .ext ì3;let#[a,m,h1,h2,h3]:=h;show#[a,m,h1,(nU h2).2,h3]
 .cases h
 .cases (e);show#[p,m,#[rfl,h2],h1,h3]
def VN:Sn S .zA .zA:=by ext Ô7
def pJ Û5:Sn S (Ö7) (Ö7):=by ext Ô7
def pH {i:Int}:Sn S (ä9) (ä9):=by ext Ô7
def nJ {x:Str}:Sn S (À6 x) (À6 x):=by ext Ô7
def lW ē Ë(h:â):Sn S (Ð5) (Ķ ds):=by ext Ô7;show#[ds,rfl,h]
def m5 ē Ë Ñ5(hz:Á5) (hp:á0) (h:Å5):zl S (ups S p Ö6) Z (ö) Ò0:=by
 have nz:¬ Z p:=λ z=>hz p z hp;have s:Sx S (ups S p Ö6):=.new hp _;exact#[?_,λ us e=>?_]
 .ext Ô7;show#[ds,ń #[p,rfl,by rw[oa nz,mz]],Á4 (pj s) ts h]
 .cases e;show#[p,ds,rfl,hp,mz,Á4 (g9 s hp) ts h]
end
def zN ñ8 Ì9 (t:zx):Prop:=∀ S Z Y J y Q,ï6->f J=↑y->(∀ d S',Ŧ->Ç2->Q d S')->t Y S Q
abbrev qA:=zN zq
abbrev yV:=zN Pa
abbrev xY:=zN zl
def zN.imp {R R':Rk}â6(h:zN R f t) (i:∀ S S' Z y d,Ç2->R' S S' Z y d):zN R' f t:=λ S Z Y J y Q hE e hq=>h Ç y Q hE e λ d S' s r=>hq d S' s (i È Ŗ r)
def zN.er â6(h:qA f t):yV f t:=h.imp λ _ _ _ _ _ r=>ģ r
def zN.fe â6(h:xY f t):qA f t:=h.imp λ _ _ _ _ _ r=>r.1
def zN.fr â6(h:xY f t):yV f t:=h.fe.er
@[simp] def zk Ö:AD:=fun J=>match å1 with
 | some ↑(.im t)=>↑t
 | _=>none
@[simp] def zc Ö:AD:=fun J=>match å1 with
 | some ↑(.im t)=>↑t
 | Ê2=>↑(ö)
 | some ↑(.own (Ö8))=>↑(Ö8)
 | _=>none
@[simp] def cS (t:T):AD:=λ _=>↑t
@[simp] abbrev cI (i:Int):AD:=cS (ä9)
def yG Ö:qA (zk i) ï7:=λ S Z Y J y Q hE e hq=>by
 unfold zk at e;split at e
 .ext Í3;show hq d Û h2
 .cases e
def t_ Ö:yV (zc i) ï7:=λ S Z Y J y Q hE e hq=>by
 unfold zc at e;split at e
 .ext Í3;show hq d Û (ģ h2)
 .rename_i ts h;cases e;ext È7;cases o with
  | lst ds=>show hq _ Û (ń (ģ #[ts,p,ds,rfl,rfl,h2,h3,h4]))
  | _=>show h3.elim
 .rename_i ks ts h;cases e;ext È7;cases o with
  | zF m=>show hq _ Û (ń (ń #[ks,ts,p,m,rfl,rfl,h2,h3.1,h3.2,h4]))
  | _=>show h3.elim
 .cases e
def sO (i:Int):xY (cS (ä9)) (dC (ä9)):=λ S Z Y J y Q hE e hq=>by cases e;show ş
def s_ (i:Bool):xY (cS (.bl i)) (dC (.bl i)):=λ S Z Y J y Q hE e hq=>by cases e;show ï8
def su (i:Str):xY (cS (À6 i)) (dC (À6 i)):=λ S Z Y J y Q hE e hq=>by cases e;show hq _ Û (Cl.of á nJ)
def sG:xY (cS .zA) (dC .zA):=λ S Z Y J y Q hE e hq=>by cases e;show hq _ Û (Cl.of á VN)
@[simp] def zb (f:Ĩ) (fa fb:AD):AD:=fun J=>(fa J).bind λ x=>(fb J).bind λ y=>f x y
def Good2 ñ8 (f:Ĩ) (g:xA):Prop:=∀ S Z x y z d e Q,(Á5)->Vw S Z x d->Vw S Z y e->f x y=↑z->ß8->g d e S Q
def zX Ú1 [Cl R] {f:Ĩ}{g:xA}{fa fb:AD}{ta tb:zx}(hg:Good2 R f g) Ď:zN R (zb f fa fb) (yW g ta tb):=λ S Z Y J y Q hE e hq=>by
 unfold zb at e;let#[x,e1,e]:=č;let#[z,e2,e]:=č;exact ha Ç x _ hE ý;exact hb à2 z _ (Ŷ) e2 λ d2 S2 s2 r2=>?_;show hg S2 Z x z y d d2 Q ((hE.grow Ĳ).zd) (Vw.grow r1 s2) r2 e λ c S' s r=>hq c S' ((ë4 s2).trans s) (Cl.cl Ĳ r)
@[simp] def i2 (g:Int->Int->T):Ĩ
 | ä9,ñ j=>↑(g i j)
 | _,_=>none
instance {i j:Int}:ï9 (pP i j):=by unfold pP;infer_instance
instance {i j:Int}:ï9 (r_ i j):=by unfold r_;infer_instance
instance {i j:Int}:ï9 (j9 i j):=by unfold j9;infer_instance
@[simp] def gr (C:Int->Int->Prop) [∀ i j,ï9 (C i j)] (g:Int->Int->T):Ĩ
 | ä9,ñ j=>if C i j then ↑(g i j) else none
 | _,_=>none
def bU ŧ:Good2 zl (i2 g) (zE g'):=λ S Z x y z d e Q hz hx hy ef hq=>by
 unfold i2 at ef;split at ef
 .ext Ô9;show é0
 .cases ef
def bR {C:Int->Int->Prop} [∀ i j,ï9 (C i j)] ŧ:Good2 zl (gr C g) (fI C g'):=λ S Z x y z d e Q hz hx hy ef hq=>by
 unfold gr at ef;split at ef
 .split at ef
  .rename_i hh;ext Ô9;show#[hh,é0]
  .cases ef
 .cases ef
@[simp] def qj:Ĩ:=i2 λ i j=>ñ (i-j)
@[simp] def yZ:Ĩ:=gr (λ _ j=>0<j) λ i j=>ñ (i%j)
@[simp] def xG:Ĩ:=gr r_ λ i j=>ñ (i/j)
@[simp] def fJ:Ĩ:=gr j9 λ i j=>ñ (i ^ j.toNat)
@[simp] def ZT:Ĩ:=gr ã3
@[simp] def XX:Ĩ:=i2 ç5
@[simp] def lr:Ĩ:=i2 λ i j=>.bl (È3 (i<=j))
@[simp] def eK:Ĩ:=i2 λ i j=>.bl (È3 (j<=i))
section
variable {fa fb:AD}{ta tb:zx}
def sr Ď:xY (zb qj fa fb) (yW (zE λ i j=>ñ (i-j)) ta tb):=zX (bU ĭ) ha hb
def sI Ď:xY (zb yZ fa fb) (yW (fI (λ _ j=>0<j) λ i j=>ñ (i%j)) ta tb):=Ó2
def sS Ď:xY (zb xG fa fb) (yW (fI r_ λ i j=>ñ (i/j)) ta tb):=Ó2
def sD Ď:xY (zb fJ fa fb) (yW (fI j9 λ i j=>ñ (i ^ j.toNat)) ta tb):=Ó2
def sA Ď:xY (zb ZT fa fb) (yW (fI ã3) ta tb):=Ó2
def ra Ď:xY (zb XX fa fb) (yW (zE ç5) ta tb):=zX (bU ĭ) ha hb
end
def zS Ü5:Ĩ:=λ x y=>if dep x<=60/\dep y<=60 then ↑(.bl (cond neg (!eqT x y) (eqT x y))) else none
def qm Ü5:Ĩ:=λ x y=>match qN y with
 | some ts=>if dep x<=60/\î5<=60 then ↑(.bl (cond neg (!(ts.any λ t=>eqT t x)) (ts.any λ t=>eqT t x))) else none
 | none=>none
def rL Ý1:Good2 zl (zS neg) (qR neg):=λ S Z x y z d e Q hz hx hy ef hq=>by
 unfold zS at ef;split at ef
 .ext Ü9;show#[x,y,hx.sn,hy.sn,h.1,h.2,ï8]
 .cases ef
def wG Ý1:Good2 zl (qm neg) (mJ neg):=λ S Z x y z d e Q hz hx hy ef hq=>by
 unfold qm at ef;split at ef
 .rename_i ts ht;split at ef
  .ext Ü9;let#[ds,h1,h2]:=hy.seq ht;show#[x,ts,ds,hx.sn,h1,Á4 (gz S Z) ts h2,h.1,h.2,ï8]
  .cases ef
 .cases ef
@[simp] def zi:Ĩ:=λ x y=>match x,y with
 | À6 z,ä9=>if z.length<=Ó then (è9 z.cps.toList i).map λ c=>À6 #[[c].toArray] else none
 | x,y=>match qN x,y with
  | some ts,ä9=>è9 ts i
  | _,_=>none
def yM:Good2 zq zi px:=λ S Z x y z d e Q hz hx hy ef hq=>by
 unfold zi at ef;split at ef
 .split at ef
  .rename_i h0;let#[c,h1,rfl]:=Ð8 ef;cases hx.str;cases hy.int;unfold px;ext þ;rw[h1];show#[h0,hq _ Û nJ]
  .cases ef
 split at ef
 .rename_i ts i ht _;cases hy.int;let#[ds,h1,h2]:=hx.seq ht;let#[c,h3,h4]:=h2.at ef;unfold yx at h1;split at h1
  .cases h1;show E5 h3 (hq c Û h4)
  .cases h1;show E6 h3 (hq c Û h4)
  .split at h1
   .rename_i q;cases h1;show E7 q h3 (hq c Û h4)
   .cases h1
  .cases h1
 .cases ef
@[simp] def yg:Ĩ
 | ä9,ñ j=>↑(ñ (i+j))
 | À6 i,À6 j=>if Ø5 then ↑(À6 (i++j)) else none
 | ö,ň us=>if Ă+Ä1<=Ó then ↑(ň (ts++us)) else none
 | Ð5,Ķ us=>if Ă+Ä1<=Ó then ↑(Ķ (ts++us)) else none
 | _,_=>none
def md:xA:=λ x y S Q=>match x,y with
 | ä9,ñ j=>Q (ñ (i+j)) S
 | À6 i,À6 j=>Ø5/\Q (À6 (i++j)) S
 | Ķ ds,Ķ es=>Ð9/\Q (Ķ (ds++es)) S
 | .zA,_=>Ö4
 | .bl _,_=>Ö4
 | ñ _,_=>Ö4
 | À6 _,_=>Ö4
 | Ķ _,_=>Ö4
 | x,y=>match yx x S,yx y S with
  | some ds,↑es=>(∀ ts,y≠ Ð5)/\Â7
  | _,_=>Ö4
def good_add:Good2 zl yg md:=λ S Z x y z d e Q hz hx hy ef hq=>by
 unfold yg at ef;split at ef
 .ext Ô9;show ş
 .split at ef
  .ext Ü9;cases hx.str;cases hy.str;show#[h,hq _ Û (Cl.of á nJ)]
  .cases ef
 .split at ef
  .ext Ü9;let#[ds,h1,h2]:=hx.seq rfl;let#[es,h3,h4]:=hy.seq rfl;have nt:∀ ts,e≠ Ð5:=by
    obtain⟨_,q | ⟨_,q,_⟩,_⟩:=hy.lst <;> subst q <;> show λ _=>nofun
   have key:(∀ ts,e≠ Ð5)/\Â7:=
    #[nt,í1,λ r hr=>hq È (.new hr _) (m5 hz hr (h2.append h4))]
   obtain⟨_,q | ⟨a,q,_⟩,_⟩:=hx.lst
   ext Ü0
   ext Ü0
  .cases ef
 .split at ef
  .ext Ü9;let#[ds,rfl,h2]:=hx.tup;let#[es,rfl,h4]:=hy.tup;show#[í1,hq _ Û (Cl.of á (lW (h2.append h4)))]
  .cases ef
 .cases ef
def qJ (f:ā) (t:xb):Prop:=∀ S Z Y J y Q,ï6->f J=↑y->(∀ S',Ŧ->Q y S')->t Y S Q
@[simp] def zO Ì9:ā:=fun J=>ĩ λ x=>match x with
 | Ö7=>↑b
 | _=>none
@[simp] def Z8:T->À Bool
 | .zA=>↑ à
 | Ö7=>↑b
 | ä9=>↑(i != 0)
 | À6 x=>if x.length<=Ó then ↑((x.length:Int) != 0) else none
 | Ð5=>↑(!ts.isEmpty)
 | ö=>↑(!ts.isEmpty)
 | .zF È=>none
@[simp] def xh Ì9:ā:=fun J=>ĩ Z8
@[simp] def nB (f g:ā):ā:=fun J=>ĩ λ b=>if b=true then g J else ↑ à
@[simp] def qo (f g:ā):ā:=fun J=>ĩ λ b=>if b=true then ↑true else g J
@[simp] def qe (f:ā):ā:=fun J=>(f J).map (!·)
section
variable {f g:AD}{t u:zx}{fb gb:ā}{tb ub:xb}{Ú1}
def se Û6:qJ (zO f) (pz t):=λ S Z Y J y Q hE e hq=>by
 ext ì5
 .cases e2;ext ê5;show Ë0
 .cases e2
def sg Û6:qJ (xh f) (Xw t):=λ S Z Y J y Q hE e hq=>by
 ext Ñ;cases x with
 | zA=>cases Vw.zA r1;ext ê9
 | bl b=>ext ê5;ext ê9
 | int b=>ext í5;ext ê9
 | str b=>
  cases Vw.str r1;simp![Z8] at e2;ext Û7
  .rename_i hh;cases e2;show#[hh,Ë0]
  .cases e2
 | tup ts=>
  let#[ds,rfl,h2]:=Vw.tup r1;ext Õ5
 | lst ts=>
  ext ō
  .ext Õ5
  .cases e2;exact Nh h1 ?_;rw[h2.empty];show Ë0
 | zF _ _=>cases e2
def sV (h:qJ fb tb) (h':qJ gb ub):qJ (nB fb gb) (eU tb ub):=λ S Z Y J y Q hE e hq=>by
 ext Ç8
 .ext É5;show Ô1
 .ext Ë3;ext ê9
def sT (h:qJ fb tb) (h':qJ gb ub):qJ (qo fb gb) (eS tb ub):=λ S Z Y J y Q hE e hq=>by
 ext Ç8
 .ext É5;ext ê9
 .ext Ë3;show Ô1
def sU (h:qJ fb tb):qJ (qe fb) (eT tb):=λ S Z Y J y Q hE e hq=>by
 unfold qe at e;let#[b,e1,rfl]:=Ð8 e;show h Ç b _ hE e1 λ S1 s1=>Ë0
@[simp] def pA (f g:AD):AD:=fun J=>ĩ λ x=>match x with
 | .bl k=>if k=true then g J else ↑(.bl à)
 | _=>none
@[simp] def bt (f g:AD):AD:=fun J=>ĩ λ x=>match x with
 | .bl k=>if k=true then ↑(.bl true) else g J
 | _=>none
@[simp] def bz Ì9:AD:=fun J=>ĩ λ x=>match x with
 | .bl k=>↑(.bl (!k))
 | _=>none
@[simp] def lx (c:ā) (f g:AD):AD:=fun J=>(c J).bind λ b=>if b=true then f J else g J
def rb [Cl R] Û6 (h':zN R g u):zN R (pA f g) (di t u):=λ S Z Y J y Q hE e hq=>by
 ext ì5
 .ext ê5;ext Û7
  .ext ë0;rw[Í hb];show h' ã
  .ext ë0;rw[É hb];cases e2;show Þ0
 .cases e2
def sE [Cl R] Û6 (h':zN R g u):zN R (bt f g) (de t u):=λ S Z Y J y Q hE e hq=>by
 ext ì5
 .ext ê5;ext Û7
  .ext ë0;rw[Í hb];cases e2;show Þ0
  .ext ë0;rw[É hb];show h' ã
 .cases e2
def sF [Cl R] Û6:zN R (bz f) (df t):=λ S Z Y J y Q hE e hq=>by
 ext ì5
 .ext ê5;cases e2;show Þ0
 .cases e2
def sR [Cl R] (hc:qJ fb tb) (h:zN R f t) (h':zN R g u):zN R (lx fb f g) (dg tb t u):=λ S Z Y J y Q hE e hq=>by
 ext ì6;exact hc Ç b _ hE e1 λ S1 s1=>?_;ext Û7
 .ext É5;show h ã
 .ext Ë3;show h' ã
end
def kA Ë1:Ä->List D->Prop
 | [],ds=>ds=[]
 | Ý2,ds=>∃ c cs,ds=c::cs/\Vw S Z t c/\kA S Z ts cs
def oU (f:å) (t:yy):Prop:=∀ S Z Y J ys Q,ï6->f J=↑ys->(∀ ds S',Ŧ->kA S' Z ys ds->Q ds S')->t Y S Q
def jt (f:å) (t:yy):Prop:=∀ S Z Y J ys Q,ï6->f J=↑ys->(∀ ds S',Ŧ->zp (yp S' Z) ys ds->Q ds S')->t Y S Q
@[simp] def zh:å:=λ _=>↑[]
@[simp] def za Ì9 (g:å):å:=fun J=>ĩ λ x=>É3 λ xs=>↑(x::xs)
section
variable {f:AD}{g:å}{t:zx}{u:yy}
def tY:oU zh l9:=λ S Z Y J y Q hE e hq=>by cases e;show hq [] Û rfl
def tW:jt zh l9:=λ S Z Y J y Q hE e hq=>by cases e;show hq [] Û Ú4
def tZ Û6 (h':oU g u):oU (za f g) (nD t u):=λ S Z Y J y Q hE e hq=>by
 ext Ņ;show hq _ S2 Ĳ #[d,ds,rfl,Vw.grow r1 s2,r2]
def tX (h:qA f t) (h':jt g u):jt (za f g) (nD t u):=λ S Z Y J y Q hE e hq=>by
 ext Ņ;show hq _ S2 Ĳ (Œ (á5 (pj s2) x r1) r2)
@[simp] def tupS (g:å):AD:=fun J=>É3 λ xs=>if í<=Ó then ↑(Ķ xs) else none
@[simp] def xE (g:å):AD:=fun J=>É3 λ xs=>if í<=Ó then ↑(ň xs) else none
def sd (h:jt g u):xY (tupS g) (RH u):=λ S Z Y J y Q hE e hq=>by
 ext Å4;ext Û7
 .rename_i hl;cases e2;exact h Ç xs _ hE e1 λ ds S1 s1 r1=>#[by rw[r1.len];show hl,hq _ S1 s1 (Cl.of á (lW r1))]
 .cases e2
def sL (h:jt g u):xY (xE g) (RO u):=λ S Z Y J y Q hE e hq=>by
 ext Å4;ext Û7
 .rename_i hl;cases e2;exact h Ç xs _ hE e1 λ ds S1 s1 r1=>#[by rw[r1.len];show hl,λ p hp=>hq È (ë4 ű) (Cl.cl s1 (m5 (Ŷ).zd hp r1))]
 .cases e2
end
@[simp] def zo (F:AG) (g:å):AD:=fun J=>É3 F
def qX ñ8 (F:AG) (f:x9):Prop:=∀ S Z ys z ds Q,(Á5)->kA S Z ys ds->F ys=↑z->ß8->f ds S Q
def sZ Ú1 [Cl R] {F:AG}{f:x9}{g:å}{u:yy}(hf:qX R F f) (h:oU g u):zN R (zo F g) (qp f u):=λ S Z Y J y Q hE e hq=>by
 ext Å4;exact h Ç xs Ŭ;show hf S1 Z xs y ds Q (Ŷ).zd r1 e2 λ c S' s r=>hq c S' (ë4 s) (Cl.cl s1 r)
@[simp] def wD:AG
 | [À6 z]=>if z.length<=Ó then ↑(ñ z.length) else none
 | [y]=>(qN y).map λ ts=>ñ Ă
 | _=>none
def oY Ő è2 Ë(h:kA S Z [y] ds):∃ d,ds=[d]/\å2:=by
 ext Í0;cases h2;show î7
def iI Ő{Z:ç}{y z:T}Ë(h:kA S Z [y,z] ds):∃ d e,ds=[d,e]/\å2/\Vw S Z z e:=by
 let#[c,cs,rfl,h1,c2,cs2,rfl,h2,h3]:=h;cases h3;show#[c,c2,rfl,h1,h2]
def rF:qX zl wD ma:=λ S Z ys z ds Q hz hv e hq=>by
 unfold wD at e;split at e
 .ext Þ4;split at e
  .rename_i hl;cases e;cases h1.str;show#[hl,ş]
  .cases e
 .ext ċ;exact E4 h2 ?_;rw[h3.len];show ş
 .cases e
@[simp] def listS:AG
 | [y]=>(qN y).map ň
 | _=>none
def rE:qX zl listS n_:=λ S Z ys z ds Q hz hv e hq=>by
 unfold listS at e;split at e
 .ext ċ;show Ez h2 λ p hp=>hq È ű (m5 hz hp h3)
 .cases e
@[simp] def m_:AG
 | [y]=>(qN y).map Ķ
 | _=>none
def rj:qX zl m_ nX:=λ S Z ys z ds Q hz hv e hq=>by
 unfold m_ at e;split at e
 .rename_i y;ext ċ;have k:Q (Ķ es) S:=hq _ Û (Cl.of á (lW h3));unfold yx at h2;split at h2
  .cases h2;show k
  .cases h2;show k
  .split at h2
   .rename_i q;cases h2;show Ey q k
   .cases h2
  .cases h2
 .cases e
@[simp] def eD (g:Int->Int->Int):AG
 | [ä9,ñ j]=>↑(ñ (g i j))
 | _=>none
def SK {g:Int->Int->Int}:qX zl (eD g) (ny λ i j=>ñ (g i j)):=λ S Z ys z ds Q hz hv e hq=>by
 unfold eD at e;split at e
 .let#[d,d',rfl,h1,h2]:=iI hv;cases e;cases h1.int;cases h2.int;show ş
 .cases e
@[simp] def i_:AG:=eD λ i j=>if j>i then j else i
@[simp] def oM:AG:=eD λ i j=>if j<i then j else i
def mR:Ä->À (Ê4)
 | []=>↑[]
 | Ö7::ts=>(mR ts).map (b::·)
 | _::_=>none
theorem Q9:∀ ē{bs:Ê4},mR ts=↑bs->ts=bs.map T.bl
 | [],bs,h=>Ê6
 | Ö7::ts,bs,h=>by
  unfold mR at h;let#[cs,h1,rfl]:=Ð8 h;rw[AR,<- Q9 h1]
 | .zA::ts,bs,h=>ġ
 | ñ _::ts,bs,h=>ġ
 | À6 _::ts,bs,h=>ġ
 | Ķ _::ts,bs,h=>ġ
 | ň _::ts,bs,h=>ġ
def a9 (bs:Ê4):mR (bs.map T.bl)=↑bs:=by
 induction bs with
 | nil=>rfl
 | cons b bs ih=>rw[AR];unfold mR;rw[ih];rfl
@[simp] def mP (g:ð0):AG
 | [ö]=>(mR ts).map λ bs=>.bl (g bs)
 | _=>none
def nA (g:ð0):x9:=λ ds S Q=>match ds with
 | [Ķ _]=>Ö4
 | [d]=>Í4
 | _=>Ö4
def rM {g:ð0}:qX zl (mP g) (nA g):=λ S Z ys z ds Q hz hv e hq=>by
 unfold mP at e;split at e
 .ext Þ4;let#[bs,e1,rfl]:=Ð8 e;cases Q9 e1;let#[es,h2,h3]:=h1.seq rfl;cases h3.QA;have key:Í4:=#[bs,h2,ï8];obtain⟨_,q | ⟨a,q,_⟩,_⟩:=h1.lst
  .subst q;show key
  .subst q;show key
 .cases e
structure FR (S0:SS) (Z0:ç) Ë1 (Y:yX) Ú0:Prop where
 er:ï6
 len:Î8
 sx:Sx S0 S
 z0:∀ a,Z0 a->S0 a≠none
 zz:∀ a,Z0 a->Z a
 zn:∀ a,Z a->Z0 a\/S0 a=none
 fr:∀ Ö ts p,Ø6->ŵ->S0 p=none
 dj:∀ (i j:Nat) ts us p,i≠j->Ø6->J[j]?=↑↑(.own us)->ŵ->Y[j]?=↑↑ Ò0->Ö4
def xJ Ċ{l:Į}Õ6{a b:α}(h:(l.set i a)[j]?=↑b):(i=j/\i<Ú5/\b=a)\/(i≠j/\l[j]?=↑b):=by
 rw[zbX] at h;by_cases e:i=j
 .subst e;rw[Ñ8] at h;by_cases hl:i<Ú5
  .rw[Í hl] at h;cases h;show ģ #[rfl,hl,rfl]
  .rw[É hl] at h;cases h
 .rw[É e] at h;show ń #[e,h]
def pK Ċ{l:Į}Õ6{a:α}(h:i≠j):(l.set i a)[j]?=l[j]?:=by rw[zbX,É h]
def gB Ċ{l:Į}Ê7{a:α}(h:i<Ú5):(l.set i a)[i]?=↑a:=by rw[zbX,Ñ8,Í h]
section
variable {S0 S S':SS}{Z0 Z:ç}{Y:yX}{J:Ev}{y:T}{Ś}
theorem FR.grow (h:Ĕ) (s:Ŧ):FR Ú2 S' Z Y J:=#[h.er.grow s,h.len,h.sx.trans s,h.z0,h.zz,h.zn,h.fr,h.dj]
theorem FR.jG (h:Ĕ) Ö (r:ï5):FR Ú2 S Z (Y.set i ↑d) Á6:=by
 exact Ě
 .ext Ê
  .cases e;show#[d,Š,r]
  .rw[pK n];show h.er.im j t e
 .ext Ê
  .cases e
  .rw[pK n];show å3 j ts e
 .ext Ê
  .cases e
  .rw[pK n] at e';show h.fr j ts p e e'
 .ext ĥ
  .cases e
  ext Ů
  .cases e
  rw[pK n1] at e3;rw[pK n2] at e4;show h.dj j k ts us p Ú3
def FR.ZU {ts:C}{ds:O}Ñ5(h:Ĕ) (s:Ŧ) Ö (hp:á0) (hd:S' p=↑ds) (r:lE Ç1 ts ds):
  FR Ú2 S' (λ a=>Z a\/a=p) (Y.set i ↑ Ò0) (J.set i ↑(.own ts)):=by
 have np:∀ (j:Nat) us q,J[j]?=↑↑(.own us)->Y[j]?=↑↑(Ý q)->q≠p:=λ j us q e e' z=>by
  subst z;let#[p',ds',h1,h2,_]:=å3 j us e;rw[e'] at h1;cases h1;rw[hp] at h2;cases h2
 exact#[#[λ a z=>?_,λ j t e=>?_,λ j us e=>?_],Ü3,h.sx.trans s,h.z0,λ a z=>ģ (h.zz a z),λ a z=>z.elim (h.zn a) (λ q=>ń (by subst q;show h.sx.none hp)),λ j us q e e'=>?_,å4]
 .rcases z with z | rfl
  .show λ q=>h.er.zd a z (s.none q)
  .rw[hd];nofun
 .ext Ê
  .cases e
  .rw[pK n];let#[d,h1,h2]:=h.er.im j t e;show ç6
 .ext Ê
  .cases e;show#[p,ds,Š,hd,r,ń rfl]
  .rw[pK n];let#[q,es,h1,h2,h3,h4]:=å3 j us e;show#[q,es,h1,s È h2,lE.sx (g9 s hp) h3,ģ h4]
 .ext Ê
  .rw[Š] at e';cases e';show h.sx.none hp
  .rw[pK n] at e';show h.fr j us q e e'
 .ext ĥ
  .rcases xJ e2 with ⟨rfl,_,_⟩ | ⟨n2,e2⟩
   .show n rfl
   .rw[Š] at e3;cases e3;rw[pK n2] at e4;show np k vs p e2 e4 rfl
  .ext ź
   .rw[Š] at e4;cases e4;rw[pK n1] at e3;show np j us p e1 e3 rfl
   .rw[pK n1] at e3;rw[pK n2] at e4;show h.dj j k us vs q Ú3
def FR.forget (h:Ĕ) Ö:FR Ú2 S Z Y (J.set i none):=by
 exact Ě
 .ext Ê
  .cases e
  .show h.er.im j t e
 .ext Ê
  .cases e
  .show å3 j ts e
 .ext Ê
  .cases e
  .show h.fr j ts p e e'
 .ext ĥ
  .cases e
  ext Ů
  .cases e
  show h.dj j k ts us p Ú3
@[simp] def xm (is:Õ4) Ú0:Ev:=is.foldl (fun J i=>J.set i none) J
theorem FR.xm:∀ (is:Õ4) {J:Ev},Ĕ->FR Ú2 S Z Y Ø7
 | [],_,h=>h
 | i::is,_,h=>FR.xm is (h.forget i)
def FR.freeze ē Ñ5(h:Ĕ) Ö (e:å1=↑↑(.own (ö))) (ed:ŵ):
  FR Ú2 S (λ a=>Z a/\a≠p) Y (J.set i ↑(.im (ö)))/\ß9:=by
 let#[p',o,h1,h2,h3,h4]:=å3 i _ e;rw[ed] at h1;cases h1;obtain⟨ds,rfl⟩:∃ ds,o=ň ds:=by
  cases o with
  | lst ds=>show#[ds,rfl]
  | _=>show h3.elim
 replace h3:Å5:=h3;have hS:ß9:=by
  ext Ô7;show#[ds,ń #[p,rfl,by rw[oa (λ z=>z.2 rfl)];show h2],Á4 ð1 ts h3]
 exact#[?_,hS];exact#[#[λ a z=>h.er.zd a z.1,λ j t e'=>?_,λ j us e'=>?_],Ü3,h.sx,h.z0,λ a z=>#[h.zz a z,λ q=>?_],λ a z=>h.zn a z.1,λ j us q e' ed'=>?_,å4]
 .ext ü
  .cases e';show#[_,ed,hS]
  .let#[d,g1,g2]:=h.er.im j t e';show#[d,g1,á5 ð1 t g2]
 .ext ü
  .cases e'
  .let#[q,es,g1,g2,g3,g4]:=å3 j us e';show#[q,es,g1,g2,lE.sx ð1 g3,g4,λ z=>by subst z;show h.dj i j _ us q n e e' ed g1]
 .subst q;show h.z0 a z (h.fr i _ a e ed)
 .ext ü
  .cases e'
  .show h.fr j us q e' ed'
 .ext ĥ
  .cases e
  ext Ů
  .cases e
  show h.dj j k us vs q Ú3
def FR.mut {ts us:C}{es:O}Ñ5(h:Ĕ) Ö (e:Ø6) (ed:ŵ) (r:lE Ā us es):
  FR Ú2 (ups S p es) Z Y (J.set i ↑(.own us)):=by
 ext È8;cases h1;have hh:yp (ups S p es) Z=yp S Z:=Gs h4;have hpn:=é1;exact#[#[λ a z=>?_,λ j t e'=>?_,λ j vs e'=>?_],Ü3,ð2,h.z0,h.zz,h.zn,λ j vs q e' ed'=>?_,λ j k vs ws q n e1 e2 e3 e4=>?_]
 .by_cases hp:a=p
  .subst hp;rw[mz];nofun
  .rw[mY hp];show h.er.zd a z
 .rw[hh];ext ü
  .cases e'
  .show h.er.im j t e'
 .rw[hh];ext ü
  .cases e';show#[p,es,ed,mz,r,h4]
  .let#[q,es',g1,g2,g3,g4]:=å3 j vs e';exact#[q,es',g1,?_,g3,g4];rw[mY (λ z=>by subst z;show h.dj i j ts vs q n e e' ed g1)];show g2
 .rw[mY (λ z=>by subst z;rw[hpn] at q;cases q)];show h.sx b o q
 .rcases xJ e' with ⟨rfl,hl,_⟩ | ⟨n,e'⟩
  .rw[ed] at ed';cases ed';show hpn
  .show h.fr j vs q e' ed'
 .rcases xJ e1 with ⟨rfl,hl,_⟩ | ⟨n1,e1⟩
  .ext ź
   .show n rfl
   .show h.dj _ k ts ws q n e e2 e3 e4
  .ext ź
   .show h.dj j _ vs ts q n e1 e e3 e4
   .show h.dj j k vs ws q Ú3
def Yj (S0 S:SS) (Z:ç):SS:=open Classical in λ a=>if S0 a=none/\Z a then none else S a
def cX ĕ(h:¬ (S0 a=none/\Z a)):Yj S0 S Z a=S a:=É h
def Yi ĕ(h:S0 a=none/\Z a):Yj S0 S Z a=none:=Í h
def FR.rebase (h:Ĕ):∃ S1,Sx S0 S1/\FR S1 Z0 Ç/\Sx Ā S1:=by
 exact#[Yj S0 S Z,ð2,#[h.er,h.len,ð2,λ a z=>?_,h.zz,λ a z=>?_,λ i ts p e ed=>?_,h.dj],ð2]
 .rw[cX (λ z=>by rw[z.1] at q;cases q)];show h.sx È q
 .by_cases w:S0 b=none/\Z b
  .rw[Yi w] at q;cases q
  .rw[cX w] at q;show q
 .rw[cX (λ q=>h.z0 a z q.1)];show h.er.zd a (h.zz a z)
 .rcases h.zn a z with w | w
  .show ģ w
  .show ń (Yi #[w,z])
 .ext È8;cases h1;show Yi #[é1,h4]
 .ext Å3;rw[cX (λ z=>q1 z.2)];show q2
def FR.back {S1:SS}(h:FR S1 Z0 Ç) (s:Sx S0 S1) (z0:∀ a,Z0 a->S0 a≠none):Ĕ:=#[h.er,h.len,s.trans h.sx,z0,h.zz,λ a z=>(h.zn a z).imp id s.none,λ i ts p e ed=>s.none (é1),h.dj]
def FR.M0 {S1:SS}{Z1:ç}(h:Ĕ) (b:Sx (yp S1 Z1) S0) (zz:∀ a,Z0 a->Z1 a):Sx (yp S1 Z1) Ā:=λ a o q=>by
 have q0:=b È q;ext Å3;rw[oa]
 .show h.sx È q0
 .intro z;rcases h.zn a z with w | w
  .show q1 (zz a w)
  .rw[w] at q0;cases q0
end
inductive Out where
 | nx Ú0 | rt (t:T) | bk Ú0 | ct Ú0
abbrev Sm:=Ev->À Out
def CS ñ8 (S0:SS) (Z0:ç) (o:Out) (E:j7):Prop:=match o with
 | .nx J=>∀ S Z Y,Ĕ->E.nx Y S
 | .bk J=>∀ S Z Y,Ĕ->E.bk Y S
 | .ct J=>∀ S Z Y,Ĕ->E.ct Y S
 | .rt y=>∀ d S,Sx S0 S->R S0 S Z0 y d->E.rt d S
def yu ñ8 (g:Sm) (t:xf):Prop:=∀ S0 Z0 S Z Y J o E,Ĕ->g J=↑o->CS R Ú2 o E->t E Y S
class Lo ñ8:Prop extends Cl R where
 lo:∀ {S0 S S':SS}{Z0 Z:ç}{y:T}Ś,Sx S0 S->(∀ a,Z0 a->Z a)->Ç2->R S0 S' Z0 y d
instance:Lo zq:=#[λ _ z h=>á5 (nq z) _ h]
instance:Lo zl:=#[λ s z h=>#[á5 (nq z) _ h.1,λ ts e=>by
 let#[p,ds,h1,h2,h3,h4]:=h.2 ts e;show#[p,ds,h1,s.none h2,h3,Á4 (nq λ a q=>q.imp (z a) id) ts h4]]]
@[simp] def zv (g h:Sm):Sm:=fun J=>É3 λ o=>match o with
 | .nx J'=>h J'
 | o=>↑o
@[simp] def yo:Sm:=fun J=>↑(.nx J)
@[simp] def zP Ö Ì9:Sm:=fun J=>(f J).map λ y=>.nx Á6
@[simp] def qT Ö Ì9:Sm:=fun J=>ĩ λ y=>match y with
 | ö=>↑(.nx (J.set i ↑(.own (ö))))
 | y=>↑(.nx Á6)
@[simp] def l8 Ì9:Sm:=fun J=>(f J).map λ _=>.nx J
@[simp] def retS Ì9:Sm:=fun J=>(f J).map .rt
@[simp] def fE Ö:Sm:=fun J=>match å1 with
 | Ê2=>↑(.rt (ö))
 | _=>none
@[simp] def yi (c:ā) (g h:Sm):Sm:=fun J=>(c J).bind λ b=>if b=true then g J else h J
@[simp] def Xk Ö Ú0:Ev:=match å1 with
 | Ê2=>J.set i ↑(.im (ö))
 | _=>J
@[simp] def bX Ö (g:Sm):Sm:=fun J=>g (Xk i J)
section
variable {Ú1}{g h:Sm}{t u:xf}{Â0}
def uW ñ9:yu R (zv g h) (k5 t u):=λ S0 Z0 S Z Y J o E F e P=>by
 let#[o1,e1,e2]:=č;exact hg Ú2 Ç o1 { E with nx:=u E } F e1 ?_;cases o1 with
 | nx J1=>show λ S1 Z1 Y1 F1=>hh Ú2 S1 Z1 Y1 J1 o E F1 e2 P
 | rt y=>cases e2;show P
 | bk y=>cases e2;show P
 | ct y=>cases e2;show P
def uV:yu R yo RL:=λ S0 Z0 S Z Y J o E F e P=>by cases e;show P S Z Y F
def t8 Ö è3:yu R (zP i f) (p9 te á6):=λ S0 Z0 S Z Y J o E F e P=>by
 ext Þ5;show hf æ3 e1 λ d S1 s1 r1=>P S1 Z _ ((Î9).jG i r1)
def t7 Ö (hf:xY f te):yu R (qT i f) (p9 te á6):=λ S0 Z0 S Z Y J o E F e P=>by
 ext Ó6;exact hf æ3 ý;cases y with
 | lst ts=>
  cases e2;let#[p,ds,rfl,h1,h2,h3]:=r1.2 ts rfl;show P S1 È (F.ZU (ts:=ö) (ds:=ň ds) s1 i h1 h2 h3)
 | _=>cases e2;show P S1 Z _ ((Î9).jG i r1.1)
def t4 (hf:yV f te):yu R (l8 f) (gI te):=λ S0 Z0 S Z Y J o E F e P=>by
 ext Þ5;show hf æ3 e1 λ d S1 s1 r1=>P S1 Z _ (Î9)
def uY [Lo R] (hf:zN R f te):yu R (retS f) (jj te):=λ S0 Z0 S Z Y J o E F e P=>by
 ext Þ5;show hf æ3 e1 λ d S1 s1 r1=>P d S1 (F.sx.trans s1) (Lo.lo F.sx F.zz r1)
def yF Ö:yu zl (fE i) (jj ï7):=λ S0 Z0 S Z Y J o E F e P=>by
 unfold fE at e;split at e
 .rename_i ts h;cases e;ext Ö0;obtain⟨ds,rfl⟩:∃ ds,ob=ň ds:=by
   cases ob with
   | lst ds=>show#[ds,rfl]
   | _=>show h3.elim
  replace h3:Å5:=h3;have hn:=F.fr i _ p h h1;have nz:¬ Z0 p:=λ z=>F.z0 p z hn;change yN i Y S E.rt;ext ä4;exact P _ S F.sx #[?_,λ us e=>?_]
  .ext Ô7;show#[ds,ń #[p,rfl,by rw[oa nz];show h2],Á4 (nq F.zz) ts h3]
  .cases e;show#[p,ds,rfl,hn,h2,Á4 (nq λ a q=>q.elim (F.zz a) λ q=>q▸h4) ts h3]
 .cases e
def yu.fv (h:yu zl g t):yu zq g t:=λ S0 Z0 S Z Y J o E F e P=>by
 exact h Ú2 Ç o E F e ?_;cases o with
 | rt y=>show λ d S s r=>P d S s r.1
 | _=>show P
def tf {c:ā}{tc:xb}(hc:qJ c tc) ñ9:yu R (yi c g h) (jk tc t u):=λ S0 Z0 S Z Y J o E F e P=>by
 ext ì6;exact hc Ç b _ F.er e1 λ S1 s1=>?_;ext Û7
 .ext É5;show hg Ú2 à2 o E (Î9) e2 P
 .ext Ë3;show hh Ú2 à2 o E (Î9) e2 P
def FR.fz {S0 S:SS}{Z0 Z:ç}{Y:yX}{J:Ev}(F:Ĕ) Ö:∃ Z',FR Ú2 S Z' Y (Xk i J):=by
 unfold Xk;split
 .rename_i ts h;let#[p,ds,h1,_]:=F.er.ow i _ h;show#[_,(F.freeze i h h1).1]
 .show#[Z,F]
def tj Ö (hg:yu R g t):yu R (bX i g) t:=λ S0 Z0 S Z Y J o E F e P=>by
 let#[Z',F']:=F.fz i;show hg Ú2 S Z' Y _ o E F' e P
def aO Ï7 (t:qq):Prop:=∀ S0 Z0 S Z Y J J' y d Q,Ĕ->ï5->g y J=↑J'->ã6->t d Y S Q
def aN (g:ð3) (t:pC):Prop:=∀ S0 Z0 S Z Y J J' ys ds Q,Ĕ->zp Ā ys ds->g ys J=↑J'->ã6->t ds Y S Q
@[simp] def zJ Ö:T->ó:=λ y J=>↑ Á6
@[simp] def nR:ð3
 | [],J=>↑J
 | _::_,_=>none
@[simp] def rY Ï7 (h:ð3):ð3
 | y::ys,J=>(g y J).bind fun J'=>h ys J'
 | [],_=>none
@[simp] def o7 Í5 (g:ð3):T->ó
 | Ķ ys,J=>if Ø8=n then g ys J else none
 | _,_=>none
def tP Ö:aO (zJ i) á6:=λ S0 Z0 S Z Y J J' y d Q F r e hq=>by cases e;show hq _ (F.jG i r)
def tL:aN nR Xc:=λ S0 Z0 S Z Y J J' ys ds Q F r e hq=>by
 cases ys with
 | nil=>simp![zp] at r;subst r;cases e;show#[rfl,hq _ F]
 | cons _ _=>cases e
def tM à3(hg:aO g t) (hh:aN h u):aN (rY g h) (Xd t u):=λ S0 Z0 S Z Y J J' ys ds Q F r e hq=>by
 cases ys with
 | nil=>cases e
 | cons y ys=>
  simp![zp] at r;ext Î3;show hg Ú2 Ç J1 y c _ F r1 e1 fun Y1 F1=>hh Ú2 S Z Y1 J1 J' ys cs Q F1 r2 e2 hq
def tN Ó0{g:ð3}{t:pC}(hg:aN g t):aO (o7 n g) (gA n t):=λ S0 Z0 S Z Y J J' y d Q F r e hq=>by
 cases y with
 | tup ys=>
  ext Ò7
  .rename_i hl;show#[by rw[r.len];show hl,hg Ú2 Ç J' ys ds Q F r e hq]
  .cases e
 | _=>cases e
def lH (free:Bool) (f:å) (ti:qV):Prop:=∀ S Z Y J ts Q,ï6->f J=↑ts->(∀ I S',Ŧ->zp (yp S' Z) ts I.items->(∀ S'',Sx (if free=true then yp S' Z else S') S''->I.keep S'')->Q I S')->ti Y S Q
@[simp] def xv Ì9:å:=fun J=>ĩ qN
def tF Â0(hf:yV f te):lH à (xv f) (YU te):=λ S Z Y J ts Q hE e hq=>by
 ext Ó6;exact hf Ç y _ hE ý;cases y with
 | tup us=>
  cases e2;let#[ds,rfl,h2]:=Vw.tup r1;show À1
 | lst us=>
  cases e2;ext ō
  .show À1
  .ext þ;rw[h1];show Ú9
 | _=>cases e2
def tG Â0 è3:lH true (xv f) (YU te):=λ S Z Y J ts Q hE e hq=>by
 ext Ó6;exact hf Ç y _ hE ý;cases y with
 | tup us=>
  cases e2;let#[ds,rfl,h2]:=Vw.tup (ģ r1);show À1
 | lst us=>
  cases e2;have r2:=r1;unfold zq at r2;simp![Sn] at r2;obtain⟨ds,⟨rfl,_⟩ | ⟨a,rfl,h1⟩,h2⟩:=r2
  .show À1
  .ext þ;rw[(nU h1).2];show Ú9
 | _=>cases e2
def rangeT (lo:Int) Í5:Ä:=Õ8
def ZQ Ő(lo:Int) Í5:zp S (rangeT lo n) (oH lo n):=by
 unfold rangeT oH
 induction ă n with
 | nil=>show Ú4
 | cons k l ih=>show Œ pH ih
def inR (j:Int):Bool:=È3 (-100000000<=j)&&È3 (j<=100000000)
def SA {j:Int}:inR j=true↔-100000000<=j/\j<=100000000:=by simp[inR]
def bM {j:Int}(h:inR j=true):-(2 ^ 62)<=j/\j<2 ^ 62:=by have:=SA.mp h;lia
def pU:ð4
 | [ñ j]=>if inR j=true then ↑(rangeT 0 j.toNat) else none
 | _=>none
def iV:ð4
 | [ä9,ñ j]=>if inR i=true/\inR j=true then ↑(rangeT i (j-i).toNat) else none
 | _=>none
@[simp] def xN (F:ð4) (g:å):å:=fun J=>É3 F
def tI Û5{g:å}{tA:yy}(h:oU g tA):lH b (xN pU g) (YW tA):=λ S Z Y J ts Q hE e hq=>by
 ext æ4;unfold pU at e2;ext Û7
 .ext Û7
  .rename_i hc;cases e2;let#[d,rfl,h1]:=oY r1;cases h1.int;show#[bM hc,á7]
  .cases e2
 .cases e2
def tH Û5{g:å}{tA:yy}(h:oU g tA):lH b (xN iV g) (YV tA):=λ S Z Y J ts Q hE e hq=>by
 ext æ4;unfold iV at e2;ext Û7
 .ext Û7
  .rename_i hc;cases e2;let#[d,d',rfl,h1,h2]:=iI r1;cases h1.int;cases h2.int;show#[#[(bM hc.1).1,(bM hc.1).2,bM hc.2],á7]
  .cases e2
 .cases e2
def wC (is:Õ4) Ï7 (b:Sm):Ä->Ev->À Out
 | [],J=>↑(.nx Ø7)
 | y::ys,J=>(g y Ø7).bind fun J1=>(b J1).bind λ o=>match o with
  | .nx J2=>Ø9
  | .ct J2=>Ø9
  | .bk J2=>↑(.nx (xm is J2))
  | .rt t=>↑(.rt t)
@[simp] def qF (is:Õ4) (f:å) Ï7 (b:Sm):Sm:=fun J=>ĩ λ ts=>wC is g b ts J
def tm {is:Õ4}{fi:å}{ti:qV}ò0{tg:qq}{b:Sm}{tb:xf} [Lo R] (hi:lH true fi ti) (hg:aO g tg) (hb:yu R b tb):yu R (qF is fi g b) (dh ti tg tb):=λ S0 Z0 S Z Y J o E F e P=>by
 let#[ts,e1,e2]:=č;exact hi Ç ts _ F.er e1 λ I S1 s1 r1 hk=>?_;rw[Ñ8] at hk;let#[SB,b1,FB,b2]:=(Î9).rebase;have lo:∀ S' d y,R SB S' Z0 y d->R S0 S' Z0 y d:=λ S' d y r=>Lo.lo b1 (λ _ z=>z) r;have zz:=F.zz;exact#[λ i Y' S'=>∃ Z' J',FR SB Z0 S' Z' Y' J'/\wC is g b (ï4 i) J'=↑o,#[Z,J,FB,e2],λ i Y' S' #[Z',J',F',_]=>hk S' (b2.trans F'.sx),λ i d Y' S' hd #[Z',J',F',e']=>?_,fun Y' S' #[Z',J',F',e']=>?_]
 .let#[y,hy,r2]:=r1.Xi hd;have AZ:=(Ø0 hy).1;have hdt:ï4 i=y::ï4 à8:=by
   rw[ë5,(Ø0 hy).2]
  rw[hdt] at e';unfold wC at e';let#[J1,g1,e']:=AK.mp e';let#[o1,g2,e']:=AK.mp e';exact hg SB Z0 S' Z' Y' _ J1 y d _ (F'.xm is) (á5 (F'.M0 b2 zz) y r2) g1 fun Y2 F2=>?_
  exact hb SB Z0 S' Z' Y2 J1 o1 _ F2 g2 ?_;cases o1 with
  | nx J2=>show ß1
  | ct J2=>show ß1
  | bk J2=>cases e';show λ S3 Z3 Y3 F3=>P S3 Z3 Y3 ((F3.xm is).back b1 F.z0)
  | rt y=>cases e';show λ d S3 s3 r3=>P d S3 (b1.trans s3) (lo Ŗ r3)
 .rw[show ŀ=Ă from r1.len,List.drop_length] at e';unfold wC at e';cases e';show P S' Z' Y' ((F'.xm is).back b1 F.z0)
end
@[simp] def qU Ö Ì9:Sm:=fun J=>match å1 with
 | Ê2=>ĩ λ y=>if Ă<Ó then ↑(.nx (J.set i ↑(.own (ň (ts++[y]))))) else none
 | _=>none
section
variable {Ú1}{Â0}
def t9 Ö è3:yu R (qU i f) (gI (mh ï7 te)):=λ S0 Z0 S Z Y J o E F e P=>by
 unfold qU at e;split at e
 .rename_i ts h;ext Ó6;ext Û7
  .rename_i hl;cases e2;ext Ö0;obtain⟨ds,rfl⟩:∃ ds,ob=ň ds:=by
    cases ob with
    | lst ds=>show#[ds,rfl]
    | _=>show h3.elim
   replace h3:Å5:=h3;change mh ï7 te Y S _;unfold mh yN;rw[h1];exact#[#[ds,h2],hf æ3 ý];ext þ;rw[s1 È h2];have F1:=Î9;exact#[by rw[h3.len];show hl,P _ Z Y (F1.mut (us:=ň (ts++[y])) (es:=ň (ds++[d])) i h h1 ((Á4 (pj s1) ts h3).append (Œ r1 Ú4)))]
  .cases e2
 .cases e
end
def mN Û9 (ti:qV) (g:qq) (tc:xb) (te:zx):zx:=fun Y S Q=>ti Y S λ I S1=>ŀ<=Ó/\(∀ S,Sx S1 S->I.keep S)/\∀ p,S1 p=none->∃ W:Nat->SS->List D->Prop,W 0 S1 []/\
 (∀ i S S' acc,(∀ b o,b≠p->S b=↑o->S' b=↑o)->W i S acc->W i S' acc)/\
 (∀ i d S acc,I.items[i]?=↑d->Sx S1 S->S p=↑(ň acc)->W i S acc->g d Ñ0 S fun Y2 S2=>ix Ñ0 Y2/\tc Y2 S2 λ b S3=>if b=true then te Y2 S3 λ y S4=>Sx S S4/\W à8 S4 (acc++[y]) else Sx S S3/\W à8 S3 acc)/\
 ∀ S2 acc,Sx S1 S2->S2 p=↑(ň acc)->W ŀ S2 acc->Q Ò0 S2
@[simp] def lp Û9 Ú0:Ev:=pick.map λ o=>o.bind λ i=>(å1).join
def ig é8:ð4
 | []=>↑[]
 | y::ys=>(h y).bind λ o=>(ig h ys).map λ zs=>match o with
  | some z=>z::zs
  | none=>zs
@[simp] def ql Û9 Ï7 (c:ā) Ì9 Ú0 (y:T):À (À T):=
 (g y (lp pick J)).bind fun J2=>(c J2).bind λ b=>if b=true then (f J2).map some else ↑none
def y_ Û9 (it:å) Ï7 (c:ā) Ì9:AD:=fun J=>(it J).bind λ ts=>if Ă<=Ó then (ig (ql pick g c f J) ts).map ň else none
@[simp] def xP:ā:=λ _=>↑true
def sf:qJ xP R5:=λ S Z Y J y Q hE e hq=>by cases e;show hq Û
def aQ Û9 Ï7 (t:qq):Prop:=∀ B S Z Y J J' y d Q,Ó3->ix B Y->Î8->ï6->ï5->Ż
def aP Û9 (g:ð3) (t:pC):Prop:=∀ B S Z Y J J' y d Q,Ó3->ix B Y->Î8->ï6->zp Ā y d->Ż
theorem ER.jG Ő Â1{y:T}Ś(h:ï6) (hl:Î8) Ö (r:ï5):ER S Z (Y.set i ↑d) Á6:=by
 exact#[h.zd,λ j t e=>?_,λ j ts e=>?_]
 .ext Ô4
  .cases e;show#[d,gB (by rw[hl];show hl'),r]
  .rw[pK n];show h.im j t e
 .ext Ô4
  .cases e
  .rw[pK n];show h.ow j ts e
variable {pick:List ī}
theorem tT Ö (hi:pick[i]?=↑none:=by rfl):aQ pick (zJ i) á6:=λ B S Z Y J J' y d Q hB hs hl hE r e hq=>by
 cases e;exact hq _ (hE.jG hl i r) #[by rw[zbG];show hs.1,λ j c q=>?_] (by simp[hl]);by_cases hj:i=j
 .subst hj;rw[hB i hi] at q;cases q
 .rw[pK hj];show hs.2 j c q
def tQ:aP pick nR Xc:=λ B S Z Y J J' y d Q hB hs hl hE r e hq=>by
 cases y with
 | nil=>simp![zp] at r;subst r;cases e;show#[rfl,hq _ hE hs hl]
 | cons _ _=>cases e
def tR à3(hg:aQ pick g t) (hh:aP pick h u):aP pick (rY g h) (Xd t u):=λ B S Z Y J J' y d Q hB hs hl hE r e hq=>by
 cases y with
 | nil=>cases e
 | cons y ys=>
  simp![zp] at r;ext Î3;show hg B Ç J1 y c _ hB hs hl hE r1 e1 fun Y1 E1 s1 l1=>hh B S Z Y1 J1 J' ys cs Q hB s1 l1 E1 r2 e2 hq
def tS Ó0{g:ð3}{t:pC}(hg:aP pick g t):aQ pick (o7 n g) (gA n t):=λ B S Z Y J J' y d Q hB hs hl hE r e hq=>by
 cases y with
 | tup ys=>
  ext Ò7
  .rename_i hn;show#[by rw[r.len];show hn,hg B Ç J' ys ds Q hB hs hl hE r e hq]
  .cases e
 | _=>cases e
def UH {J:Ev}Ê7{w:W}(h:(lp pick J)[i]?=↑↑w):∃ j:Nat,pick[i]?=↑↑j/\J[j]?=↑↑w:=by
 unfold lp at h;rw[A9] at h;cases q:pick[i]? with
 | none=>rw[q] at h;cases h
 | some o=>
  rw[q] at h;cases o with
  | none=>simp at h
  | some j=>
   simp![Option.map_some,zC9,Option.some.injEq] at h;exact#[j,rfl,?_];cases q2:J[j]? with
   | none=>rw[q2] at h;cases h
   | some o2=>rw[q2] at h;simp![Option.join_some] at h;rw[h]
def UI {Y:yX}Õ6 Ś(h:pick[i]?=↑↑j) (h':Y[j]?=↑↑d):Ñ0[i]?=↑↑d:=by
 unfold nM;rw[A9,h];simp[h']
def ER.LR Ő Â1(h:ï6):ER S Z Ñ0 (lp pick J):=by
 exact#[h.zd,λ i t e=>?_,λ i ts e=>?_]
 .let#[j,h1,h2]:=UH e;let#[d,h3,h4]:=h.im j t h2;show#[d,UI h1 h3,h4]
 .let#[j,h1,h2]:=UH e;let#[p,ds,h3,h4]:=h.ow j ts h2;show#[p,ds,UI h1 h3,h4]
def ER.hide Ç5 Â1 Ñ5(h:ï6) (s:Ŧ) (hp:á0) (hp':S' p≠none):ER S' (λ a=>Z a\/a=p) Y J:=by
 exact#[λ a z q=>?_,λ i t e=>?_,λ i ts e=>?_]
 .rcases z with z | rfl
  .show h.zd a z (s.none q)
  .show hp' q
 .let#[d,h1,h2]:=h.im i t e;show ç6
 .let#[q,ds,h1,h2,h3,h4]:=h.ow i ts e;show#[q,ds,h1,s È h2,lE.sx (g9 s hp) h3,ģ h4]
def sM {it:å}{ti:qV}ò0{tg:qq}{c:ā}{tc:xb}Â0 Û5(hi:lH b it ti) (hg:aQ pick g tg) (hc:qJ c tc) è3:
  xY (y_ pick it g c f) (mN pick ti tg tc te):=λ S Z Y J y Q hE e hq=>by
 let#[ts,e1,e2]:=č;ext Û7
 case isFalse=>cases e2
 rename_i hlen;let#[zs,e3,rfl]:=Ð8 e2;exact hi Ç ts _ hE e1 λ I S1 s1 r1 hk=>#[by rw[r1.len];show hlen,λ S' s'=>hk S' ?_,λ p hp=>?_]
 .cases b
  .show s'
  .show (gz È).trans s'
 have E1:=Ŷ;have nz:¬ Z p:=λ z=>E1.zd p z hp;exact#[λ i S' acc=>∃ us ws,zp Ç1 us acc/\ig (ql pick g c f J) (ï4 i)=↑ws/\zs=us++ws,#[[],zs,Ú4,e3,rfl],λ i S' S'' acc hh #[us,ws,h1,h2]=>#[us,ws,Á4 (λ a o q=>?_) us h1,h2],λ i d S2 acc hd s2 hacc #[us,ws,h1,h2,h3]=>?_,λ S2 acc s2 hacc #[us,ws,h1,h2,h3]=>?_]
 .ext Å3;rw[oa q1];show hh a o (λ z=>q1 (ń z)) q2
 .let#[x,hx,rx]:=r1.Xi hd;have AZ:=(Ø0 hx).1;have hdt:ï4 i=x::ï4 à8:=by rw[ë5,(Ø0 hx).2]
  rw[hdt] at h2;unfold ig at h2;let#[o,o1,h2]:=AK.mp h2;let#[ws',o2,rfl]:=Ð8 h2;have E2:=(E1.hide s2 hp (by rw[hacc];nofun)).LR (pick:=pick);unfold ql at o1;let#[J2,g1,o1]:=AK.mp o1;let#[bb,g2,o1]:=AK.mp o1;exact hg Ñ0 S2 Ŗ J2 x d _ (λ j hj=>?_) #[rfl,λ _ _ q=>q] (by unfold nM lp;simp) E2 (á5 (g9 s2 hp) x rx) g1 fun Y2 E3 l3 _=>#[l3,?_]
  .unfold nM;rw[A9,hj];rfl
  exact hc S2 _ Y2 J2 bb _ E3 g2 λ S3 s3=>?_;split at o1
  .ext É5;let#[z,g3,rfl]:=Ð8 o1;exact hf S3 _ Y2 J2 z _ (E3.grow s3) g3 λ dz S4 s4 r4=>#[s3.trans s4,us++[z],ws',?_,o2,by rw[h3];simp];show (Á4 (pj (s3.trans s4)) us h1).append (Œ r4 Ú4)
  .ext Ë3;cases o1;show#[s3,us,ws',Á4 (pj s3) us h1,o2,h3]
 .rw[show ŀ=Ă from r1.len,List.drop_length] at h2;cases h2;rw[zaB] at h3;subst h3;exact hq _ S2 Ĳ #[?_,λ vs e=>?_]
  .ext Ô7;show#[acc,ń #[p,rfl,by rw[oa nz];show hacc],Á4 (nq λ a z=>ģ z) zs h1]
  .cases e;show#[p,acc,rfl,s1.none hp,hacc,h1]
mutual
def plainT:T->Bool
 | Ð5=>qC ts
 | ň _=>à
 | .zF È=>à
 | _=>true
def qC:Ä->Bool
 | []=>true
 | Ý2=>plainT t&&qC ts
end
mutual
theorem bf Ç5:∀ (t:T) Ś,plainT t=true->ŉ->Sn S' t d
 | .zA,d,_,q=>ę
 | Ö7,d,_,q=>ę
 | ä9,d,_,q=>ę
 | À6 x,d,_,q=>ę
 | Ð5,d,h,q=>by
  ext Í2;show#[ds,q1,bc ts (by simpa only [plainT] using h) q2]
 | ö,d,h,q=>í2
 | .zF È,d,h,q=>í2
theorem bc Ç5:∀ Ù8 Ë,qC ts=true->â->zp S' ts ds
 | [],ds,_,q=>by simpa only [zp] using q
 | Ý2,ds,h,q=>by
  simp![qC,zE5] at h;ext Ü2;show#[c,cs,q1,bf t h.1 q2,bc ts h.2 q3]
end
def UE {y:T}(h:plainT y=true):∀ ts,y≠ ö:=λ ts e=>by subst e;simp[plainT] at h
class Sr ñ8:Prop extends Lo R where
 sn:∀ Ç5 è2 Ś,Ç2->Ò5
instance:Sr zq:=#[λ h=>h]
instance:Sr zl:=#[λ h=>h.1]
def zM ñ8 (F:AG):q8:=λ ds S Q=>∃ Z ys y,(Á5)/\zp Ā ys ds/\F ys=↑y/\∀ d S',Ŧ->Ç2->Q d S'
def zM.mo Ú1{F:AG}:jw (zM R F):=λ _ _ _ _ hq #[Z,ys,y,h1,h2,h3,h4]=>#[Z,ys,y,h1,h2,h3,λ d S' s r=>hq È (h4 d S' s r)]
@[simp] def k9 (F:AG) (g:å):AD:=fun J=>É3 λ ys=>(F ys).bind λ y=>if plainT y=true then ↑y else none
def ya Ú1 [Lo R] {F:AG}{g:å}{u:yy}(h:jt g u):zN R (zo F g) (jm (zM R F) u):=λ S Z Y J y Q hE e hq=>by
 ext Å4;exact h Ç xs Ŭ;show#[Z,xs,y,(Ŷ).zd,r1,e2,λ d S' s r=>hq d S' (ë4 s) (Cl.cl s1 r)]
theorem kA.free Ő{Z Z':ç}:∀ ē Ë,kA S Z ts ds->(∀ a,Z' a->Z a)->(∀ a,D.ref a∈ds->¬ Z' a)->zp (yp S Z') ts ds
 | [],ds,h,_,_=>by cases h;show Ú4
 | Ý2,ds,h,hz,hn=>by
  ext Í0;exact Œ ?_ (kA.free h2 hz λ a ha=>hn a (AX _ ha));rcases h1 with h1 | ⟨us,p,es,rfl,rfl,h3,h4,_⟩ | ⟨ks,us,p,m,rfl,rfl,h3,h4,h5,_⟩
  .show á5 (nq hz) t h1
  .ext Ô7;show#[es,ń #[p,rfl,ò5],Á4 (nq hz) us h4]
  .ext Ô7;show#[p,m,#[rfl,h4],ò5,Á4 (nq hz) us h5]
def yK Ú1 [Sr R] {F:AG}{g:å}{u:yy}(h:oU g u):xY (k9 F g) (jm (zM R F) u):=λ S Z Y J y Q hE e hq=>by
 ext Å4;let#[y',e4,e3]:=AK.mp e2;split at e3
 .rename_i hp;obtain rfl:y'=y:=by injection e3
  exact h Ç xs Ŭ;exact#[λ a=>Z a/\D.ref a∉ds,xs,_,λ a z=>(Ŷ).zd a z.1,r1.free (λ a z=>z.1) (λ a ha z=>z.2 ha),e4,λ d S' s r=>hq d S' (ë4 s) ?_];show Cl.of (UE hp) (bf _ hp (Sr.sn r))
 .cases e3
@[simp] def qu (N:Ü7) (ys:Ä):Ev:=ys.map (λ y=>↑(.im y))++List.replicate (N.length-Ø8) none
@[simp] def ke:À Out->À T
 | some (.rt y)=>↑y
 | some (.nx _)=>↑.zA
 | _=>none
@[simp] def zR (N:Ü7) Í5 (g:Sm):AG:=λ ys=>if Ø8=n then ke (g (qu N ys)) else none
theorem zM.len Ú1{N:Ü7}Ó0{g:Sm}Ë Ő à4:î4=n:=by
 ext Ó1;split at e
 .rename_i h;rw[r.len];show h
 .cases e
theorem VE {N:Ü7}Ë Ê7 Ś(h:ds[i]?=↑d):(q_ N ds)[i]?=↑↑d:=by
 have hi:=(Ø0 h).1;unfold q_;rw[zaS (å5),A9,h];rfl
theorem iM {N:Ü7}{ys:Ä}Ê7{w:W}(h:(qu N ys)[i]?=↑↑w):∃ y,ys[i]?=↑y/\w=.im y:=by
 unfold qu at h;have hi:i<Ø8:=by
  rcases za8 i Ø8 with q | q
  .show q
  .rw[zbF (by exists q),zb4] at h;split at h <;> cases h
 rw[zaS (å5),A9] at h;cases q:ys[i]? with
 | none=>rw[q] at h;cases h
 | some y=>rw[q] at h;cases h;show#[y,rfl,rfl]
def Q8 Ú1 [Lo R] {N:Ü7}Ó0{g:Sm}{t:xf}(h:yu R g t) Ë Ő à4:t { nx:=λ _ S'=>Q .zA S',rt:=Q } (q_ N ds) S:=by
 ext Ó1;split at e
 case isFalse=>cases e
 obtain⟨o,e1,e2⟩:∃ o,g (qu N ys)=↑o/\ke ↑o=↑y:=by
  cases q:g (qu N ys) with
  | none=>rw[q] at e;cases e
  | some o=>show#[o,rfl,by rw[<- q];show e]
 exact h S Z S Z È o _ #[#[hz,λ i t e=>?_,λ i ts e=>?_],?_,.refl S,hz,λ _ z=>z,λ _ z=>ģ z,λ i ts p e _=>?_,λ i j ts us p _ e _ _ _=>?_] e1 ?_
 .ext Æ2;let#[d,h3,h4]:=r.bW h1;show#[d,VE h3,h4]
 .ext Æ2
 .unfold q_ qu;have:=r.len;simp[this]
 .ext Æ2
 .ext Æ2
 .cases o with
  | rt y'=>cases e2;show λ d S' s r=>hq d S' s r
  | nx J'=>
   cases e2;show λ S' Z' Y' F=>hq .zA S' F.sx (Cl.of á VN)
  | _=>cases e2
def xg ñ7 Ñ6:À T:=Ý4
def ll ñ7 Ñ6 (v:T):û:=
 Ć
section
variable {Ő}
theorem xq.len:∀ È9,Ú8->b.length=a.length
 | [],_,h=>Ê6
 | (k,t)::r,_,h=>by
  let#[d,m,rfl,_,h2]:=h;simp[xq.len h2]
theorem xq.val:∀ È9 Ñ6,Ú8->(xg a k=none/\qa b k=none)\/∃ t d,xg a k=↑t/\qa b k=↑d/\ŉ
 | [],_,k,h=>by cases h;show ģ ç4
 | (j,t)::r,_,k,h=>by
  let#[d,m,rfl,h1,h2]:=h;by_cases e:j=k
  .subst e;show ń #[t,d,by simp[xg],by simp[qa],h1]
  .rcases xq.val k h2 with ⟨g1,g2⟩ | ⟨t',d',g1,g2,g3⟩
   .show ģ #[by simpa [xg,e] using g1,by simpa [qa,e] using g2]
   .show ń #[t',d',by simpa [xg,e] using g1,by simpa [qa,e] using g2,g3]
theorem xq.any:∀ È9 Ñ6,Ú8->(b.any Ð)=a.any Ð
 | [],_,k,h=>Ê6
 | (j,t)::r,_,k,h=>by
  let#[d,m,rfl,h1,h2]:=h;rw[zaA,zaA,xq.any k h2]
theorem xq.lj ñ5{t:T}Ś(r:ŉ):∀ È9,Ú8->xq S (a.map λ kv=>if kv.1=k then (kv.1,t) else kv) (b.map Ã7)
 | [],_,h=>Ê6
 | (j,u)::a,_,h=>by
  let#[e,m,rfl,h1,h2]:=h;rw[AR,AR];by_cases q:j=k
  .rw[Í q,Í q];show#[d,_,rfl,r,xq.lj r h2]
  .rw[É q,É q];show#[e,_,rfl,h1,xq.lj r h2]
theorem xq.snoc ñ5{t:T}Ś(r:ŉ):∀ È9,Ú8->xq S (a++[(k,t)]) (b++ï1)
 | [],_,h=>by cases h;show#[d,[],rfl,r,rfl]
 | (j,u)::a,_,h=>by
  let#[e,m,rfl,h1,h2]:=h;show#[e,_,rfl,h1,xq.snoc r h2]
def xq.put È9(h:Ú8) Ñ6 {t:T}Ś(r:ŉ):xq S (ll a k t) (putD b k d):=by
 unfold ll putD;rw[h.any k];split
 .show xq.lj r h
 .show xq.snoc r h
end
@[simp] def R8 Ö:Sm:=fun J=>↑(.nx (J.set i ↑(.own (.xa []))))
@[simp] def eY Ö Ì9:AD:=fun J=>ĩ λ y=>match å1,y with
 | Ä3,ñ k=>xg Az Ò4
 | _,_=>none
@[simp] def Xy Ö (f g:AD):AD:=fun J=>ĩ λ y=>É3 λ z=>match å1,y with
 | Ä3,ñ k=>↑((xg Az Ò4).getD z)
 | _,_=>none
@[simp] def Xx Ö (f v:AD):Sm:=fun J=>(v J).bind λ z=>ĩ λ y=>match å1,y with
 | Ä3,ñ k=>if Ĵ<Ó then ↑(.nx (J.set i ↑(.own (.xa (ll Az Ò4 z))))) else none
 | _,_=>none
@[simp] def ai Ö:AD:=fun J=>match å1 with
 | Ä3=>↑(ñ Ĵ)
 | _=>none
def bp Ő Â1(hE:ï6) Ê7{Az:û}(h:å1=↑↑(.own á4)):∃ p b,ŵ/\S p=↑(.xa b)/\xq Ā Az b:=by
 let#[p,o,h1,h2,h3,_]:=hE.ow i _ h;cases o with
 | xa b=>show#[p,b,h1,h2,h3]
 | _=>show h3.elim
section
variable {Ú1}{f g v:AD}{ty tx tv:zx}
def t6 Ö:yu R (R8 i) (p9 RW á6):=λ S0 Z0 S Z Y J o E F e P=>by
 cases e;intro p hp;show P Ŗ (F.ZU (ts:=.xa []) (ds:=.xa []) ű i hp mz rfl)
def yI Ö (hf:yV f ty):qA (eY i f) (R_ ï7 ty):=λ S Z Y J y Q hE e hq=>by
 ext ì7;ext Û7
 .rename_i Az k h;ext ĳ;exact hf Ç È hE ý;ext í5;rcases (xq.sx (pj s1) h3).val Ò4 with ⟨g1,_⟩ | ⟨t,d,g1,g2,g3⟩
  .rw[g1] at e2;cases e2
  .rw[g1] at e2;cases e2;show#[p,b,k,d,rfl,rfl,s1 È h2,g2,hq d S1 s1 g3]
 .cases e2
def yJ Ö (hf:yV f ty) (hg:qA g tx):qA (Xy i f g) (RZ ï7 ty tx):=λ S Z Y J y Q hE e hq=>by
 let#[x,e1,e]:=č;let#[z,e2,e3]:=č;split at e3
 .rename_i Az k h;cases e3;ext ĳ;exact#[p,rfl,#[b,h2],hf Ç È hE ý];ext í5;exact hg à2 z _ (Ŷ) e2 λ dz S2 s2 r2=>#[k,b,rfl,Ĳ È h2,?_];rcases (xq.sx (pj Ĳ) h3).val Ò4 with ⟨g1,g2⟩ | ⟨t,d,g1,g2,g3⟩
  .rw[g2];rw[g1] at hq;show hq _ S2 Ĳ r2
  .rw[g2];rw[g1] at hq;show hq _ S2 Ĳ g3
 .cases e3
def t5 Ö (hf:yV f ty) (hv:qA v tv):yu R (Xx i f v) (RY ï7 ty tv):=λ S0 Z0 S Z Y J o E F e P=>by
 let#[z,e1,e]:=č;let#[x,e2,e3]:=č;split at e3
 .rename_i Az k h;split at e3
  .rename_i hl;cases e3;exact hv Ç z _ F.er e1 λ dz S1 s1 r1=>?_;have F1:=Î9;let#[p,b,h1,h2,h3]:=bp F1.er h;change yN i Y S1 _;ext ä4;exact hf à2 È F1.er e2 λ d S2 s2 r2=>?_;cases Vw.int r2;have h4:=xq.sx (pj s2) h3;show#[p,b,k,rfl,rfl,s2 È h2,by rw[h4.len];show hl,P _ Z Y ((F1.grow s2).mut (us:=.xa (ll Az Ò4 z)) (es:=.xa (putD b Ò4 dz)) i h h1 (h4.put _ (á5 (pj s2) z r1)))]
  .cases e3
 .cases e3
def sW Ö:xY (ai i) (qp Rq (nD ï7 l9)):=λ S Z Y J y Q hE e hq=>by
 unfold ai at e;split at e
 .rename_i Az h;cases e;ext ĳ;exact#[p,b,rfl,h2,?_];rw[h3.len];show ş
 .cases e
end
@[simp] def jM Ì9:AD:=fun J=>ĩ λ x=>match x with
 | ä9=>↑(ñ (-i))
 | _=>none
def RM (ta:zx):zx:=fun Y S Q=>ta Y S λ x S1=>match x with
 | ä9=>Q (ñ (-i)) S1
 | _=>Ö4
def sH Â0(h:yV f te):xY (jM f) (RM te):=λ S Z Y J y Q hE e hq=>by
 ext ì5
 .ext í5;cases e2;show hq _ S1 s1 (Cl.of á pH)
 .cases e2
def rC:qX zl i_ Rp:=SK
def rB:qX zl oM Ro:=SK
def nk:Ä->À (Â)
 | []=>↑[]
 | ä9::ts=>(nk ts).map (i::·)
 | _::_=>none
def oB:Ä->À (đ)
 | []=>↑[]
 | Ķ r::ts=>(nk r).bind λ x=>(oB ts).map (x::·)
 | _::_=>none
def zI (r:Â):T:=Ķ (r.map T.int)
theorem eB:∀ ē{is:Â},nk ts=↑is->ts=is.map T.int
 | [],is,h=>Ê6
 | ñ b::ts,is,h=>by
  unfold nk at h;let#[cs,h1,rfl]:=Ð8 h;rw[AR,<- eB h1]
 | .zA::ts,bs,h=>ġ
 | .bl _::ts,bs,h=>ġ
 | À6 _::ts,bs,h=>ġ
 | Ķ _::ts,bs,h=>ġ
 | ň _::ts,bs,h=>ġ
theorem ZZ:∀ ē{rs:đ},oB ts=↑rs->ts=rs.map zI
 | [],is,h=>Ê6
 | Ķ r::ts,is,h=>by
  unfold oB at h;let#[x,h1,h]:=AK.mp h;let#[cs,h2,rfl]:=Ð8 h;rw[AR,<- ZZ h2,eB h1];rfl
 | .zA::ts,bs,h=>ġ
 | .bl _::ts,bs,h=>ġ
 | À6 _::ts,bs,h=>ġ
 | ñ _::ts,bs,h=>ġ
 | ň _::ts,bs,h=>ġ
def bL (is:Â):nk (is.map T.int)=↑is:=by
 induction is with
 | nil=>rfl
 | cons b bs ih=>rw[AR];unfold nk;rw[ih];rfl
def Z_ (rs:đ):oB (rs.map zI)=↑rs:=by
 induction rs with
 | nil=>rfl
 | cons b bs ih=>
  change oB (Ķ (b.map T.int)::bs.map zI)=_;unfold oB;rw[bL,ih];rfl
theorem lV Ő:∀ {is:Â}Ë,zp S (is.map T.int) ds↔ds=is.map D.int
 | [],ds=>by simp![za4,zp]
 | i::is,ds=>by
  rw[AR];simp![zp,Sn];ext ä2
  .rintro⟨c,cs,rfl,rfl,h⟩;rw[lV.mp h];rfl
  .rintro rfl;show#[ä9,_,rfl,rfl,lV.mpr rfl]
theorem iR Ő:∀ {rs:đ}Ë,zp S (rs.map zI) ds↔ds=rs.map oE
 | [],ds=>by simp![za4,zp]
 | r::rs,ds=>by
  rw[AR];simp![zp,zI,Sn];ext ä2
  .rintro⟨c,cs,rfl,⟨es,rfl,h1⟩,h⟩;rw[iR.mp h,lV.mp h1];rfl
  .rintro rfl;show#[oE r,_,rfl,#[_,rfl,lV.mpr rfl],iR.mpr rfl]
@[simp] def OU:T->À Ý9
 | .zA=>↑"NoneType"
 | .bl _=>↑"bool"
 | ñ _=>↑"int"
 | À6 _=>↑"str"
 | Ķ _=>↑"tuple"
 | ň _=>↑"list"
 | .zF È=>none
@[simp] def instS (ty:Ý9) Ì9:AD:=fun J=>ĩ λ x=>(OU x).map λ t=>.bl (rh t ty)
def sP {ty:Ý9}Â0(hf:yV f te):xY (instS ty f) (gH ty te):=λ S Z Y J y Q hE e hq=>by
 ext ì7;let#[n,e3,rfl]:=Ð8 e2;exact hf Ç x _ hE ý;have key:jE d S1=↑n:=by
  rw[<- e3];cases x with
  | zA=>cases Vw.zA r1;rfl
  | bl _=>ext ê5;rfl
  | int _=>ext í5;rfl
  | str _=>cases Vw.str r1;rfl
  | tup _=>let#[ds,rfl,_]:=Vw.tup r1;rfl
  | lst _=>
   ext ō
   .rfl
   .unfold jE;ext þ;rw[h1];rfl
  | zF _ _=>cases e3
 rw[key];show Þ0
@[simp] def isNone:T->Bool
 | .zA=>true
 | _=>à
def gm:D->Bool
 | .zA=>true
 | _=>à
def zt (p:Å9):T:=Ķ [ñ p.1,ñ p.2]
def x_ (ns:Â):T:=ň (ns.map ñ)
@[simp] theorem zaa:Ó=16777216:=rfl
def He Ó0(h:n<=10000):n<=Ó:=A7 h ()
theorem qf Ċ ò1 æ0{x:α}(h:xs[k]?=↑x):è9 xs (k:Int)=↑x:=by
 unfold è9 L2.qc;have hk:=(Ø0 h).1;rw[Í ⋯,Í ⋯];exists h
@[simp] theorem QO Ċ ò1{x:α}:è9 (xs++[x]) (-1)=↑x:=by
 unfold è9 L2.qc;rw[É ⋯,Í (Æ9)];have:(-1+((xs++[x]).length:Int)).toNat=í:=Æ9
 rw[zC9,this];simp
@[simp] theorem zah Ċ{x:α}ò1:è9 (x::xs) 0=↑x:=qf (k:=0) rfl
@[simp] theorem zag Ċ{x y:α}ò1:è9 (x::y::xs) 1=↑y:=qf (k:=1) rfl
@[simp] theorem zaf Ċ{x y z:α}ò1:è9 (x::y::z::xs) 2=↑z:=qf (k:=2) rfl
@[simp] theorem zae Ċ{x y z w:α}ò1:è9 (x::y::z::w::xs) 3=↑w:=qf (k:=3) rfl
theorem X3 Ċ Ñ7 (g:α->À T) é8:∀ (xs:Į),(∀ x∈xs,h (enc x)=↑(g x))->ig h (ħ enc)=↑(xs.filterMap g)
 | [],_=>rfl
 | x::xs,hh=>by
  rw[AR];unfold ig;rw[hh x AU,X3 enc g h xs λ y hy=>hh y (AX _ hy)];cases q:g x <;> simp[q]
def Dt Ċ Ñ7 (g:α->T) é8 (xs:Į) (hh:∀ x∈xs,h (enc x)=↑↑(g x)):ig h (ħ enc)=↑(ħ g):=by
 rw[X3 enc (λ x=>↑(g x)) h xs hh];simp
def rg Ċ Ñ7 (h:α->T) ŝ
  (hh:∀ x∈xs,ql pick g c f J (enc x)=↑↑(h x)):y_ pick it g c f J=↑(ň (ħ h)):=by
 unfold y_;rw[hi,zC9,Í (by rw[AQ];show hl),Dt enc h _ xs hh];rfl
def Hu Ċ Ñ7 (h:α->À T) ŝ
  (hh:∀ x∈xs,ql pick g c f J (enc x)=↑(h x)):y_ pick it g c f J=↑(ň (xs.filterMap h)):=by
 unfold y_;rw[hi,zC9,Í (by rw[AQ];show hl),X3 enc h _ xs hh];rfl
section
variable {Ċ}{is:Õ4}{ò0}{b:Sm}
def turn Ï7 (b:Sm) (y:T) Ú0:À Out:=(g y J).bind b
theorem jO (y:T) (ys:Ä) Ú0:wC is g b (y::ys) J=(turn g b y Ø7).bind λ o=>match o with
  | .nx J2=>Ø9
  | .ct J2=>Ø9
  | .bk J2=>↑(.nx (xm is J2))
  | .rt t=>↑(.rt t):=by
 unfold turn;rw[wC];cases g y Ø7 <;> rfl
theorem T3 Ñ7 (I:Į->Ev->Prop):∀ (xs:Į) (pre:Į) Ú0,I pre Ø7->
  (∀ p x q,pre++xs=p++x::q->Â9)->∃ J',ã7/\I (pre++xs) J'
 | [],pre,J,h,_=>#[xm is J,by rw[za4,wC],à7]
 | x::xs,pre,J,h,hs=>by
  let#[J',h1,h2]:=hs pre x xs rfl _ h;rw[AR,jO,h1];have ih:=T3 enc I xs (pre++[x]) J' h2 λ p y q e=>hs p y q (by rw[<- e];simp);exists ih
def nS Ñ7 (I:Į->Ev->Prop) (xs:Į) Ú0 (h:I [] Ø7)
  (hs:∀ p x q,xs=p++x::q->Â9):∃ J',ã7/\I xs J':=T3 enc I xs [] J h hs
def Uo (lo:Int) Í5:rangeT lo n=Õ8:=rfl
end
theorem cW Í5 (h:n<=100000):pU [ñ (n:Int)]=↑((ă n).map λ(k:Nat)=>T.int (0+(k:Int))):=by
 change (if inR (n:Int)=true then ↑(rangeT 0 (n:Int).toNat) else none)=_;rw[Í (SA.mpr #[⋯,⋯])];rfl
def jC (a:Key) (b:T) ñ7 (j:Key):xg (ï2) j=if a=j then ↑b else xg Az j:=by
 by_cases h:a=j <;> simp[xg,h]
theorem Vm ò6:∀ Az:û,xg (Az.map Ã7) j=(xg Az j).map λ x=>if j=k then d else x
 | []=>rfl
 | ï2=>by
  have ih:=Vm k j d Az;rw[AR];by_cases hk:a=k
  .rw[Í hk,jC,jC,ih];by_cases hj:a=j
   .subst hj;subst hk;simp
   .rw[É hj,É hj]
  .rw[É hk,jC,jC,ih];by_cases hj:a=j
   .subst hj;simp[hk]
   .rw[É hj,É hj]
theorem Vl ò6:∀ Az:û,(∀ kv∈Az,¬ kv.1=k)->xg (Az++ï1) j=if j=k then ↑d else xg Az j
 | [],_=>by
  change xg ï1 j=_;rw[jC];by_cases h:j=k
  .subst h;simp
  .rw[É h,É (λ z=>h z.symm)]
 | ï2,hn=>by
  have ih:=Vl k j d Az λ kv hkv=>hn kv (AX _ hkv);have ha:¬ a=k:=hn (a,b) AU;change xg ((a,b)::(Az++ï1)) j=_;rw[jC,jC,ih];by_cases hj:a=j
  .subst hj;simp[ha]
  .rw[É hj,É hj]
def QU ñ7 Ñ6:Ð6=(xg Az k).isSome:=by
 unfold xg;rw[zbZ,zC7,zD0,List.find?_isSome]
def OK ñ7 ò6:xg (ll Az k d) j=if j=k then ↑d else xg Az j:=by
 unfold ll;split
 .rename_i h;rw[QU] at h;rw[Vm];by_cases hj:j=k
  .subst hj;let#[x,hx]:=zbU.mp h;simp[hx]
  .simp[hj]
 .rename_i h;show Vl k j d Az λ kv hkv z=>h (zD0.mpr #[kv,hkv,za3 z])
def Hi ñ7 Ñ6 (d:T):(ll Az k d).length=if (xg Az k).isSome=true then Ĵ else Ĵ+1:=by
 have e:=QU Az k;unfold ll;rw[e];split <;> simp
def o_ (p:Å9):Â:=[p.1,p.2]
def lU Ë9:Ï:=(L4.qb á8).map λ r=>Î1
def VJ Ë9:(lU ps).map o_=L4.qb á8:=by
 unfold lU;rw[A4]
 conv=>rhs;rw[<- List.map_id (L4.qb á8)]
 exact zaD λ r hr=>?_;let#[p,_,rfl]:=AO.mp ((L4.lh _).mem_iff.mp hr);rfl
def ZO Ë9:(lU ps).Perm ps:=by
 have h:=L4.lh á8;have:(lU ps).Perm ((É7 o_).map λ r=>Î1):=h.map _
 rwa [A4,show ((λ r:Â=>Î1) ∘ o_)=id from rfl,List.map_id] at this
def gf (p q:Å9):Prop:=p.1<q.1\/(p.1=q.1/\p.2<=q.2)
def VI Ë9:(lU ps).Pairwise gf:=by
 have h:=L4.cP á8;rw[<- VJ,zaU] at h;exact h.imp λ{p q} hpq=>?_;unfold o_ at hpq;rw[HT.kW,HT.kW] at hpq;unfold gf;by_cases e:q.1=p.1
 .rw[Í e] at hpq;by_cases e2:q.2=p.2
  .lia
  .rw[É e2] at hpq;have:=Ŵ hpq;lia
 .rw[É e] at hpq;have:=Ŵ hpq;lia
def MH Ë9:oB (É7 zt)=↑ á8:=by
 have:=Z_ á8
 rwa [A4,show zI ∘ o_=zt from rfl] at this
def oy (q p:Å9):Bool:=È3 (p.1<=q.1)&&È3 (p.2<=q.2)
def zZ Ë9 (q:Å9):Bool:=ps.any (oy q)
def xo {ps:Ï}{q:Å9}:zZ ps q=true↔∃ p∈ps,p.1<=q.1/\p.2<=q.2:=by
 unfold zZ oy;simp[zD0]
def Dm {ps qs:Ï}(h:ps.Perm qs) (q:Å9):zZ ps q=zZ qs q:=by
 rw[zC7,xo,xo];show#[λ#[p,h1,h2]=>#[p,h.mem_iff.mp h1,h2],λ#[p,h1,h2]=>#[p,h.mem_iff.mpr h1,h2]]
def Dp (ps qs:Ï) (q:Å9):zZ (ps++qs) q=(zZ ps q||zZ qs q):=by
 unfold zZ;rw[List.any_append]
def nG Ë9:Prop:=ps.Pairwise λ p q=>p.1<q.1/\q.2<p.2
theorem nG.eq:∀ {ps qs:Ï},nG ps->nG qs->(∀ q,zZ ps q=zZ qs q)->ps=qs
 | [],[],_,_,_=>rfl
 | [],q::qs,_,_,h=>by
  have:=h q;rw[show zZ [] q=à from rfl] at this;have h2:zZ (q::qs) q=true:=ã8;rw[h2] at this;cases this
 | p::ps,[],_,_,h=>by
  have:=h p;rw[show zZ [] p=à from rfl] at this;have h2:zZ (p::ps) p=true:=xo.mpr Î2;rw[h2] at this;cases this
 | p::ps,q::qs,hp,hq,h=>by
  have hp1:=za9.mp hp;have hq1:=za9.mp hq;have a1:∃ r∈q::qs,r.1<=p.1/\r.2<=p.2:=xo.mp (by rw[<- h];show xo.mpr Î2);have a2:∃ r∈p::ps,r.1<=q.1/\r.2<=q.2:=xo.mp (by rw[h];show ã8);let#[r,hr,r1,r2]:=a1;let#[u,hu,u1,u2]:=a2;have qr:q.1<=r.1:=by
   rcases Ö3 hr with e | e
   .subst e;show zC6 _
   .show Int.le_of_lt (hq1.1 r e).1
  have pu:p.1<=u.1:=by
   rcases Ö3 hu with e | e
   .subst e;show zC6 _
   .show Int.le_of_lt (hp1.1 u e).1
  have e1:p.1=q.1:=⋯;have er:r=q:=by
   rcases Ö3 hr with e | e
   .show e
   .have:=(hq1.1 r e).1;lia
  have eu:u=p:=by
   rcases Ö3 hu with e | e
   .show e
   .have:=(hp1.1 u e).1;lia
  subst er eu;have e2:u.2=r.2:=⋯;have epq:u=r:=Prod.ext e1 e2;subst epq;rw[nG.eq hp1.2 hq1.2 λ x=>?_];have hx:=h x;unfold zZ at hx ⊢;rw[zaA,zaA] at hx;cases g:oy x u with
  | à=>rw[g] at hx;exists hx
  | true=>
   have gx:u.1<=x.1/\u.2<=x.2:=by simpa [oy] using g
   have key:∀ {l:Ï},(∀ v∈l,u.1<v.1/\v.2<u.2)->l.any (oy x)=l.any (oy (x.1,u.2-1)):=by
    intro l hl;rw[zC7,zD0,zD0];ext ä2
    .ext ê6;have hg':v.1<=x.1/\v.2<=x.2:=by simpa [oy] using hg
     show ê4
    .ext ê6;have hg':v.1<=x.1/\v.2<=u.2-1:=by simpa [oy] using hg
     show ê4
   rw[key hp1.1,key hq1.1];have hy:=h (x.1,u.2-1);unfold zZ at hy;rw[zaA,zaA] at hy;have gn:oy (x.1,u.2-1) u=à:=by
    unfold oy;rw[show È3 (u.2<=(x.1,u.2-1).2)=à from zcQ (by change ¬ u.2<=u.2-1;lia),zaT]
   rw[gn] at hy;exists hy
def lB (l:À Int) (x:Int):Bool:=match l with
 | none=>true
 | some m=>È3 (x<m)
def xF:Ï->À Int->Ï
 | [],_=>[]
 | p::ps,l=>if lB l p.2=true then p::xF ps ↑p.2 else xF ps l
def ox Ë9:Ï:=xF (lU ps) none
theorem eI:∀ Ë9 (l:À Int) (q:Å9),q∈xF ps l->q∈ps/\∀ m,l=↑m->q.2<m
 | [],l,q,h=>by simp[xF] at h
 | p::ps,l,q,h=>by
  unfold xF at h;split at h
  .rename_i c;have hm:∀ m,l=↑m->p.2<m:=λ m e=>by subst e;simpa [lB] using c
   rcases Ö3 h with e | e
   .subst e;show#[AU,hm]
   .let#[h1,h2]:=eI ps _ q e;show#[AX _ h1,λ m e=>by have:=h2 _ rfl;have:=hm m e;lia]
  .let#[h1,h2]:=eI ps _ q h;show#[AX _ h1,h2]
theorem Xe:∀ Ë9 (l:À Int),ps.Pairwise gf->nG (xF ps l)
 | [],l,_=>by simp[xF,nG]
 | p::ps,l,h=>by
  have h1:=za9.mp h;unfold xF;split
  .exact za9.mpr #[λ q hq=>?_,Xe ps _ h1.2];let#[g1,g2]:=eI ps _ q hq;have:=h1.1 q g1;have:=g2 _ rfl;unfold gf at *;lia
  .show Xe ps _ h1.2
theorem Xf:∀ Ë9 (l:À Int),ps.Pairwise gf->∀ p∈ps,(∃ q∈xF ps l,q.1<=p.1/\q.2<=p.2)\/∃ m,l=↑m/\m<=p.2
 | [],l,_,p,hp=>by cases hp
 | r::ps,l,h,p,hp=>by
  have h1:=za9.mp h;unfold xF;split
  .rename_i c;rcases Ö3 hp with e | e
   .subst e;show ģ Î2
   .rcases Xf ps ↑r.2 h1.2 p e with ⟨q,q1,q2⟩ | ⟨m,e1,e2⟩
    .show ģ #[q,AX _ q1,q2]
    .cases e1;have:=h1.1 p e;unfold gf at this;show ģ #[r,AU,⋯,e2]
  .rename_i c;rcases Ö3 hp with e | e
   .subst e;cases l with
    | none=>simp[lB] at c
    | some m=>show ń #[m,rfl,by simpa [lB] using c]
   .show Xf ps l h1.2 p e
def YN Ë9:nG (ox ps):=Xe È (VI ps)
def Hk {ps:Ï}{q:Å9}(h:q∈ox ps):q∈ps:=(ZO ps).mem_iff.mp (eI È q h).1
theorem h_ Ë9 (q:Å9):zZ (ox ps) q=zZ ps q:=by
 rw[<- Dm (ZO ps) q,zC7,xo,xo];ext ä2
 .rintro⟨p,h1,h2⟩;show#[p,(eI È p h1).1,h2]
 .rintro⟨p,h1,h2⟩;rcases Xf (lU ps) none (VI ps) p h1 with ⟨r,r1,r2⟩ | ⟨m,e,_⟩
  .show#[r,r1,⋯,⋯]
  .cases e
end L5
namespace L2
open è5 Ú6 Ť
section
variable {Ì8}
def U7 (K:AB):R2:=λ x y H Q=>∃ l b xs zs,x=Ý l/\y=Ý b/\y4 K H l xs/\y4 K H b zs/\í+zs.length<=Ó/\∀ p,H p=none->Q Ò0 (upd H p (ň (xs++zs)))
theorem Jz:yO X (binaryOp .Add) (U7 X.K):=by
 ext É6;let#[l,b,xs,zs,rfl,rfl,hH,hB,hz,q]:=h;cases rx;cases ry;let#[its,r,p1,_]:=I.list hH;let#[its2,r2,p2,_]:=I.list hB;let#[#[cls,dd,data,sl],ho,hc,n,hd]:=p1.isList;let#[ð5,ho2,hc2,n2,hd2]:=p2.isList;ext â9;have e:its.toArray++its2.toArray=(its++its2).toArray:=#[];exact concat_meets ì8 noFill_list_add seq_list_add PySem.F.slot_list_add PySem.F.entry_list_add (PySem.F.args_list_add_2 È) (list_addW l Ô5 (by rw[A6,A6,<- r.length,<- r2.length];show hz)) #[ho,ho2,?_];rw[e];show#[Ý _,_,I.Hb (t':=s.toks) (r.append r2) (by rw[zD7];lia),rfl,q _ I.fresh]
def U5 (K:AB):R2:=λ x y H Q=>∃ a b ys,x=ä6/\y=Ý b/\yz K H a []/\yz K H b ys/\Q (Ý b) H
theorem Jx:yO X (binaryOp .Add) (U5 X.K):=by
 ext É6;let#[l,b,ys,rfl,rfl,hH,hB,q]:=h;cases rx;cases ry;let#[its,r,p1,_]:=ä8 hH;let#[its2,r2,p2,_]:=ä8 hB;let#[#[cls,dd,data,sl],ho,hc,n,hd]:=id p1;let#[ð5,ho2,hc2,n2,hd2]:=id p2;ext â9;show concat_meets ì8 noFill_tuple_add seq_tuple_add PySem.F.slot_tuple_add PySem.F.entry_tuple_add (PySem.F.args_tuple_add_2 È)
   (tuple_addW0 l Ô5 (by cases r;rfl)) #[ho,ho2,#[Ý b,H,I,rfl,q]]
end
end L2
namespace L5
open è5 Ú6 L2 L3
open Ť hiding St
section
variable {Ì8}{K:AB}{a b c e:Expr}{es:î2}{ta tb tc te:zx}{tA:yy}{pos p:Pos}
def md.mo:rZ md:=λ x y S Q Q' hq h=>by
 cases x with
 | int i=>cases y <;> first | show hq È h | show h
 | str i=>ext æ6
 | tup i=>ext æ6
 | qv ds=>
  ext à5
  .show Ñ1
  .show á9
 | ref q=>
  ext à5
  .show Ñ1
  .show á9
 | _=>show h
def kN ż Ő Ś{v:V}Ë Æ8 (p:yq K H S) (e:ç2) (n:∀ ts,d≠ Ð5):∃ a xs,v=ä6/\y4 K H a xs/\zu K H ds xs:=by
 unfold yx at e;split at e
 .show È2 rfl (n _)
 .cases e;ext Ê3;let#[a,xs,h1,h2,h3]:=r;show#[a,xs,h1,h2.sq,h3]
 .split at e
  .rename_i q;cases e;ext Ê3;subst r;let#[xs,h1,h2]:=p È q;show#[_,xs,rfl,y4.of h1,h2]
  .cases e
 .cases e
abbrev U8 (K:AB):R2:=λ x y H Q=>oI (λ i j=>ñ (i+j)) x y H Q\/((∃ i j,x=À6 i/\y=À6 j/\Ø5/\Q (À6 (i++j)) H)\/(U7 K x y H Q\/(U5 K x y H Q\/U6 K x y H Q)))
def md.fits:rO K md (U8 K):=λ x y d e H S Q h1 h2 h3 h=>by
 have lst:(∀ ts,d≠ Ð5)->(match yx d S,yx e S with
  | some ds,↑es=>(∀ ts,e≠ Ð5)/\Ð9/\∀ r,S r=none->qS K H Q (Ý r) (ups S r (ň (ds++es)))
  | _,_=>Ö4)->U8 K x y H Q:=λ n h=>by
  split at h
  .rename_i ds es q1 q2;let#[a,xs,rfl,g1,g2]:=kN h1 h3 q1 n;let#[b,ys,rfl,g3,g4]:=kN h2 h3 q2 h.1;exact ń (ń (ģ #[a,b,xs,ys,rfl,rfl,g1,g3,by rw[<- g2.length,<- g4.length];show h.2.1,λ p hp=>?_]));show h.2.2 p (h3.none hp) È (Ģ) ű (h3.ups ű #[_,yR,zu.ext ű _ (g2.append g4)])
  .show á9
 cases d with
 | int i=>
  cases e with
  | int j=>
   simp![zj] at h1 h2;show ģ #[_,_,h1,h2,h À7 h3]
  | _=>show á9
 | str i=>
  cases e with
  | str j=>
   simp![zj] at h1 h2;show ń (ģ #[_,_,h1,h2,h.1,h.2 À7 h3])
  | _=>show á9
 | tup ds=>
  cases e with
  | tup es=>
   have h1':=h1;have h2':=h2;simp![zj] at h1 h2;let#[a,xs,rfl,g1,g2]:=h1;let#[b,ys,rfl,g3,g4]:=h2;have hl:=g2.length;have hl':=g4.length;by_cases hx:xs=[]
   .subst hx;have:ds=[]:=by cases ds <;> simp_all
    ext Û3;show ń (ń (ń (ģ #[a,b,ys,rfl,rfl,g1,g3,h.2 _ H h2' (.refl H) h3])))
   .exact ń (ń (ń (ń #[a,b,xs,ys,rfl,rfl,g1,g3,hx,by rw[<- hl,<- hl'];show h.1,λ hy=>?_,λ hy p hp=>?_])))
    .subst hy;have:es=[]:=by cases es <;> simp_all
     ext Û3;exact h.2 _ H ?_ (.refl H) h3;rw[zaB];show h1'
    .exact h.2 È ?_ ű (h3.new hp);simp![zj];show#[p,_,rfl,yz.of yR,zu.ext ű _ (g2.append g4)]
  | _=>show á9
 | qv ds=>show lst á h
 | ref q=>show lst á h
 | _=>show á9
def uT é9:PD X (.BinOp a .Add b pos) (yW md ta tb):=kQ (J2.or (J1.or (Jz.or (Jx.or Jy)))) md.fits md.mo ha hb
def nA.mo {g:ð0}:qK (nA g):=λ ds S Q Q' hq h=>by
 unfold nA at h ⊢;split at h
 .show á9
 .let#[bs,h1,h2]:=h;show#[bs,h1,hq È h2]
 .show á9
def nA.fits {g:ð0}:pO K (nA g) (λ xs H Q=>∃ p,∃ bs:Ê4,xs=[Ý p]/\y4 K H p (bs.map V.bl)/\Q (.bl (g bs)) H):=λ xs ds H S Q h0 h2 h=>by
 unfold nA at h;split at h
 .show á9
 .rename_i d hn;let#[x,hx,h1]:=h0.one;subst hx;let#[bs,e,h]:=h;let#[a,ys,rfl,g1,g2]:=kN h1 h2 e (λ ts z=>hn ts z);rw[g2.bools] at g1;show#[a,bs,rfl,g1,h À7 h2]
 .show á9
def uS (hm:X.mg "all"=none) Ė È0 (hg:Gl X "all") Þ:PD X (Þ9 (ŗ "all" p) Ţ) (qp (nA λ bs=>bs.all id) tA):=
 m6 (l_ (Cf hc) hg hm boot_all Ō) nA.mo nA.fits ha.mo
def uP (hm:X.mg "any"=none) Ė È0 (hg:Gl X "any") Þ:PD X (Þ9 (ŗ "any" p) Ţ) (qp (nA λ bs=>bs.any id) tA):=
 m6 (l_ (Ce hc) hg hm boot_any Ō) nA.mo nA.fits ha.mo
def Ss ż Ś{v:V}Æ8:È3 (v=.zA)=gm d:=by
 cases d with
 | tup _=>ext è4
 | qv _=>ext è4
 | _=>ext Ê3;subst r;rfl
theorem vW (ha:PD X a ta):PD X (.UnaryOp .USub a pos) (RM ta):=by
 exact#[fun Y S Q Q' hq h=>ha.mo Y S È (λ x S1 z=>by
  cases x <;> first
   | show hq È z
   | show z) h,PE.imp (Km OS ha.pe) Ö5]
 let#[Y,S,r1,r2,h]:=hu;exact zU.go ha.mo r1 r2 h λ x S1 v H1 h1 q1 e1 p1=>?_;cases x with
 | int i=>simp![zj] at q1;show#[i,q1,h1 _ H1 (Ģ) e1 p1]
 | _=>show h1.elim
section
variable {N':Ü7}{pick:List ī}{scope:Scope}{tg elt iter:Expr}{ifs:î2}{ti:qV}{g:qq}{tcc:xb}
def mN.mo (hi:aU ti):y8 Ç3:=fun Y S Q Q' hq z=>hi Y S È (λ I S1 #[h1,h2,h3]=>#[h1,h2,λ p hp=>by
 let#[W,w0,w1,w2,w3]:=h3 p hp;show#[W,w0,w1,w2,λ S2 acc a b c=>hq È (w3 S2 acc a b c)]]) z
theorem Vt (hi:aU ti) (hg:aV g) (hc:pM tcc) (he:y8 te) {B:St}ż{Q:VK}(hu:zU K Ç3 B H Q):ZE pick (oq K ti) (cy K g) (qL K tcc) (zU K te) B H Q:=by
 ext ĝ;exact#[Y,S,r1,r2,hi Y S È (λ I S1 hF J H1 e1 p1 rep D hD=>?_) z];let#[hlen,hk,hF]:=hF;have hS1:S1 D=none:=p1.none hD;let#[W,w0,wm,wstep,wfin]:=hF D hS1;exact#[λ i m B H2=>m=ŀ-i/\i<=ŀ/\Ext H1 H2/\xH K H2 Ñ0 B/\∃ S2 acc,yq K H2 S2/\Sx S1 S2/\S2 D=↑(ň acc)/\acc.length<=i/\W i S2 acc,#[_,rfl,zD4 _,.new hD _,((Î7).pick pick).ext (.new hD _),ups S1 D (ň []),[],?_,.new hS1 _,mz,AM _,?_],?_]
 .show p1.ups (.new hD _) #[[],yR,Ú4]
 .show wm 0 S1 _ [] ç0 w0
 rintro i m B2 H2 ⟨rfl,hi',x2,q1,S2,acc,q2,sx,hS2,hacc,hW⟩;let#[g1,g2]:=rep i H2 S2 x2 q2 (hk S2 sx);by_cases hl:i<ŀ
 .have hd:I.items[i]?=↑I.items[i]:=by simp[hl]
  let#[go,yl]:=g1 _ hd;exact ń #[go,λ x H3 hy=>?_];let#[x3,p3,d3]:=yl x H3 hy;exact#[_,_,S2,d3,q1.ext x3,p3,hg È S2 È (fun Y4 S4 z4 B4 H4 a1 a2 a3=>?_) (wstep i _ S2 acc hd sx hS2 hW)];let#[hle,z4]:=z4;exact qL.go hc a1 a3 z4 λ b S5 H5 z5 x5 p5=>qP (λ z5=>?_) (λ z5=>?_) z5
  .exact zU.go he (a1.ext x5) p5 z5 λ y S6 v H6 z6 q6 x6 p6=>?_;let#[s6,hW6]:=z6;let#[ys,h6,r6]:=p6 È (s6 È hS2);have e6:Ext H6 (upd H6 D (ň (ys++[v]))):=ň h6 _;have hlen2:Ø8<=i:=by rw[<- r6.length];show hacc
   exact#[ys,ŀ-à8,h6,⋯,⋯,rfl,hl,((ã1).trans x6).trans e6,hle.rep ((a1.ext (x5.trans x6)).ext e6),ups S6 D (ň (acc++[y])),acc++[y],?_,λ b o hb=>?_,mz,Æ9,?_]
   .show p6.ups e6 #[_,yR,zu.ext e6 _ (r6.snoc q6)]
   .rw[mY (by intro q;subst q;rw[hS1] at hb;cases hb)];show s6 È (sx È hb)
   .show wm _ S6 È ç0 hW6
  .let#[s5,hW5]:=z5;show#[ŀ-à8,⋯,rfl,hl,ã1,hle.rep (a1.ext x5),S5,acc,p5,sx.trans s5,s5 È hS2,⋯,hW5]
 .have e:i=ŀ:=⋯;subst e;show ģ #[g2 í7,wfin S2 acc sx hS2 hW _ H2 (Ģ) (e1.trans x2) q2]
def KQ ß
  Ï8:
  PD X Ř Ç3:=
 #[mN.mo hi.mo,λ gV s B H Q I hu=>Kx ÿ hs gV s B H Q I (Vt Å0 hu)]
def KG Ê7{y:Str}{py spos:Pos}ß
  (hN:X.N.Nodup) (hy:X.N[i]?=↑y) (hx:Loc X.env.scope y)
  (hsw:swapsWith Ř ↑(ŗ y py) spos.line Á3=pure true)
  (hfn:X.fn y=true\/X.env.scope.names.lookup y=↑.local)
  Ï8:
  zw X (.Assign [ŗ y py] Ř spos) (p9 Ç3 á6):=by
 exact#[p9.mo (mN.mo hi.mo) λ _ _ _ _ _ hq z=>hq È z,λ gV s B H D I hu=>L8 ÿ hN hy hx hsw hfn hs gV s B H D I ?_];ext ĝ;exact Vt Å0 #[Y,S,r1,r2,mN.mo hi.mo Y S È (λ x S1 z v H1 q1 e1 p1=>?_) z];show z _ H1 ((Î7).set i q1) e1 p1
end
end
section
variable {ĸ}{K:AB}{mg:A0}{base:Heap}{f:Addr}{fd:FuncData}
def Rf Â5 Ý6
  é:qY é5 xj (k+1) f fd ps (pR K (zM R (zR N n g))):=
 bZ F Sc (λ ds S Q h=>by rw[h.len,hn]) λ AF A outer s H E hr=>by
  let#[t,h1,h2]:=hbody AF A outer s H E hr;show#[t,h1,λ ds S Q h=>Q8 h2 h]
def Ex Â5 (hm:mg x=↑(Ý f)) Ý6
  (hb:∀ (kV doc pm:ú) (an:À Addr) (AF ct:ú) (us:AI),Ä1=ps.length->bindArgs (PySem.W.fnOf x x (nC st) (xV st) (yk st) .none kV doc pm an AF ct) #[us,[]]=pure (ps.zip us))
  é:FD é5 x (k+1) ps (zM R (zR N n g)):=
 #[#[f,fd,Rf F Sc hn hbody,hm,F.kp,F.binds hb],zM.mo]
def Hz Ú1 [Sr R] {F:AG}(hF:∀ ns:Â,ns.length<=63->F [ň (ns.map T.int)]=↑(.bl true)) ż ĕ{ns:Â}{E:XK}(hO:aM H) (hS:y4 K H a (ns.map V.int)) (hl:ns.length<=63):pR K (zM R F) [ä6] H (λ v _=>v=.bl true) E:=by
 have hFz:gO K H a (ns.map V.int):=by
  rcases hS with (h | h) | h
  .rcases hO a with z | ⟨o,xs,z⟩
   .rw[h] at z;cases z
   .rw[h] at z;cases z
  .show ģ h
  .show ń h
 exact#[[.qv (ns.map D.int)],λ _=>none,Œ ?_ Ú4,(λ a o z=>nomatch z),λ _=>Ö4,[ň (ns.map T.int)],.bl true,nofun,Œ ?_ Ú4,hF ns hl,λ d S' s r v H' rv _ _=>?_]
 .simp![zj];show#[a,_,rfl,hFz,zu.Y3 ns]
 .ext Ô7;show#[_,ģ #[rfl,J4 ns],lV.mpr rfl]
 .have:=Sr.sn r;simp![Sn] at this;ext Û3;simpa only [zj] using rv
end
end L5
namespace ST
open è5 PySem.SetTable
def mT (xs:Õ4):Prop:=xs.Pairwise (· < ·)
def Xh {xs:ų}{m d:Nat}(h:m<À9):xs.getD m d=xs[m]:=by simp[Array.getD,h]
theorem XW (xs:ų) (j:Nat) Ï9:∀ (f lo hi:Nat),hi-lo<=f->lo<=hi->hi<=À9->(∀ i ã4,i<lo->xs[i]<j)->(∀ i ã4,hi<=i->j<=xs[i])->
  Ù0<=À9/\(∀ i ã4,i<Ù0->xs[i]<j)/\∀ i ã4,Ù0<=i->j<=xs[i]
 | 0,lo,hi,h1,h2,h3,h4,h5=>by
  unfold below.go;ext Þ6
 | f+1,lo,hi,h1,h2,h3,h4,h5=>by
  unfold below.go;have pV:∀ i k (hi:i<À9) (hk:k<À9),i<=k->xs[i]<=xs[k]:=λ i k hi hk hik=>by
   rcases za8 i k with q | q
   .have r:=zbL.mp hr i k (å5) (by exists hk) q;rw[zaX,zaX] at r;show zE3 r
   .have:i=k:=⋯;ext Û3;show AM _
  by_cases hl:lo<hi
  .rw[Í hl];ext þ;have hm:(lo+hi)/2<À9:=⋯;rw[Xh hm];by_cases c:xs[(lo+hi)/2]<j
   .rw[Í c];exact XW xs j hr f _ hi ë h3 (λ i hi' AZ=>?_) h5;have:=pV i ((lo+hi)/2) hi' hm ⋯;lia
   .rw[É c];exact XW xs j hr f lo _ ë ⋯ h4 (λ i hi' hge=>?_);have:=pV ((lo+hi)/2) i hm hi' hge;lia
  .rw[É hl];ext Þ6
def aA {xs:ų}Ý0 Ï9:Å6<=À9/\(∀ i ã4,i<Å6->xs[i]<j)/\∀ i ã4,Å6<=i->j<=xs[i]:=
 XW xs j hr À9 0 À9 ë í7 (λ i h q=>⋯) (λ i h q=>⋯)
theorem below_at {xs:ų}{j i:Nat}Ï9 (h:xs[i]?=↑j):Å6=i:=by
 let#[h1,h2,h3]:=aA (j:=j) hr;let#[hi,e]:=Ł h;have a:¬ i<Å6:=λ q=>by have:=h2 i hi q;lia
 have b:¬ Å6<i:=λ q=>by
  have:=h3 (Å6) ⋯ í7;have r:=zbL.mp hr (Å6) i (Æ9) (å5) q;simp at r;lia
 lia
def C1 {xs:ų}Ý0 Ï9:(xs[Å6]?=↑j)↔j∈xs.toList:=by
 ext ä2
 .intro h;let#[hi,e]:=Ł h;rw[<- e];simp
 .intro h;let#[i,hi,e]:=zaI.mp h;have hx:xs[i]?=↑j:=by
   simp at hi;simp[hi] at e ⊢;show e
  rw[below_at hr hx];show hx
def ml Ĥ (p:Probe):Probe:=
 if p.more>0 then { p with j:=p.j+1,more:=p.more-1 } else
 let (i,perturb):=leap M p.i p.perturb
 { p with j:=i,more:=â0,i,perturb }
def Wm (t:Æ6) (p:Probe):t.advance p=ml î p:=rfl
def iU (M i perturb:Nat):Probe:={ j:=i,more:=â0,i:=i,perturb:=perturb,dummy:=none }
def way Ĥ Ũ:Nat->Probe
 | 0=>iU M (Ï0%Ų) (Ï0)
 | k+1=>ml M (Ĭ)
def CK Ĥ (p:Probe) (h:p.dummy=none):(ml M p).dummy=none:=by
 unfold ml;split
 .show h
 .show h
theorem Zu Ĥ Ũ:∀ k,(Ĭ).dummy=none
 | 0=>rfl
 | k+1=>CK M _ (Zu M h k)
def yL Ĥ Ũ:Nat->Nat×Nat
 | 0=>(Ï0%Ų,Ï0)
 | n+1=>leap M ř Ì7
theorem ZY (M i pt:Nat) Ũ Ü4 (hk:Ĭ=iU M i pt):∀ m,m<=â0->way M h (k+m)={ j:=i+m,more:=â0-m,i:=i,perturb:=pt,dummy:=none }
 | 0,_=>by rw[Nat.add_zero,hk];rfl
 | m+1,hm=>by
  have ih:=ZY M i pt h k hk m ⋯;change ml M (way M h (k+m))=_;rw[ih];unfold ml;rw[Í (by change â0-m>0;lia)];simp![Probe.mk.injEq];show#[⋯,⋯,trivial,trivial,trivial]
def MG (M i:Nat):â0<=9:=by ext Õ2
theorem VZ Ĥ Ũ (n k:Nat) (hk:Ĭ=iU M ř Ì7):way M h (k+(ë6-ř)+1)=iU M (yL M h (n+1)).1 (yL M h (n+1)).2:=by
 have:=ZY M È h k hk _ í7;change ml M (way M h (k+_))=_;rw[this];unfold ml;rw[É (by change ¬ _-_-(_-_)>0;lia)];rfl
theorem V_ Ĥ Ũ:∀ n,∃ k,k<=10*n/\Ĭ=iU M ř Ì7
 | 0=>#[0,⋯,rfl]
 | n+1=>by
  let#[k,h1,h2]:=V_ M h n;have:=MG M ř;show#[_,⋯,VZ M h n k h2]
def Cz Ũ:Ï0<2 ^ 64:=by
 unfold bits;have h1:=zF0 h (show (2 ^ 64:Int)≠0 by decide);have h2:=zF1 h (show (0:Int)<2 ^ 64 by decide);lia
theorem UJ Ĥ Ũ:∀ n,Ì7*32 ^ n<=Ï0
 | 0=>by simp[yL]
 | n+1=>by
  have ih:=UJ M h n;change (Ì7/32)*32 ^ (n+1)<=_;have:Ì7/32*32<=Ì7:=Nat.div_mul_le_self È
  calc Ì7/32*32 ^ (n+1)=(Ì7/32*32)*32 ^ n:=by rw[Nat.pow_succ,zc0 (32 ^ n) 32,Nat.mul_assoc]
   _<=Ì7*32 ^ n:=zb6 _ this
   _<=_:=ih
theorem Kh Ĥ Ũ Í5 (hn:13<=n):Ì7=0:=by
 rcases Nat.eq_zero_or_pos Ì7 with q | q
 .show q
 .have h1:=UJ M h n;have h2:=Cz h;have h3:32 ^ 13<=32 ^ n:=Nat.pow_le_pow_right () hn;have h4:1*32 ^ n<=Ì7*32 ^ n:=zb6 _ q;have h5:(2:Nat) ^ 64<32 ^ 13:=()
  lia
def kf Ĥ Ö:Nat->Nat
 | 0=>i
 | n+1=>(kf M i n*5+1)%Ų
theorem TJ Ĥ Ũ:∀ n,(yL M h (13+n)).1=kf M (yL M h 13).1 n
 | 0=>rfl
 | n+1=>by
  have ih:=TJ M h n;have hz:=Kh M h (13+n) ⋯;change ((yL M h (13+n)).1*5+1+(yL M h (13+n)).2/32)%Ų=_;rw[hz,ih];rfl
theorem fP (M i:Nat):∀ a b,kf M i (a+b)=kf M (kf M i a) b
 | a,0=>rfl
 | a,b+1=>by
  change (kf M i (a+b)*5+1)%Ų=_;rw[fP M i a b];rfl
def fO Ĥ:Nat->Nat->Õ4
 | 0,_=>[]
 | n+1,i=>i::fO M n ((i*5+1)%Ų)
theorem Yz Ĥ:∀ n i x,x∈fO M n i->∃ k,k<n/\kf M i k=x
 | 0,i,x,h=>ġ
 | n+1,i,x,h=>by
  rcases Ö3 h with e | e
  .show#[0,⋯,e.symm]
  .let#[k,h1,h2]:=Yz M n _ x e;show#[k+1,⋯,by rw[Nat.add_comm,fP];show h2]
def oV Ĥ:Prop:=M=7\/M=31\/M=127
theorem Jh Ĥ Ä6:(∀ e,e<=M->e∈fO M Ų 0)/\kf M 0 Ų=0:=by
 have key:∀ M,((ă Ų).all λ e=>(fO M Ų 0).contains e)=true->∀ e,e<=M->e∈fO M Ų 0:=λ M h e he=>by
  have:=zE4.mp h e (A8.mpr ⋯);exists this
 rcases hM with rfl | rfl | rfl
 .show#[key 7 (zdK),zdK]
 .show#[key 31 (zdK),zdK]
 .show#[key 127 (zdK),zdK]
theorem Jg Ĥ Ä6 (i e:Nat) (hi:i<=M) (he:e<=M):∃ n,n<=M/\kf M i n=e:=by
 let#[h1,h2]:=Jh M hM;let#[a,a1,a2]:=Yz M Ŗ (h1 i hi);let#[b,b1,b2]:=Yz M Ŗ (h1 e he);rcases za8 b a with q | q
 .exact#[M+1+b-a,⋯,?_];rw[<- a2,<- fP,show a+(M+1+b-a)=Ų+b by lia,fP,h2,b2]
 .exact#[b-a,⋯,?_];rw[<- a2,<- fP,show a+(b-a)=b by lia,b2]
theorem Hl Ĥ Ũ:∀ n,ř<=M
 | 0=>by have:=zbN (Ï0) Õ1;change Ï0%Ų<=M;lia
 | n+1=>by
  have:=zbN (ř*5+1+Ì7/32) Õ1;change (_%Ų:Nat)<=M;lia
theorem TK Ĥ Ä6 Ũ (e:Nat) (he:e<=M):∃ n,n<M+14/\ř=e:=by
 let#[n,h1,h2]:=Jg M hM (yL M h 13).1 e (Hl M h 13) he;show#[13+n,⋯,by rw[TJ,h2]]
theorem OE Ĥ Ä6 Ũ (e:Nat) (he:e<=M):∃ k,k<10*(M+15)/\(Ĭ).j=e:=by
 let#[n,h1,h2]:=TK M hM h e he;let#[k,k1,k2]:=V_ M h n;show#[k,⋯,by rw[k2];show h2]
theorem Vg Ĥ Ũ:∀ k,(Ĭ).j+(Ĭ).more<=M/\(Ĭ).i<=M
 | 0=>by
  have h1:Ï0%Ų<=M:=by have:=zbN (Ï0) Õ1;lia
  exact#[?_,h1];change Ï0%Ų+(È4 M (Ï0%Ų)-Ï0%Ų)<=M;ext Õ2
 | k+1=>by
  let#[h1,h2]:=Vg M h k;change (ml M (Ĭ)).j+(ml M (Ĭ)).more<=M/\(ml M (Ĭ)).i<=M;unfold ml;split
  .rename_i c;show#[by change (Ĭ).j+1+((Ĭ).more-1)<=M;lia,h2]
  .have h3:ë7%Ų<=M:=by have:=zbN ë7 Õ1;lia
   exact#[?_,h3];change _%Ų+(È4 M (_%Ų)-_%Ų)<=M;ext Õ2
def Zt Ĥ Ũ Ü4:(Ĭ).j<=M:=by have:=(Vg M h k).1;lia
structure Tab (t:Æ6) (hs:Â):Prop where
 mask:oV î
 ji:t.dummies=Ħ
 len:Ã5=Ä4
 pV:mT Ù
 top:∀ j∈ Ù,j<=î
 fF:∀ Ö h j,hs[i]?=↑h->ć[i]?=↑j->Ë5
theorem Tab.live Ĉ Õ6(h:ć[i]?=↑j):t.slot j=.live i:=by
 unfold SetTable.slot;ext þ;rw[below_at T.pV h,Í (by rw[h];simp)]
theorem Tab.empty Ĉ Ý0(h:j∉ Ù):t.slot j=.empty:=by
 unfold SetTable.slot;ext þ;have n1:¬ (ć[Æ5]? == ↑j)=true:=λ q=>h ((C1 T.pV).mp (by exists q));rw[É n1,ë1]
theorem Tab.at Ĉ Ý0(h:j∈ Ù):∃ (i:Nat) (g:Int),ć[i]?=↑j/\hs[i]?=↑g:=by
 let#[i,hi,e]:=zaI.mp h;have hi':i<Ã5:=å5
 exact#[i,hs[i]'(by rw[<- T.len];show hi'),?_,#[]];rw[zB8 hi'];rw[zaX] at e;rw[e]
theorem SM Ĉ {hashAt:Nat->Int}(hA:∀ Ö g,hs[i]?=↑g->hashAt i=g) Ũ:∀ (f k:Nat),(∃ e,k<=e/\e<k+f/\(way î h e).j∉ Ù)->
  ∃ k1,k<=k1/\(∀ m,k<=m->m<k1->∃ (i:Nat) (g:Int),ć[i]?=↑(way î h m).j/\hs[i]?=↑g/\g≠h)/\
   (Ù1 ∉ Ù/\à0=↑(.empty Ù1 none)\/
    ∃ i,ć[i]?=↑ Ù1/\hs[i]?=↑h/\à0=↑(.candidate Ù1 i (way î h (k1+1))))
 | 0,k,#[e,h1,h2,_]=>⋯
 | f+1,k,#[e,h1,h2,h3]=>by
  by_cases hm:(way î h k).j∈ Ù
  .let#[i,g,p1,p2]:=T.at hm;by_cases hg:g=h
   .exact#[k,AM _,λ m a b=>⋯,ń #[i,p1,by rw[<- hg];show p2,?_]];unfold ë8;rw[T.live p1];ext þ;rw[hA i g p2,Í (by simp[hg]),Wm];rfl
   .have AW:e≠k:=λ q=>by subst q;show h3 hm
    let#[k1,q1,q2,q3]:=SM T hA h f (k+1) #[e,⋯,⋯,h3];have eq:ë8 t hashAt h (f+1) (way î h k)=ë8 t hashAt h f (way î h (k+1)):=by
     conv=>lhs;unfold ë8
     rw[T.live p1];ext þ;rw[hA i g p2,É (by simp[hg]),Wm];rfl
    rw[eq];exact#[k1,⋯,λ m a b=>?_,q3];rcases Nat.eq_or_lt_of_le a with w | w
    .subst w;show#[i,g,p1,p2,hg]
    .show q2 m w b
  .exact#[k,AM _,λ m a b=>⋯,ģ #[hm,?_]];unfold ë8;rw[T.empty hm,Zu]
def Tn {xs ys:Õ4}(hx:xs.Nodup) (h:∀ x∈xs,x∈ys):í<=Ø8:=by
 induction xs generalizing ys with
 | nil=>simp
 | cons x xs ih=>
  have h1:=zaC.mp hx;have hxy:=h x AU;have:=ih h1.2 (ys:=ys.erase x) λ z hz=>by
   have AW:z≠x:=λ e=>h1.1 (e▸hz);show (List.mem_erase_of_ne AW).mpr (h z (AX _ hz))
  rw[List.length_erase_of_mem hxy] at this;have hp:=List.length_pos_of_mem hxy;simp![zC0];lia
theorem least {P:Nat->Prop}Ü4 (h:P k):∃ m,m<=k/\P m/\∀ m'<m,¬ P m':=by
 induction k using Nat.strongRecOn with
 | ind k ih=>
  rcases ç7 (∃ m',m'<k/\P m') with ⟨m',h1,h2⟩ | q
  .let#[m,g1,g2]:=ih m' h1 h2;show#[m,⋯,g2]
  .show#[k,AM _,h,λ m' hm hp=>q #[m',hm,hp]]
theorem FW {xs:Õ4}ò2(h:í<=M):∃ e,e<=M/\e∉xs:=by
 rcases ç7 (∃ e,e<=M/\e∉xs) with q | q
 .show q
 .have:=Tn (xs:=ă Ų) (ys:=xs) zcD λ e he=>by
   have:=A8.mp he;rcases ç7 (e∈xs) with w | w
   .show w
   .show È2 #[e,⋯,w] q
  simp at this;lia
def Wz (t:Æ6) Ũ (j:Nat):Prop:=j∉ Ù/\Ë5
theorem Tab.first Ĉ (hl:Ä4<=î) Ũ:∃ K,K<10*(î+15)/\(way î h K).j∉ Ù/\∀ k'<K,(way î h k').j∈ Ù:=by
 let#[e,e1,e2]:=FW (xs:=Ù) (M:=î) (by rw[zD2,T.len];show hl);let#[k,k1,k2]:=OE î T.mask h e e1;let#[K,q1,q2,q3]:=least (P:=λ n=>(way î h n).j∉ Ù) k (by rw[k2];show e2);show#[K,⋯,q2,λ k' hk=>Classical.not_not.mp (q3 k' hk)]
def MP {xs:Õ4}{j p:Nat}(h:mT xs) (h1:∀ x∈ Ù2,x<j) (h2:∀ x∈ â1,j<x):mT (Ù2++j::â1):=by
 exact zcA.mpr #[h.sublist (List.take_sublist È),za9.mpr #[h2,h.sublist (List.drop_sublist È)],λ a ha b hb=>?_];rcases Ö3 hb with e | e
 .subst e;show h1 a ha
 .have:=h1 a ha;have:=h2 b e;lia
theorem gq Ċ ò1{p i:Nat}{x y:α}(hp:p<=í) (h:(Ù2++x::â1)[i]?=↑y):(i=p/\y=x)\/(i<p/\xs[i]?=↑y)\/(p<i/\xs[i-1]?=↑y):=by
 have hl:(Ù2).length=p:=by rw[zbE];lia
 rcases zb7 i p with q | q | q
 .rw[zaS ⋯,List.getElem?_take,Í q] at h;show ń (ģ #[q,h])
 .subst q;rw[zbF ⋯,hl] at h;simp at h;show ģ #[rfl,h.symm]
 .rw[zbF ⋯,hl] at h;obtain⟨d,hd⟩:∃ d,i-p=d+1:=#[i-p-1,⋯];rw[hd] at h;simp![zbO,List.getElem?_drop] at h;exact ń (ń #[q,?_]);rw[show i-1=p+d by lia];show h
theorem Tab.put Ĉ {h:Int}Ý0(F:Wz t h j):
  (Ñ2).2<=Ä4/\É4/\Tab (Ñ2).1 (hs.take (Ñ2).2++h::hs.drop (Ñ2).2):=by
 let#[b1,b2,b3]:=aA (xs:=ć) (j:=j) T.pV;let#[fn,K,k1,k2]:=F;have e2:(Ñ2).2=Æ5:=rfl;have e1:É4:=by
  change ({ t with place:=Ü,dummies:=_ }:Æ6)=_;rw[ë1,e2]
 have pl:ß2=t.place.toList.take (Æ5)++j::t.place.toList.drop (Æ5):=toList_insertAt Ŗ;have old:∀ x∈ Ù,x∈ ß2:=λ x hx=>by
  rw[pl];have:=zc1 (Æ5) Ù;rw[<- this] at hx;rcases zB9.mp hx with q | q
  .show zaO _ q
  .show zB4 _ (AX _ q)
 rw[e2] at e1 ⊢;exact#[by rw[<- T.len];show b1,e1,?_];rw[e1];exact#[T.mask,T.ji,?_,?_,?_,?_]
 .change (Ü).size=_;rw[<- zD2,pl];simp[T.len]
 .change mT ß2;rw[pl];exact MP T.pV (λ x hx=>?_) (λ x hx=>?_)
  .let#[i,hi,e]:=zaI.mp hx;rw[zbE] at hi;rw[List.getElem_take,zaX] at e;rw[<- e];show b2 i (by simp at hi;lia) ⋯
  .let#[i,hi,e]:=zaI.mp hx;rw[zaK] at hi;rw[List.getElem_drop,zaX] at e;have h3:=b3 (Æ5+i) (by simp at hi;lia) ⋯;have hm:x∈ Ù:=zcE hx;have AW:x≠j:=λ q=>fn (q▸hm);lia
 .intro x hx;change x<=î;have hx:x∈ ß2:=hx;rw[pl] at hx;rcases zB9.mp hx with q | q
  .show T.top x (List.mem_of_mem_take q)
  .rcases Ö3 q with e | e
   .subst e;rw[<- k1];show Zt Ŗ
   .show T.top x (zcE e)
 .intro i g x hg hx;change ∃ k,(way î g k).j=x/\∀ k'<k,(way î g k').j∈ ß2;have hx:(Ü)[i]?=↑x:=hx;rw[<- zD3,pl] at hx;have AV:Æ5<=t.place.toList.length:=by exists b1
  have hpl':Æ5<=Ä4:=by rw[<- T.len];show b1
  rcases gq AV hx with ⟨c1,c2⟩ | ⟨c1,c2⟩ | ⟨c1,c2⟩ <;> rcases gq hpl' hg with ⟨d1,d2⟩ | ⟨d1,d2⟩ | ⟨d1,d2⟩ <;> first
   | lia
   | (subst c2 d2;show#[K,k1,λ k' hk=>old _ (k2 k' hk)])
   | (let#[k,g1,g2]:=T.fF _ g x d2 (by rw[<- zD3];show c2)
      show#[k,g1,λ k' hk=>old _ (g2 k' hk)])
def ju Û8 (j:Nat):Prop:=∃ k,Á7
theorem Eo {P:Nat->Bool}{n k:Nat}(h:(ă n).find? P=↑k):k<n/\P k=true/\∀ k'<k,P k'=à:=by
 let#[h1,as,bs,h2,h3]:=List.find?_eq_some_iff_append.mp h;have hlen:as.length=k:=by
  have e:(ă n)[as.length]?=↑k:=by rw[h2];simp
  have:=(Ø0 e)
  let#[q1,q2]:=this;rw[zcC] at q2;show q2
 have hk:k<n:=by
  have:k∈ ă n:=by rw[h2];simp
  show A8.mp this
 exact#[hk,h1,λ k' hk'=>?_];have:k'∈as:=by
  have e:(ă n)[k']?=↑k':=zcF ⋯;rw[h2,zaS ⋯] at e;show zB7 e
 have:=h3 k' this;exists this
def getD_none Ü6 Ý0(h:((å6 j ↑0).isNone)=true):è[j]?=↑none:=by
 unfold Array.getD at h;split at h
 .rename_i hj;have e:è[j]=none:=à7
  rw[zB8 hj,e]
 .simp at h
def SO Ü6 Ý0(hj:j<Û0) (h:((å6 j ↑0).isNone)=à):ju è j:=by
 unfold Array.getD at h;rw[dif_pos hj] at h;cases q:è[j] with
 | none=>simp[q] at h
 | some k=>show#[k,by rw[zB8 hj,q]]
theorem SW Ĥ Û8 (hsz:Û0=M+1) Ũ:∀ (fuel n kn:Nat),way M h kn=iU M ř Ì7->(∀ q<kn,ju è (way M h q).j)->
  (∃ n',n<=n'/\n'<n+fuel/\è[(yL M h n').1]?=↑none)->
  ∃ j q,layClean.free M è fuel ř Ì7=↑j/\(way M h q).j=j/\è[j]?=↑none/\ë9
 | 0,n,kn,_,_,#[n',h1,h2,_]=>⋯
 | fuel+1,n,kn,hk,ho,#[n',h1,h2,h3]=>by
  have hre:ë6+1-ř=ë6-ř+1:=by ext Õ2
  have hwalk:∀ m,m<=ë6-ř->(way M h (kn+m)).j=ř+m:=λ m hm=>by rw[ZY M È h kn hk m hm]
  unfold layClean.free;cases hf:(ă (ë6+1-ř)).find? (λ k=>(å6 (ř+k) ↑0).isNone) with
  | some k=>
   let#[f1,f2,f3]:=Eo hf;exact#[_,kn+k,rfl,hwalk k ⋯,getD_none f2,λ q' hq=>?_];rcases za8 q' kn with w | w
   .show ho q' w
   .have e:(way M h q').j=ř+(q'-kn):=by
     have:=hwalk (q'-kn) ⋯
     rwa [show kn+(q'-kn)=q' by lia] at this
    have hle:=Zt M h q';rw[e] at hle ⊢;show SO ⋯ (f3 (q'-kn) ⋯)
  | none=>
   have f3:=zc2.mp hf;have occ:∀ m,m<=ë6-ř->ju è (ř+m):=λ m hm=>by
    have hle:=Zt M h (kn+m);rw[hwalk m hm] at hle;show SO ⋯ (Bool.eq_false_iff.mpr (f3 m (A8.mpr ⋯)))
   have AW:n'≠n:=λ e=>by
    subst e;let#[k,hk']:=occ 0 Ö2;rw[Nat.add_zero] at hk';rw[hk'] at h3;cases h3
   ext þ;let#[j,q,r1,r2]:=SW M è hsz h fuel (n+1) _ (VZ M h n kn hk) (λ q hq=>by
    rcases za8 q kn with w | w
    .show ho q w
    .have e:=hwalk (q-kn) ⋯;rw[show kn+(q-kn)=q by lia] at e;rw[e];show occ _ ⋯) #[n',⋯,⋯,h3]
   show#[j,q,r1,r2]
structure Lay Ĥ (hs:Â) Û8 (m:Nat):Prop where
 size:Û0=M+1
 below:∀ (j k:Nat),Á7->k<m
 each:∀ Ü4,k<m->∃ (j:Nat),Á7
 once:∀ (i j k:Nat),è[i]?=↑↑k->Á7->i=j
 fF:∀ (j k:Nat) h,Á7->hs[k]?=↑h->∃ q,(way M h q).j=j/\ë9
theorem Lay.none ò2 Ä6 {hs:Â}Ü6{m:Nat}ò3:ç8:=by
 rcases ç7 (ç8) with q | q
 .show q
 .exfalso;have hall:∀ (e:Nat),e<=M->∃ (k:Nat),è[e]?=↑↑k:=λ e he=>by
   have AZ:e<Û0:=by rw[â2];lia
   cases w:è[e] with
   | none=>show È2 #[e,he,by rw[zB8 AZ,w]] q
   | some k=>show#[k,by rw[zB8 AZ,w]]
  have:=Tn (xs:=(ă Ų).map λ e=>((è[e]?).getD Ë6).getD 0) (ys:=ă m) (by
   exact zaU.mpr (List.Pairwise.imp_of_mem ?_ zcD);intro a b ha hb AW e;exact AW ?_;let#[k,hk]:=hall a (by have:=A8.mp ha;lia);let#[k',hk']:=hall b (by have:=A8.mp hb;lia);rw[hk,hk'] at e;simp at e;subst e;show L.once a b k hk hk') (λ x hx=>by
   let#[e,he,rfl]:=AO.mp hx;let#[k,hk]:=hall e (by have:=A8.mp he;lia);rw[hk];show A8.mpr (L.below e k hk))
  simp at this;lia
def cR Ċ{xs:ò α}{j i:Nat}{a b:α}(h:(xs.setIfInBounds j a)[i]?=↑b):(i=j/\b=a)\/(i≠j/\xs[i]?=↑b):=by
 rw[zc3] at h;by_cases e:j=i
 .subst e;rw[Ñ8] at h;split at h
  .cases h;show ģ ç4
  .cases h
 .rw[É e] at h;show ń #[λ q=>e q.symm,h]
def Lay.step ò2 Ä6 {hs:Â}Ü6{m:Nat}{h:Int}ò3 (hh:hs[m]?=↑h):
  ∃ j,Ŏ=↑j/\Lay M hs (Á8) (m+1):=by
 let#[e,e1,e2]:=L.none hM hm;let#[n',n1,n2]:=TK M hM h e e1;let#[j,q,r1,r2,r3,r4]:=SW M è â2 h (turns M) 0 0 rfl (λ q hq=>⋯) #[n',⋯,by unfold turns;lia,by rw[n2];show e2];have hj:j<Û0:=(Ł r3).1;have keep:∀ x,ju è x->ju (Á8) x:=λ x #[k,hk]=>by
  have AW:j≠x:=λ w=>by subst w;rw[r3] at hk;cases hk
  show#[k,by rw[zc3,É AW];show hk]
 have self:(Á8)[j]?=↑↑m:=by rw[zc3,Ñ8,Í hj]
 exact#[j,r1,#[by simp[â2],λ x k hx=>?_,λ k hk=>?_,λ x y k hx hy=>?_,λ x k g hx hg=>?_]]
 .rcases cR hx with ⟨_,w⟩ | ⟨_,w⟩
  .cases w;lia
  .have:=L.below x k w;lia
 .rcases za8 k m with w | w
  .let#[x,hx]:=L.each k w;have AW:j≠x:=λ w=>by subst w;rw[r3] at hx;cases hx
   show#[x,by rw[zc3,É AW];show hx]
  .have:k=m:=⋯;ext Û3;show#[j,self]
 .rcases cR hx with ⟨w1,w⟩ | ⟨w1,w⟩ <;> rcases cR hy with ⟨v1,v⟩ | ⟨v1,v⟩
  .lia
  .cases w;have:=L.below y _ v;lia
  .cases v;have:=L.below x _ w;lia
  .show L.once x y k w v
 .rcases cR hx with ⟨w1,w⟩ | ⟨w1,w⟩
  .cases w;rw[hh] at hg;cases hg;subst w1;show#[q,r2,λ q' hq=>keep _ (r4 q' hq)]
  .let#[q,g1,g2]:=L.fF x k g w hg;show#[q,g1,λ q' hq=>keep _ (g2 q' hq)]
theorem TQ ò2 Ä6 {hs:Â}(hl:Ä4<=M+1):∀ (rest:Â) Û8 (m:Nat),m<=Ä4->hs.drop m=rest->Lay M hs è m->
  ∃ owner',rest.foldl (λ acc h=>do
   let (è,k) <- acc
   let j <- Ŏ
   pure (owner.setIfInBounds j ↑k,k+1)) ↑(è,m)=↑(owner',Ä4)/\Lay M hs owner' Ä4
 | [],è,m,hl2,hd,L=>by
  have hm:Ä4<=m:=List.drop_eq_nil_iff.mp hd;have e:m=Ä4:=⋯;subst e;show#[è,rfl,L]
 | h::rest,è,m,hl2,hd,L=>by
  have hm:hs[m]?=↑h:=by
   have:=congrArg (λ l=>l[0]?) hd;exists this
  have AZ:m<Ä4:=(Ø0 hm).1;let#[j,j1,j2]:=L.step hM ⋯ hm;have hd':hs.drop (m+1)=rest:=by
   have:=congrArg List.tail hd;exists this
  let#[o',h1,h2]:=TQ hM hl rest _ (m+1) ⋯ hd' j2;exact#[o',?_,h2];rw[zaQ,<- h1];change _=_;congr 1;change ((Ŏ).bind λ j=>↑(Á8,m+1))=_;rw[j1];rfl
theorem Hv Ĥ (hs:Â):Lay M hs (Array.replicate Ų Ë6) 0:=by
 have no:∀ (j k:Nat),(Array.replicate Ų (Ë6:À Nat))[j]?≠↑↑k:=λ j k h=>by
  rw[Array.getElem?_replicate] at h;split at h <;> cases h
 show#[#[],λ j k h=>È2 h (no j k),λ k hk=>⋯,λ i j k h=>È2 h (no i k),λ j k h e=>È2 e (no j k)]
theorem Hw ò2 Ä6 Ý7:∃ è,layClean M hashes=↑ è/\Lay M hashes.toList è hashes.size:=by
 let#[o,h1,h2]:=TQ hM (hs:=hashes.toList) (by exists hl) hashes.toList _ 0 Ö2 #[] (Hv M _);exact#[o,?_,by exists h2];unfold layClean;rw[<- Array.foldl_toList,h1];rfl
def lives Ĥ Û8:List (Nat×Nat):=(ă Ų).filterMap λ j=>(å6 j Ë6).map (j,·)
theorem getD_some Ü6{j k:Nat}:å6 j Ë6=↑k↔ Á7:=by
 unfold Array.getD;split
 .rename_i h;rw[zB8 h];simp
 .rename_i h;rw[zaY ⋯];simp
theorem jP ò2 Ü6(hs:Û0=M+1) {j k:Nat}:(j,k)∈lives M è ↔ Á7:=by
 unfold lives;rw[zc9];ext ä2
 .rintro⟨x,hx,e⟩;let#[y,e1,e2]:=Ð8 e;cases (e2);show getD_some.mp e1
 .intro h;have hj:=(Ł h).1;show#[j,A8.mpr ⋯,by rw[getD_some.mpr h];rfl]
def TB Ĥ Û8:(lives M è).Pairwise λ a b=>a.1<b.1:=by
 unfold lives;rw[List.pairwise_filterMap];exact List.Pairwise.imp ?_ List.pairwise_lt_range;intro a b hab x hx y hy;let#[_,_,e1]:=Ð8 hx;let#[_,_,e2]:=Ð8 hy;subst e1 e2;show hab
def TR ò2 Ä6 (finger moves:Nat) (led plain:Bool) Ý7:
  ∃ t order,laid M finger moves led plain hashes=↑(t,order)/\î=M/\t.finger=finger/\t.led=led/\t.plain=plain/\order.toList.Perm (ă hashes.size)/\Tab t (order.toList.map ð6):=by
 let#[è,h1,L]:=Hw hM hashes hl;exact#[_,_,by unfold laid;rw[h1];rfl,rfl,rfl,rfl,rfl,?_,?_]
 .change (Ĺ Ň).toArray.toList.Perm _;rw[zbP];exact (zcG ?_ zcD).mpr λ k=>?_
  .exact zaU.mpr (List.Pairwise.imp_of_mem ?_ (TB M è));intro a b ha hb hab e;have h2:=(jP â2 (j:=a.1) (k:=a.2)).mp ha;have h3:=(jP â2 (j:=b.1) (k:=b.2)).mp hb;have e:a.2=b.2:=e;rw[e] at h2;have:=L.once Ŗ h2 h3;lia
  .rw[A8];ext ä2
   .intro h;let#[#[j,k'],h2,rfl]:=AO.mp h;show L.below j _ ((jP â2).mp h2)
   .intro h;let#[j,hj]:=L.each k h;show AO.mpr #[(j,k),(jP â2).mpr hj,rfl]
 .have pl:∀ x,x∈ Ĺ Đ ↔ju è x:=λ x=>by
   ext ä2
   .intro h;let#[#[j,k],h2,rfl]:=AO.mp h;show#[k,(jP â2).mp h2]
   .rintro⟨k,hk⟩;show AO.mpr #[(x,k),(jP â2).mpr hk,rfl]
  exact#[hM,rfl,?_,?_,?_,?_]
  .change (Ĺ Đ).toArray.size=((Ĺ Ň).toArray.toList.map _).length;simp
  .change mT Ô2;rw[zbP];show zaU.mpr (TB M è)
  .intro x hx;change x<=M;have hx:x∈ Ô2:=hx;rw[zbP] at hx;let#[k,hk]:=(pl x).mp hx;have:=(Ł hk).1;rw[â2] at this;lia
  .intro i g x hg hx;have hx:(Ĺ Đ).toArray[i]?=↑x:=hx;have hg:((Ĺ Ň).toArray.toList.map ð6)[i]?=↑g:=hg;rw[List.getElem?_toArray,A9] at hx;rw[zbP,A9,A9] at hg;let#[p,p1,p2]:=Ð8 hx;rw[p1] at hg;simp![Option.map_some,Option.some.injEq] at hg;let#[j,k]:=p;cases p2;have hm:=(jP â2).mp (zB7 p1);have hk:=L.below È hm;let#[q,q1,q2]:=L.fF _ k g hm (by rw[<- hg];simp[hk]);exact#[q,q1,λ q' hq=>?_];change _∈ Ô2;rw[zbP];show (pl _).mpr (q2 q' hq)
section
variable {prog:Í9}{Ä5}{Ļ}{ã2}{Ù6}
abbrev rk ū:HeapKind ĺ (Â):=tupleKind ô
def items_int {ks:Â}ß4(h:ItemsAre ô ks vs):∀ v∈vs,∃ n t,v=ñ n t:=by
 induction h with
 | nil=>intro v hv;cases hv
 | cons h1 _ ih=>
  intro v hv;rcases Ö3 hv with rfl | hv
  .let#[t,e]:=Value.isInt_shape h1;show#[_,t,e]
  .show ih v hv
def Ts {ks:Â}ĕ Í7(hk:ũ ô Ŀ ks a) (h:Q à s):İ Ì (ofAClassStatement 8 (ä6)) Ý5:=by
 ext É0;unfold ofAClassStatement;exact za0 (zd0 hT ?_);change İ È (pure true >>= _) È s;ext Ï4;ext Ź;exact za0 (zcY ho hd ?_);ext þ;ext ù
 .ext ê0;change İ È (pure à >>= _) Ŗ;ext Ï4;ext Õ7;show AE #[rfl,rfl,Ï1]
 ext Ġ
def Gx {ks:Â}ĕ Í7(hk:ũ ô Ŀ ks a) (h:Q true s):İ Ì (hashByValue 8 (ä6)) Ý5:=by
 ext É0;unfold hashByValue;exact za0 (wpAny_specialOf hT F.slot_tuple_hash.lookup ?_);ext þ;exact za0 (zcY ho hd ?_);ext ù
 .ext ê0;change İ È (pure true >>= _) Ŗ;ext Ï4;ext Ź;show AE #[rfl,rfl,Ï1]
 ext Ġ
def OQ {ks:Â}{b:Addr}Í7(hk:ũ ô Ŀ ks b) (l:AI) (hl:∀ v∈l,ð7) (h:Q à s):
  İ Ì (searchCouldBeSeen (Ý b) l) Ý5:=by
 unfold searchCouldBeSeen;exact za0 ?_;exact wpAny_forIn_list _ (λ rest r s'=>r.1=none/\s'=s/\∀ v∈rest,ð7) _ ?_ ?_ È #[rfl,rfl,hl]
 .ext Ä0;let#[k,c,rfl,hc]:=hall v AU;have rest':∀ u∈rest,∃ k c,u=ł c/\ũ ô s'.heap k c:=Ï1;ext þ;by_cases e:(b == c||(carriedByValue (Ý b)&&carriedByValue (Ý c)))=true
  .rw[Í e];show AE #[rfl,rfl,rest']
  .rw[É e];exact za0 ((rk ĺ).quiet hk ?_);ext Ź;exact za0 ((rk ĺ).quiet hc ?_);ext Ź;exact za0 (Ts hk ?_);ext Õ7;exact za0 (Ts hc ?_);ext Õ7;show AE #[rfl,rfl,rest']
 ext Ġ
structure j8 ì2 (es:Ã6) (t:Æ6) (xs:Ò6):Prop where
 es:es.toList=ħ λ e=>Ï2
 is:∀ e∈xs,ũ ô h e.1 e.2
 tab:Tab t (ħ Á9)
 eM:í<=î
theorem j8.fits Ÿ:t.fits Ñ3=true:=by
 have hl:Ñ3=í:=Ū
 have h1:=X.tab.len;rw[AQ] at h1;have h2:=X.eM;unfold SetTable.fits SetTable.fill;rw[X.tab.ji,hl,h1];simp;lia
def j8.at Ÿ Ê7{e:Â ×Addr}(he:xs[i]?=↑e):es[i]?=↑ Ï2:=by
 rw[<- zD3,X.es,A9,he];rfl
theorem VW ĕ{o:Obj}Ē{xs:Ò6}{key:Â}{b:Addr}{Q:SetFound->õ}
  (hu:Ş<œ) (ho:Þ7 a=↑o) (hd:o.data=Ù3) (X:j8 Ä7 Ŀ es t xs) (hb:ũ ô Ŀ key b)
  (h1:key∈ ħ Đ->Q (.there none) s) (h2:key∉ ħ Đ->∀ j,Wz t Ŋ j->Q (.free j à) s):
  ∀ (fuel k:Nat) (stand:À Probe),stand.getD (t.probeStart Ŋ)=way î Ŋ k->(∀ m<k,Â6)->(∃ K,k<=K/\K<k+fuel/\K<10*(î+15)/\(way î Ŋ K).j∉ Ù/\∀ m<K,(way î Ŋ m).j∈ Ù)->
   İ Ì (â3 ß6 stand) Ý5
 | 0,k,stand,_,_,#[K,q1,q2,_]=>⋯
 | fuel+1,k,stand,A5,hpast,#[K,q1,q2,q3,q4,q5]=>by
  have T:=X.tab;have hodd:t.gaveWay=à:=by
   unfold SetTable.gaveWay;rcases T.mask with e | e | e <;> rw[e] <;> rfl
  unfold â3;ext í0;rw[hodd];ext Õ7;have hA:∀ Ö g,(ħ Á9)[i]?=↑g->((es[i]?).map Đ).getD 0=g:=λ i g hg=>by
   ext ê1;rw[X.at e1];show e2
  let#[k1,g1,g2,g3]:=SM T (hashAt:=λ i=>((es[i]?).map Đ).getD 0) hA Ŋ (10*turns î) k #[K,q1,by unfold turns;lia,q4];rw[A5];have look:∀ Ö g,(ħ Á9)[i]?=↑g->∃ e,xs[i]?=↑e/\Á e.1=g:=λ i g hg=>by
   ext ê1;show#[e,e1,e2]
  have hpast':∀ m<k1,Â6:=λ m hm=>by
   rcases za8 m k with c | c
   .show hpast m c
   .let#[i,g,p1,p2,p3]:=g2 m c hm;let#[e,e1,e2]:=look i g p2;show#[i,e,p1,e1,λ q=>p3 (by rw[<- e2,q])]
  rcases g3 with ⟨n1,n2⟩ | ⟨i,n1,n2,n3⟩
  .have n2':t.probe _ Ŋ (way î Ŋ k)=_:=n2;simp![SetTable.probe] at n2' ⊢
   erw [n2]
   ext þ;exact AE (h2 (λ hm=>?_) _ #[n1,k1,rfl,λ m hm=>?_])
   .let#[e,he,ek]:=AO.mp hm;let#[i,hi]:=zcH.mp he;have hh:(ħ Á9)[i]?=↑ Ŋ:=by rw[A9,hi,<- ek];rfl
    have hil:i<Ã5:=by rw[T.len];show (Ø0 hh).1
    let#[kk,w1,w2]:=T.fF i È hh (zB8 hil);rcases zb7 kk k1 with c | c | c
    .let#[i',e',p1,p2,p3]:=hpast' kk c;rw[w1] at p1;have:i=i':=by
      rw[<- below_at T.pV (zB8 hil),<- below_at T.pV p1]
     ext Û3;rw[hi] at p2;cases p2;show p3 ek
    .subst c;rw[w1] at n1;show n1 #[]
    .show n1 (w2 k1 c)
   .let#[i',e',p1,_]:=hpast' m hm;show zB7 (by rw[zD3];show p1)
  .simp![SetTable.probe]
   erw [n3]
   ext þ;let#[e,e1,e2]:=look i _ n2;have hes:=X.at e1;have hey:=X.is e (zB7 e1);have main:İ Ì (holding [ł e.2] (eqBool (Ý e.2) (Ý b)) >>= λ equal=>setState a >>= λ x=>match x with
     | (es',_,t')=>if (true&&equal)=true then pure (SetFound.there none) else
      match t'.sameMemory t.moves î with
      | some same=>
       have jp:=λ still=>match still with
        | none=>do
         rule "set.search.anew"
         â3 ß6 none
        | some i'=>if equal=true then pure (SetFound.there ↑i') else â3 ß6 ↑(way î Ŋ (k1+1))
       match if same=true then t'.slot (way î Ŋ k1).j else Slot.empty with
       | .live i'=>match es'[i']? with
        | some (_,y')=>do
         let r <- isSame y' (Ý e.2)
         let still <- pure (if r=true then ↑i' else none)
         jp still
        | none=>do
         let still <- pure none
         jp still
       | _=>do
        let still <- pure none
        jp still
      | _=>ð8 "set.changed-during-lookup:is-the-new-block-at-the-old-address") Ý5:=by
    exact za0 (zcT ((rk ĺ).eqBool hu hey hb ?_));ext í0;by_cases hk:e.1=key
    .rw[za3 hk];simp![zbM,if_true];show AE (h1 (AO.mpr #[e,zB7 e1,hk]))
    .rw[zcQ hk];simp![zaT,zC4,Ì2];have sm:t.sameMemory t.moves î=↑true:=by unfold SetTable.sameMemory;simp
     rw[sm];ext þ;rw[Ñ8,T.live n1];ext þ;rw[hes];ext þ;exact za0 (wpAny_isSame_ref_self ?_);ext Ï4;rw[Ñ8];ext þ;have hKk:k1<K:=by
      rcases zb7 K k1 with c | c | c
      .let#[i',e',p1,_]:=hpast' K c;show È2 (zB7 (by rw[zD3];show p1)) q4
      .subst c;show È2 (zB7 (by rw[zD3];show n1)) q4
      .show c
     exact VW hu ho hd X hb h1 h2 fuel (k1+1) _ rfl (λ m hm=>?_) #[K,⋯,⋯,q3,q4,q5];rcases za8 m k1 with c | c
     .show hpast' m c
     .have:m=k1:=⋯;ext Û3;show#[i,e,n1,e1,hk]
   rw[hes];by_cases hl:t.led=true
   .rw[hl];ext Ź;show main
   .have hl':t.led=à:=by exists hl
    rw[hl'];simp![zB2,if_true];exact za0 (OQ hb _ (λ v hv=>?_) ?_)
    .let#[p,hp,rfl]:=AO.mp hv;rw[Array.toList_filter,zC8,X.es] at hp;let#[#[e',he',rfl],_]:=(And.intro (AO.mp hp.1) hp.2)
     show#[e'.1,e'.2,rfl,X.is e' he']
    .ext Õ7;show main
structure jr ū ì2 (a:Addr) (xs:Ò6) (led:Bool):Prop where
 ex:∃ es ep t,į/\j8 Ä7 h es t xs/\t.led=led/\t.plain=true/\í*5<î*3
 nd:â4
def Z7 {h h':Heap}{ks:Â}{b a:Addr}Ē{c:ú}{d:À Addr}{sl:ò (À ú)}(x:ũ ô h ks b) (ho:h.get? a=↑{ cls:=c,dict:=d,data:=Ù3,slots:=sl }) (hs:Ø4 a h h'):ũ ô h' ks b:=by
 let#[o',items,n,ho',hc,hd',hi]:=x;have AW:b≠a:=by
  rintro rfl;obtain rfl:o'=_:=zD5 (ho'.symm.trans ho);cases hd'
 show#[o',items,n,(hs.2 b AW).trans ho',hc,hd',hi]
theorem c_ Û4 ĕ{es es':Ã6}{ep:Nat}{t t':Æ6}(ho:į):(h.update a (Û1 es' t')).get? a=↑{ cls:=Ŕ,dict:=none,data:=.set es' (ep+1) t' }:=by
 have e:Û1 es' t' { cls:=Ŕ,dict:=none,data:=Ù3 }={ cls:=Ŕ,dict:=none,data:=.set es' (ep+1) t' }:=putSet_of es' t' rfl;have:=zd2 (Û1 es' t') ho (by rw[e];rfl);rw[e] at this;show this
theorem Yt Ù5(l:Į) (f:α->β) (d:β):∀ (order:Õ4),(∀ k∈order,k<Ú5)->order.map (λ k=>(l.map f).getD k d)=(order.filterMap λ k=>l[k]?).map f
 | [],_=>rfl
 | k::order,h=>by
  have hk:=h k AU;have ih:=Yt l f d order λ j hj=>h j (AX _ hj);rw[AR,zbB,zA1 hk];ext þ;rw[AR,ih];congr 1;simp[hk]
def MT ĕ Ē{xs:Ò6}{led:Bool}{wanted M:Nat}{Q:Unit->õ}
  (ho:Þ7 a=↑{ cls:=Ŕ,dict:=none,data:=Ù3 }) (X:j8 Ä7 Ŀ es t xs) (hled:t.led=led) (AV:t.plain=true) Ä6 (hw:sizeAbove wanted=M+1) (AJ:í*5<M*3) (hnd:â4)
  (h:∀ h' xs',Ø4 a Ŀ h'->jr ĺ h' a xs' led->xs'.Perm xs->Q Unit.unit { s with heap:=h' }):İ Ì (setRelay a wanted) Ý5:=by
 have hlen:Ñ3=í:=Ū
 have hhs:(es.map Đ).toList=ħ Á9:=by rw[Array.toList_map,X.es,A4];rfl
 have hsz:(es.map Đ).size=í:=by rw[zbJ,hlen]
 let#[t',order,h1,h2,h3,h4,h5,h6,h7]:=TR hM t.finger (t.movedTo M) t.led t.plain (es.map Đ) (by rw[hsz];lia);rw[hsz] at h6;have AZ:∀ k∈order.toList,k<í:=λ k hk=>by exists h6.mem_iff.mp hk
 unfold setRelay;exact Ì0;ext þ;rw[É (by rw[hw];rcases hM with e | e | e <;> rw[e] <;> decide)];have hr:t.relaid (es.map Đ) wanted=↑(t',order):=by
  unfold SetTable.relaid;rw[hw,Nat.add_sub_cancel];show h1
 rw[hr];have hes':(š).toList=(à1).map λ e=>Ï2:=by
  rw[Array.toList_filterMap,List.map_filterMap];congr 1;funext k;rw[<- zD3,X.es,A9]
 have hperm:(à1).Perm xs:=(h6.filterMap _).trans (by rw[List.filterMap_getElem?_range_length]);have hsz':(š).size=Ñ3:=by
  rw[<- zD2,hes',AQ,Ù4,hlen]
 exact za0 (m:=_) ?_;change İ È (do
  let ↑(t,order):=↑(t',order) | ð8 "internal:set-table-without-room"
  let es':=š
  if es'.size != Ñ3 then ð8 "internal:set-table-lost-an-element"
  pure (es',t)) Ŗ
 ext þ;rw[É (by rw[hsz'];simp)];exact AE ?_;have hsl:(š).size<=Ó:=by
  rw[hsz',hlen];have:Ó=16777216:=rfl;rcases hM with e | e | e <;> subst e <;> lia
 exact å7;have sb:=Heap.SameBut.update Ŀ a (Û1 (š) t');exact h È sb #[#[_,ep+1,t',c_ ho,#[hes',λ e he=>Z7 (X.is e (hperm.mem_iff.mp he)) ho sb,?_,?_],by rw[h4];show hled,by rw[h5];show AV,?_],ð9 hnd] hperm
 .rw[<- Yt xs (Á9) 0 order.toList AZ,<- hhs];show h7
 .rw[Ù4,h2];lia
 .rw[Ù4,h2];show AJ
theorem VT Í5 Ĥ Ä6 (h1:n*5<M*3) (h2:M*3<=(n+1)*5) (hn:n<70):∃ M',oV M'/\sizeAbove (grown (n+1))=M' + 1/\(n+1)*5<M'*3:=by
 rcases hM with e | e | e <;> subst e
 .have:n=4:=⋯;ext Û3;show#[31,ń (ģ rfl),zdK,⋯]
 .have:n=18:=⋯;ext Û3;show#[127,ń (ń rfl),zdK,⋯]
 .lia
def CM ĕ{xs:Ò6}{key:Â}{b:Addr}{led:Bool}Í7(hu:Ş<œ) (S:jr ĺ Ŀ a xs led) (hb:ũ ô Ŀ key b) (hn:í<70)
  (h:∀ h' xs' r,Ø4 a Ŀ h'->jr ĺ h' a xs' led->(Å1)->Q r { s with heap:=h' }):
  İ Ì (setAddHashed a (Ý b) Ŋ) Ý5:=by
 let#[Õ9,hnd]:=S;have hlen:Ñ3=í:=Ū
 unfold setAddHashed setAddHashedIn;exact zcT (Ì0);ext þ;rw[É (by simp[byScan,Value.scannable])];let#[K,k1,k2,k3]:=X.tab.first (by rw[AQ];show X.eM) Ŋ;have hmk:î<=127:=Û2
 exact za0 ?_;unfold setSearch;exact VW (key:=key) (b:=b) hu ho rfl X hb (λ hm=>?_) (λ hm j F=>?_) 100000 0 none rfl (λ m hm=>⋯) #[K,⋯,⋯,k1,k2,k3]
 .ext þ;exact AE ?_;have:=h Ŀ xs à #[rfl,λ _ _=>rfl] #[Õ9,hnd] (ģ #[hm,rfl]);show this
 .ext þ;exact Ì0;ext þ;let#[p1,p2,p3]:=X.tab.put F;rw[AQ] at p1;have hpt:(Ñ2).1.plain=true:=by rw[p2];show AV
  have hmt:(Ñ2).1.mask=î:=by rw[p2]
  have AZ:(Ñ2).1.led=led:=by rw[p2];show hled
  generalize hT:(Ñ2)=P at *;let#[t1,p]:=P;dsimp only at *;rw[hpt];simp![if_true];exact za0 (Gx hb ?_);simp![if_true];let xs1:=Ù2++(key,b)::â1
  have hperm:xs1.Perm (xs++[(key,b)]):=by
   have e:Ù2++â1=xs:=zc1 p xs;have:xs1.Perm ((key,b)::(Ù2++â1)):=List.perm_middle;rw[e] at this;show this.trans (List.perm_append_singleton È).symm
  have hl1:xs1.length=í+1:=by rw[Ù4];simp
  have hes1:(ê).toList=xs1.map λ e=>Ï2:=by
   rw[toList_insertAt,X.es];simp[xs1,zc4,zaZ]
  have hsz1:(ê).size=í+1:=by rw[<- zD2,hes1,AQ,hl1]
  have hsl:(ê).size<=Ó:=by
   rw[hsz1];have:Ó=16777216:=rfl;lia
  exact za0 (å7);have sb:=Heap.SameBut.update Ŀ a (Û1 (ê) t1);have ho1:=c_ (es':=ê) (t':=t1) ho;have hm7:7<=î:=Û2
  have X1:j8 Ä7 (s.heap.update a (Û1 (ê) t1)) (ê) t1 xs1:=by
   exact#[hes1,λ e he=>?_,?_,by rw[hl1,hmt];lia]
   .rcases zB9.mp (hperm.mem_iff.mp he) with q | q
    .show Z7 (X.is e q) ho sb
    .cases zB6.mp q;show Z7 hb ho sb
   .have:xs1.map (Á9)=(ħ Á9).take p++Á key::(ħ Á9).drop p:=by simp[xs1,zc4,zaZ]
    rw[this];show p3
  have hnd1:(xs1.map Đ).Nodup:=by
   exact ð9 ?_;rw[zE7,List.nodup_append];exact#[hnd,#[],λ x hx y hy=>?_];simp at hy;subst hy;show λ e=>hm (e▸hx)
  by_cases hf:t1.tooFull=true
  .rw[hf];simp![zB2,zbM,if_true];have hfill:t1.fill=í+1:=by
    ext Ö1
   have hfull:î*3<=(í+1)*5:=by
    have:=hf;ext Ê8
   let#[M',g1,g2,g3]:=VT í î X.tab.mask AJ hfull hn;rw[hlen];exact za0 (MT (led:=led) ho1 X1 AZ hpt g1 g2 (by rw[hl1];show g3) hnd1 λ h' xs' sb' S' pm=>?_);exact AE ?_;show h h' xs' true (sb.trans sb') S' (ń #[hm,pm.trans hperm])
  .have hf':t1.tooFull=à:=by exists hf
   rw[hf'];simp![zB2,zaT,zC4,Ì2];exact AE ?_;have hfill:t1.fill=í+1:=by
    ext Ö1
   have hfull:(í+1)*5<î*3:=by
    have:=hf';ext Ê8
   show h _ xs1 true sb #[#[_,ep+1,t1,ho1,X1,AZ,hpt,by rw[hl1,hmt];show hfull],hnd1] (ń #[hm,hperm])
end
def ki Ù7:Bool:=! ø
def pS Ù7:Obj:={ cls:=Ŕ,dict:=none,data:=.set Ħ 0 (.fresh 0 0 (ki w)) }
section
variable {prog:Í9}{Ä5}{Ļ}{ã2}{Ù6}
set_option maxHeartbeats 3200000 in
def Dw (a:ú) {Q:AH}(h:Q (Ý Æ) { s with heap:=Ī }):
  codeAny Ì (.call (Ì3 "set.__new__") é2) (wants Q E) s:=by
 exact codeAny_of_tree ?_;change İ _ A.in1 (checkBuiltinCall "set.__new__" é2 >>= λ _=>again (Ì3 "set.__new__" é2)) È s;exact za0 (wpAny_of_eq (F.newCall_set_1 a) (AE #[plainId_quiet F.plain_set_new _,ñ0 F.entry_set_new ?_]));rw[Around.under_plainId F.plain_set_new _];unfold Builtin.«set.__new__» Builtin.Frozenset.newClass newSet setsByText;have sub:=sub_set_self;let#[hp,g,d,tk,os]:=s;ext þ
 wp_walk
 exact zd8 (AE ?_);ext þ;simp![newObj];show za0 (wpAny_alloc (AE (AE h)))
def Mw Û4 ĕ(ho:h.get? a=↑(pS w)):jr ĺ h a [] (ki w):=
 #[#[Ħ,0,_,ho,#[rfl,λ e he=>(by cases he),#[ģ rfl,rfl,rfl,Ú4,λ j hj=>(by cases hj),λ i g j hg=>(by cases hg)],#[]],rfl,rfl,by change 0*5<7*3;lia],Ú4]
end
end ST
namespace ST
open è5 PySem.SetTable Ť
section
variable {κ β:Type}[DecidableEq κ]{val:κ->β->ú}{its:A1}{ks:List κ}{Ê7}{xs xs':Ô6}
structure Up ê8 Ö (xs:Ô6):Prop where
 own:∀ e∈xs,∃ j,j<i/\its[j]?=↑(val e.1 e.2)/\ks[j]?=↑e.1
 all:∀ (j:Nat) r,j<i->ks[j]?=↑r->r∈ ħ Đ
theorem Y6:∀ (l m:List κ),l.Nodup->(∀ x∈l,x∈m)->Ú5<=m.length
 | [],m,_,_=>zD4 _
 | x::l,m,hn,hs=>by
  have h1:=zaC.mp hn;have hx:=hs x AU;have:=Y6 l (m.erase x) h1.2 λ z hz=>(List.mem_erase_of_ne (λ e:z=x=>h1.1 (by rw[<- e];show hz))).mpr (hs z (AX _ hz));rw[List.length_erase_of_mem hx] at this;have:=List.length_pos_of_mem hx;simp![zC0];lia
def Up.len (U:ñ1) (nd:â4):í<=i:=by
 have:=Y6 (ħ λ e=>↑e.1) ((ă i).map λ j=>ks[j]?) (by
  have:(ħ λ e=>↑e.1)=(ħ Đ).map some:=by rw[A4];rfl
  rw[this];show List.Pairwise.map _ (λ a b h e=>h (zD5 e)) nd) λ x hx=>by
  let#[e,he,rfl]:=AO.mp hx;let#[j,h1,_,h3]:=U.own e he;show AO.mpr #[j,A8.mpr h1,h3]
 exists this
def Up.step {key:κ}{b:β}(U:ñ1) (hi:its[i]?=↑(val key b)) (hr:ks[i]?=↑key)
  (h:Å1):Up Ä8 à8 xs':=by
 have eqi:∀ j:Nat,j<i+1->¬ j<i->j=i:=λ j a b=>⋯;rcases h with ⟨hm,rfl⟩ | ⟨_,hp⟩
 .exact ã9
  .let#[j,h1,h2]:=U.own e he;show#[j,zb0 h1,h2]
  .by_cases q:j<i
   .show U.all j r q hrj
   .rw[eqi j hj q,hr] at hrj;cases hrj;show hm
 .exact ã9
  .rcases zB9.mp (hp.mem_iff.mp he) with q | q
   .let#[j,h1,h2]:=U.own e q;show#[j,zb0 h1,h2]
   .cases zB6.mp q;show#[i,zE2 i,hi,hr]
  .rw[(hp.map Đ).mem_iff,zE7];by_cases q:j<i
   .show zaO _ (U.all j r q hrj)
   .rw[eqi j hj q,hr] at hrj;cases hrj;show zB4 _ AU
structure Kd ū (A:Around) ê8 (Sa:Addr) (wr:List Addr) (Se:ñ2) (Tp:Heap->Prop):Prop where
 nd:∀ {h xs},Se h xs->â4
 keep:∀ {h h' xs i},(∀ b o,b∉wr->Ð3->Á2)->ñ1->Se h xs->Se h' xs
 bK:∀ {h h'},(∀ b o,b∉Sa::wr->Ð3->Á2)->Tp h->Tp h'
 add:∀ Ù6{xs:Ô6}Ê7{v:ú}Í7 ã2,Tp Ŀ->Se Ŀ xs->í<70->Ì4->
  (∀ h' tk xs' rr k b,v=val k b->ks[i]?=↑k->Ø4 Sa Ŀ h'->s.toks<=tk->Se h' xs'->(k∈ ħ Đ/\xs'=xs\/k∉ ħ Đ/\xs'.Perm (xs++[(k,b)]))->Q rr { s with heap:=h',toks:=tk })->
  İ Ì (setAdd Sa v) Ý5
variable {prog:Í9}{Ä5}{Ļ}{R:Result->õ}{I:Addr}{fp wr:List Addr}{G:ò GenState->ò GenState->Prop}{Ó0}{P:Nat->ú->Prop}{St:Nat->õ}{Sa:Addr}{Se:ñ2}{Tp:Heap->Prop}
def T4 (W:WalksS ĺ A.in1 I fp wr G n (λ i v=>P i v) St) (D:Kd ĺ A.in1 Ä8 Sa wr Se Tp) (hSf:Sa∉fp) (hP:∀ i v,P i v->Ì4) (hn:n<70):
  ∀ (k i:Nat) (s:Á1) (xs:Ô6),n-i=k->i<=n->St i s->Se Ŀ xs->Tp Ŀ->ñ1->
   (∀ s' xs',Moved (Sa::wr) G s s'->Se s'.heap xs'->Up Ä8 n xs'->R (.ok (.ret .none)) s')->
   codeAny Ì (Ì3 "set.update.loop" #[[Ý Sa,Ý I],[]]) R s:=by
 have more:∀ b∈wr,b∈Sa::wr:=λ b hb=>AX _ hb;intro k
 induction k with
 | zero=>
  intro i s xs hk hi A5 hS hT hU hR;have e:i=n:=⋯;subst e;ext Ğ;show za0 (W.done s È A5 λ s' hm=>AE (hR s' xs (hm.mono more) (D.keep hm.heap hU hS) hU))
 | succ k ih=>
  intro i s xs hk hi A5 hS hT hU hR;have AZ:i<n:=⋯;ext Ğ;exact za0 (W.item i s È AZ A5 λ v s1 hPv hst1 hm=>?_);have hv:=hP i v hPv;have T1:=D.bK (λ b o hb e=>hm.heap b o (λ z=>hb (more _ z)) e) hT;have hl:í<70:=by have:=hU.len (D.nd hS);lia
  change İ _ A.in1 (holding [v] (setAdd Sa v) >>= _) È s1;exact za0 (zcT (D.add T1 (D.keep hm.heap hU hS) hl hv λ h' tk xs' rr key b ev hr sb ht S' hx=>?_));subst ev;have fr:=W.frame à8 s1 h' tk hst1 ht λ c hc o e=>(sb.2 c (λ z:c=Sa=>hSf (z▸hc))).trans e;exact AE #[plainId_quiet F.plain_set_update_loop _,ih à8 _ xs' ⋯ AZ fr S' (D.bK (λ c o hc e=>ß3) T1) (hU.step hv hr hx) λ s2 xs2 hm2 S2 U2=>?_];exact hR s2 xs2 (Moved.trans W.gtrans ((hm.mono more).then_heap ht λ c o hc e=>?_) hm2) S2 U2;show ß3
end
section
variable {prog:Í9}{Ä5}{Ļ}{its:A1}{Ë8}{Sa:Addr}{wr:List Addr}
def gN ū ì2 (its:A1) Ï5:Prop:=∀ Ö v,Ì4->∃ b r,v=Ý b/\rows[i]?=↑r/\ũ ô h r b
def gN.at {h h':Heap}(T:gN ĺ h its rows) (k:∀ Ö b,its[i]?=↑(Ý b)->∀ o,Ð3->Á2):gN ĺ h' its rows:=λ i v hv=>by
 let#[b,r,rfl,h1,o,items,m,h2,h3]:=T i v hv;show#[b,r,rfl,h1,o,items,m,k i b hv o h2,h3]
abbrev Vo:Â->Addr->ú:=λ _ b=>Ý b
def HK {led:Bool}(hSw:Sa∉wr) (hu:Ş<œ) (hoff:∀ Ö b,its[i]?=↑(Ý b)->b∉Sa::wr):Kd ĺ A Vo its rows Sa wr (λ h xs=>jr ĺ h Sa xs led) (λ h=>gN ĺ h its rows) where
 nd:=λ S=>S.nd
 keep:=λ{h h' xs i} k U S=>by
  let#[#[es,ep,t,ho,X,r],nd]:=S;exact#[#[es,ep,t,k Sa _ hSw ho,#[X.es,λ e he=>?_,X.tab,X.eM],r],nd];let#[o,items,m,g1,g2]:=X.is e he;let#[j,_,h2,_]:=U.own e he;show#[o,items,m,k È (λ z=>hoff j e.2 h2 (AX _ z)) g1,g2]
 bK:=λ k T=>T.at λ i b hi o e=>k b o (hoff i b hi) e
 add:=λ{s xs i v Q E} T S hl hv hQ=>by
  let#[b,r,rfl,hr,hb]:=T i v hv;unfold setAdd;exact zcT (za0 ((rk ĺ).pyHash (k:=r) (a:=b) (A:=A) hu hb ?_));show CM (s:={ s with toks:=s.toks+(rk ĺ).draws r }) (A:=A) hu S hb hl λ h' xs' rr sb S' hx=>hQ h' _ xs' rr r b rfl hr sb (zb1 È) S' hx
end
section
variable {prog:Í9}{Ä5}{Ļ}{ã2}{Ù6}
set_option maxHeartbeats 6400000 in
def Qr {κ β:Type} [DecidableEq κ] {val:κ->β->ú}{ks:List κ}{Se:ñ2}{Tp:Heap->Prop}{l:Addr}{its:A1}{Q:AH}(hh:A.handled=none) Î4 (hn:ì0<70)
  (D:Kd ĺ A.in1.in1.in1 Ä8 Æ [Æ+1] Se Tp) (hS0:∀ h,h.get? Æ=↑(pS w)->Se h []) (hT0:∀ h,(∀ b o,ą->Ð3)->Tp h)
  (h:∀ (h':Heap) (tk:Nat) xs,Se h' xs->Up Ä8 ì0 xs->Ä9):
  ì1:=by
 let#[c,tl,hmro]:=F.called_set.mro;have made:=F.called_set.made;have subm:=F.called_set.sub;exact wpAny_call (codeAny_of_tree ?_);change İ È (callAny (Ŕ) _) Ŗ;exact AE #[Code.quiet_builtin _ (zdK),ñ0 F.entry_type_call ?_];rw[Around.under_plain (weight_type_call_type "set" [Ý l] []) rfl];have nt:=F.called_set.notType;have cc:=F.called_set.canCreate;have tc:=F.typeCall_set_1 (Ý l)
 ext Á0
 exact codeAny_mono (Dw (Ý l) (E:=E) (Q:=λ obj s₁=>obj=Ý Æ/\s₁={ s with heap:=Ī }) ç4) λ r s₁ hr=>?_;cases r with
 | error e=>show hr
 | ok fl=>
  cases fl with
  | ret obj=>
   let#[rfl,rfl]:=hr;have hS:(Ī).get? Æ=↑(pS w):=zA9 _ rfl;have hTy:Shared.TypeIs { s with heap:=Ī } (Ý Æ) "set":=#[_,hS,rfl];have li:=F.called_set.init.lookup;have bi:=F.called_set.init.bind (Ý Æ)
   ext Á0
   let s1:Á1:={ s with heap:=Ī }
   exact codeAny_mono (codeAny_call_builtin (R:=wants (λ r s₂=>r=.none/\∃ h' tk xs,s₂={ s with heap:=h',toks:=tk }/\Se h' xs/\Up Ä8 ì0 xs/\
     ∀ b o,b<Æ->ą->Á2) E) F.called_set.init.plain F.entry_set_init (check_set_init_1 hTy ?_)) λ r₂ s₂ hr₂=>?_
   .have hsz:Þ1=Æ+1:=Heap.size_push È;have szne:Æ ≠ Þ1:=by rw[hsz];show zB3 (zE2 _)
    have low:∀ b:Addr,b<Æ->b≠ Þ1:=λ b hb=>by rw[hsz];show zB3 (zb0 hb)
    rw[<- hsz] at D;rcases hl with hl | hl
    all_goals
     let#[#[ocls,odict,odata,oslots],hol,hcl,nl,hdl]:=id hl;simp only at hcl hdl;subst hcl hdl;have hol1:=za1 (pS w) hol;have sls:=F.sub_list_set;have slf:=F.sub_list_frozenset;have sts:=F.sub_tuple_set;have stf:=F.sub_tuple_frozenset;have nd:(Ú7 "list" == Ú7 "dict")=à:=()
     have nd':(Ú7 "tuple" == Ú7 "dict")=à:=()
     have hlS:l<Æ:=A2 hol;have hneI:l≠ Þ1:=low l hlS;have hl1:=hl.push (pS w);unfold Builtin.«set.__init__» noKeywords Builtin.Frozenset.updateFrom;generalize hPI:pyIter=PI;unfold pS at *
     wp_walk
     subst hPI
     first | exact zd7 hl1 (za0 (wpAny_runValue ?_)) | exact wpAny_pyIter_tuple hl1 (za0 (wpAny_runValue ?_))
     first
      | exact T4 (A:=A.in1.in1) (P:=λ i v=>Ì4) ((Walks.list Ó7).toS) Ò8
      | exact T4 (A:=A.in1.in1) (P:=λ i v=>Ì4) ((Walks.tuple Ó7).toS) Ò8
     .intro hm;rcases Ö3 hm with q | q
      .show szne q
      .show zaE hlS (zB6.mp q)
     .show hS0 _ (za1 _ hS)
     .show hT0 _ λ b o e=>za1 _ (za1 _ e)
     .intro s' xs' hm S' U';let#[h',g',d',tk',os']:=s';obtain rfl:g'=s.gens:=hm.gens;obtain rfl:d'=s.drawn:=hm.drawn;obtain rfl:os'=s.os:=hm.os;exact AE (AE #[rfl,h',tk',xs',rfl,S',U',λ b o hb e=>?_]);exact hm.heap b o (λ q=>?_) (za1 _ (za1 _ e));rcases Ö3 q with q | q
      .show zB3 hb q
      .show low b hb (zB6.mp q)
   .cases r₂ with
    | error e=>show hr₂
    | ok fl₂=>
     cases fl₂ with
     | ret r=>
      let#[rfl,h',tk,xs,rfl,g1,g2,g3]:=hr₂
      ext Á0
      show h h' tk xs g1 g2 g3
     | _=>show hr₂.elim
  | _=>show hr.elim
def DU {l:Addr}{its:A1}Ë8{Q:AH}(hh:A.handled=none) (hu:Ş+64<œ) Î4 (hT:gN ĺ Ŀ its rows) (hn:ì0<70)
  (h:∀ (h':Heap) (tk:Nat) xs,jr ĺ h' Æ xs (ki w)->Up Vo its rows ì0 xs->Ä9):
  ì1:=by
 exact Qr hh hl hn (HK #[] (show Ş+1+1+1<œ by lia) λ i b hb hm=>?_) (λ h e=>Mw e) (λ h k=>hT.at λ i b _ o e=>k b o e) h;let#[b',r,e,_,o,_,_,ho,_]:=hT i _ hb;cases e;have:=A2 ho;rcases Ö3 hm with q | q
 .show zB3 this q
 .show zB3 (zb0 this) (zB6.mp q)
end
end ST
namespace ST
open è5 PySem.SetTable
section facts
def UU:Manifest.owners.lookup (String.ofList ['r','o','t','a','r','e','t','i','_','t','e','s'].reverse)=↑Manifest.sig_set_iterator:=by kernel_rfl
def iT:Slot "set_iterator" "__next__" "set_iterator.__next__":=
 .of (è:="set_iterator") (n:="__next__") ď
def R0:entryFor table "set_iterator.__next__"=↑Builtin.«set_iterator.__next__»:=entryFor_of_tree Æ7
theorem QP (a:ú):argsOk "set_iterator.__next__" #[[a],[]]:=by
 unfold argsOk;rw[signature?_of (id:="set_iterator.__next__") (n:=['_','_','t','x','e','n','_','_']) ŭ]
 kernel_rfl
def EH:entryFor table "set.__iter__"=↑Builtin.«frozenset.__iter__»:=entryFor_alias (id':="frozenset.__iter__") Æ7 rfl (zdK) Æ7
def VS:Slot "set_iterator" "__iter__" "set_iterator.__iter__":=
 .of (è:="set_iterator") (n:="__iter__") ď
def EG:entryFor table "set_iterator.__iter__"=↑Builtin.«dict_keyiterator.__iter__»:=entryFor_alias (id':="dict_keyiterator.__iter__") Æ7 rfl (zdK) Æ7
theorem C7 (a:ú):argsOk "set_iterator.__iter__" #[[a],[]]:=by
 unfold argsOk;rw[signature?_of (id:="set_iterator.__iter__") (n:=['_','_','r','e','t','i','_','_']) ŭ]
 kernel_rfl
end facts
theorem Ru Ċ:∀ (l:Į) Ö (x:α),l[i]?=↑x->l.Perm (x::l.eraseIdx i)
 | [],i,x,h=>by simp at h
 | y::l,0,x,h=>by simp at h;subst h;simp
 | y::l,i+1,x,h=>by
  have ih:=Ru l i x (à7);rw[List.eraseIdx_cons_succ];show (ih.cons y).trans (.swap x y _)
theorem UG Ċ(next:Nat->Nat):∀ (f k:Nat) (left:Į) (out:ò α),left.length=f->(pickOrder.go next f k left out).toList.Perm (out.toList++left)
 | 0,k,left,out,h=>by
  cases left with
  | nil=>unfold pickOrder.go;simp
  | cons _ _=>simp at h
 | f+1,k,left,out,h=>by
  unfold pickOrder.go;have AZ:next k%left.length<left.length:=zbN _ ⋯;rw[zA1 AZ];ext þ;exact (UG next f (k+1) È (by rw[List.length_eraseIdx_of_lt AZ];lia)).trans ?_;rw[Array.toList_push,zE8];show (Ru left È (zA1 AZ)).symm.append_left _
theorem LP Ċ(next:Nat->Nat) (xs:ò α):(pickOrder next xs).toList.Perm xs.toList:=by
 unfold pickOrder;exists UG next À9 0 xs.toList Ħ #[]
def comes Ù7 Ô8:Ã6:=if ø=true then pickOrder (w.params.setOrder a ep) es else es
def dk Ù7 Ô8:(comes w a es ep).toList.Perm es.toList:=by
 unfold comes;split
 .show LP È
 .show .refl _
def kY (a:Addr) (slot i n ep:Nat):Obj:={ cls:=.type "set_iterator",data:=.fields [rawInt slot,rawInt i,ä6,rawInt n,rawInt ep].toArray }
def slotAt (t:Æ6):Nat->Nat
 | 0=>0
 | i+1=>Ó4+1
theorem C0 {t:Æ6}(hr:mT Ù):∀ i,i<=Ã5->below ć (slotAt t i)=i
 | 0,_=>by
  let#[h1,h2,h3]:=aA (xs:=ć) (j:=0) hr;rcases Nat.eq_zero_or_pos (below ć 0) with q | q
  .show q
  .have:=h2 0 ⋯ q;lia
 | i+1,hi=>by
  have hd:Ó4=ć[i]:=Xh ⋯;change below ć (Ó4+1)=i+1;rw[hd];let#[h1,h2,h3]:=aA (xs:=ć) (j:=ć[i] + 1) hr;have pV:∀ a b (ha:a<Ã5) (hb:b<Ã5),a<b->ć[a]<ć[b]:=λ a b ha hb hab=>by
   have r:=zbL.mp hr a b (by exists ha) (by exists hb) hab;rw[zaX,zaX] at r;show r
  rcases zb7 (below ć (ć[i] + 1)) à8 with q | q | q
  .have:=h3 i ë;lia
  .show q
  .have a:=h2 à8 ⋯ q;have b:=pV i à8 ë ⋯;lia
structure om Ù7 ì2 Ô8 (t:Æ6):Prop where
 get:į
 fits:t.fits Ñ3=true
 pV:mT Ù
 led:t.led=ki w
 plain:t.plain=true
theorem om.size Ä5 Û4 ĕ Ē(S:om w h a es ep t):Ã5=Ñ3:=by
 have:=S.fits;simp![SetTable.fits,zE5,beq_iff_eq] at this;show this.1
section
variable {prog:Í9}{Ä5}{Ļ}{ã2}{Ù6}
def Tt ĕ Ē Ê7{Q:À (ú ×Nat)->õ}(S:om w Ŀ a es ep t) (hi:i<=Ñ3) (slot:Nat) (hs:ø=à->slot=slotAt t i)
  (h:∀ slot',(ø=à->slot'=slotAt t à8)->Q ((comes w a es ep)[i]?.map λ e=>(e.2,slot')) s):İ Ì (setNext a slot i ep) Ý5:=by
 unfold setNext setsByText;exact é3;ext þ;exact za0 (å8);change İ _ A (if ø=true then _ else _) Ý5;cases hb:ø with
 | true=>
  rw[Ñ8,É #[]];unfold setWalk setsByText;exact za0 (é3);ext þ;exact za0 (å8);change İ _ A (if ø=true then _ else _) _ E s;rw[Í hb];exact å8;exact AE ?_;have:=h slot (λ q=>by rw[hb] at q;cases q);unfold comes at this;rw[Í hb] at this;show this
 | à=>
  rw[É #[]];split
  .rename_i hd;have hd':(!t.plain&&È3 (Ñ3>1))=true:=hd;rw[S.plain] at hd';simp at hd'
  .change İ _ A ((if (!t.led&&!es.isEmpty)=true then ð8 "set:maker-not-led" else pure Unit.unit) >>= _) Ý5;have hl:t.led=true:=by rw[S.led];unfold ki;rw[hb];rfl
   rw[É (by rw[hl];simp)];exact za0 (AE (AE ?_));have hsl:=hs hb;have hz:=S.size;rw[hsl,C0 S.pV i (by rw[hz];show hi)];have:=h (slotAt t à8) (λ _=>rfl);unfold comes at this;rw[É (by rw[hb];simp)] at this;rcases za8 i Ñ3 with q | q
   .have hp:i<Ã5:=by rw[hz];show q
    rw[zB8 q] at this;rw[zB8 q,zB8 hp];have e:slotAt t à8=ć[i] + 1:=by change Ó4+1=_;rw[Xh hp]
    rw[e] at this;show this
   .rw[zaY q] at this;rw[zaY q];show this
)
example:=`(
example ô7:=(apos.endLine == AA.line)=true
example ĭ(hline:ô7):=0
example ß4:=AY X e []
example æ1:=(λ x=>!x.1)
example ä5:=backTo
example Í:=X.env
example Ð1:=(keywordEach [] Í)
example ç:=(backToKw AA Ð1).all (λ x=>x.1.isSome)
example Â4:=([]:List Keyword).length
example Ē:=(if ([]:List Keyword).isEmpty then 0 else 1)
example ĥ:=decide
example ē:=starEach
example Æ4:=((ä5 AA (ē [e] Í)).all æ1&&ç && ĥ ([e].length+Â4+Ē<30))=true
example À(AJ:Æ4) ĭ (hs:ß4) (hplain:A3 X AA []):=0
example Á:=s.heap.objs.size
example î:=eval o Í
example É7 _:=x Í (î)
example Đ:=(e::es)
example č:=attributeBase
example Â(hbase:č o name É7=î) (AJ:((ä5 AA (ē Đ Í)).all æ1&&ç && ĥ ((e::es).length+Â4+Ē<30))=true) ĭ (hs:AY X e es) (hplain:A3 X AA es):=0
example Ã:=PyProof.Rows
example Þ:=false
example ä:=.str
example ń:=.Constant (ä y) j1 p1
example Ï9:=(Þ,eval (ń) Í)
example ŉ:=Expr.Constant (ä y) j1 p1
example Ň:=.Constant (ä z) j2 p2
example Ä(hyz:(y == z)=Þ) (hz:z.length<=14) (hbase:č o "replace" É7=î) (AJ:((ä5 AA (ē [ŉ,Ň] Í)).all æ1&&ç && ĥ ([ŉ,Ň].length+Â4+Ē<30))=true) ĭ (hs:ē [ŉ,Ň] Í=[Ï9,(Þ,eval (Ň) Í)]):=0
example Å:=.ref
example á8 _:=x prog w
example Ä5:=intKind á8
example Æ:=(Ä5).hash
example ë6 _:=x o "startswith"
example Ç(hbase:č ë6 É7=î) (AJ:((ä5 AA (ē [ŉ] Í)).all æ1&&ç && ĥ ([ŉ].length+Â4+Ē<30))=true) ĭ (hs:ē [ŉ] Í=[Ï9]):=0
example È:=Option
example É:=List Str
example Ê:=PySem.Spec
example È1{x:Str}:=0
example û4:=X.env.scope
example Ì6(i:Nat):=0
example Ñ:=(x == ("__debug__":Str))=Þ
example È4(hd:Ñ:=by decide) (hcd:(x == ("__classdict__":Str))=Þ:=by decide):=0
example Ë Ì6 È1(hN:X.N[i]?=↑x:=by rfl) (hv:iw û4 x:=by first | show Or.inl rfl | show Or.inr (Or.inl rfl) | show Or.inr (Or.inr rfl)) È4:=0
example È0:=Str.ofString "__next__"
example ø3:=(Å z)
example ū:=(AE ?_)
example æ4 _:=x rfl ?_
example è5:=.none
example Ì:=by exact za0 (wpAny_attempt (zcZ (name:=È0) hT F.slot_zip_next (zcU F.slot_zip_next hT F.entry_zip_next ?_ (F.args_zip_next_1 _))));exact za0 (m:=field ø3 2) (zcR hz rfl (x:=.bool Þ) æ4);exact za0 (m:=field ø3 3) (zcR hz rfl (x:=Å TI) æ4);exact za0 (m:=seqItems? (Å TI)) (zcY hti æ4);exact za0 (m:=Builtin.SmallTypes.ownedTupleIsFree ø3) (za0 (m:=field ø3 0) (zcR hz rfl (x:=è5) rfl ū));simp![if_true]
example Î:=by let#[Y,S,r1,r2,z]:=hu
example Ï _:=x (model á8) A
example Ó2:=λ t' k=>#[ä _,H,I.tok k,#[t',rfl],q]
example Õ _:=x _ _
example Ð _:=x (st:=none) #[o,h1,h2,h3] rfl (post_val_or_str #[A7 (Txt.slice_le z Õ) hz,Ó2])
example Á7:=Value.ref
example ė:=.int
example Ŧ:=if_neg
example Û7:=by dsimp only
example Ò:=by let#[ol,g1,_,n,g2]:=hl;exact za0 (zcZ (name:=È0) ht F.slot_tuple_iterator_next (zcU F.slot_tuple_iterator_next ht F.entry_tuple_iterator_next ?_ (F.args_tuple_iterator_next_1 _)));exact za0 (m:=field (Å it) 0) (zcR e1 e3 (x:=Å l) æ4);ext Û7;rw[Ŧ (show ¬ ((Á7 l == Value.none)=true) from za6)];exact za0 (m:=field (Å it) 1) (zcR e1 e3 (x:=ė i 0) æ4)
example Ø3{w:World}:=0
example ö7:=Program
example Ó{prog:ö7}Ø3:=0
example è3:=by simp![zj]
example Ô:=(by ext è3)
example ô:=Value
example Ñ7:=Around
example ċ:=Shared
example Ö(f:Addr) (AF:ô) (A:Ñ7) (outer:List Env) (s:ċ) (H:Hp) (E:XK):=0
example Ø:=(upd H l (.ext (ST.xQ w l us)))
example ø6:=e1.extBut
example ç9:=wpAny_onRaise
example Ľ:=Ne.symm
example ď:=Builtin.SmallTypes.nextOf
example Å0 _:=x (s1.on λ o q=>ø6 Õ (Ľ n3) q) (h1.on λ o q=>ø6 Õ a1 q) hx
example ø2:=IsPair
example Ù:=by exact za0 (za0 (ç9 (za0 (m:=ď (Å i1)) (draw Å0 λ g2 s12 e2=>AE ?_))));have to2:ø2 g2 TO a b:=e2.extBut Õ n8 (ø6 Õ (Ľ n2) hto);exact za0 (zcY to2 rfl (za0 (wpAny_updateSeq_pair to2 λ g3 to3 e3=>za0 (wpAny_letGo ū))))
example Ú:=List.replicate
example è0:=or_false
example ô1:=s.TypeIs
example Û:=by simp![zaC,AL,za5,è0,not_or,List.nodup_nil,and_true,not_false_eq_true] at nd f1 f2;let#[#[n1,n2,n3,n4],#[n5,n6,n7],#[n8,n9],n10]:=nd;let#[a1,a2,a3,a4,a5]:=f1;let#[b1,b2,b3,b4,b5]:=f2;let#[hz,hti,#[a,b,hto],s1,s2]:=S;have hT:ô1 ø3 "zip":=#[_,hz,rfl]
example Ü:=s.heap.push
example Ý:=.Attribute
example ß:=sizeLine
example à _:=x P w K mg base
example á:=xs.length
example â:=List Int
example ã:=s.heap.get?
example å:=[z,TI,TO,i1,i2]
example Ð3:=(xi X N' scope cl C s H fp)
example ĺ(hc:X.calm=true):=0
example æ(_:Hq scope N'=true) (hi:yv X tg iter ti) (hg:∀ cl C s H fp,N'.Nodup->mq Ð3 tg g) (hf:∀ cl C s H fp,N'.Nodup->gQ Ð3 ifs tcc) (he:∀ cl C s H fp,N'.Nodup->PD Ð3 elt te) (nd:N'.Nodup) ĺ:=0
example è _:=x (Ý ë6 apos) [ń] [] AA
example é:=by rw[yw (pX q h (by intro z;cases z))];show q
example à1{t:SetTable}:=0
example Í1{es:Array (Int× ô)}:=0
example ê Í1{ep:Nat}à1:=0
example æ2:=mainGlobals
example ë(X:K.In h) (G:h.Ns æ2 mg):=0
example ß3:=typeIs_str Õ _
example ì _:=x F.slot_str_split (ß3) F.entry_str_split
example Ï3:=Value.int
example í:=insertAt es p (Æ n,Ï3 n tk)
example ï:=by intro X hP hw hK hc i gV s B H E I hf st hg;subst hP hw hK
example ð(ha:PD X a ta) (hb:PD X b tb):=0
example û9(mg:A0):=0
example ő(K:AB):=0
example Ð4(w:World):=0
example ñ(P:ö7) Ð4 ő û9 (base:Heap):=0
example ě:=.lst
example Ţ:=(e1.trans e2).trans
example ç5:=zu.ext
example ò:=by exact#[p,q,xs',ys',rfl,rfl,g3,g5,by rw[<- g4.length,<- g6.length];show b3,?_];have e4:Ext H2 (upd H2 p (ě (xs'++ys'))):=ě g3 _;show b4 Õ Ô (Ţ e4) (p2.ups e4 #[_,yR,ç5 e4 _ (g4.append g6)])
example ó:=s.heap
example õ:=(·.1)
example Ì4:=(yk st)
example Ê1 _:=x f AF A outer s H E
example ö _:=x Ì4 Ê1
example ø:=PySem
example ù:=by exact za0 (wpAny_attempt (zcZ (name:=È0) (jT ho) iT (zcU iT (jT ho) R0 ?_ (QP _))));exact za0 ū;ext Û7;exact za0 (wpAny_fieldsOf ho æ4);dsimp only[rawInt];exact za0 (za0 (zcX S.get rfl S.fits ū))
example ú:=(s1.trans s2).trans
example û:=[].toArray
example ü _:=x (nC st) (xV st) Ì4 è5 kV
example ý{es:List Expr}:=0
example þ{X:Cx}:=0
example Ú8(l:Addr):=0
example è6:=È Addr
example Ù9:=Array (È ô)
example â8(n:Nat):=0
example í9:=items
example ÿ(t:Tok) Ú8 (í9:A1) â8 (dd:è6) (sl:Ù9):=0
example Á3 _:=x hbase AJ hline
example Ā _:=x Á3 hs hplain
example Â1 _:=x S (.refl S)
example Ń:=(λ _=>nofun)
example ā:=hq _ Â1 (Cl.of Ń pJ)
example Ò4 _:=x X.prog X.w
example Ă _:=x Ò4 X.K X.mg X.base
example ŀ:=.type
example ă:=ŀ "tuple"
example Ä8:=(Calls.evalArgs_plain ?_)
example È8:=Calls.callWith_builtin
example Ą:=by rw[hs] at hA ⊢;exact È8 (by change (Þ||(ä5 AA (ē es Í)).any õ)=Þ;rw[hplain] <;> rfl) Ä8;show zG hA λ us s2 #[vs,H2,I2,r2,q2]=>hm gV s2 B H2 x vs v us Q I2 r1 r2 q2
example ñ1:=rs.length<64/\∀ r∈rs,r≠[]
example ą:=(oB ts).bind λ rs=>if ñ1 then ↑(ě ((L4.qb (qD rs)).map zI)) else none
example ä6:=PySem.W.findIn
example Í5:=.builtin
example Ć(c1:PySem.W.plainGet K C Str.empty=true) (c2:PySem.W.hasDictIn K C=true) (c3:PySem.W.plainOver K C=true) (c4:ä6 K (Å C) "__setattr__"=↑↑(Í5 "object.__setattr__")):=0
example ñ7:=PySem.W.nsIn
example ć:=ñ7 K æ2 x
example Ĉ:=k.toNat
example ĉ:=λ x S1 v H1 h1 q1 e1 p1=>?_
example Ċ(he:AY X e es) (AV:A3 X pos es):=0
example Č:=V->List V->Hp->VK->Prop
example Ď:=.Name
example à9:=wpAny_rule
example Ì7 _:=x z TI TO .ellipsis
example đ:=by unfold pyNext;ext Ì;exact za0 (à9 (za0 (zcR hz rfl (x:=Å TO) rfl (za0 (zd4 hz #[] λ g1 hz1 e1=>?_)))));replace hz1:IsZip g1 Ì7:=hz1;exact za0 ?_;simp![zc6,List.zipIdx_nil,zb5,List.forIn_nil]
example Ĕ:=by let#[hp,g,d,tk,os]:=s
example ţ{K:AB}:=0
example ĕ{P:ö7}Ø3 ţ:=0
example Ė:=λ e=>(Æ e.1,Ï3 e.1 e.2)
example Ę:=items.size
example í1:=AK.mp
example ę:=í1 e
example Ě:=.Call
example Ĝ:=its.toArray
example æ3:=ne_true_of_eq_false
example į:=s.toks
example ĝ:=by rw[strsFrom_eq];show hq (numbered į _) _ ((numbered_texts Õ).trans ((Ŧ (æ3 h1)).trans (Ŧ (æ3 hf))).symm)
example Ğ(hty:typeOf (Í5 id)=pure (ŀ "method_descriptor")) (hm:lI X id r):=0
example ğ:=by let#[u,rfl,ru]:=vals1 r;cases ru
example Ġ:=by have nd:=D.nd;simp![zaC,AL,za5,è0,not_or] at nd
example ġ:=List T
example ç8:=compareOp
example Ģ{op op':CmpOp}{f g:xA}{r r':R2}(ho:yO X (ç8 op) r) (ho':yO X (ç8 op') r') (hr:rO X.K f r) (hr':rO X.K g r') (hf:rZ f) (hg:rZ g):=0
example ģ:=by intro gV s B H x vs v us Q I rx rv h
example Ĥ:=es.size
example Ħ _:=x k1 k2 ó l1 l2
example ħ _:=x gV s B H
example Õ4{n:Nat}:=0
example ñ9(hk:mr X.K) (ho:PE X o (o9 i)):=0
example Ĩ Õ4(hr:y6 n X.A) ñ9 (hi:PE X ie (o9 j)):=0
example ĩ:=wpAny
example Ī:=(upd H r (.ext (mn r j)))
example ī(hh:A.handled=none):=0
example Ĭ _:=x (model Ò4) X.A
example ã9:=(AM _)
example Į:=I.zH.fresh ã9
example İ:=Inv X gV B H s
example ı:=.fields [è5,.bool Þ,Å Á,rawInt 0,è5,è5].toArray
example Ĳ _:=x z TI TO i1 i2 l1 l2
example ĳ _:=x e1 λ d S1 s1 r1=>?_
example Ĵ(ho:PD X o to):=0
example ĵ:=.Subscript
example à2 _:=x r1 r2 z
example Ķ _:=x à2 λ d S1 v H1 h1 q1 e1 p1=>?_
example ķ:=by simp![AL,za5,è0] at hb
example ĸ:=.new hp _
example î2:=vs.toArray
example á0:=Obj.mapSeq
example Ä3:=(seqObj "list" û 0)
example Ĺ:=(Ü Ä3).update Á (á0 (·++î2))
example ø5:=e3.extBut
example Ļ:=by have up:∀ c o,c≠z->c≠i1->c≠TO->ã c=↑o->g3.get? c=↑o:=λ c o c1 c2 c3 q=>ø5 Õ c3 (e2.extBut Õ c2 (ø6 Õ c1 q))
example ļ:=Builtin.List.listExtendWith
example Á9:=r1.ext e1
example ľ _:=x (Á9) p1 h1 λ y S2 w H2 h2 q2 e2 p2=>?_
example Ñ2(a:ñ7 K æ2 "Desk"=↑↑(Å C)):=0
example Ŀ{C f:Addr}{oc:ô}{od an:è6}{osl:Ù9}{kV doc pm AF ct:ô}Ñ2:=0
example Ł:=by intro gV s B H xs us Q I r h
example ł:=.cons
example Ņ:=za0 (m:=firstArgMember Õ) (wpAny_of_eq (a:=Value.none) (by first | rfl | (simp![firstArgMember];rfl)) (zcW ?_ (by size_fits)))
example Þ1:=h'.get?
example Ó9:=ŀ "StopIteration"
example ô4:=(∃ o,Þ1 e=↑o/\o.cls=Ó9)
example ņ(hx:xs[i]?=none) (hE:∀ h' e,Heap.ExtBut it ó h'->ô4->E (Å e) { s with heap:=h' }):=0
example ň:=List (Str× ô)
example Ŋ:=(.refl H)
example ŋ:=ã l=↑{ cls:=ă,dict:=dd,data:=.seq í9 n,slots:=sl }
example Ō:=fun B H Q hu=>?_
example À8 _:=x S Z Y J
example ō:=by let#[ys,e1,e2]:=ę;exact h À8 ys _ hE e1 λ ds S1 s1 r1=>?_
example Ŏ:=w.params.followText "set-order"
example ŏ:=.inr
example Ő{a:Addr}:=0
example Ä1:=(.ext (xQ X.w l us))
example Œ:=by ext ğ;obtain⟨⟨es,ep,t,S,eu⟩,-,-⟩:=(show xS Ò4 H ó l Ä1 from I.zH l _ hl)
example œ:=Ev->È (ġ)
example Ŕ:=by let#[w,w1,w2]:=r1.2 i _ h1;let#[y,y1,y2]:=r1.2 j _ h3
example ŕ _:=x Sc hc hi (λ cl C s H fp=>hg cl C s H fp nd) (λ cl C s H fp=>hf cl C s H fp nd) (λ cl C s H fp=>he cl C s H fp nd)
example Ŗ _:=x a es ep
example ŗ:=s1.heap.objs.size
example Ř:=by have hlen:Ĥ=á:=by have:=congrArg List.length he;exists this
example ř:=xs.map
example Ö6:=λ(k:Nat)=>V.int (k:Int)
example Ś:=ě ((List.range j.toNat).map Ö6)
example Ö8:=(Å f)
example ś:=PySem.W.keepIn K Ö8=true
example ſ:=(Å l)
example Ŝ:=by have ht:=hit.typeIs;let#[oi,e1,e2,e3]:=id hit;ext Ò;ext Û7;exact za0 (m:=seqItems? ſ) (zcY g1 g2 ?_);simp![zb8,hx]
example õ1:=K.lookup
example Ž:=ss.map
example ò3:=V.str
example Ï0:=(Ž ò3)
example ŝ(h2:õ1 a=↑o) (hc:o.cls=ă/\o.dict=none) (hs:o.data=.seq its n) (hz:its.size<=ß) (r:Vals Ï0 its.toList):=0
example Ş:=List (Str× É)
example ş(gV:AN) (s:ċ) (B:St) (H:Hp):=0
example ø0:=holding
example Š(he:∀ whole,isTrue (Ě è) Í whole=(do let v <- whole;standAt (Expr.Call è).pos;ø0 [v] (truthy v))):=0
example š:=Heap.SameBut.update
example Ť:=by let#[_,y]:=e.ds Õ _ z;rw[h] at y;cases y
example ť:=zA9 _ rfl
example ŧ:=#[_,rfl,h]
example Ũ:=(.ListComp elt [#[tg,iter,ifs,0]] scope pos)
example ũ _:=x X (Ď x pos)
example õ5(h:Heap):=0
example ñ8(k1 k2:Bool):=0
example Ū ñ8 õ5 (l1 l2:Addr):=0
example Ü7{k:Nat}:=0
example Ŭ Ü7(hr:y6 k X.A):=0
example ŭ:=(·.2)
example Ů:=by let#[d,rfl,h1]:=oY hv
example ů{S:SS}:=0
example é8:=(upd H q (.dK []))
example ò4:=(.ins C dx [("kept",Å q)])
example Ű _:=x é8 p ò4
example ű:=P _ Z Y (F1.mut (us:=ě (ts++us)) (es:=ě (ds++es)) i h h1 ((zp.sx (pj s1) ts h3).append g4))
example Ų(ha:y7 X Đ tA):=0
example ų(hg:Gl X x):=0
example Ŵ(x:Str):=0
example ŵ:=(Txt.splitMax a b k).map
example Ŷ _:=x Y S Õ
example Ê7:=#[ŀ "dict",none,.dict es ep,û]
example Ð2:=zV.map õ
example û7:=(Ð2).Nodup
example Þ6:=es.toList
example Ö0:=Paired
example ŷ:=(a == sysModules)=Þ/\õ1 a=↑ Ê7/\Ö0 (j0 w) zV Þ6/\û7
example Ÿ{ds:List D}:=0
example ù9:=ã b=↑o
example Ź:=ù9->Þ1 b=↑o
example ź:=by rename_i ks ts x h1 h2;let#[p,m,g1,g2,rfl,g4]:=hE.eZ h1;let#[d,k1,k2]:=hE.im j _ h2;simp![Sn] at k2;subst k2
example Ż:=q.1=r.1/\∃ a,r.2=Å a/\∀ H,yz K H a (q.2.map ò3)
example ú4:=x2.trans e3
example ż:=fun Y5 S5 #[m',b,w5] B5 H5 b1 b2 b3=>#[(ú4).trans b2,Y5,S5,m',b,b1,b3,w5]
example ê3{k:Bool}:=0
example ž ê3{l:Addr}{xs:A1}:=0
example À0:=Å p
example ì9:=za1 _ e
example ú9:=strValues l
example À1 _:=x (λ b o e=>ì9) ã9 #[by rw[AQ];show h4,ú9,0,by rw[<- e];show Zv l,ť]
example ú6:=AutoSeq1.wpAny_loadPart' hl
example À2:=by wp_walk using ú6,made hL
example À3:=us.length
example À4{s:ċ}:=0
example ì1:=by let#[C',c1,c2,c3]:=hk;cases g1.eq c1
example À5:=by let#[C,dx,q,vs,g1,g2,g3,g4]:=r2 Õ h2;ext ì1
example À6:=.tup
example À7 _:=x PySem.F.slot_str_split PySem.F.type_str_split
example À9:=call_meets
example Á0{H:Hp}:=0
example Ù7:=ha.mo
example Á1 _:=x hf hg Ù7 hb.mo hc.mo
example Á2 _:=x [] pos
example Ú1:=-1000000<=i/\i<=1000000
example ï0:=(ä (toString i))
example Á4:=(λ xs H Q=>∃ i:Int,xs=[ė i]/\(Ú1)/\Q ï0 H)
example Á5:=by intro gV s B H x y v u Q I rx ry h
example Á6 _:=x (s2.on λ o q=>up _ o (Ľ n4) (Ľ n10) (Ľ n9) q) (h2.on λ o q=>up _ o b1 b4 b3 q) hy
example Á8:=(s1.trans s2)
example Â0:=callWith pos f first (ä5 pos (ē Đ Í)) (backToKw pos Ð1)
example Â2:=λ z=>hb (by simp[z])
example Ý3:=.inl
example Ê3:=by simp![zj] at q1
example ù6:=by ext Ê3;subst q1
example Â3:=by let#[#[ds,hd],h1]:=h1;ext ù6;let#[xs,g1,g2]:=p1 Õ hd;exact#[Ý3 #[rfl,xs,y4.of g1],?_]
example Â5(kV doc pm:ô) (an:è6) (AF ct:ô) (us:AI):=0
example Â6:=by have hp:((comes X.w l es ep).toList.map ŭ).Perm us:=by rw[<- eu];show (dk X.w l es ep).map _
example Â7:=(∀ c o,c∉ å->ã c=↑o->Þ1 c=↑o)
example Â8:=by let#[d,d',rfl,h1,h2]:=iI hv;cases h1.str
example Ï7:=Ev->È Bool
example Â9{N:É}{f1 f2:AD}{c:Ï7}{ga:œ}:=0
example ô9:=x.length
example û0:=occurrences
example Ã0:=û0 x y 0 ô9 (limitOf x k)
example Ã1 _:=x { nx:=λ _ S'=>Q .zA S',rt:=Q } (q_ N ds) S
example à4(h1:SQ ó k1 l1 xs) (h2:SQ ó k2 l2 ys):=0
example Ã2(D:aX Ĳ) (S:At ó k1 k2 Ĳ è5 n) à4:=0
example Ã3:=(Ú Ĉ its).flatten.toArray
example Ð0:=.zF ks ts
example Ã4:=(qu N (Ð0::ys)).set 2 ↑(.im w)
example Ã5:=["self","name","floor"]
example Ã6:=(((yh Ę 0 lo:Nat):Int) == 0&&(1:Int) == 1&&(yh Ę Ę hi-yh Ę 0 lo) == Ę)=true
example Ë5:=PySem.W.fnOf
example Ã7:=õ1 f=↑#[oc,od,.func (Ë5 x x ü dc pm an cd ct),sl]
example Ã8:=#[.bl _,H,I,rfl,q]
example Ñ6:=if_pos
example Ã9:=(hq [(x,t)] į ((Ŧ (æ3 h1)).trans (Ñ6 hf)).symm)
example Ä0:=by let#[#[slot,h1,h2],S]:=st
example Ä2:=(Shared.heap #[hp,g,d,tk,os])
example ú3:=F.slot_int_rmul
example Ä4 _:=x ú3 (typeIs_int s k t) F.entry_int_rmul (F.args_int_rmul_2 Õ)
example Ä6:=(Ú Ĉ xs).flatten.length
example Û3:=h.elim
example Ä7:=#[λ _ _ _ _ _ h=>Û3,λ _ _ _ _ _ _ #[_,_,_,_,h]=>Û3]
example Ä9:=Ý o "kept" ap
example Å1 _:=x PySem.F.plainAttrs_list PySem.F.slot_list_extend PySem.F.type_list_extend
example Å2(hg:Gl X x:=by rfl) (hd:Ñ:=by decide):=0
example Å3(hr:y6 k' X.A):=0
example Å4 _:=x (m.map õ) ts
example Å5(S:om w ó Ŗ t):=0
example Å6(ha:y7 X [e] tA):=0
example Å7 _:=x "__init__" "Desk.__init__"
example Å8:=λ e=>Æ e.1
example Å9:=(Txt.split a b).map
example Æ0:=h _ H (by simp![zj,cond]) Ŋ h3
example ë9:=List (Str×Str)
example Æ1{P:ö7}{base:Heap}{ys:ë9}:=0
example Æ2:=by .let#[es,ep,t,St,e]:=id hSO;show#[hSO,#[_,St.get],λ h1 h2 S1 k=>S1.lS k]
example Æ3:=by let#[x,hx,h1]:=h0.one;subst hx
example Æ5:=û0 x y 0 ô9 (ô9+1)
example ü2{i:Nat}:=0
example Æ6{it l:Addr}ü2{xs:A1}:=0
example Æ7:=if ts.length+À3<=ß then ↑(.nx (J.set i ↑(.own (ě (ts++us))))) else none
example Õ9:=ŀ "list"
example Æ8:=ã l=↑{ cls:=Õ9,dict:=dd,data:=.seq í9 n,slots:=sl }
example É8 _:=x [e] [] AA
example Æ9:=(Ě (Ý o "append" apos) É8)
example Ç0:=(ĵ (Ď x p) i pos)
example ð3{ps:É}:=0
example Ç1 ð3{sp:q8}(F:FD Ă x k ps sp):=0
example Ç2:=(f J).bind
example à0 _:=x Q E s
example Ç3:=ĩ Ï (ď (Å it)) à0
example Ç4:=g5.objs.size
example Ç5:=order.toList.filterMap λ k=>xs[k]?
example Ç6:=HT.yh á 0 lo=0/\HT.yh á á hi=á
example Ç7:=by let#[f,oc,od,kV,dc,pm,an,cd,ct,sl,a,l,c,k]:=H
example Ç8:=ċ->Prop
example Ç9:=.Compare
example Û1{tA:yy}:=0
example È2 Û1{pos p:Pos}:=0
example È3(X:Cx) (e:Expr):=0
example é5:=Calls.spliced_cons
example È5:=é5 (Calls.Constant_str (Calls.spliced_nil ?_))
example È6(hm:lastMarks [op,op'] [b,c]=Þ:=by with_unfolding_all rfl):=0
example à6 _:=x ħ _ I h
example È7:=(zG (ha pos à6) λ us s1 #[vs,H1,I1,r1,q1]=>?_)
example È9:=PySem.F.plainAttrs_str
example É0:=by ext Ĕ;let#[hl,h]:=h
example É1:=(Ü L0).objs.size
example É2:=rows.length
example É3:=I.ok.hd hc
example ú1:=(À0)
example É4:=Y[i]?=↑↑ ú1
example É5:=tab.lookup
example É6:=(Str×(ġ->È T))
example É9:=by rename_i hl;cases e2;let#[p,ob,h1,h2,h3,h4]:=F.er.ow i _ h
example Ê0 _:=x ü doc pm an AF ct
example Ê2:=Heap.size_push
example Ê4:=Ñ6 (by rw[show (Value.type "tuple" == Value.type "tuple")=true from rfl];simp)
example Ê5:=List (â)
example Ê6{k1 k2:Bool}{z TI TO i1 i2 l1 l2:Addr}:=0
example Ê8:=V->È Int->È Int->Hp->VK->Prop
example Ê9 _:=x X (Ě (Ď x p) Đ Á2) (jm sp tA)
example Ë0:=(ns.map V.int)
example Ë1:=S p=↑(.zF m)
example Ë2{e:Expr}:=0
example Ë3:=v1::v2::rest
example Ë4:=Ě (Ď "range" p2) [e] [] pos2
example Ë6:=(Ě (Ý o name apos) Đ [] AA)
example Ë7:=h l (h2.none hf) Õ Ô hx (h2.ups hx #[_,yR,zu.fR _])
example Ë8 _:=x F.slot_tuple_mul hT F.entry_tuple_mul (F.args_tuple_mul_2 Õ)
example Ë9(hit:s.heap.IsTupleIter it l i) (hl:s.heap.IsTuple l xs):=0
example Ì0:=trivial
example Ì1:=hE.grow
example Ì2:=[a,b]
example ö9:=ds.length
example Ì3:=ö9+es.length<=ß/\Q .zA (ups S2 p (ě (ds++es)))
example Ì5:=(wj xj à N "Desk.say" ö).rf
example Ì8:=t.mask
example Ì9:=by ext Ł;let#[p,ys,rows,rfl,hq,hr,qx,q]:=h;ext ğ
example Í0 _:=x Õ (.new hl _)
example Í2:=by unfold SetTable.tooFull at this;rw[hfill,hmt] at this;exists this
example Í3:=by ext Î;exact rR.go Ù7 à2 λ ds S1 vs H1 h1 q1 e1 p1=>?_
example Í4{mg:A0}{base h:Heap}:=0
example Í6:=PySem.W.mg_of
example Í7:=a.length
example Í8 _:=x X (.Tuple es kk pos')
example Í9:=List (Int×Tok)
example Î0:=by simp![AL,za5,è0,not_or] at hc
example Î1:=λ z=>c1 (by subst z;cases ds with | nil=>rfl | cons _ _=>simp at hl)
example Î2:=by have ex:x'=x:=by have:=f1 _ m1;rw[hx'] at this;show (zD5 this).symm
example Î3{apos AA:Pos}:=0
example Î4 _:=x (T:="StopIteration") (b:=true) #[o,ho,hc] isSubtype_stop
example Î5:=(yk st).names.lookup
example å7:=ho.mo
example Ö2:=zU.go
example Î6:=by ext Î;exact Ö2 å7 à2 ĉ
example Î7:=Ě (Ď "set" p2) [e] [] pos2
example Î8:=comes w Ŗ
example Î9:=T->T->È T
example Ï1(hf:rZ f) (hg:rZ g) (ha:y8 ta) (hb:y8 tb) (hc:y8 tc):=0
example Ï2:=by let#[it1,rv1,q1]:=g1.of I;let#[it2,rv2,q2]:=g2.of I
example Ï4:=(Å a)
example Ï5:=(Å Á)
example Ï6:=ps.map ŭ
example ä2:=ŀ "enumerate"
example ú5:=Ü (nj k l)
example Ï8:=(ú5).push { cls:=ä2,data:=ı }
example Ð5{ss:É}:=0
example Ð6(hbase:č o "split" É7=î):=0
example Ð7:=(Builtin.«int.__rmul__» #[[ė i t,Å l],[]])
example é3:=y.length
example Ð8:=(ĥ (ô9<é3)||ĥ (strKind x<strKind y))
example Ð9:=ĵ (Ý (Ď "self" p1) "kept" p2) (Ď "name" p3) p4
example Ñ0:=by let#[a,xs,rfl,g1,g2]:=h1
example Ñ1:=by let#[t,rfl]:=rx
example õ9{tab:Ş}:=0
example Ñ3 õ9(hk:aW X.K X.w X.mg x tab) (hi:PD X i ti):=0
example Ñ4:=(.bl (Txt.startswith a b))
example Ñ5 _:=x ì (F.args_str_split_3 Õ _)
example Ñ8:=zu K H ds xs
example Ñ9:=(Ú Ĉ xs).flatten
example Ò0:=È PySem.Fin×Unit
example Ò1:=partsBetween
example Ò2:=(.Dict [] [] pos')
example Ò3:=(ŏ x)
example Ò5{E:AH}:=0
example Ò6:=by let#[z,e1,e2]:=ę;split at e2
example Ò7:=ř λ e=>(V.ref e.2,e.1)
example Ò8:=order.filterMap (es[·]?)
example Ò9:=IntsAre
example Ó0:=λ b hb=>I1.eL (nw b hb) (I1.zH.fresh (nw b hb))
example Ó1:=λ S3 Z3 Y3 F3=>#[m,zE2 m,Z3,J2,F3,e']
example Ó3:=λ us s2 #[vs,H2,I2,r,q2]=>#[I2.rX,?_]
example Ó4:=ĥ (y.2=.local)||ĥ (y.2=.free)||ĥ (y.2=.cell)
example Ó5{xs:List V}:=0
example Ó6:=by simp![zj] at h1 h2
example Ó7:=by have q':ù9:=by rw[Heap.get?_push_ne Õ _ hbs] at q;show q
example Ó8{pos:Pos}:=0
example ò1:=(Þ,eval b Í)
example ò9:=(Þ,eval a Í)
example Ô0:=ē Ì2 Í=[ò9,ò1]
example Ô1:=Ü { cls:=ă,data:=.seq [ė i tk,u].toArray }
example Ô2(k:Nat):=0
example Ô3 _:=x Y S1 Õ
example Ô4:=by ext Á5;let#[c,d,rfl,rfl,q]:=h;cases rx;cases ry
example Ô5 _:=x _ H Ô Ŋ
example Ô6(lo hi:È Int):=0
example Ô7(he:PD X e te):=0
example Ô8{gV:AN}{B:St}:=0
example Ô9 _:=x gV s1 B H1 _ I1
example Õ0{f:AD}{te:zx}:=0
example Õ1:=List (È Nat)
example Õ2:=by intro xs n h;simp![zu] at h
example Õ3:=by exact za0 (wpAny_handled ?_);rw[show A.in1.handled=none from hh]
example Õ5:=g5.push { cls:=ă,data:=.seq [x,y].toArray }
example Õ6:=λ _=>ŏ #[o,its,n,h2,hc,hs,hz,r]
example Õ7:=by have h0:zu K H ([a,b].map D.str) xs:=h0;cases h0.strs
example ê0:=behindInMarks
example â0(hdb:Ñ):=0
example Õ8(hm:ê0 .NotIn (Ď x p)=Þ) â0:=0
example Ö1:=(k7 f g ta tb tc)
example Ö3:=sb.extBut
example Ø6 _:=x lo hi
example Ö4:=(ä (Txt.slice z Ø6))
example ï7 _:=x x y H Q
example Ö5:=rI pP (λ i j=>ė (i*j)) ï7\/Yl K ï7
example Ö7:=Builtin.List.listTooLong
example Ö9:=ss.idxOf k
example Ø0:=(ä (Txt.replace a y z))
example Ø1:=(.bl (Txt.contains v u))
example Ø2{Q:AH}:=0
example Ø4{R:Rk}:=0
example Ø5 _:=x Õ hc.2.2.2.2 (up c o hc.1 hc.2.2.2.1 hc.2.2.1 q)
example Ø7 _:=x ì (F.args_str_split_2 Õ)
example î8:=xs=x::rest
example ü7 _:=x x rest H Q
example Ø8:=λ xs H Q=>∃ x rest,î8/\r ü7
example Ø9:=by ext ï;let#[f0,f1,f2,f3,f4,f5]:=hf it #[]
example Ù0(_:Ht N' pick) (_:û4=esc) (_:X.N=N):=0
example Ù1(hs:∀ x,foldedSetIterable iter Í x=pure x):=0
example Ù2:=ß=16777216
example Ù3:=(ú s3).trans
example Ù4:=ĵ o i pos'
example Ù5:=xs[i]?=↑x
example Ù6:=Heap.SameBut it ó h'->Q x { s with heap:=h' }
example Ù8:=items.isEmpty
example Ú0:=[a,b,c]
example Ú2:=mW K "Desk" C
example Ú3:=["self"]
example Ú4:=ä "ok"
example Ú5:=x.cps.all (· < 128)=true
example Ú6:=lJ K w x zV
example Ú7{h:Heap}:=0
example Ú9 _:=x ho.pe (kc he.pe kb hs) Ā
example Û0(hb:č o "kept" É7=î):=0
example Û2:=wpAny_isInstance
example Û4:=its.toArray.size
example Û5:=#[T,id,pa,slot,hty,h1,h2,?_]
example Û6:=(Ě (Ý o "replace" apos) [ń,Ň] [] AA)
example Û8:=.nil
example Û9:=∃ c d,x=.bl c/\y=.bl d/\Q (.bl (c == d)) H
example Ü0:=some ↑(.own (ě ts))
example Ü1:=by .simp![zj] at h2;exact ŏ #[h2,?_];rw[Ss h1];show Æ0
example Ü2:=List Stmt
example Ü3:=(Ž D.str)
example Ü4:=by intro gV s B H Q tk I h
example Ü5:=by have npq:p≠q:=λ z=>by subst z;rw[g2] at hq;cases hq
example Ü6:=Ü { cls:=ă,data:=.seq [u1,u2].toArray }
example Ü8:=Ö0 (λ(q:Str× É) (r:Str× ô)=>Ż) tab zV
example Ü9:=∃ c d,x=.bl c/\y=.bl d/\Q (.bl (c != d)) H
example Ý0:=(λ x y=>D.tup [x,y])
example Ý1:=y6 k (A.deeper (envOfC qual Ì4 Á f AF))
example Ý2 _:=x Õ n4 (ø5 Õ n2 (e2.extBut Õ n3 hz1))
example Ý4:=es.toList.findIdx? (λ e=>(Ä5).is n e.2)
example Ý5:=ĩ Ï (binaryOp .Mult ſ (ė k t)) à0
example Ý6:=hq _ S1 s1 (ZR 0 g2) λ S'' s=>yx.sx g1 s
example Ý7 _:=x X (Ě (Ý o "split" apos) É8) (oQ nY to tA)
example Ý8 _:=x _ S2 Õ (λ d S' q=>qS.ext (e1.trans a2) q) z
example Ý9 _:=x (Tb.or (Tc hr.units)) mI.fits mI.mo ha hb hm
example Þ0:=#[_,ho,rfl]
example Þ2:=codeAny_builtin
example Þ3:=False
example Þ4:=ys.length
example Þ5:=(way Ì8 h K).j
example Þ7:=Unit.unit
example Þ8:=SQ ó k l xs
example Þ9:=e5.extBut
example ß0:=(gu Ħ).get?
example ß1:=u _ (p1 Õ rfl)
example ß2:=List.zipWith
example ß5:=(ř λ e=>Ï3 e.1 e.2)
example ß6:=wj xj à N x ö
example ß7:=(ė (ns.idxOf k:Nat))
example ß8:=swapsWith
example ß9:=λ gV s B H Q I hu=>?_
example à3 _:=x k1 k2 h l1 l2
example à5:=by let#[x,e1,e]:=ę
example à7(pa:PlainAttrs T) (slot:Slot T name id):=0
example à8:=by let#[a,es,ep,h1,h0,h2,h3,h4]:=hk
example á1:=H l=none
example á2:=its.length
example á3:=λ l hl=>hq Í0 (m5 hz hl (iR.mpr rfl))
example á4:=(nj k1 l1)
example á5:=#[_,rfl]
example á6:=(Ž T.str)
example á7:=(jk tc (jj (oz (pb mC) (yN 0) ua)) tx)
example á9(k:Bool):=0
example â1(us:List α):=0
example â2:=(show h.IsTuple l xs from x)
example â3:=by simp![zj] at w2 y2;subst w2 y2
example â4:=by intro gV s B H x v vl vu lo hi sl Q I rx hs pl pu h
example â5:=Ü (seqObj "list" (ú9).toArray 0)
example â6:=by have hh:X.A.handled=none:=É3
example â7:=λ v z=>by cases z
example â9(st:Stmt):=0
example ã0:=y6 k (A.deeper (envOfC x Ì4 Á f AF))
example ã1:=by rw[h1];exact#[#[ds,h2],hf À8 Õ F.er ĳ]
example ã2(hk:k<=k'):=0
example ã3:=R (.ok (.ret Value.notImplemented)) s
example ã4:=#[c1,c2,c3,c4]
example ã5:=by let#[a1,us,rfl,g1,g2]:=yx.k d1 p1 s1
example ã6(h:y8 to) (h':y8 te):=0
example ã7:=by rename_i ts h;let#[y,e1,e2]:=ę;split at e2
example ã8:=PySem.SetTable
example ä0:=.bl (ĥ (i<j))
example ä1:=(by simp;lia)
example ä3:=À6 [ė i,x]
example ä4:=PySem.W.codeIn
example ä7:=yT (wj xj à N qual ö).rf (xV st) t
example ä8:=q_ N (À0::es)
example ä9{Q:È ô->Ç8}:=0
example å0{Z:Addr->Prop}:=0
example å1{lo hi:È Int}:=0
example å2(AV:A3 X pos []) (hpl2:A3 X pos2 []):=0
example å3:=(dk w Ŗ).length_eq
example å4:=(Î8).toList.map ŭ
example å5:=ys.zip rows
example å6:=I.tuple
example å8:=h _ H1 e1 p1 λ i H2 S2 x1 x2 hk=>?_
example å9:=Builtin.Str
example æ0:=its.toArray.isEmpty
example æ5 _:=x ha hb (nh _)
example æ6 _:=x I1 kk λ b hb=>#[hf' b hb,(hf b hb).2]
example æ7 _:=x À8 Õ hE
example æ8:=by rcases T.mask with e | e | e <;> lia
example æ9:=#[by change 2<=ß;decide,.new _]
example ç0:=(ups S l (ě ((oq ns).map D.int)))
example ç1:=h.get?
example ç2:=ps.map õ
example ç3:=I.laid
example ç4:=À6 ts
example ç6:=(x1.trans x2)
example ç7:=(λ z=>?_)
example è1:=(show h.IsList l xs from x)
example è2:=by have AV:p≠l:=λ z=>by subst z;rw[yR] at hp;cases hp
example è4:=List (Str×Tok)
example è7:=yq K H S
example è8:=#[h.1,hq Õ h.2]
example è9:=È (Ev->È T)
example é0:=(Cl.of Ń nJ)
example é1:=FuncData
example é2:=ps.length
example é4:=[ä a,ä b]
example é6:=PySem.W.callWith_K
example é7:=(ups S p (.zF []))
example é9:=Y[j]?=↑↑(ä x)
example ê1:=qu N (.zF Å4::ys)
example ê2 _:=x (by rw[A6];lia) λ h' tk xs S U k=>?_
example ê4 _:=x y d e H S Q h1 h2 h3
example ê5 _:=x d e H S Q h1 h2 h3 h
example ê6{o e:Expr}:=0
example ê7{y z:Str}{j1 j2:Nat}{p1 p2:Pos}:=0
example ê8:=(((š ..).extBut.push _).push _)
example ê9:=Ø l'=↑(.ext (ST.xQ w l' us'))
example ë0:=Ý3 (SH S Z _ z ds Q hz hv e hq)
example ë1:=fun Y' S'=>∃ m',m'<m/\W m' Y' S'
example ë2:=(.done (.ret (ė (Ö9:Nat) į)))
example ë3:=λ l hl=>hq Í0 (m5 hz hl (f7 _))
example ë4:=by ext Õ2;let#[y,ys,rfl,h1,h2]:=h
example ë5:=by ext Ñ1;let#[_,rfl,u,rfl]:=rv.one
example ë7 _:=x ht (λ z=>AW (r.fT.mp z)) h1 (by rw[<- hl];show hz)
example ë8:=by let#[x,rfl,r]:=h0.one;simp![zj] at r;subst r
example ì0:=(by have:=(zA2.mp hj).1;rw[A6];lia)
example ì2:=S l=none
example ì3:=jJ (Yw hg hm r hd) λ _=>by ext è3
example ì4{l:Addr}{its:AI}{k:Int}{t:Tok}:=0
example ì5:=by rw[yw npq];show g2
example ì6:=λ q=>hc.1 (by subst q;exists hl.symm)
example ì7:=by have kk:∀ b o,Ź:=λ b o e=>k b o (A2 e) e
example ì8:=H p=none
example í0:=(ř λ e=>Á7 e.2)
example í2:=λ d2 S2 s2 r2=>?_
example í3:=pure Þ
example í4:=assignEach
example í5:=#[o,f o ho,r]
example í6:=.fields [Å l,ė 0 0].toArray
example í7:=(bO Ħ).objs.size
example í8:=zp (yp S Z) ts ds
example î0:=PyProof.Rows.slot_tuple_getitem
example î1:=h1.elim
example î3:=bU (λ _ _ _=>pJ) λ _ _ _=>nofun
example î4:=(Ě (Ď "enumerate" p) [a] Á2)
example î5:=List.idxOf_lt_length_iff.mpr hk
example î6:=#[ė _,H,I.tok _,á5,q]
example î7:=(hq [(x,t)] į (Ñ6 h1).symm)
example î9:=λ ds S2 s2 r2=>?_
example ï1:=∀ H,yz K H a Ï0
example ï2:=(qa m Ò3).isSome
example ï3:=#[(nK x).map D.str,λ _=>True]
example ï4:=(tab.map λ q=>(q.1,zM R q.2))
example ï5:=Ö0 (dD K) tab zV
example ï6(ho:ã I=↑(kY a slot i n ep)):=0
example ï8 _:=x pos.line Í
example ï9 _:=x ha.pa () ()
example ð0 _:=x () () he AV
example ð1{m:List (Key×D)}:=0
example ð2(A5:AY X e es) (AV:A3 X pos es):=0
example ð4:=(y4 X.K H p ys\/yz X.K H p ys)
example ð5:=fits_of (n:=á) hlen T #[] ⋯
example ð6:=(Ì1 Á8).zd
example ð7:=(Ç9 a [op,op'] [b,c] pos)
example ð8:=PE.imp
example ð9:=(.bl (cond neg (c != d) (c == d)))
example ñ0:=listItems_at
example ñ2:=ns.length<64
example ñ3:=by simp[hi]
example ñ4:=ć=↑↑ Ï4
example ñ5:=(oQ mG to (nD (dC (ä y)) l9))
example ñ6:=(hr.mono hk)
example ò0:=by rw[bI] at e;let#[F,e1,rfl]:=A_.mp e
example ò2:=(Ě (Ý o "extend" apos) É8)
example ò5:=by .ext Ó6;show Ý3 #[_,_,h1,h2,Æ0]
example ò6:=by have:=(zA2.mp e1).1;exists this
example ò7:=by rcases hb with e | e | e | e | e <;> subst e
example ò8:=(Ú Ĉ í9).foldl (·++·) û
example ó0:=pure (ps.zip us)
example ó1:=["self","row"]
example ó2:=PySem.intText? a
example ó3:=(Ç9 i [.NotIn] [Ď x p] pos)
example ó4:=KTab K w mg x zV
example ó5 _:=x K H a xs
example ó6 _:=x S1 Z Y J
example ó7(hit:SI ó k it l i) (hl:Þ8):=0
example ó8(Sc:pG N ps Ì4):=0
example ó9 _:=x Ô3 (λ ds S2 h=>hf Õ Õ hq h) h2
example ô0{es:Array DictEntry}{ep:Nat}:=0
example ô2:=xs=[À0]
example ô3:=(Ì1 s1)
example ô5:=λ _=>Þ3
example ô6:=[e,it]
example ô8:=(Ě (Ý o "index" apos) É8)
example õ0:=List Key
example õ2:=(Ě (Ý o "keep" ap) Đ Á2)
example õ3:=(Ě (Ý o "say" ap) [e] Á2)
example õ4:=by split at e
example õ6:=by exact#[ĸ,x2.new hp,?_];ext è3
example õ7:=by let#[its,rv,pl,hz]:=I.list hq
example õ8(hbase:č o "extend" É7=î):=0
example ö0 _:=x hi.pe I (Ö2 hi.mo Ķ) hg hs hdb
example ö1:=#[_,ť,rfl]
example ö2:=Builtin.List.listLengthHint
example ö3:=rv.length
example ö4:=yx d S
example ö5:=yz ó5
example ö6:=.new hf _
example ö8:=hperm.length_eq
example ø1:=SQ h k l xs
example ø4:=e4.extBut
example ø7:=pD K H k1 a1 xs
example ø8:=pD K H k2 a2 ys
example ø9:=À6 [x,y]
example ù0:=λ v z=>by rw[d1] at z;cases z
example ù1:=#[_,rfl,?_]
example ù2:=absurd
example ù3:=PyProof.Rows.callWith_type1
example ù4:=fun B H R hu=>?_
example ù5:=λ zs hz=>by rw[hz.inj I g1];show hx
example ù7(is:List Nat) (c:Ï7) (b:Sm):=0
example ù8(m2:PySem.W.isFn K Ö8=true):=0
example ú0:=(nE ds Ø6)
example ú2:=yV f te
example ú7:=L2.RelV t u
example ú8:=Decidable
example û1:=PySem.F.slot_str_startswith
example û2:=PySem.F.type_str_startswith
example û3:=eval e Í
example û5:=(putK vs Ò3 t)
example û6:=Ý (Ď "self" sp) "kept" ap
example û8{h h':Heap}:=0
example ü0(ha:yV fa ta) (hb:yV fb tb):=0
example ü1{pos p pos':Pos}:=0
example ü3{ts:ġ}:=0
example ü4(t:È zx):=0
example ü5:=by have:Ä6=Ĉ*á:=#[];rw[this,zc0]
example ü6:=by cases rx;let#[u,rfl,ru]:=rv.one
example ü8 _:=x x y k t u v hk h1
example ü9(hk:KTab X.K X.w X.mg x zV):=0
example ý0:=(show X.A.in1.handled=none from É3)
example ý1:=by let#[_,h,_]:=h;rw[h] at e;cases e
example ý2:=by rw[h3.len,g4.len];show hl
example ý3:=by have hpH:ì8:=by rw[yw AV] at hp;show hp
def jT {a I:Addr}{slot i n ep:Nat}ï6:ô1 (Å I) "set_iterator":=Þ0
def V2 Ô2:((k:Int)).toNat=k:=zb8 k
def Mq {I a:Addr}ê{i slot:Nat}{e:Int× ô}ä9(ho:ã I=↑(kY a slot i Ĥ ep)) Å5 (hs:Ŏ=Þ->slot=slotAt t i) (he:(Î8)[i]?=↑e)
  (hi:i<Ĥ) (h:∀ h' slot',(Ŏ=Þ->slot'=slotAt t (i+1))->Þ1 I=↑(kY a slot' (i+1) Ĥ ep)->Heap.SameBut I ó h'->Q ↑e.2 { s with heap:=h' }):ĩ Ï (pyNext (Å I)) à0:=by
 unfold pyNext;ext ù;rw[Ŧ #[]];exact za0 (Tt S ⋯ slot hs λ slot' hs'=>?_);rw[V2] at hs' ⊢;rw[he];dsimp only[Option.map_some];exact za0 (zd9 ho rfl #[] ?_);have o1:=zd2 (Obj.mapFields (·.set! 0 (Ï3 (slot':Int) 0))) ho rfl;exact za0 (zd9 o1 rfl #[] ?_);have o2:=zd2 (Obj.mapFields (·.set! 1 (Ï3 ((i:Int)+1) 0))) o1 rfl;exact AE #[_,rfl,AE (h _ slot' hs' o2 ((š ..).trans (š ..)))]
def Mr {I a:Addr}ê{slot:Nat}ä9 ī (ho:ã I=↑(kY a slot Ĥ Ĥ ep)) Å5 (hs:Ŏ=Þ->slot=slotAt t Ĥ)
  (h:∀ h',Heap.ExtBut I ó h'->Q none { s with heap:=h' }):ĩ Ï (pyNext (Å I)) à0:=by
 have hn:(Î8)[Ĥ]?=none:=by
  have:=å3;simp![zD2] at this;rw[zaY ⋯]
 unfold pyNext;ext ù;rw[Ŧ #[]];exact za0 (Tt S #[] slot (by exists hs) λ slot' hs'=>?_);rw[V2,hn];dsimp only[Option.map_none];exact za0 (zd9 ho rfl #[] ?_);exact za0 ?_;simp![newExc,newTuple];exact za0 (zcW ?_ (by size_fits));exact Ņ;unfold raiseNew;ext Õ3;exact za0 ((AE (wpAny_throw ?_)));exact za0 ((Û2 (T:="StopIteration") (b:=true) ö1 isSubtype_stop ?_));show AE (h _ ê8)
def Mp {I a:Addr}{slot i n ep:Nat}Ø2 ï6 (h:Q (Å I) s):ĩ Ï (pyIter (Å I)) à0:=by
 exact wpAny_pyIter_slot (jT ho) VS (zcU VS (jT ho) EG ?_ (C7 _));show AE #[_,rfl,"set_iterator",_,jT ho,iT.lookup,h]
def om.keep û8 Ő ê(S:om w h Ŗ t) (k:∀ o,ç1 a=↑o->Þ1 a=↑o):om w h' Ŗ t:=#[k _ S.get,S.fits,S.pV,S.led,S.plain]
def OG ī (I a:Addr) (AW:a≠I) (es:Array (Int× ô)) (ep:Nat) (t:SetTable):
  Walks á8 A I [I,a] [I] Ĥ (λ i v=>∃ e,(Î8)[i]?=↑e/\v=e.2) (λ i h=>(∃ slot,(Ŏ=Þ->slot=slotAt t i)/\ç1 I=↑(kY a slot i Ĥ ep))/\om w h Ŗ t) where
 sub:=λ b hb=>by simp at hb;simp[hb]
 frame:=λ _ _ _ st k=>by
  ext Ä0;show#[#[slot,h1,k I #[] _ h2],S.keep λ o e=>k a #[] o e]
 item:=λ i s Q E hi st hQ=>by
  ext Ä0;have hl:i<(Î8).size:=by
   have:=å3;simp![zD2] at this;lia
  exact Mq h2 S h1 (zB8 hl) hi λ h' slot' g1 g2 g3=>?_;show hQ _ h' į #[_,zB8 hl,rfl] #[#[slot',g1,g2],S.keep λ o e=>(g3.2 a AW).trans e] λ b o hb e=>(g3.2 b (Â2)).trans e
 done:=λ s Q E st hQ=>by
  ext Ä0;show Mr hh h2 S h1 λ h' g=>hQ h' į λ b o hb e=>g b o (Â2) e
 self:=λ _ _ _ _ st hQ=>by
  ext Ä0;show Mp h2 hQ
def Hc:typeLookup (ŀ "set") "__len__"=pure ↑(Í5 "set.__len__"):=F.slot_set_len.lookup
def split_len:splitId "set.__len__"=↑("set","__len__"):=by decide +kernel
def Ie Ő ê{Q:Bool->Ç8}Å5 (h:Q Þ s):ĩ Ï (setDrawn a) à0:=by
 unfold setDrawn setsByText;exact za0 (zcX S.get rfl S.fits ?_);ext Û7;exact za0 (za0 (zd8 (AE ū)));change Q (! Ŏ&&(!t.plain&&ĥ (Ĥ>1))) s;rw[S.plain];exists h
set_option maxHeartbeats 4000000 in
theorem Ik Ő ê{Q:Bool->Ç8}Å5 (h:Q Þ s):ĩ Ï (ö2 Ï4) à0:=by
 have Ty:ô1 Ï4 "set":=#[_,S.get,rfl];unfold ö2;exact za0 (wpAny_specialOf Ty Hc ?_);ext Û7;rw[split_len];ext Û7;exact za0 (Û2 (b:=true) Ty sub_set_self ?_);rw[Ŧ ()];rw[Ñ6 (zdK)];exact za0 (zd0 Ty ?_);show AE h
set_option maxHeartbeats 4000000 in
def Du Ő ê{Q:List ô->Ç8}ī Å5 (hn:Ĥ<=ß)
  (h:∀ (h':Heap) (tk:Nat),(∀ b o,b<Á->Ź)->Á<=h'.objs.size->Q (å4) { s with heap:=h',toks:=tk }):ĩ Ï (collect Ï4) à0:=by
 have ha:a<Á:=A2 S.get;unfold collect;exact za0 (wpAny_runValue (Þ2 F.entry_proto_collect ?_));rw[Around.under_plainId F.plain_proto_collect _];change ĩ _ A.in1 (newList [] >>= λ l=>again (Í5 "list.__iadd__" #[[l,Å a],[]])) Õ s;exact za0 (zcW (AE #[plainId_quiet F.plain_list_iadd _,Þ2 F.entry_list_iadd ?_]));rw[Around.under_plainId F.plain_list_iadd _];let L0:Obj:={ cls:=Õ9,data:=.seq ([]:AI).toArray }
 have S1:om w (Ü L0) Ŗ t:=S.keep λ o e=>ì9;have T1:Shared.TypeIs { s with heap:=Ü L0 } Ï4 "set":=#[_,S1.get,rfl];change ĩ _ A.in1 (ļ Ï5 Ï4 Ï5) Õ { s with heap:=Ü L0 };unfold ļ;exact za0 (zd0 T1 ?_);have AW:Á ≠a:=zaE ha;have c1:Builtin.List.listSameRef Ï5 Ï4=Þ:=by simp[Builtin.List.listSameRef,AW]
 rw[Ŧ (by rw[c1];decide)];exact za0 (wpAny_pyIter_slot T1 F.slot_set_iter (zcU F.slot_set_iter T1 EH ?_ (F.args_set_iter_1 _)));exact za0 (za0 (AE ū));exact za0 (za0 (za0 (zcX S1.get rfl S1.fits (AE ū))));exact za0 (Ie S1 ?_);rw[Ŧ ()];exact za0 ū;exact za0 (wpAny_setEpoch_of S1.get rfl S1.fits ?_);exact za0 (zcW (AE #[_,rfl,"set_iterator",_,ö1,iT.lookup,?_]));let I:=É1
 let h2:=(Ü L0).push (kY a 0 0 Ĥ ep)
 have S2:om w h2 Ŗ t:=S1.keep λ o e=>ì9;have hI:h2.get? I=↑(kY a 0 0 Ĥ ep):=ť;have hL:h2.get? Á=↑L0:=za1 _ (ť);have hsz:É1=Á+1:=Ê2 Õ;change ĩ _ A.in1 Õ _ { s with heap:=h2 };exact za0 (zcT (Ik (s:={ s with heap:=h2 }) S2 ?_));rw[Ñ6 (zdK)];exact za0 (à9 ?_);exact za0 ?_;change ĩ _ A.in1 (updateSeq Á (·.push è5) >>= λ _=>updateSeq Á (·.pop)) Õ { s with heap:=h2 };exact za0 (wpAny_updateSeq hL æ4);have hL2:=zd2 (á0 (·.push Value.none)) hL rfl;exact wpAny_updateSeq hL2 æ4;have hL3:=zd2 (á0 (·.pop)) hL2 rfl;let h3:=(h2.update Á (á0 (·.push Value.none))).update Á (á0 (·.pop))
 have oth:∀ b o,b≠ Á->h2.get? b=↑o->h3.get? b=↑o:=λ b o hb e=>(zdA Õ (Ľ hb)).trans ((zdA Õ (Ľ hb)).trans e);have haI:a≠I:=by change a≠ É1;rw[hsz];show zB3 (zb0 ha)
 have hIn:I≠ Á:=by change É1 ≠_;rw[hsz];show zaE (zE2 _)
 exact AE #[plainId_quiet F.plain_extend_loop _,codeAny_extend_loopS ((OG (A:=A.in1) hh I a haI es ep t).toS) hn Á ?_ _ Ĥ 0 { s with heap:=h3 } û _ rfl (zD4 _) #[#[0,λ _=>rfl,oth I _ hIn hI],S2.keep λ o e=>oth a o (Ľ AW) e] hL3 (ItemsOf.nil _) λ s' acc c' hm hS' hacc=>?_]
 .intro hm;rcases AL.mp hm with q | q
  .show hIn q.symm
  .show AW (zB6.mp q)
 .exact za0 (wpAny_load hS' ū);let#[h',g',d',tk',os']:=s';obtain rfl:g'=s.gens:=hm.gens;obtain rfl:d'=s.drawn:=hm.drawn;obtain rfl:os'=s.os:=hm.os;have hcm:(Î8).size=Ĥ:=by
   have:=å3;exists this
  have e:acc.toList=å4:=by
   exact List.ext_getElem? λ j=>?_;rw[A9];rcases za8 j Ĥ with q | q
   .have hjl:j<acc.size:=by rw[hacc.1];show q
    have hj:acc[j]?=↑acc[j]:=zB8 hjl;let#[e,e1,e2]:=hacc.2 j _ hj;rw[zD3,zD3,hj,e1,e2];rfl
   .rw[zD3,zD3,zaY (by rw[hacc.1];show q),zaY (by rw[hcm];show q)];rfl
  rw[e];exact h h' tk' (λ b o hb e=>hm.heap b o (λ q=>?_) (oth b o (zB3 hb) (za1 _ (ì9)))) ?_
  .rcases AL.mp q with q | q
   .show zB3 hb q
   .have q':b=É1:=zB6.mp q;rw[hsz] at q';show zB3 (zb0 hb) q'
  .show zE3 (A2 hS')
end
end ST
namespace ST
open ø ã8 Ã L4
section
variable {Ó}{A:Ñ7}{Ò5}{À4}
def Qe Ő ê ī Å5 (hz:Ĥ<=ß) (Q':List ô->Ç8)
  (h:∀ h1 tk,(∀ b o,¬ Þ3->ù9->h1.get? b=↑o)->Á<=h1.objs.size->Q' (å4) { s with heap:=h1,toks:=tk }):ĩ Ï (collect Ï4) Q' E s:=
 Du hh S hz λ h1 tk k1 k2=>h h1 tk (λ b o _ q=>k1 b o (A2 q) q) k2
end
end ST
namespace ST
open ø ã8 Ê Ã L2
def xQ Ð4 (a:Addr) (us:AI):Heap->Prop:=λ h=>∃ es ep t,om w h Ŗ t/\es.toList.map ŭ=us
def xQ.lS Ø3 Ő{us:AI}{h1 h2:Heap}(S:xQ w a us h1) (k:∀ o,h1.get? a=↑o->h2.get? a=↑o):xQ w a us h2:=by
 let#[es,ep,t,S,e]:=S;show#[es,ep,t,S.keep k,e]
def jr.at Ó Ú7 Ő{xs:List (â ×Addr)}(S:jr á8 h a xs (ki w)):xQ w a í0 h:=by
 let#[#[es,ep,t,ho,X,h1,h2,h3],_]:=S;show#[es,ep,t,#[ho,X.fits,X.tab.pV,h1,h2],by rw[X.es,A4];rfl]
section
variable {þ}
theorem Sk:∀ {ns:â}{us:AI},Vals Ë0 us->∀ Ó,ItemsAre (Ä5) ns us
 | [],_,Û8,_,_=>Û8
 | n::ns,_,ł r t,prog,w=>by
  let#[tk,rfl]:=r;show ł (intKind_is Õ Õ) (Sk t)
def DR ĺ (hu:X.A.units+64<cLine):xC X (ŀ "set") (λ xs H Q=>∃ p ys,∃ rows:Ê5,ô2/\ð4/\L4.js X.K H ys rows/\É2<64/\
  ∀ Ú8 (us:AI) (ps:List (V× â)),á1->Vals (ç2) us->(∀ q∈ps,q∈ å5)->(Ï6).Nodup->(∀ r∈rows,r∈ Ï6)->Q ſ (upd H l Ä1)):=by
 ext Ì9;obtain⟨its,rv,pl,hz⟩:∃ its,Vals ys its/\(s.heap.IsList p Ĝ\/s.heap.IsTuple p Ĝ)/\True:=by
  rcases hq with hq | hq
  .let#[its,rv,pl,_]:=I.list hq;show#[its,rv,Ý3 pl.isList,Ì0]
  .let#[its,rv,pl,_]:=å6 hq;show#[its,rv,ŏ pl,Ì0]
 have hl:=ö3;have hlr:Þ4=É2:=Paired.length hr;have mZ:gN Ò4 ó Ĝ rows:=λ i v hv=>by
  have hv':its[i]?=↑v:=by exists hv
  have hi:i<á2:=(zA2.mp hv').1;let#[AW,b,hb,hsq]:=L4.Paired.at' hr (i:=i) ⋯ V.zA ([]:â);have hy:ys[i]?=↑(V.ref b):=by
   rw[zA1 ⋯];have:ys.getD i V.zA=ys[i]'⋯:=by simp[show i<Þ4 by lia]
   rw[this] at hb;rw[hb]
  let#[v',e1,e2]:=rv.get hy;rw[hv'] at e1;cases e1;cases (show v=Á7 b from e2);let#[its2,rv2,#[o,e,hcl,n,hd],_]:=å6 hsq;exact#[b,rows.getD i [],rfl,?_,o,its2.toArray,n,e,hcl,hd,by exists Sk rv2];simp[show i<É2 by lia]
 ext â6;exact DU (A:=X.A) hh hu pl mZ ê2;ext ì7;have hfr:H Á=none:=Į;have hSO:=S.at;have vals:Vals ((Ò7).map õ) í0:=by
  clear S U hSO
  induction xs with
  | nil=>show Û8
  | cons e xs ih=>show ł rfl ih
 have snd:(Ò7).map ŭ=ř õ:=by rw[A4];rfl
 exact#[Å Á,_,ç3 (t':=tk) (o:=.ext (xQ X.w Á í0)) kk ã9 ?_,rfl,q Õ (Ò7) hfr vals (λ x hx=>?_) (by rw[snd];show S.nd) λ r hr'=>?_]
 ext Æ2
 .let#[e,he,rfl]:=AO.mp hx;let#[j,j1,j2,j3]:=U.own e he;have hj':its[j]?=↑(Á7 e.2):=by exists j2
  have hjl:j<Þ4:=by rw[hl];show (zA2.mp hj').1
  let#[v',e2,e3]:=rv.get (zA1 hjl);rw[hj'] at e2;cases e2;let#[AW,b,hb,_]:=L4.Paired.at' hr (i:=j) ⋯ V.zA ([]:â);have:ys.getD j V.zA=ys[j]:=by simp[hjl]
  rw[this] at hb;rw[hb] at e3;cases (show Á7 e.2=Á7 b from e3);exact zB7 (i:=j) ?_;rw[List.getElem?_zip_eq_some];show#[by rw[zA1 hjl,hb],j3]
 .rw[snd];let#[j,hj]:=zcH.mp hr';show U.all j r ì0 hj
theorem Paired.mk {α β:Type}{F:α->β->Prop}:∀ {l:List α}{m:List β},l.length=m.length->(∀ Ì6 a b,l[i]?=↑a->m[i]?=↑b->F a b)->Ö0 F l m
 | [],[],_,_=>Û8
 | a::l,b::m,h,f=>ł (f 0 a b rfl rfl) (Paired.mk (by exists h) λ i x y hx hy=>f (i+1) x y (by exists hx) (by exists hy))
 | [],_::_,h,_=>by simp at h
 | _::_,[],h,_=>by simp at h
theorem DQ ĺ:xC X (Í5 "sorted") (λ xs H Q=>∃ l us vs,∃ rs:Ê5,xs=[Å l]/\H l=↑ Ä1/\Vals vs us/\L4.js X.K H vs rs/\rs.length<64/\L4.dE (vs.zip rs) H Q):=by
 intro gV s B H xs us0 Q I r h;let#[l,us,vs,rs,rfl,hl,hv,hr,qx,q]:=h;ext Œ
 ext Â6
 let#[qs,q1,q2]:=L4.Paired.perm hp (L4.VR.of hv hr);have hzl:(vs.zip rs).length<64:=by rw[zc5];lia
 have hes:Ĥ<=ß:=by
  have h1:À3=(vs.zip rs).length:=Paired.length (L4.VR.of hv hr);have h2:=congrArg List.length eu;rw[AQ,zD2] at h2;have:Ù2:=rfl;lia
 show L4.ZN I (λ Q' h=>Qe (by show É3) S hes Q' h) q2 (by rw[q1.length_eq];show hzl) λ p ps hf hp hs=>q p ps hf (hp.trans q1) hs
end
end ST
namespace L5
open ø Ê L2 L3
open Ã hiding St
def qD:Ê5->Ê5
 | []=>[]
 | r::rs=>if r∈qD rs then qD rs else r::qD rs
theorem fV {r:â}:∀ {rs:Ê5},r∈qD rs↔r∈rs
 | []=>.rfl
 | x::rs=>by
  unfold qD;split
  .rename_i h;rw[fV,AL];show#[ŏ,λ h'=>h'.elim (λ e=>e▸fV.mp h) id]
  .rw[AL,AL,fV]
theorem bw:∀ rs:Ê5,(qD rs).Nodup
 | []=>Û8
 | x::rs=>by
  unfold qD;split
  .show bw rs
  .rename_i h;show zaC.mpr #[h,bw rs]
theorem bx:∀ rs:Ê5,(qD rs).length<=rs.length
 | []=>AM _
 | x::rs=>by
  unfold qD;have:=bx rs;split <;> simp![zC0] <;> lia
def nZ:x9:=λ ds S Q=>match ds with
 | [d]=>∃ rows:Ê5,ö4=↑(rows.map oE)/\É2<64/\(∀ r∈rows,r≠[])/\∀ l,ì2->Q ſ (ups S l (ě ((L4.qb (qD rows)).map oE)))
 | _=>Þ3
def f6:AG
 | [ě ts]=>ą
 | [ç4]=>ą
 | _=>none
def SH:qX zl f6 nZ:=λ S Z ys z ds Q hz hv e hq=>by
 have key:∀ y ts,ys=[y]->qN y=↑ts->(ą)=↑z->nZ ds S Q:=λ y ts ey et e'=>by
  subst ey;ext Ů;let#[rs,e1,e2]:=í1 e';split at e2
  .rename_i hc;cases e2;cases ZZ e1;let#[es,h2,h3]:=h1.seq et;cases iR.mp h3;show#[rs,h2,hc.1,hc.2,á3]
  .cases e2
 unfold f6 at e;ext õ4
 .show key Õ rfl rfl e
 .show key Õ rfl rfl e
 .cases e
section
variable {ţ}{Ë2}{p:Pos}
def nZ.mo:qK nZ:=λ ds S Q Q' hq h=>by
 unfold nZ at h ⊢;split at h
 .let#[rows,h1,h2,h3,h4]:=h;show#[rows,h1,h2,h3,λ l hl=>hq Õ (h4 l hl)]
 .show Û3
def nZ.fits Ø3:pO K nZ (λ xs H Q=>∃ p ys,∃ rows:Ê5,ô2/\(y4 K H p ys\/yz K H p ys)/\L4.js K H ys rows/\É2<64/\
  ∀ Ú8 (us:AI) (ps:List (V× â)),á1->Vals (ç2) us->(∀ q∈ps,q∈ å5)->(Ï6).Nodup->(∀ r∈rows,r∈ Ï6)->
   ∃ l' us' vs',∃ rs':Ê5,[V.ref l]=[Å l']/\ê9/\Vals vs' us'/\L4.js K Ø vs' rs'/\rs'.length<64/\L4.dE (vs'.zip rs') Ø Q):=λ xs ds H S Q h0 h2 h=>by
 unfold nZ at h;split at h
 .rename_i d;ext Æ3;let#[rows,e,qx,AW,h]:=h;obtain⟨a,ys,rfl,g1,g2⟩:∃ a xs,x=Å a/\(y4 ó5\/ö5)/\zu K H (rows.map oE) xs:=by
   by_cases hn:∃ ts,d=ç4
   .let#[ts,rfl]:=hn;cases e;simp![zj] at h1;let#[a,xs,q1,q2,q3]:=h1;show#[a,xs,q1,ŏ q2,q3]
   .let#[a,ys,q1,q2,q3]:=kN h1 h2 e (λ ts z=>hn #[ts,z]);show#[a,ys,q1,Ý3 q2,q3]
  exact#[a,ys,rows,rfl,g1,cU g2 AW,qx,λ l us ps hf hv sub nd all=>?_];have mem:∀ r,r∈ Ï6 ↔r∈rows:=λ r=>#[λ h=>by
   let#[q,hq,rfl]:=AO.mp h;show (zbD (sub q hq)).2,all r]
  have x1:Ext H Ø:=ö6;have g3:zu K H ((Ï6).map oE) (ç2):=zu.ba λ q hq=>zu.cp g2 q (sub q hq);have hper:(Ï6).Perm (qD rows):=(zcG nd (bw rows)).mpr λ r=>by rw[mem,fV]
  have hzip:(ç2).zip (Ï6)=ps:=by rw[List.zip_map',List.map_id''];intro a;rfl
  exact#[l,us,ç2,Ï6,rfl,yR,hv,cU (ç5 x1 _ g3) λ r hr=>AW r ((mem r).mp hr),by rw[hper.length_eq];have:=bx rows;lia,λ p qs hp hi hs=>?_];rw[hzip] at hi;have heq:=L4.VH ((hi.map ŭ).trans hper) hs;ext è2
  ext ý3
  have x2:Ext Ø (upd Ø p (ě (qs.map õ))):=ĸ;have r1:yq K Ø S:=h2.new hf;exact h p (h2.none hpH) Õ Ô ç6 (r1.ups x2 #[_,yR,?_]);rw[<- heq];show ç5 ç6 _ (zu.ba λ q hq=>zu.cp g2 q (sub q (hi.mem_iff.mp hq)))
 .show Û3
end
end L5
namespace ST
open ø ã8 Ã
theorem SN à1{hs:â}(T:Tab t hs) (h:Int):∀ (f k K:Nat),k<=K->K<k+f->Þ5 ∉t.place.toList->(∀ m<K,(way Ì8 h m).j∈t.place.toList)->probe.go t (λ _=>h+1) h f (way Ì8 h k)=↑(.empty Þ5 none)
 | 0,k,K,h1,h2,_,_=>⋯
 | f+1,k,K,h1,h2,h3,h4=>by
  by_cases e:k=K
  .subst e;unfold probe.go;rw[T.empty h3,Zu]
  .let#[i,g,p1,_]:=T.at (h4 k ⋯);have ih:=SN T h f (k+1) K ⋯ ⋯ h3 h4
   conv=>lhs;unfold probe.go
   rw[T.live p1];ext Û7;rw[Ŧ (by intro q;have:=eq_of_beq q;lia),Wm];show ih
theorem FX à1{hs:â}(T:Tab t hs) (hl:hs.length<=Ì8) (h:Int):∃ j,t.freeSlot h=↑(j,Þ)/\Wz t h j:=by
 let#[K,k1,k2,k3]:=T.first hl h;exact#[Þ5,?_,#[k2,K,rfl,k3]];have g:=SN T h (10*turns Ì8) 0 K (zD4 _) (by unfold turns;lia) k2 k3;unfold SetTable.freeSlot;have e:t.probe (λ _=>h+1) h (t.probeStart h)=↑(.empty Þ5 none):=g;rw[e];rfl
structure iz (prog:ö7) Ð4 õ5 (a:Addr) (xs:Í9) (led:Bool):Prop where
 ex:∃ es ep t,ç1 a=↑{ cls:=ŀ "set",dict:=none,data:=.set es ep t }/\Þ6=ř (Ė)/\Tab t (ř Å8)/\t.led=led/\t.plain=true/\á*5<Ì8*3
 nd:(ř õ).Nodup
section
variable {Ó}{A:Ñ7}{Ò5}{À4}
def fits_of Í1 à1{hs:â}Õ4(h1:Ĥ=n) (T:Tab t hs) (h2:hs.length=n) (h3:n<=Ì8):t.fits Ĥ=true:=by
 have l:=T.len;unfold SetTable.fits SetTable.fill;rw[T.ji,h1,l,h2];simp;lia
def e9 {n m:Int}{t:Tok}:(Ä5).is n (ė m t)=true↔n=m:=by
 constructor
 .intro h;let#[t',e]:=Value.isInt_shape (show Value.isInt n (ė m t)=true from h);cases e;rfl
 .rintro rfl;show intKind_is Õ Õ
def EI Í1{xs:Í9}(h:Þ6=ř (Ė)):ElemsOf (Ä5) Þ6:=λ e he=>by
 rw[h] at he;let#[x,_,rfl]:=AO.mp he;show#[#[x.1,e9.mpr rfl,rfl],rfl]
def MU Í1 à1{xs:Í9}{M wanted:Nat}(he:Þ6=ř (Ė)) (hM:oV M) (hw:sizeAbove wanted=M+1) (AJ:á*5<M*3):
  ∃ es' t',∃ xs':Í9,relayAll t es wanted=(es',t',Þ)/\es'.toList=xs'.map (Ė)/\xs'.Perm xs/\Tab t' (xs'.map Å8)/\t'.mask=M/\t'.led=t.led/\t'.plain=t.plain/\es'.size=Ĥ:=by
 ext Ř
 have hhs:(es.map õ).toList=ř Å8:=by rw[Array.toList_map,he,A4];rfl
 have hsz:(es.map õ).size=á:=by rw[zbJ,hlen]
 let#[t',order,h1,h2,h3,h4,h5,h6,h7]:=TR hM t.finger (t.movedTo M) t.led t.plain (es.map õ) (by rw[hsz];lia);rw[hsz] at h6;have AZ:∀ k∈order.toList,k<á:=λ k hk=>by exists h6.mem_iff.mp hk
 have hr:t.relaid (es.map õ) wanted=↑(t',order):=by
  unfold SetTable.relaid;rw[hw,Nat.add_sub_cancel];show h1
 have hes':(Ò8).toList=(Ç5).map Ė:=by
  rw[Array.toList_filterMap,List.map_filterMap];congr 1;funext k;rw[<- zD3,he,A9]
 have hperm:(Ç5).Perm xs:=(h6.filterMap _).trans (by rw[List.filterMap_getElem?_range_length]);have hsz':(Ò8).size=Ĥ:=by
  rw[<- zD2,hes',AQ,ö8,hlen]
 have hT:Tab t' ((Ç5).map Å8):=by
  rw[<- Yt xs (Å8) 0 order.toList AZ,<- hhs];show h7
 exact#[_,t',_,?_,hes',hperm,hT,h2,h4,h5,hsz'];have zZ:coversAll order Ĥ=true:=by
  unfold coversAll;rw[List.isPerm_iff,hlen];show h6
 have fit:t'.fits (Ò8).size=true:=fits_of (n:=á) (by rw[hsz',hlen]) hT (by rw[AQ,ö8]) (by rw[h2];lia);unfold relayAll;rw[hr];ext Û7;rw[zZ,fit];rfl
def add_int Ő{xs:Í9}{n:Int}{tk:Tok}{led:Bool}{Q:Bool->Ç8}(S:iz á8 ó a xs led) (hn:á<70)
  (h:∀ h' xs' r,Heap.SameBut a ó h'->iz á8 h' a xs' led->(n∈ ř õ/\xs'=xs\/n∉ ř õ/\xs'.Perm (xs++[(n,tk)]))->Q r { s with heap:=h' }):
  ĩ Ï (setAddHashed a (ė n tk) (Æ n)) à0:=by
 have S0:=S;let#[#[es,ep,t,ho,he,T,hled,AV,AJ],hnd]:=S;ext Ř
 have hm7:7<=Ì8/\Ì8<=127:=æ8
 have fit:t.fits Ĥ=true:=ð5;have hel:=EI (prog:=prog) (w:=w) he;unfold setAddHashed setAddHashedIn;exact zcT (za0 (zcX ho rfl fit ?_));ext Û7;have bs:byScan (ė n tk) es=true:=by
  have h1:ĥ (Ĥ<scanBound)=true:=za3 (by unfold scanBound;lia);have h2:es.all (·.2.scannable)=true:=by
   rw[Array.all_eq_true_iff_forall_mem];intro e hm;show (hel e (by exists hm)).2
  unfold byScan;rw[h1,h2];rfl
 rw[Ñ6 bs];exact za0 ?_;unfold setAddByScan;exact za0 (à9 (za0 (wpAny_setScan_of (k:=n) (e9.mpr rfl) ho rfl fit hel ?_)));have hfind:(Ý4).isSome=true↔n∈ ř õ:=by
  rw[he,List.findIdx?_isSome,zD0];constructor
  .rintro⟨e,hm,q⟩;let#[x,hx,rfl]:=AO.mp hm;show AO.mpr #[x,hx,(e9.mp q).symm]
  .intro hm;let#[x,hx,rfl]:=AO.mp hm;show#[_,AO.mpr #[x,hx,rfl],e9.mpr rfl]
 cases hc:Ý4 with
 | some j=>
  ext Û7;have hm:=hfind.mp (by rw[hc];rfl);exact AE ?_;ext Û7;show AE (h ó xs Þ #[rfl,λ _ _=>rfl] S0 (Ý3 #[hm,rfl]))
 | none=>
  ext Û7;have hm:n∉ ř õ:=λ q=>by have:=hfind.mpr q;rw[hc] at this;cases this
  let#[j,fs,F]:=FX T (by rw[AQ];lia) (Æ n);let#[p1,p2,p3]:=T.put F;rw[AQ] at p1;have hpt:(t.put j).1.plain=true:=by rw[p2];show AV
  have hmt:(t.put j).1.mask=Ì8:=by rw[p2]
  have AZ:(t.put j).1.led=led:=by rw[p2];show hled
  generalize hT:(t.put j)=P at *;let#[t1,p]:=P;dsimp only at *;let xs1:=xs.take p++(n,tk)::xs.drop p
  have hperm:xs1.Perm (xs++[(n,tk)]):=by
   have e:xs.take p++xs.drop p=xs:=zc1 p xs;have:xs1.Perm ((n,tk)::(xs.take p++xs.drop p)):=List.perm_middle;rw[e] at this;show this.trans (List.perm_append_singleton Õ).symm
  have hl1:xs1.length=á+1:=by rw[ö8];simp
  have hes1:(í).toList=xs1.map Ė:=by
   rw[toList_insertAt,he];simp[xs1,zc4,zaZ]
  have hsz1:(í).size=á+1:=by rw[<- zD2,hes1,AQ,hl1]
  have T1:Tab t1 (xs1.map Å8):=by
   have:xs1.map (Å8)=(ř Å8).take p++Æ n::(ř Å8).drop p:=by simp[xs1,zc4,zaZ]
   rw[this];show p3
  have fit1:t1.fits (í).size=true:=fits_of (n:=á+1) hsz1 T1 (by rw[AQ,hl1]) (by rw[hmt];lia);have hlay:layNew t es (Æ n) (ė n tk)=(í,t1,Þ,Þ):=by
   unfold layNew;rw[fs];ext Û7;rw[hT];ext Û7;unfold SetTable.orStandIn;rw[fit1];rfl
  have hsl:(í).size<=ß:=by
   rw[hsz1];have:Ù2:=rfl;lia
  have hnd1:(xs1.map õ).Nodup:=by
   exact (hperm.map _).nodup_iff.mpr ?_;rw[zE7,List.nodup_append];exact#[hnd,#[],λ x hx y hy=>?_];simp at hy;subst hy;show λ e=>hm (e▸hx)
  have ho1:=c_ (es':=í) (t':=t1) ho;have sb:=š ó a (Obj.putSet (í) t1);have hfill:t1.fill=á+1:=by
   have l:=T1.len;rw[AQ,hl1] at l;unfold SetTable.fill;rw[T1.ji,l];simp
  rw[hlay];ext Û7;exact za0 (m:=pure Þ7) ū;rw[hpt];simp![if_true];exact za0 (m:=pure true) ū;simp![if_true];exact za0 (wpAny_storeSet_of ho æ4 hsl);by_cases hf:t1.tooFull=true
  .rw[hf];simp![zB2,zbM,if_true];have hfull:Ì8*3<=(á+1)*5:=by
    have:=hf;ext Í2
   let#[M',g1,g2,g3]:=VT á Ì8 T.mask AJ hfull hn;let#[es2,t2,xs2,r1,r2,r3,r4,r5,r6,r7,r8]:=MU (prog:=prog) (w:=w) (t:=t1) hes1 g1 (wanted:=grown (í).size) (by rw[hsz1];show g2) (by rw[hl1];show g3);rw[r1];ext Û7;exact za0 (m:=pure Þ7) (AE (za0 (wpAny_storeSet_of ho1 æ4 (by rw[r8];show hsl))));exact AE ?_;ext Û7;exact AE (h _ xs2 true (sb.trans (š _ a _)) #[#[es2,ep+1+1,t2,c_ ho1,r2,r4,by rw[r6];show AZ,by rw[r7];show hpt,by rw[r3.length_eq,hl1,r5];show g3],(r3.map _).nodup_iff.mpr hnd1] (ŏ #[hm,r3.trans hperm]))
  .have hf':t1.tooFull=Þ:=by exists hf
   rw[hf'];simp![zB2,zaT,zC4,if_false];have hfull:(á+1)*5<Ì8*3:=by
    have:=hf';ext Í2
   exact AE ?_;ext Û7;show AE (h _ xs1 true sb #[#[_,ep+1,t1,ho1,hes1,T1,AZ,hpt,by rw[hl1,hmt];show hfull],hnd1] (ŏ #[hm,hperm]))
end
def Nums (its:A1) (ns:â):Prop:=∀ Ì6 v,its[i]?=↑v->∃ n t,v=ė n t/\ns[i]?=↑n
section
variable {Ó}{A:Ñ7}{Ò5}{À4}{its:A1}{ns:â}
def HL {led:Bool}{Sa:Addr}{wr:List Addr}(hSw:Sa∉wr) (hN:Nums its ns):Kd á8 A Ï3 its ns Sa wr (λ h xs=>iz á8 h Sa xs led) (λ _=>True) where
 nd:=λ S=>S.nd
 keep:=λ k _ S=>let #[#[es,ep,t,ho,r],nd]:=S;#[#[es,ep,t,k Õ hSw ho,r],nd]
 bK:=λ _ T=>T
 add:=λ{s xs i v Q E} _ S hl hv hQ=>by
  let#[m,t,rfl,hr]:=hN i v hv;unfold setAdd;exact zcT (za0 ((Ä5).pyHash (A:=A) (k:=m) (e9.mpr rfl) ?_));show add_int (s:={ s with toks:=į+1 }) (A:=A) S hl λ h' xs' rr sb S' hx=>hQ h' _ xs' rr m t rfl hr sb (zb1 Õ) S' hx
def Mx Ú7 Ő(ho:ç1 a=↑(pS w)):iz á8 h a [] (ki w):=
 #[#[û,0,_,ho,rfl,#[Ý3 rfl,rfl,rfl,Û8,λ j hj=>(by cases hj),λ i g j hg=>(by cases hg)],rfl,rfl,by change 0*5<7*3;lia],Û8]
def DT {l:Addr}Ø2 ī (hl:s.heap.IsList l its) (hT:Nums its ns) (hn:its.size<70)
  (h:∀ (h':Heap) (tk:Nat) xs,iz á8 h' Á xs (ki w)->Up Ï3 its ns its.size xs->(∀ b o,b<Á->Ź)->Q Ï5 { s with heap:=h',toks:=tk }):
  ĩ Ï (call (ŀ "set") [Å l]) à0:=
 Qr hh (Ý3 hl) hn (HL #[] hT) (λ h e=>Mx e) (λ _ _=>Ì0) h
end
end ST
namespace L4
open ø Ã
def Ds Ó{A:Ñ7}Ò5 À4{vs:AI}{ns:â}(hI:Ò9 vs ns) (h2:2<=vs.length) (qx:vs.length<64):
  Core á8 A E vs (λ out=>∃ ns',Ò9 out.toList ns'/\ns'.Perm ns/\ns'.Pairwise (·<=·)) s:=by
 obtain⟨v1,v2,rest,rfl⟩:∃ v1 v2 rest,vs=Ë3:=by
  match vs,h2 with
  | Ë3,_=>show#[v1,v2,rest,rfl]
 unfold Core;rw[keyKind_ints hI];exact AE #[rfl,?_];exact zcS (wpS_sortRuns (a₀:=pairsOf (Ë3)) (st:=SortSt.mk' oneType' ((Ë3).toArray.zip (Ë3).toArray) û 7 none)
   (Q:=λ _ st'=>(arrOf st').Perm (pairsOf (Ë3))/\failedOf st'=none/\SortedTo (arrOf st') (pairsOf (Ë3)).size)
   hI.intKeys #[Array.Perm.refl _,rfl,rfl,rfl] (by rw[pairsOf_size];simp) (by rw[pairsOf_size];show qx) λ st' a1 a2 a3=>#[a1,a2,a3]) ?_ λ _ _ e=>e
 rintro⟨⟨⟩,st'⟩ s' ⟨rfl,hp,hf,hs⟩;show#[rfl,hf,sorted_out hI hp hs,by rw[hp.size_eq,pairsOf_size]]
end L4
namespace L5
open ø Ê L2 L3
open Ã hiding St
structure Bq û9:Prop where
 set:mg "set"=none
 zip:mg "zip"=none
 enumerate:mg "enumerate"=none
section
variable {þ}{ţ}{a b c e:Expr}{ta tb tc:zx}{Ó8}{fa fb fc:AD}
def k7 (f g:xA) (ta tb tc:zx):zx:=fun Y S Q=>ta Y S λ x S1=>tb Y S1 λ y S2=>f x y S2 λ z S3=>match z with
 | .bl k=>if k=true then tc Y S3 λ w S4=>g y w S4 Q else Q (.bl Þ) S3
 | _=>Þ3
def k7.mo {f g:xA}Ï1:y8 Ö1:=fun Y S Q Q' hq h=>
 ha Ŷ (λ x S1 h=>hb Ô3 (λ y S2 h=>hf x y S2 Õ (λ z S3 h=>by
  cases z <;> first
   | show qP (hc Y S3 Õ λ w S4 h=>hg y w S4 Õ hq h) (hq Õ) h
   | show h) h) h) h
theorem Vx {f g:xA}{r r':R2}(hr:rO K f r) (hr':rO K g r') Ï1 {B:St}Á0{Q:VK}(h:zU K Ö1 B H Q):ZF r r' (zU K ta) (zU K tb) (zU K tc) B H Q:=by
 let#[Y,S,r1,r2,h]:=h;exact Ö2 ha r1 r2 h ĉ;exact Ö2 hb ľ;exact hr v w x y H2 S2 _ (zj.ext e2 x q1) q2 p2 (hf x y S2 Õ (λ d S3 z v3 H3 q3 e3 p3=>?_) h2);cases d with
 | bl k=>
  simp![zj] at q3;exact#[k,q3,qP ç7 ç7 z]
  .exact Ö2 hc (r1.ext (Ţ e3)) p3 z λ w4 S4 v4 H4 h4 q4 e4 p4=>?_;show hr' w v4 y w4 H4 S4 Q (zj.ext (e3.trans e4) y q2) q4 p4 (hg y w4 S4 Õ (λ d S' z=>z.ext ((Ţ e3).trans e4)) h4)
  .show z _ H3 Ô (Ţ e3) p3
 | _=>show z.elim
@[simp] def dm (f g:Î9) (fa fb fc:AD):AD:=fun J=>(fa J).bind λ x=>(fb J).bind λ y=>(f x y).bind λ b=>match b with
 | .bl k=>if k=true then (fc J).bind λ z=>g y z else ↑(.bl Þ)
 | _=>none
def sY {f g:Î9}{F G:xA}(hf:Good2 zl f F) (hg:Good2 zl g G) ü0 (hc:yV fc tc):xY (dm f g fa fb fc) (k7 F G ta tb tc):=λ S Z Y J y Q hE e hq=>by
 let#[x1,e1,e]:=ę;let#[x2,e2,e]:=ę;let#[b,e3,e]:=ę;exact ha À8 x1 _ hE e1 λ d1 S1 s1 r1=>?_;exact hb ó6 x2 _ ô3 e2 í2;exact hf S2 Z x1 x2 b d1 d2 _ ð6 (Vw.grow r1 s2) r2 e3 λ c S3 s3 r3=>?_;ext õ4
 .have:=r3.1;simp![Sn] at this;subst this;ext õ4
  .rename_i hk;let#[x4,e4,e5]:=ę;ext Û7;rw[Ñ6 hk];exact hc S3 Z Y J x4 _ (Ì1 (ú s3)) e4 λ d4 S4 s4 r4=>?_;show hg S4 Z x2 x4 y d2 d4 Q (Ì1 (Ù3 s4)).zd (Vw.grow r2 (s3.trans s4)) r4 e5 λ c' S5 s5 r5=>hq c' S5 ((Ù3 s4).trans s5) (Cl.cl (Ù3 s4) r5)
  .rename_i hk;ext Û7;rw[Ŧ hk];cases e;show hq _ S3 (ú s3) (Cl.of Ń pJ)
 .cases e
def uL Ģ ð (hc:PD X c tc)
  È6:PD X ð7 Ö1:=
 #[k7.mo Á1,ð8 (K4 ho ho' ha.pe hb.pe hc.pe hm) λ _ _ _ h=>Vx hr hr' Á1 h]
def vc Ģ ð (hc:PD X c tc)
  È6:zD X ð7 (pz Ö1):=by
 exact#[pz.mo (k7.mo Á1),PT.imp (Lv ho ho' ha.pe hb.pe hc.pe hm) fun B H Q h=>?_];let#[Y,S,r1,r2,h]:=h;exact Vx hr hr' Á1 #[Y,S,r1,r2,k7.mo Á1 Ŷ (λ d S' z v H' a b c=>?_) h];cases d with
 | bl k=>simp![zj] at a;show#[k,a,z H' b c]
 | _=>show z.elim
end
end L5
namespace L2
open ø Ê Ã
section
variable {þ}
def Jv:yO X (ç8 .Is) (λ x y H Q=>Û9):=by
 ext Ô4;show is_bool Ã8
def UZ:yO X (ç8 .IsNot) (λ x y H Q=>Ü9):=by
 ext Ô4;show isnot_bool Ã8
end
end L2
namespace L5
open ø Ê L2 L3
open Ã hiding St
section
variable {þ}{ţ}{a b c e o i v:Expr}{ý}{ta tb td ty tv:zx}{ü1}
def nv:xA:=λ x y S Q=>match x,y with
 | ė i,ė j=>Q (ä0) S
 | À6 ds,À6 es=>∃ ns ms:â,ds=ns.map D.int/\es=ms.map D.int/\Q (.bl (HT.lexLt ns ms)) S
 | _,_=>Þ3
def xk:Î9
 | ė i,ė j=>↑(ä0)
 | ç4,À6 us=>(nk ts).bind λ ns=>(nk us).map λ ms=>.bl (HT.lexLt ns ms)
 | _,_=>none
def nv.mo:rZ nv:=λ x y S Q Q' hq h=>by
 unfold nv at h ⊢;split at h
 .show hq Õ h
 .let#[ns,ms,h1,h2,h3]:=h;show#[ns,ms,h1,h2,hq Õ h3]
 .show Û3
def nv.fits:rO K nv (λ x y H Q=>oI (λ i j=>ä0) ï7\/Yn K ï7):=λ x y d e H S Q h1 h2 h3 h=>by
 unfold nv at h;split at h
 .ext Ó6;show Ý3 #[_,_,h1,h2,h Ô5 h3]
 .let#[ns,ms,rfl,rfl,h]:=h;ext Ó6;ext Ñ0;let#[b,ys,rfl,g3,g4]:=h2;rw[g2.ints] at g1;rw[g4.ints] at g3;show ŏ #[a,b,ns,ms,rfl,rfl,g1,g3,h Ô5 h3]
 .show Û3
def yc:Good2 zl xk nv:=λ S Z x y z d e Q hz hx hy ef hq=>by
 unfold xk at ef;split at ef
 .cases ef;cases hx.int;cases hy.int;show ā
 .let#[ns,e1,e2]:=í1 ef;let#[ms,e3,rfl]:=A_.mp e2;cases eB e1;cases eB e3;let#[ds,rfl,h2]:=hx.tup;let#[es,rfl,h4]:=hy.tup;show#[ns,ms,lV.mp h2,lV.mp h4,ā]
 .cases ef
def Ta Ŭ:yO X (ç8 .Lt) (λ x y H Q=>oI (λ i j=>ä0) ï7\/Yn X.K ï7):=Jt.or (Js (by have:=hr.units;lia))
def ug Ŭ ð:PD X (Ç9 a [.Lt] [b] pos) (yW nv ta tb):=jK (Ta hr) nv.fits nv.mo æ5
def wU Ŭ ð:zD X (Ç9 a [.Lt] [b] pos) (pz (yW nv ta tb)):=ka (Ta hr) nv.fits nv.mo æ5
def qG (neg:Bool):xA:=λ x y S Q=>match x,y with
 | .bl c,.bl d=>Q ð9 S
 | x,.zA=>Q (.bl (cond neg (!gm x) (gm x))) S
 | _,_=>Þ3
def qQ (neg:Bool):Î9
 | .bl c,.bl d=>↑ ð9
 | x,.zA=>↑(.bl (cond neg (!isNone x) (isNone x)))
 | _,_=>none
def qG.mo {neg:Bool}:rZ (qG neg):=λ x y S Q Q' hq h=>by
 unfold qG at h ⊢;split at h
 .show hq Õ h
 .show hq Õ h
 .show Û3
def qG.fits:rO K (qG Þ) (λ x y H Q=>(Û9)\/(y=.zA/\Q (.bl (ĥ (x=.zA))) H)):=λ x y d e H S Q h1 h2 h3 h=>by
 unfold qG at h;split at h
 ext ò5
 ext Ü1
 .show Û3
def qG.Ri:rO K (qG true) (λ x y H Q=>(Ü9)\/(y=.zA/\Q (.bl (! ĥ (x=.zA))) H)):=λ x y d e H S Q h1 h2 h3 h=>by
 unfold qG at h;split at h
 ext ò5
 ext Ü1
 .show Û3
def HZ ů å0{x:T}{d:D}(hx:Vw S Z x d):gm d=isNone x:=by
 cases x with
 | zA=>cases hx.zA;rfl
 | bl _=>cases hx.bl;rfl
 | int _=>cases hx.int;rfl
 | str _=>cases hx.str;rfl
 | tup _=>let#[ds,rfl,_]:=hx.tup;rfl
 | lst _=>obtain⟨ds,rfl | ⟨a,rfl,h1⟩,h2⟩:=hx.lst <;> rfl
 | zF _ _=>let#[a,m,#[rfl,_],h1]:=hx.zF;rfl
def rH {neg:Bool}:Good2 zl (qQ neg) (qG neg):=λ S Z x y z d e Q hz hx hy ef hq=>by
 unfold qQ at ef;split at ef
 .cases ef;cases hx.bl;cases hy.bl;show ā
 .cases ef;cases hy.zA;have key:Q (.bl (cond neg (!gm d) (gm d))) S:=by
   rw[HZ hx];show ā
  unfold qG;cases d <;> show key
 .cases ef
def uw ð:PD X (Ç9 a [.IsNot] [b] pos) (yW (qG true) ta tb):=jK (UZ.or UY) qG.Ri qG.mo æ5
def wY ð:zD X (Ç9 a [.Is] [b] pos) (pz (yW (qG Þ) ta tb)):=ka (Jv.or Ju) qG.fits qG.mo æ5
def wX ð:zD X (Ç9 a [.IsNot] [b] pos) (pz (yW (qG true) ta tb)):=ka (UZ.or UY) qG.Ri qG.mo æ5
def RP (td ty tv:zx):xf:=λ E Y S=>tv Y S λ v S1=>td Y S1 λ x S2=>ty Y S2 λ y S3=>∃ p ds k j,x=À0/\y=ė k/\S3 p=↑(ě ds)/\qc ö9 k=↑j/\E.nx Y (ups S3 p (ě (ds.set j v)))
theorem zu.set Á0{d:D}{x:V}(h:zj K H d x):∀ Ÿ Ó5(j:Nat),Ñ8->zu K H (ds.set j d) (xs.set j x)
 | [],xs,j,r=>by simp![zu] at r;subst r;show Û8
 | c::ds,xs,0,r=>by
  simp![zu] at r;let#[y,ys,rfl,_,r2]:=r;show ł h r2
 | c::ds,xs,j+1,r=>by
  simp![zu] at r;let#[y,ys,rfl,r1,r2]:=r;show ł r1 (zu.set h j r2)
def vj (ho:PD X o td) (hi:PD X i ty) (hv:PD X v tv) (hs:swapsWithSole [Ù4] v ï8=í3) (hw:swappedStores [Ù4] v Í=pure none)
  (h1:(í4 [Ù4] Í).map ŭ=[assign (Ù4) Í])
  (ha:∀ v,assign (Ù4) Í v=(do
   let ov <- ø0 [v] (î)
   let iv <- ø0 [v,ov] (eval i Í)
   standAt pos'
   ø0 [v,ov,iv] (setItem ov iv v)
   release [v,ov,iv] [])):zw X (.Assign [Ù4] v pos) (RP td ty tv):=by
 exact#[λ E E' Y S hE z=>hv.mo Ŷ (λ w S1 z=>å7 Ô3 (λ x S2 z=>hi.mo Y S2 Õ (λ y S3 #[p,ds,k,j,a,b,c,d,h]=>#[p,ds,k,j,a,b,c,d,hE.nx Õ h]) z) z) z,PS.imp (LH hv.pe (Kb ho.pe hi.pe set_list ha) hs hw h1) λ D B H hu=>?_];ext Î;exact Ö2 hv.mo à2 λ w S1 w1 H1 h1 q1 e1 p1=>?_;exact Ö2 å7 (Á9) p1 h1 λ x S2 w2 H2 h2 q2 e2 p2=>?_;exact Ö2 hi.mo ((Á9).ext e2) p2 h2 λ y S3 w3 H3 h3 q3 e3 p3=>?_;let#[p,ds,k,j,rfl,rfl,c1,c2,h]:=h3;simp![zj] at q2 q3;subst q2 q3;let#[xs,g1,g2]:=p3 Õ c1;have e4:Ext H3 (upd H3 p (ě (xs.set j w1))):=ě g1 _;exact#[p,xs,k,j,rfl,rfl,g1,by rw[<- g2.length];show c2,?_];show h B _ ((((Á9).ext e2).ext e3).ext e4) ((Ţ e3).trans e4) (p3.ups e4 #[_,yR,ç5 e4 _ (zu.set (zj.ext (e2.trans e3) w q1) j g2)])
@[simp] def hZ â8 (f v:AD):Sm:=fun J=>(v J).bind λ z=>Ç2 λ y=>match J[n]?,y with
 | Ü0,ė k=>(qc ts.length k).map λ j=>.nx (J.set n ↑(.own (ě (ts.set j z))))
 | _,_=>none
def u_ Ø4 â8 {f v:AD}(hf:yV f ty) (hv:qA v tv):yu R (hZ n f v) (RP (yN n) ty tv):=λ S0 Z0 S Z Y J o E F e P=>by
 let#[z,e1,e]:=ę;let#[x,e2,e3]:=ę;split at e3
 .rename_i ts k h;let#[j,hj,rfl]:=A_.mp e3;exact hv À8 z _ F.er e1 λ dz S1 s1 r1=>?_;have F1:=F.grow s1;let#[p,ob,h1,h2,h3,h4]:=F1.er.ow n _ h;cases ob with
  | lst ds=>
   change yN n Y S1 _;unfold yN;rw[h1];exact hf ó6 Õ F1.er e2 λ d S2 s2 r2=>?_;cases Vw.int r2;have h5:zp (yp S2 Z) ts ds:=zp.sx (pj s2) ts h3;show#[p,ds,k,j,rfl,rfl,s2 Õ h2,by rw[h5.len];show hj,P _ Z Y ((F1.grow s2).mut (us:=ě (ts.set j z)) (es:=ě (ds.set j dz)) n h h1 (h5.VV j (Sn.sx (pj s2) z r1)))]
  | _=>show h3.elim
 .cases e3
def KR {x y:Str}{u:ô}(hm:X.mg x=↑u) (r:RelV (ä y) u) ų (hd:Ñ):PD ũ (dC (ä y)):=ì3
def KS È1{n:Int}{u:ô}(hm:X.mg x=↑u) (r:RelV (ė n) u) ų (hd:Ñ):PD ũ (dC (ė n)):=ì3
end
end L5
namespace ZP
open ø Ã
def YY á9:String:=cond k "tuple_iterator" "list_iterator"
def SI õ5 á9 (it l:Addr) Ì6:Prop:=∃ o,ç1 it=↑o/\o.cls=ŀ (YY k)/\o.data=.fields [Å l,ė i 0].toArray
def SQ õ5 á9 Ú8 (xs:A1):Prop:=match k with
 | true=>h.IsTuple l xs
 | Þ=>h.IsList l xs
def SI.on û8 ê3{it l:Addr}ü2(x:SI h k it l i) (f:∀ o,ç1 it=↑o->Þ1 it=↑o):SI h' k it l i:=
 let #[o,ho,r]:=x;í5
def SQ.on û8 ž(x:ø1) (f:∀ o,ç1 l=↑o->Þ1 l=↑o):SQ h' k l xs:=by
 cases k with
 | true=>let#[o,ho,r]:=â2;show í5
 | Þ=>let#[o,ho,r]:=è1;show í5
def SQ.lt Ú7 ž(x:ø1):l<h.objs.size:=by
 cases k with
 | true=>let#[o,ho,_]:=â2;show A2 ho
 | Þ=>let#[o,ho,_]:=è1;show A2 ho
theorem SQ.cls Ú7 ž(x:ø1):∃ o,ç1 l=↑o/\o.cls=ŀ (cond k "tuple" "list"):=by
 cases k with
 | true=>let#[o,ho,c,_]:=â2;show#[o,ho,c]
 | Þ=>let#[o,ho,c,_]:=è1;show#[o,ho,c]
section
variable {Ó}{A:Ñ7}{Ò5}{À4}
def made ž Ø2(hl:Þ8)
  (hQ:Q Ï5 { s with heap:=Ü { cls:=ŀ (YY k),data:=í6 } }):ĩ Ï (pyIter ſ) à0:=by
 cases k with
 | true=>show wpAny_pyIter_tuple hl hQ
 | Þ=>show zd7 hl hQ
def ES Æ6{x:ô}Ø2 Ë9 (hx:Ù5)
  (hQ:∀ h',h'.IsTupleIter it l (i+1)->Ù6):Ç3:=by
 ext Ŝ;have there:=zd2 (Obj.mapFields λ y=>y.setIfInBounds 1 (rawInt ((i:Int)+1))) e1 (Obj.isFreed_of_fields (Obj.data_mapFields e3 _));exact za0 (zd9 e1 e3 #[] (AE #[x,rfl,AE (hQ _ #[_,there,(Obj.cls_mapFields ..).trans e2,?_] (š ..))]));rw[Obj.data_mapFields e3];simp[rawInt]
def EF Æ6 Ø2 ī Ë9 ņ:Ç3:=by
 ext Ŝ;exact za0 (à9 (za0 (zd9 e1 e3 #[] ?_)));exact za0 (m:=newExc (Ó9) []) ?_;simp![newExc,newTuple];exact za0 (zcW (Ņ) (by size_fits));simp![raiseNew];ext Õ3;show za0 (AE (wpAny_throw (hE Õ ê8 ö1)))
def draw ê3 Æ6{x:ô}Ø2 ó7 (hx:Ù5)
  (hQ:∀ h',SI h' k it l (i+1)->Ù6):Ç3:=by
 cases k with
 | true=>show ES hit hl hx hQ
 | Þ=>show wpAny_nextOf_list_item hit hl hx hQ
def ah ê3 Æ6 Ø2 ī ó7 ņ:Ç3:=by
 cases k with
 | true=>show EF hh hit hl hx hE
 | Þ=>show wpAny_nextOf_list_end hh hit hl hx hE
structure aX (z TI TO i1 i2 l1 l2:Addr):Prop where
 nd:[z,TI,TO,i1,i2].Nodup
 f1:l1∉ å
 f2:l2∉ å
structure At õ5 ñ8 (z TI TO i1 i2 l1 l2:Addr) (f0:ô) â8:Prop where
 z:IsZip h z TI TO f0
 ti:ø2 h TI (Å i1) (Å i2)
 to:∃ a b,ø2 h TO a b
 s1:SI h k1 i1 l1 n
 s2:SI h k2 i2 l2 n
def At.keep û8 Ê6{f0:ô}Õ4(S:At h k1 k2 Ĳ f0 n) (f:∀ b∈ å,∀ o,ç1 b=↑o->Þ1 b=↑o):At h' k1 k2 Ĳ f0 n:=
 #[f z #[] _ S.z,f TI #[] _ S.ti,let #[a,b,e]:=S.to;#[a,b,f TO #[] _ e],S.s1.on (f i1 #[]),S.s2.on (f i2 #[])]
def item Ê6 Õ4{xs ys:A1}{x y:ô}ä9 Ã2 (hx:xs[n]?=↑x) (hy:ys[n]?=↑y)
  (hQ:∀ h',At h' k1 k2 Ĳ (rawInt Á) (n+1)->ø2 h' Á x y->Â7->Q ↑ Ï5 { s with heap:=h' }):
  ĩ Ï (pyNext ø3) à0:=by
 let#[nd,f1,f2]:=D;ext Û;ext đ;ext Ù;replace to3:ø2 g3 TO x b:=to3;ext Ļ;exact za0 (za0 (ç9 (za0 (m:=ď (Å i2)) (draw Á6 λ g4 s24 e4=>AE ?_))));have to4:ø2 g4 TO x b:=ø4 Õ n9 to3;exact za0 (zcY to4 rfl (za0 (wpAny_updateSeq_pair to4 λ g5 to5 e5=>za0 (wpAny_letGo (AE ū)))));replace to5:ø2 g5 TO x y:=to5;exact za0 (zcY to5 rfl (za0 (wpAny_newTuple ?_)));have sz:Ç4=Á:=by rw[e5.1,e4.1,e3.1,e2.1,e1.1]
 have hz5:IsZip g5 Ì7:=Þ9 Õ n2 (ø4 Ý2);have up5:∀ c o,c∉ å->ã c=↑o->g5.get? c=↑o:=λ c o hc q=>by
  ext Î0;show Þ9 Õ hc.2.2.1 (ø4 Ø5)
 have ti5:ø2 g5 TI (Å i1) (Å i2):=Þ9 Õ n5 (ø4 Õ n7 (up Õ (Ľ n1) n6 n5 hti));have s15:SI g5 k1 i1 l1 (n+1):=s12.on λ o q=>Þ9 Õ (Ľ n8) (ø4 Õ n10 (ø5 Õ (Ľ n8) q));have s25:SI g5 k2 i2 l2 (n+1):=s24.on λ o q=>Þ9 Õ (Ľ n9) q;have lz:z<Ç4:=A2 hz5;exact za0 (m:=Builtin.SmallTypes.ownedTupleHandOut ø3 (Å Ç4)) ?_;have hz6:IsZip (Õ5) Ì7:=za1 _ hz5;exact za0 (zd4 hz6 #[] λ g7 hz7 e7=>?_);replace hz7:IsZip g7 z TI TO (rawInt Ç4):=hz7;exact zd4 hz7 #[] λ g8 hz8 e8=>?_;replace hz8:IsZip g8 z TI TO (rawInt Ç4):=hz8;have up8:∀ c o,c≠z->(Õ5).get? c=↑o->g8.get? c=↑o:=λ c o c1 q=>e8.extBut Õ c1 (e7.extBut Õ c1 q);have T8:ø2 g8 Ç4 x y:=up8 Õ (zaE lz) (ť);have up9:∀ c o,c≠z->g5.get? c=↑o->g8.get? c=↑o:=λ c o c1 q=>up8 c o c1 (za1 _ q);rw[sz] at hz8 T8;exact AE #[Å Ç4,rfl,AE ?_];change Q ↑(Å Ç4) _;rw[sz];exact hQ g8 #[hz8,up9 Õ (Ľ n1) ti5,#[x,y,up9 Õ (Ľ n2) to5],s15.on λ o q=>up9 _ o (Ľ n3) q,s25.on λ o q=>up9 _ o (Ľ n4) q] T8 λ c o hc q=>up9 c o (λ e=>hc (by simp[e])) (up5 c o hc q)
def stop Ê6 Õ4{xs ys:A1}ä9 ī Ã2 (hend:xs[n]?=none\/ys[n]?=none)
  (hQ:∀ h',Â7->Q none { s with heap:=h' }):
  ĩ Ï (pyNext ø3) à0:=by
 let#[nd,f1,f2]:=D;ext Û;have fin:∀ (h':Heap) (e:Addr),Â7->ô4->
   ĩ Ï (do if <- isInstance (Å e) (Ó9) then pure none else throw (Å e)) Q E { s with heap:=h' }:=λ h' e k1 k2=>by
  let#[o,ho,hc]:=k2;show za0 (Û2 Î4 (AE (hQ _ k1)))
 ext đ;cases hx:xs[n]? with
 | none=>
  exact za0 (za0 (ç9 (za0 (m:=ď (Å i1)) (ah hh Å0 λ g2 ex e2 he=>?_))));have hz2:IsZip g2 Ì7:=e2 Õ n3 hz1;let#[oe,q1,q2]:=he;have ne:ex≠z:=λ q=>by subst q;rw[hz2] at q1;cases q1;simp at q2
  exact zd4 hz2 #[] λ g3 _ e3=>fin g3 ex (λ c o hc q=>?_) #[oe,ø5 Õ ne q1,q2];ext Î0;show ø5 Õ hc.1 (e2 Õ hc.2.2.2.1 (ø6 Õ hc.1 q))
 | some x=>
  have hy:ys[n]?=none:=hend.resolve_left (by rw[hx];simp);ext Ù;ext Ļ;exact za0 (za0 (ç9 (za0 (m:=ď (Å i2)) (ah hh Á6 λ g4 ex e4 he=>?_))));have hz4:IsZip g4 Ì7:=e4 Ý2;let#[oe,q1,q2]:=he;have ne:ex≠z:=λ q=>by subst q;rw[hz4] at q1;cases q1;simp at q2
  exact zd4 hz4 #[] λ g5 _ e5=>fin g5 ex (λ c o hc q=>?_) #[oe,Þ9 Õ ne q1,q2];ext Î0;show Þ9 Õ hc.1 (e4 Ø5)
end
abbrev nj á9 Ú8:Obj:={ cls:=ŀ (YY k),data:=í6 }
abbrev gy Ū:Heap:=(h.push á4).push (nj k2 l2)
abbrev bP Ū:Heap:=(gy à3).push { cls:=ă,data:=.seq [Å h.objs.size,Å (h.push á4).objs.size].toArray }
abbrev bO Ū:Heap:=(bP à3).push { cls:=ă,data:=.seq [è5,è5].toArray }
abbrev gu Ū:Heap:=(bO à3).push { cls:=ŀ "zip",data:=.fields [è5,.bool Þ,.bool Þ,Å (gy à3).objs.size,Å (bP à3).objs.size].toArray }
def IK ñ8 (l1 l2:Addr) (xs ys:A1):Meets (Builtin.«zip.__new__» #[[ŀ "zip",Å l1,Å l2],[]]) (λ _ R s=>SQ ó k1 l1 xs/\SQ ó k2 l2 ys/\
   R (.ok (.ret (Å í7))) { s with heap:=gu Ħ }):=
 .of_wp λ prog w A R s h=>by
  ext Ĕ;let#[q1,q2,h]:=h;have hsub:=sub_zip;have m1:SQ Ä2 k1 l1 xs:=q1;have m2:SQ (Shared.heap #[hp.push á4,g,d,tk,os]) k2 l2 ys:=q2.on λ o e=>ì9
  wp_walk using made m1,made m2
  show ŧ
section
variable {Ó}{A:Ñ7}{Ò5}{À4}
def new {k1 k2:Bool}{l1 l2:Addr}{xs ys:A1}Ø2 à4
  (h:∀ h' z TI TO i1 i2,(∀ b∈ å,Á<=b)->aX Ĳ->At h' k1 k2 Ĳ è5 0->(∀ c o,ã c=↑o->Þ1 c=↑o)->Q ø3 { s with heap:=h' }):
  ĩ Ï (call (ŀ "zip") [Å l1,Å l2]) à0:=by
 exact callType_new F.called_zip () (F.typeCall_zip_2 Õ) (F.newCall_zip_2 Õ) (λ obj=>F.args_object_init_3 obj Õ) F.entry_zip_new (IK k1 k2 l1 l2 xs ys) #[h1,h2,?_];have z1:(Ü á4).objs.size=Á+1:=Ê2 ..;have z2:(gy Ħ).objs.size=Á+2:=by rw[Ê2,z1]
 have z3:(bP Ħ).objs.size=Á+3:=by rw[Ê2,z2]
 have z4:í7=Á+4:=by rw[Ê2,z3]
 have p1:∀ õ5 (o:Obj),o.isFreed=Þ->(h.push o).get? h.objs.size=↑o:=λ h o e=>zA9 _ e;have u:∀ Ú7{b:Addr}{o:Obj}(o':Obj),ç1 b=↑o->(h.push o').get? b=↑o:=λ o' e=>ì9;have g5:ß0 í7=↑_:=p1 Õ rfl;have g4:ß0 (bP Ħ).objs.size=↑_:=ß1;have g3:ß0 (gy Ħ).objs.size=↑_:=u _ (ß1);have g2:ß0 (Ü á4).objs.size=↑(nj k2 l2):=u _ (u _ (ß1));have g1:ß0 Á=↑ á4:=u _ (u _ (u _ (ß1)));have a1:=h1.lt;have a2:=h2.lt;rw[z2,z3,z4] at g5;rw[z1,z2] at g3;rw[z3] at g4;rw[z1] at g2;generalize hN:Á=N at *;have lt:∀ {m:Nat},m<N->∀ j:Nat,¬ m=N+j:=λ hm j=>⋯;have ne:∀ {i j:Nat},i≠j->¬ (N+i=N+j):=λ hij e=>hij ⋯;change _/\_;rw[z4];exact#[#[_,g5,rfl],h _ (N+4) (N+2) (N+3) N (N+1) (λ b hb=>?_) #[?_,?_,?_] #[g5,g3,#[_,_,g4],#[_,g1,rfl,rfl],#[_,g2,rfl,rfl]] λ c o e=>u _ (u _ (u _ (u _ (u _ e))))]
 .ext ķ;have h0:N<=N:=AM N;ext ò7
  .show zb1 N 4
  .show zb1 N 2
  .show zb1 N 3
  .show h0
  .show zb1 N 1
 .have e0:∀ ü2,i≠0->¬ (N+i=N):=λ hi e=>hi ⋯;have e0':∀ ü2,i≠0->¬ (N=N+i):=λ hi e=>hi ⋯;simp![zaC,AL,za5,è0,not_or,List.nodup_nil,and_true,not_false_eq_true];show#[#[ne (),ne (),e0 (),ne ()],#[ne (),e0 (),ne ()],#[e0 (),ne ()],e0' ()]
 .simp![AL,za5,è0,not_or];show#[lt a1 4,lt a1 2,lt a1 3,zB3 a1,lt a1 1]
 .simp![AL,za5,è0,not_or];show#[lt a2 4,lt a2 2,lt a2 3,zB3 a2,lt a2 1]
end
end ZP
namespace L2
open ø Ê Ã ZP
section
variable {þ}{Ô8}{Á0}{À4}
def Inv.cA {h':Heap}{t':Nat}{fp:List Addr}(I:İ) (k:∀ b o,b∉fp->Ź) (hf:∀ b∈fp,nH X gV H b):Inv X gV B H { s with heap:=h',toks:=t' }:=by
 have nit:∀ b u,H b=↑u->b∉fp:=λ b u e z=>by rw[(hf b z).1] at e;cases e
 exact I.step (g':=s.gens) (d':=s.drawn) (ch:=fp) (λ b hb=>?_) (λ b o _ _ hc e _=>k b o hc e) (λ b o _ _ hc e _=>#[o.slots,k b o hc e]) (λ _ _ _ _ n=>n)
  (λ b o hc e=>#[o,k b o hc e]) (λ _ _ e=>e) (λ _ _ _ e=>e) (λ b ps e=>#[û,by rw[e];simp]) (λ m hm=>?_) (λ b u e=>?_) I.bare
 .let#[_,q1,_,q2,q3,q4]:=hf b hb;show#[q2,q1,q3,q4]
 .let#[o,es,ep,ho,r]:=hm;show#[o,es,ep,k _ o (λ z=>(hf _ z).2.1 rfl) ho,r]
 .exact (I.zH b u e).lS (λ c v hc q=>k c v ?_ q) (λ _ q=>q) λ _ _ q=>q;rcases hc with z | z
  .rw[z];show nit b u e
  .show nit c _ z
def pD ő (H:Hp) á9 (a:Addr) (xs:List V):Prop:=match k with
 | true=>ö5
 | Þ=>y4 ó5
def pD.of (I:İ) ê3 Ő Ó5(h:pD X.K H k a xs):∃ its:List ô,Vals xs its/\SQ ó k a Ĝ:=by
 cases k with
 | true=>let#[its,rv,p,_]:=å6 h;show#[its,rv,p]
 | Þ=>let#[its,rv,p,_]:=I.list h;show#[its,rv,p.isList]
def pD.inj (I:İ) ê3 Ő{xs ys:List V}(h:pD X.K H k a xs) (h':pD X.K H k a ys):xs=ys:=by
 cases k with
 | true=>show I.Z6 h h'
 | Þ=>show I.YI h h'
def Pj ő ñ8 (a1 a2:Addr):It:=
 #[λ i H=>∃ xs ys x y,ø7/\ø8/\Ù5/\ys[i]?=↑y,
   λ i H v H'=>∃ p x y,v=À0/\ì8/\H'=upd H p (ø9)/\(∀ xs,ø7->Ù5)/\∀ ys,ø8->ys[i]?=↑y,
   λ i H=>∃ xs ys,ø7/\ø8/\(á<=i\/Þ4<=i)]
def OX ĕ ý{kk} Ó8{k1 k2:Bool}{z TI TO i1 i2 a1 a2:Addr}(D:aX z TI TO i1 i2 a1 a2):
  Turn P w K (.Tuple es kk pos) (Pj K k1 k2 a1 a2) å z (λ i h=>At h k1 k2 z TI TO i1 i2 a1 a2 è5 i) where
 mem:=#[]
 obj:=λ i h st b hb=>by
  let#[q1,q2,#[_,_,q3],#[o1,q4,_,d1],#[o2,q5,_,d2]]:=st;ext ķ;ext ò7
  .show#[_,q1,â7]
  .show#[_,q2,â7]
  .show#[_,q3,â7]
  .show#[_,q4,ù0]
  .show#[_,q5,λ v z=>by rw[d2] at z;cases z]
 keep:=λ i h h' st k=>st.keep k
 item:=by
  ext ï;let#[xs,ys,x,y,g1,g2,hx,hy]:=hg;ext Ï2;let#[u1,e1,r1]:=rv1.get hx;let#[u2,e2,r2]:=rv2.get hy;exact ZP.item D st q1 q2 (x:=u1) (y:=u2) (by exists e1) (by exists e2) λ h' S' T' up=>ù1;exact wpAny_letOwnedTupleGo_zip S'.z λ h2 z2 sb=>?_;have nT:Á ∉ å:=λ hb=>by
   let#[o,ho,_]:=(show ∃ o,ã Á=↑o/\True from by
    let#[w1,w2,#[_,_,w3],#[o1,w4,_],#[o2,w5,_]]:=st;ext ķ;rcases hb with e | e | e | e | e <;> rw[e]
    .show#[_,w1,Ì0]
    .show#[_,w2,Ì0]
    .show#[_,w3,Ì0]
    .show#[_,w4,Ì0]
    .show#[_,w5,Ì0])
   show ù2 (A2 ho) (zE1 _)
  have nz:Á ≠z:=λ e=>nT (by simp[e]);have fr:H Á=none:=Į;have I1:Inv X gV B (upd H Á (ø9)) { s with heap:=Ü6,toks:=į }:=
   ç3 (o:=ø9) (λ b u q=>za1 _ q) ã9 #[æ9,[u1,u2],ł r1 (ł r2 Û8),IsTup.new Õ]
  have hf':∀ b∈ å,upd H Á (ø9) b=none:=λ b hb=>by
   rw[yw (λ e=>nT (by rw[<- e];show hb))];show (hf b hb).1
  have kk:∀ b o,b∉ å->(Ü6).get? b=↑o->h2.get? b=↑o:=λ b o hb q=>by
   have hbz:b≠z:=λ e=>hb (by simp[e]);by_cases hbs:b=Á
   .subst hbs;rw[ť] at q;cases q;show Ö3 Õ nz T'
   .ext Ó7
    show Ö3 Õ hbz (up b o hb q')
  have I2:=Inv.cA (h':=h2) (t':=į) (fp:=å) æ6;exact#[Å Á,_,I2,rfl,#[_,x,y,rfl,fr,rfl,ù5,λ zs hz=>by rw[hz.inj I g2];show hy],#[z2,?_,?_,?_,?_],hf']
  .ext Ġ;show Ö3 Õ (Ľ nd.1.1) S'.ti
  .let#[a,b,e]:=S'.to;ext Ġ;show#[a,b,Ö3 Õ (Ľ nd.1.2.1) e]
  .ext Ġ;show S'.s1.on λ o q=>Ö3 Õ (Ľ nd.1.2.2.1) q
  .ext Ġ;show S'.s2.on λ o q=>Ö3 Õ (Ľ nd.1.2.2.2) q
 done:=by
  ext ï;let#[xs,ys,g1,g2,hx]:=hg;ext Ï2;have l1:=rv1.length;have l2:=rv2.length;exact ZP.stop (É3) D st q1 q2 ?_ λ h' up=>#[rfl,I.cA (t':=į) up hf];rcases hx with hx | hx
  .show Ý3 ä1
  .show ŏ ä1
 self:=λ _ _ _ _ _ st h=>wpAny_pyIter_zip st.z h
def Gn ő (ta:TA):TI:=fun B H R=>ta B H λ vs H1=>∃ a1 a2 k1 k2,vs=[Å a1,Å a2]/\(∃ xs,pD K H1 k1 a1 xs)/\(∃ ys,pD K H1 k2 a2 ys)/\R (Pj K k1 k2 a1 a2) H1
theorem LS {a b:Expr}{ta:TA}{p pos pos':Pos}ý{kk} (hg:Gl X "zip") (hm:X.mg "zip"=none) (ha:PA X Ì2 ta) (hs:Ô0:=by rfl) (hs2:ē [b] Í=[ò1]:=by rfl):
  PI Í8 (Ě (Ď "zip" p) Ì2 Á2) (Gn X.K ta):=by
 intro gV s B H R I h;exact Call_ (jR I hg hm boot_zip (ù3 È7 (by rw[hs,hs2]) (by rw[hs2];rfl)));let#[a1,a2,k1,k2,rfl,#[xs,g1],#[ys,g2],q]:=q1;cases r1 with
 | cons r rr=>
  cases rr with
  | cons r' rr=>
   cases rr;cases r;cases r';let#[it1,_,q1]:=g1.of I1;let#[it2,_,q2]:=g2.of I1;exact ZP.new q1 q2 λ h' z TI TO i1 i2 nw D S up=>wpAny_pyIter_zip S.z ?_;show#[z,å,_,_,H1,rfl,I1.kept (t':=s1.toks) up,OX D,S,Ó0,q]
end
end L2
namespace L5
open ø Ê L2 L3
open Ã hiding St
section
variable {ţ}{a:Expr}{p:Pos}
def Sb (t:yy):qV:=fun Y S R=>t Y S λ ds S1=>∃ d e xs ys,ds=[d,e]/\yx d S1=↑xs/\yx e S1=↑ys/\R #[ß2 Ý0 xs ys,λ S=>ö4=↑xs/\yx e S=↑ys] S1
def f_:D->Bool
 | À6 _=>true
 | _=>Þ
def yx.k Á0 ů{d:D}{v:V}Ÿ(r:zj K H d v) (p:è7) (e:ö4=↑ds):∃ a xs,v=Å a/\pD K H (f_ d) a xs/\Ñ8:=by
 by_cases q:∃ ts,d=ç4
 .let#[ts,rfl]:=q;cases e;simp![zj] at r;let#[a,xs,h1,h2,h3]:=r;show#[a,xs,h1,h2,h3]
 .let#[a,xs,h1,h2,h3]:=kN r p e λ ts z=>q #[ts,z];exact#[a,xs,h1,?_,h3];have:f_ d=Þ:=by cases d <;> first | rfl | show ù2 á5 q
  rw[this];show h2
end
section
variable {þ}{a b:Expr}{Û1}{ü1}{ý}{kk:Nat}
def vx (hm:X.mg "zip"=none) (ha:y7 X Ì2 tA) (hg:Gl X "zip") (hs:Ô0) (hs2:ē [b] Í=[ò1]):
  yv Í8 (Ě (Ď "zip" p) Ì2 Á2) (Sb tA):=by
 exact#[fun Y S Q Q' hq z=>Ù7 Ŷ (λ ds S1 #[d,e,xs,ys,h1,h2,h3,h4]=>#[d,e,xs,ys,h1,h2,h3,hq Õ h4]) z,PI.imp (LS hg hm ha.pa hs hs2) ù4];ext Í3;let#[d,e,xs,ys,rfl,s1,s2,h]:=h1;let#[v,u,rfl,d1,d2]:=q1.two;ext ã5;let#[a2,ws,rfl,g3,g4]:=yx.k d2 p1 s2;exact#[a1,a2,f_ d,f_ e,rfl,#[us,g1],#[ws,g3],å8];let#[b1,us2,q1,m1,m2]:=yx.k (zj.ext x1 d d1) x2 hk.1;cases q1;let#[b2,ws2,q2,m3,m4]:=yx.k (zj.ext x1 e d2) x2 hk.2;cases q2;have l1:=m2.length;have l2:=m4.length;exact#[λ dd hd=>?_,λ hl=>#[us2,ws2,m1,m3,?_]]
 .rw[List.getElem?_zipWith] at hd;split at hd
  .rename_i dx dy hx hy;cases hd;let#[x,hx',rx]:=m2.get hx;let#[y,hy',ry]:=m4.get hy;exact#[#[us2,ws2,x,y,m1,m3,hx',hy'],λ v H' q=>?_];let#[pp,x',y',rfl,hp,rfl,f1,f2]:=q;ext Î2
   have ey:y'=y:=by have:=f2 _ m3;rw[hy'] at this;show (zD5 this).symm
   subst ex ey;ext õ6;show#[pp,_,rfl,yz.of yR,ç5 (ĸ) _ (ł rx (ł ry Û8))]
  .cases hd
 .have hl':(ß2 Ý0 xs ys).length<=i:=hl;rw[List.length_zipWith] at hl';lia
@[simp] def lN:ġ->È (ġ)
 | [x,y]=>(qN x).bind λ xs=>(qN y).map λ ys=>ß2 (λ a b=>T.tup Ì2) xs ys
 | _=>none
theorem VL ů:∀ {ts us:ġ}{ds es:List D},zp S ts ds->zp S us es->zp S (ß2 (λ a b=>T.tup Ì2) ts us) (ß2 Ý0 ds es)
 | [],us,ds,es,h,h'=>by simp![zp] at h;subst h;exists zp.nil
 | t::ts,[],ds,es,h,h'=>by simp![zp] at h';subst h';exists zp.nil
 | t::ts,u::us,ds,es,h,h'=>by
  simp![zp] at h h';let#[c,cs,rfl,h1,h2]:=h;let#[c',cs',rfl,h3,h4]:=h';show zp.cons (lW (zp.cons h1 (zp.cons h3 zp.nil))) (VL h2 h4)
def yx.sx {S S':SS}{d:D}Ÿ(h:ö4=↑ds) (s:Sx S S'):yx d S'=↑ds:=by
 unfold yx at h ⊢;split at h
 .show h
 .show h
 .split at h
  .rename_i q;cases h;rw[s Õ q]
  .cases h
 .cases h
def tD {g:œ}(h:oU g tA):lH Þ (xN lN g) (Sb tA):=λ S Z Y J ts Q hE e hq=>by
 ext ō;unfold lN at e2;split at e2
 .let#[xs,e3,e4]:=í1 e2;let#[zs,e5,rfl]:=A_.mp e4;let#[d,d',rfl,h1,h2]:=iI r1;let#[es,g1,g2]:=h1.seq e3;let#[es',g3,g4]:=h2.seq e5;show#[d,d',es,es',rfl,g1,g3,hq _ S1 s1 (VL g2 g4) λ S'' s=>#[yx.sx g1 s,yx.sx g3 s]]
 .cases e2
theorem yx.yp ů å0{y:T}{d:D}ü3(h:Sn (yp S Z) y d) (e:qN y=↑ts):∃ ds,yx d (yp S Z)=↑ds/\í8:=by
 cases y with
 | tup us=>cases e;simp![Sn] at h;let#[ds,rfl,h2]:=h;show#[ds,rfl,h2]
 | lst us=>
  cases e;simp![Sn] at h;obtain⟨ds,⟨rfl,_⟩ | ⟨a,rfl,h1⟩,h2⟩:=h
  .show#[ds,rfl,h2]
  .show#[ds,by unfold yx;ext Û7;rw[h1],h2]
 | _=>cases e
end
end L5
namespace L2
open ø Ê Ã Builtin å9
section
variable {þ}
def Uv:Ê8:=λ x lo hi H Q=>∃ z,x=ä z/\z.length<=ß/\Q Ö4 H
def Mn:kC X Uv:=by
 ext â4;let#[z,rfl,hz,q]:=h;ext Ñ1;exact#["str",_,F.slot_str_getitem.lookup,ß3,?_];let#[o,h1,h2,h3]:=hs;cases pl with
 | none=>
  cases pu with
  | none=>show zdC (l:=none) (u:=none) Ð
  | int j uj=>show zdC (l:=none) (u:=↑(j,uj)) Ð
 | int i ui=>
  cases pu with
  | none=>show zdC (l:=↑(i,ui)) (u:=none) Ð
  | int j uj=>show zdC (l:=↑(i,ui)) (u:=↑(j,uj)) Ð
end
end L2
namespace HT
open ø Ã
section
variable {Ó}{A:Ñ7}{Ò5}{À4}
def Dj {t sl:Addr}{í9:A1}{vl vu:ô}å1 Ø2(ht:IsTup ó t í9) (hs:s.heap.IsSliceOf sl vl vu è5) (pl:IsPart vl lo) (pu:IsPart vu hi)
  (hw:yh Ę 0 lo=0/\yh Ę Ę hi=Ę) (h:Q (Å t) s):ĩ Ï (getItem (Å t) (Å sl)) à0:=by
 have hT:=ht.typeIs;let#[os,e1,e2,e3]:=id hs;have hS:ô1 (Å sl) "slice":=#[os,e1,e2];unfold getItem
 try with_reducible exact zcT ?_
 first | exact za0 ū | skip
 exact za0 (wpAny_sequenceKey hT () (za0 (zcZ (name:=Str.ofString "__getitem__") hT î0 (zcU î0 hT entry_tuple_getitem ?_ (args_tuple_getitem Õ)))));exact za0 (m:=Builtin.Tuple.tupleItemsOf (Å t)) (tupleItemsOf_ ht (za0 (zd0 hS ?_)));rw[Ñ6 ()];exact za0 (VQ hs pl pu ?_);have yes:Ã6:=by rw[hw.1,hw.2];simp
 change ĩ Õ (if Ã6 then _ else _) Õ s;rw[Ñ6 yes];exact za0 (m:=Builtin.Tuple.tupleIsExact (Å t)) (za0 (zd0 hT ū));rw[Ñ6 ()]
 first
  | show za0 (à9 (AE #[_,rfl,AE h]))
  | show za0 (à9 (za0 (AE (AE #[_,rfl,AE h]))))
end
end HT
namespace L2
open ø Ê Ã
section
variable {þ}
def Ut ő:Ê8:=λ x lo hi H Q=>∃ a xs,x=Å a/\ö5/\(Ç6)/\Q Ï4 H
theorem Ml:kC X (Ut X.K):=by
 ext â4;let#[a,xs,rfl,hx,hw,q]:=h;cases rx;let#[its,r,ht,hz]:=å6 hx;have hlen:Û4=á:=by rw[A6];show r.length.symm
 show#["tuple",_,PyProof.Rows.slot_tuple_getitem.lookup,ht.typeIs,HT.Dj ht hs pl pu (by rw[hlen];show hw) #[Å a,H,I,rfl,q]]
end
end L2
namespace L5
open ø Ê L2 L3
open Ã hiding St
def nE {α:Type}(xs:List α) Ô6:List α:=(xs.drop (HT.yh á 0 lo)).take (HT.yh á á hi-HT.yh á 0 lo)
section
variable {þ}{ţ}{Ë2}{lo hi:È Expr}{te:zx}{tl th:È zx}{pos p2:Pos}
def mO ü4:yX->SS->(È Int->SS->Prop)->Prop:=fun Y S Q=>match t with
 | none=>Q none S
 | some t=>t Y S λ d S1=>match d with
  | ė i=>Q ↑i S1
  | _=>Þ3
def Pg ü4:Prop:=∀ u,t=↑u->y8 u
def mO.mo (h:Pg tl):∀ Y S (Q Q':È Int->SS->Prop),(∀ d S',Q d S'->Q' d S')->mO tl Y S Q->mO tl Y S Q':=fun Y S Q Q' hq z=>by
 cases tl with
 | none=>show hq Õ z
 | some t=>show h t rfl Ŷ (λ d S1 z=>by cases d <;> first | show hq Õ z | show z) z
def OP ő ü4:TO:=fun B H Q=>∃ Y S,xH K H Y B/\è7/\mO t Y S λ o S1=>∀ H1,Ext H H1->yq K H1 S1->Q o H1
structure aK (X:Cx) (e:È Expr) ü4:Prop where
 mo:Pg t
 po:PO X e (OP X.K t)
def vw:aK X none none:=#[nofun,λ gV s B H Q I h=>by
 let#[Y,S,r1,r2,z]:=h;show LM ħ Q I (z H Ŋ r2)]
def vv (h:PD X e te):aK X ↑e ↑te:=#[λ u q=>by cases q;show h.mo,λ gV s B H Q I hu=>by
 exact LL h.pe ħ Q I ?_;ext Î;exact Ö2 h.mo Ķ;cases d with
 | int i=>ext Ê3;show#[i,q1,h1 H1 e1 p1]
 | zA=>show î1
 | bl _=>show î1
 | str _=>show î1
 | tup _=>show î1
 | qv _=>show î1
 | ref _=>show î1]
def mH (d:D) Ô6 (S:SS) (Q:DK):Prop:=match d with
 | À6 ds=>Q (À6 ú0) S
 | ä z=>z.length<=ß/\Q Ö4 S
 | d=>∃ ds,ö4=↑ds/\∀ p,S p=none->Q ú1 (ups S p (ě ú0))
def mH.mo {d:D}å1 ů{Q Q':DK}(hq:∀ d S',Q d S'->Q' d S') (h:mH d Ø6 S Q):mH d Ø6 S Q':=by
 unfold mH at h ⊢;split at h
 .show hq Õ h
 .show è8
 .let#[ds,h1,h2]:=h;show#[ds,h1,λ p hp=>hq Õ (h2 p hp)]
def zu.cut Á0 Ÿ Ó5(h:Ñ8) Ô6:zu K H ú0 (lA xs Ø6):=by
 have hd:∀ Ÿ Ó5 â8,Ñ8->zu K H (ds.drop n) (xs.drop n):=by
  intro ds
  induction ds with
  | nil=>ext Õ2;subst h;exists zu.nil
  | cons d ds ih=>
   ext ë4;cases n with
   | zero=>show ł h1 h2
   | succ n=>show ih n h2
 have ht:∀ Ÿ Ó5 â8,Ñ8->zu K H (ds.take n) (xs.take n):=by
  intro ds
  induction ds with
  | nil=>ext Õ2;subst h;exists zu.nil
  | cons d ds ih=>
   ext ë4;cases n with
   | zero=>show Û8
   | succ n=>show ł h1 (ih n h2)
 unfold nE lA;rw[h.length];show ht _ (hd _ h)
def Dl Ó5 å1(h:Ç6):lA xs Ø6=xs:=by
 unfold lA;rw[h.1,h.2];simp
abbrev fG ő:Ê8:=λ x lo hi H Q=>Uw K x Ø6 H Q\/(Uu K x Ø6 H Q\/Ut K x Ø6 H Q)\/Uv x Ø6 H Q
theorem mH.fits {d:D}{v:V}å1 Á0 ů{Q:VK}(h1:zj K H d v) (h2:è7) (h:mH d Ø6 S (qS K H Q)):fG K v Ø6 H Q:=by
 unfold mH at h;split at h
 .simp![zj] at h1;ext Ñ0;by_cases hw:Ç6
  .exact ŏ (Ý3 (ŏ #[a,xs,rfl,g1,hw,h _ H ?_ Ŋ h2]));ext è3;exact#[a,xs,rfl,g1,?_];have:=zu.cut g2 Ø6;rw[Dl hw] at this;show this
  .exact ŏ (Ý3 (Ý3 #[a,xs,rfl,g1,hw,λ p hp=>h Õ ?_ (ĸ) (h2.new hp)]));ext è3;show#[p,_,rfl,yz.of yR,ç5 (ĸ) _ (zu.cut g2 Ø6)]
 .simp![zj] at h1;show ŏ (ŏ #[_,h1,h.1,h.2 Ô5 h2])
 .rename_i hn _;let#[ds,e,h]:=h;let#[a,xs,rfl,g1,g2]:=kN h1 h2 e (λ ts z=>hn ts z);show Ý3 #[a,xs,rfl,g1,λ p hp=>h p (h2.none hp) Õ Ô (ĸ) (h2.ups (ĸ) #[_,yR,ç5 (ĸ) _ (zu.cut g2 Ø6)])]
def RJ (te:zx) (tl th:È zx):zx:=fun Y S Q=>te Y S λ x S1=>mO tl Y S1 λ l S2=>mO th Y S2 λ u S3=>mH x l u S3 Q
def vP Ô7 (hl:aK X lo tl) (hh:aK X hi th):PD X (ĵ e (.Slice Ø6 none p2) pos) (RJ te tl th):=by
 exact#[fun Y S Q Q' hq z=>he.mo Ŷ (λ x S1 z=>mO.mo hl.mo Ô3 (λ l S2 z=>mO.mo hh.mo Y S2 Õ (λ u S3 z=>mH.mo hq z) z) z) z,
  ð8 (Kp (Mo.or ((Mm.or Ml).or Mn)) he.pe hl.po hh.po) Ō]
 ext Î;exact Ö2 he.mo à2 ĉ;exact#[Y,S1,Á9,p1,mO.mo hl.mo Ô3 (λ l S2 h2 H2 e2 p2=>?_) h1];exact#[Y,S2,(Á9).ext e2,p2,mO.mo hh.mo Y S2 Õ (λ u S3 h3 H3 e3 p3=>?_) h2];show mH.fits (zj.ext (e2.trans e3) x q1) p3 (mH.mo (λ d S' z=>z.ext (Ţ e3)) h3)
@[simp] def il:è9->Ev->È (È Int)
 | none,_=>↑none
 | some f,J=>Ç2 λ x=>match x with
  | ė i=>↑↑i
  | _=>none
def aR (f:è9) ü4:Prop:=∀ S Z Y J y Q,ER À8->il f J=↑y->(∀ S',Sx S S'->Q y S')->mO t Y S Q
def tV:aR none none:=λ S Z Y J y Q hE e hq=>by cases e;show hq Â1
def tU {f:AD}(h:ú2):aR ↑f ↑te:=λ S Z Y J y Q hE e hq=>by
 let#[x,e1,e2]:=ę;exact h À8 x _ hE ĳ;split at e2
 .cases e2;cases Vw.int r1;show hq S1 s1
 .cases e2
@[simp] def ic Ô6:T->È T
 | ç4=>↑(À6 (nE ts Ø6))
 | ě ts=>↑(ě (nE ts Ø6))
 | ä z=>if z.length<=ß then ↑ Ö4 else none
 | _=>none
@[simp] def oA (f:AD) (lo hi:è9):AD:=fun J=>Ç2 λ x=>(il lo J).bind λ l=>(il hi J).bind λ u=>ic l u x
def zp.cut ů ü3 Ÿ(h:zp S ts ds) Ô6:zp S (nE ts Ø6) ú0:=by
 unfold nE;rw[h.len];show zp.take' _ (zp.drop' _ h)
def sy {f:AD}{l u:è9}(h:ú2) (hl:aR l tl) (hu:aR u th):xY (oA f l u) (RJ te tl th):=λ S Z Y J y Q hE e hq=>by
 ext à5;let#[l',e2,e]:=ę;let#[u',e3,e]:=ę;exact h À8 x _ hE ĳ;exact hl ó6 l' _ ô3 e2 λ S2 s2=>?_;exact hu S2 Z Y J u' _ (Ì1 Á8) e3 λ S3 s3=>?_;have r3:Vw S3 Z x d:=Vw.grow r1 (s2.trans s3);have hz:=(Ì1 (ú s3)).zd;unfold ic at e;ext õ4
 .cases e;let#[ds,rfl,h2]:=r3.tup;show hq _ S3 (ú s3) (Cl.of Ń (lW (zp.cut h2 Õ)))
 .cases e;let#[ds,h1,h2]:=r3.seq rfl;have key:∃ ds,yx d S3=↑ds/\∀ p,S3 p=none->Q ú1 (ups S3 p (ě (nE ds l' u'))):=#[ds,h1,λ p hp=>hq Õ (Ù3 (ĸ)) (Cl.cl (ú s3) (m5 hz hp (zp.cut h2 Õ)))];obtain⟨_,q | ⟨a,q,_⟩,_⟩:=r3.lst
  .subst q;show key
  .subst q;show key
 .ext õ4
  .rename_i h0;cases e;cases r3.str;show#[h0,hq _ S3 (ú s3) é0]
  .cases e
 .cases e
end
end L5
namespace TM
open ø Ã
def noFill:fillsNumberSlot (ă) "mul"=í3:=
 PySem.fillsNumberSlot_seq (id:="tuple.__mul__") (r:=↑(Í5 "tuple.__rmul__")) F.slot_tuple_mul.lookup (zdK) F.slot_tuple_rmul.lookup (zdK)
def rep:seqRepeat? (ă)=pure ↑(Í5 "tuple.__mul__"):=by
 have a:=PySem.seqSlot_of (T:="tuple") (name:="__mul__") (id:="tuple.__mul__") F.slot_tuple_mul.lookup (zdK);have b:=PySem.seqSlot_of (T:="tuple") (name:="__rmul__") (id:="tuple.__rmul__") F.slot_tuple_rmul.lookup (zdK);unfold seqRepeat?;rw[a,b];rfl
def declines (i:Int) ÿ:
  Meets Ð7 (λ _ R s=>ŋ/\ã3):=
 .of_wp λ prog w A R s h=>by
  ext É0
  wp_walk
  show ŧ
theorem Xm {α:Type}(xs:List α):∀ (m:Nat) (acc:Array α),(Ú m xs.toArray).foldl (·++·) acc=acc++(Ú m xs).flatten.toArray
 | 0,acc=>#[]
 | m+1,acc=>by
  rw[zaH,zaQ,Xm xs m,zaH,zaP,Array.append_assoc];simp
def Iv (k:Int) ÿ (h1:¬ (ĥ (k < -(2 ^ 63))||ĥ (k≥2 ^ 63))=true) (h2:¬ (Ù8||k == 1)=true) (h3:¬ (ĥ (k<=0)||Ù8)=true)
  (h4:¬ (Ę*k>(2 ^ 63-1)/8)) (h5:¬ Builtin.Tuple.tupleTooMany (Ę*k)=true) (h6:(ò8).size<=ß):
  Meets (Builtin.«tuple.__mul__» #[[Å l,ė k t],[]]) (λ _ R s=>ŋ/\
   R (.ok (.ret Ï5)) { s with heap:=Ü { cls:=ă,data:=.seq (ò8) } }):=
 .of_wp λ prog w A R s h=>by
  ext É0;have e0:IsTup Ä2 l í9:=#[_,hl,rfl,n,rfl]
  wp_walk
  rw[Ŧ h1];exact za0 (m:=Builtin.Tuple.tupleItemsOf ſ) (tupleItemsOf_ e0 ?_);ext Û7;rw[Ŧ h2,Ŧ h3,Ŧ h4,Ŧ h5];show za0 (m:=Builtin.Tuple.tupleExact _) (zcW (AE ŧ) h6)
def Iw ÿ:
  Meets (Builtin.«tuple.__mul__» #[[Å l,ė 1 t],[]]) (λ _ R s=>ŋ/\R (.ok (.ret ſ)) s):=
 .of_wp λ prog w A R s h=>by
  ext É0;have c:(Ù8||(1:Int) == 1)=true:=#[]
  wp_walk
  show ŧ
section
variable {Ó}{A:Ñ7}{Ò5}{À4}
def times ì4 Ø2(ht:IsTup ó l Ĝ) (AW:its≠[]) (h0:1<=k) (hz:á2*Ĉ<=ß)
  (one:k=1->Q ſ s) (more:k≠1->Q Ï5 { s with heap:=Ü { cls:=ă,data:=.seq Ã3 } }):
  Ý5:=by
 have hT:=ht.typeIs;let#[#[cls,dd,data,sl],ho,hc,n,hd]:=id ht;simp only at hc hd;subst hc hd;exact wpAny_binaryOp_repeat_ref (T:="tuple") (U:="int") () hT (λ s'=>typeIs_int s' k t) noFill F.fills_int_mul ú3 rep F.slot_int_index.lookup
  (À9 Ä4 (declines k t l Ĝ n dd sl) #[ho,rfl,hT,?_])
 have hlen:0<á2:=List.length_pos_iff.mpr AW;have hem:æ0=Þ:=by cases its with
  | nil=>show ù2 rfl AW
  | cons a r=>rfl
 by_cases h1:k=1
 .subst h1;show À9 Ë8 (Iw t l Ĝ n dd sl) #[ho,one rfl]
 .have hks:Ĉ<=ß:=A7 (Nat.le_mul_of_pos_left _ hlen) hz;have hl:Ù2:=rfl;have hk2:k<=16777216:=⋯;have hcast:((Û4:Nat):Int)*k=((á2*Ĉ:Nat):Int):=by
   rw[A6,Int.natCast_mul,zF2 ⋯]
  have hf:(Ú Ĉ Ĝ).foldl (·++·) û=Ã3:=by rw[Xm];simp
  have hfl:(Ú Ĉ its).flatten.length=Ĉ*á2:=#[];exact À9 Ë8 (Iv k t l Ĝ n dd sl ?_ ?_ ?_ ?_ ?_ ?_) #[ho,?_]
  .simp![zE6,decide_eq_true_eq,not_or];show#[⋯,⋯]
  .rw[hem];exists h1
  .rw[hem];simp;lia
  .rw[hcast];lia
  .rw[hcast];intro q;unfold Builtin.Tuple.tupleTooMany at q;have:=of_decide_eq_true q;lia
  .rw[hf,A6,hfl,zc0];show hz
  .rw[hf];show more h1
end
end TM
namespace L2
open ø Ê Ã
def Yl ő:R2:=λ x y H Q=>∃ a k xs,x=Å a/\y=ė k/\ö5/\xs≠[]/\1<=k/\á*Ĉ<=ß/\(k=1->Q Ï4 H)/\(k≠1->∀ p,ì8->Q ú1 (upd H p (À6 Ñ9)))
theorem Jo þ:yO X (binaryOp .Mult) (Yl X.K):=by
 ext Á5;let#[a,k,xs,rfl,rfl,hx,AW,h1,hz,q1,q2]:=h;cases rx;let#[t,rfl]:=ry;let#[its,r,ht,_]:=å6 hx;have hl:=r.length;exact TM.times ë7 (λ e=>#[Å a,H,I,rfl,q1 e]) λ e=>?_;have hlen:Ä6<=ß:=by
  ext ü5;show hz
 show#[Å _,_,ç3 (t':=į) (o:=À6 Ñ9) (λ b ob q=>za1 _ q) ã9 #[#[hlen,.new _],_,r.rep Ĉ,IsTup.new Õ],rfl,q2 e _ (Į)]
end L2
namespace L5
open ø Ê L2 L3
open Ã hiding St
section
variable {ţ}{a:Expr}
def l5:xA:=λ x y S Q=>match x,y with
 | ė i,ė j=>pP i j/\Q (ė (i*j)) S
 | À6 ds,ė k=>(ds≠[]/\1<=k/\ö9*Ĉ<=ß)/\Q (À6 (Ú Ĉ ds).flatten) S
 | _,_=>Þ3
def oK:Î9
 | ė i,ė j=>if pP i j then ↑(ė (i*j)) else none
 | ç4,ė k=>if ts≠[]/\1<=k/\ts.length*Ĉ<=ß then ↑(À6 (Ú Ĉ ts).flatten) else none
 | _,_=>none
def l5.mo:rZ l5:=λ x y S Q Q' hq h=>by
 unfold l5 at h ⊢;split at h
 .show è8
 .show è8
 .show Û3
theorem zu.rep Á0 Ÿ Ó5(h:Ñ8):∀ n:Nat,zu K H (Ú n ds).flatten (Ú n xs).flatten
 | 0=>Û8
 | n+1=>by
  rw[zaH,zaH,zaP,zaP];show h.append (zu.rep h n)
def l5.fits:rO K l5 (λ x y H Q=>Ö5):=λ x y d e H S Q h1 h2 h3 h=>by
 unfold l5 at h;split at h
 .ext Ó6;show Ý3 #[_,_,h1,h2,h.1,h.2 Ô5 h3]
 .rename_i ds k;let#[#[c1,c2,c3],h]:=h;have h1':=h1;ext Ó6;ext Ñ0;have hl:=g2.length;exact ŏ #[a,k,xs,rfl,h2,g1,Î1,c2,by rw[<- hl];show c3,λ e=>?_,λ e p hp=>?_]
  .subst e;exact h _ H ?_ Ŋ h3;have:(Ú (1:Int).toNat ds).flatten=ds:=#[];rw[this];show h1'
  .exact h Õ ?_ (ĸ) (h3.new hp);ext è3;show#[p,_,rfl,yz.of yR,ç5 (ĸ) _ (zu.rep g2 _)]
 .show Û3
theorem zp.rep ů ü3 Ÿ(h:zp S ts ds):∀ n:Nat,zp S (Ú n ts).flatten (Ú n ds).flatten
 | 0=>Û8
 | n+1=>by
  rw[zaH,zaH,zaP,zaP];show h.append (zp.rep h n)
def wF:Good2 zl oK l5:=λ S Z x y z d e Q hz hx hy ef hq=>by
 unfold oK at ef;split at ef
 .split at ef
  .rename_i hc;cases ef;cases hx.int;cases hy.int;show#[hc,hq _ Â1 (Cl.of Ń pH)]
  .cases ef
 .split at ef
  .rename_i hc;cases ef;let#[ds,rfl,h2]:=hx.tup;cases hy.int;have hl:=h2.len;show#[#[ì6,hc.2.1,by rw[hl];show hc.2.2],hq _ Â1 (Cl.of Ń (lW (zp.rep h2 _)))]
  .cases ef
 .cases ef
end
end L5
namespace L4
open ø Ã
section
variable {Ó}{A:Ñ7}{Ò5}{À4}
def Dv {l:Addr}{vs:AI}{Q:List ô->Ç8}(hl:IsTup ó l î2) (hz:vs.length<=ß)
  (h:Q vs { s with heap:=Ĺ }):ĩ Ï (collect ſ) à0:=by
 let#[o,ho,hc,n,hd]:=id hl;have new:(Ü Ä3).get? Á=↑ Ä3:=ť;have ho':(Ü Ä3).get? l=↑o:=za1 _ ho;unfold collect;exact za0 (wpAny_runValue (Þ2 entry_proto_collect' (za0 (m:=newList []) (wpAny_newList (AE #[Code.quiet_builtin _ (zdK),Þ2 entry_list_iadd' ?_])))));change ĩ Õ (ļ Ï5 ſ Ï5) Õ { s with heap:=Ü Ä3 };unfold ļ;exact za0 (zd0 (T:="tuple") #[o,ho',hc] ?_);rw[Ê4];exact za0 (ñ0 ho' hd (za0 (ñ0 (xs:=û) (n:=0) new æ4)));rw[Ŧ #[]];exact za0 (listUpdate_at (xs:=û) (n:=0) new rfl ū (zD4 _) (by change (û++î2).size<=ß+1;simp![Array.size_append,A6,zaG];lia));exact za0 (m:=load Á) (wpAny_load (get?_update_seq new _) ?_);change ĩ Õ (pure ((û:A1)++î2).toList) Q E _;have e:((û:A1)++î2).toList=vs:=#[];rw[e];show AE h
end
section
open L2 Ê
variable {þ}
def U9 À4{vs:AI}:∀ b o,¬ Þ3->ù9->(Ĺ).get? b=↑o:=λ b o _ q=>by
 rw[zdB Õ Õ (zB3 (A2 q))];show za1 _ q
theorem DN:xC X (Í5 "sorted") (λ xs H Q=>∃ p ys,∃ rows:Ê5,ô2/\ð4/\js X.K H ys rows/\É2<64/\dE (å5) H Q):=by
 ext Ì9;have hl:(å5).length<64:=by rw[zc5];lia
 have sz:∀ vs:List ô,Á<=(Ĺ).objs.size:=λ vs=>by rw[Heap.size_update,size_push'];show Nat.le_succ _
 rcases hq with hq | hq
 .ext õ7;show ZN I (λ Q' h=>collect_list pl.isList (h _ į U9 (sz its)) (by rw[<- ö3];show hz)) (VR.of rv hr) hl q
 .let#[its,rv,pl,hz]:=å6 hq;show ZN I (λ Q' h=>Dv pl (by rw[<- ö3];show hz) (h _ į U9 (sz its))) (VR.of rv hr) hl q
end
end L4
namespace L5
open ø Ê L2 L3
open Ã hiding St
section
variable {þ}{ţ}{Ë2}{ý}{È2}
def jc:x9:=λ ds S Q=>∃ d,∃ rows:Ê5,ds=[d]/\ö4=↑(rows.map oE)/\É2<64/\(∀ r∈rows,r≠[])/\∀ l,ì2->Q ſ (ups S l (ě ((L4.qb rows).map oE)))
def iQ:AG
 | [y]=>(qN y).bind λ ts=>(oB ts).bind λ rs=>if ñ1 then ↑(ě ((L4.qb rs).map zI)) else none
 | _=>none
def r9:qX zl iQ jc:=λ S Z ys z ds Q hz hv e hq=>by
 unfold iQ at e;ext õ4
 .ext Ů;let#[ts,e0,e]:=ę;let#[rs,e1,e2]:=ę;split at e2
  .rename_i hc;cases e2;cases ZZ e1;let#[es,h2,h3]:=h1.seq e0;cases iR.mp h3;show#[d,rs,rfl,h2,hc.1,hc.2,á3]
  .cases e2
 .cases e
def jc.mo:qK jc:=λ ds S Q Q' hq #[d,rows,h0,h1,h2,h3,h4]=>#[d,rows,h0,h1,h2,h3,λ l hl=>hq Õ (h4 l hl)]
def xC.or {f:ô}{r r':List V->Hp->VK->Prop}(h:xC X f r) (h':xC X f r'):xC X f (λ xs H Q=>r xs H Q\/r' xs H Q):=λ gV s B H xs us Q I rv q=>
 q.elim (λ q=>h ħ xs us Q I rv q) λ q=>h' ħ xs us Q I rv q
def jc.fits:pO K jc (λ xs H Q=>∃ p ys,∃ rows:Ê5,ô2/\(y4 K H p ys\/yz K H p ys)/\L4.js K H ys rows/\É2<64/\L4.dE (å5) H Q):=λ xs ds H S Q h0 h2 h=>by
 let#[d,rows,rfl,e,qx,AW,h]:=h;ext Æ3;let#[a,ys,rfl,g1,g2]:=yx.sq h1 h2 e;have hl:=g2.length;rw[AQ] at hl;exact#[_,ys,rows,rfl,g1,cU g2 AW,qx,λ l ps hf hp hs=>?_];have heq:=L4.VH (rows:=rows) (by have:=hp.map ŭ;rwa [List.map_snd_zip ⋯] at this) hs;have hx:Ext H (upd H l (ě (ç2))):=ö6;exact h l (h2.none hf) Õ Ô hx (h2.ups hx #[_,yR,?_]);rw[<- heq];show ç5 hx _ (zu.ba λ q hq=>zu.cp g2 q (hp.mem_iff.mp hq))
def vO (hm:X.mg "sorted"=none) Ų (hg:Gl X "sorted") Ċ:PD X (Ě (Ď "sorted" p) Đ Á2) (qp jc tA):=
 m6 (l_ L4.DN hg hm boot_sorted ï9 he AV) jc.mo jc.fits Ù7
end
end L5
namespace L2
open ø Ê Ã
section
variable {þ}
def mn (r:Addr) (j:Int):Heap->Prop:=λ h=>∃ t u v,IsRange h r 0 j 1 t u v
def DV:xC X (ŀ "range") (λ xs H Q=>∃ j,xs=[ė j]/\∀ r,H r=none->Q (Å r) Ī):=by
 ext Ł;let#[j,rfl,q]:=h;let#[u,rfl,ru]:=vals1 r;let#[t,rfl]:=ru;exact call_range_1 #[Å Á,_,ç3 (o:=.ext (mn Á j)) (λ b o e=>ì9) ã9 ?_,rfl,q _ (Į)];have here:mn Á j (Ü { cls:=ŀ "range",data:=.fields [ė 0 į,ė j t,ė 1 (į+1)].toArray }):=#[_,_,_,IsRange.new ..];exact#[here,#[_,ť],λ h1 h2 S k=>?_];let#[a,b,c,e]:=S;show#[a,b,c,k _ e]
theorem DZ ĺ:xC X (Õ9) (λ xs H Q=>∃ r j,xs=[Å r]/\H r=↑(.ext (mn r j))/\0<=j/\j<=16777216/\∀ l,á1->Q ſ (upd H l (Ś))):=by
 ext Ł;let#[a,j,rfl,hr,h0,h1,q]:=h;ext ğ;obtain⟨⟨t,u,v,hR⟩,-,-⟩:=(show xS Ò4 H ó a (.ext (mn a j)) from I.zH a _ hr)
 have hsz:Builtin.Range.rangeSize 0 j 1=((j.toNat:Nat):Int):=by rw[rangeSize_one];split <;> lia
 exact call_list_range (n:=j.toNat) (É3) hR (small_one () () ⋯ ⋯) hsz ⋯ λ h' tk acc c k e hi=>?_;exact#[Å Á,_,ç3 (o:=Ś) k ã9 #[?_,acc.toList,c,?_,by exists e],rfl,q _ (Į)]
 .have:Ù2:=rfl;simp;lia
 .let#[hn,hi]:=hi;exact ST.Paired.mk (by simp[hn]) λ i a b ha hb=>?_;rw[A9] at ha;let#[k',hk,rfl]:=A_.mp ha;let#[hk1,hk2]:=zA2.mp hk;simp at hk2;subst hk2;let#[w,hw]:=hi i b (by exists hb);subst hw;show#[w,#[]]
end
end L2
namespace L5
open ø Ê L2 L3
open Ã hiding St
section
variable {þ}{ţ}{Ë2}{Û1}{pos p pos2 p2:Pos}
def ky:x9:=λ ds S Q=>∃ j:Int,ds=[ė j]/\0<=j/\j<=16777216/\∀ l,ì2->Q ſ (ups S l (ě (oH 0 j.toNat)))
def bH:AG
 | [ė j]=>if 0<=j/\j<=16777216 then ↑(ě (rangeT 0 j.toNat)) else none
 | _=>none
def rD:qX zl bH ky:=λ S Z ys z ds Q hz hv e hq=>by
 unfold bH at e;ext õ4
 .ext Ů;ext õ4
  .rename_i hc;cases e;cases h1.int;show#[_,rfl,hc.1,hc.2,λ l hl=>hq Í0 (m5 hz hl (ZQ Õ))]
  .cases e
 .cases e
def ky.mo:qK ky:=λ ds S Q Q' hq #[j,h0,h1,h2,h3]=>#[j,h0,h1,h2,λ l hl=>hq Õ (h3 l hl)]
theorem MS Á0 â8:zu K H (oH 0 n) ((List.range n).map Ö6):=by
 unfold oH
 induction List.range n with
 | nil=>show Û8
 | cons k l ih=>show ł (by ext è3;rw[zb9]) ih
def ky.fits:pO K ky (λ xs H Q=>∃ j,xs=[ė j]/\∀ r,H r=none->∃ r' j',[V.ref r]=[Å r']/\Ī r'=↑(.ext (mn r' j'))/\0<=j'/\j'<=16777216/\
  ∀ l,Ī l=none->Q ſ (upd Ī l (ě ((List.range j'.toNat).map Ö6)))):=λ xs ds H S Q h0 h2 h=>by
 let#[j,rfl,c1,c2,h]:=h;ext Æ3;simp![zj] at h1;subst h1;exact#[j,rfl,λ r hr=>#[r,j,rfl,yR,c1,c2,λ l hl=>?_]];have x1:Ext H Ī:=.new hr _;have hlr:l≠r:=λ z=>by subst z;rw[yR] at hl;cases hl
 have hlH:á1:=by rw[yw hlr] at hl;show hl
 have x2:Ext Ī (upd Ī l (Ś)):=.new hl _;show h l (h2.none hlH) Õ Ô ç6 ((h2.new hr).ups x2 #[_,yR,MS _])
def uk (hm:X.mg "list"=none) (hm2:X.mg "range"=none) Å6 ĺ (hg:Gl X "list") (hg2:Gl X "range")
  (he2:ß4)
  (he:ē [Ë4] Í=(Þ,eval (Ë4) Í)::ē [] Í) å2:
  PD X (Ě (Ď "list" p) [Ë4] Á2) (qp ky tA):=by
 have h:=jI (p:=p) (DZ hc) hg hm PyProof.Rows.boot_list (kc (jI DV hg2 hm2 boot_range ï9 he2 hpl2) kb he) ð0;show#[qp.mo ky.mo Ù7,ð8 h λ _ _ _ hu=>Vy ky.mo ky.fits Ù7 hu]
end
end L5
namespace ST
open ø ã8 Ê Ã L2
def Gi {us us':AI}(p:us'.Perm us):∀ {ms:â},Ò9 us ms->∃ ms',Ò9 us' ms'/\ms'.Perm ms:=by
 induction p with
 | nil=>intro ms h;show#[ms,h,.refl _]
 | cons x _ ih=>
  intro ms h;cases h with
  | cons n t h=>
   let#[ms',h1,h2]:=ih h;show#[n::ms',ł n t h1,h2.cons n]
 | swap x y l=>
  intro ms h;cases h with
  | cons n t h=>
   cases h with
   | cons m u h=>show#[m::n::_,ł m u (ł n t h),.swap Õ _]
 | trans _ _ ih1 ih2=>
  intro ms h;let#[m1,h1,h2]:=ih2 h;let#[m2,h3,h4]:=ih1 h1;show#[m2,h3,h4.trans h2]
theorem iz.at Ó Ú7 Ő{xs:Í9}(S:iz á8 h a xs (ki w)):xQ w a ß5 h:=by
 let#[#[es,ep,t,ho,he,T,h1,h2,h3],_]:=S;have hm:7<=Ì8/\Ì8<=127:=æ8
 ext Ř
 show#[es,ep,t,#[ho,ð5,T.pV,h1,h2],by rw[he,A4];rfl]
theorem S7:∀ xs:Í9,Ò9 ß5 (ř õ)
 | []=>Û8
 | e::xs=>ł e.1 e.2 (S7 xs)
theorem Vi:∀ {us:AI}{ns:â},Ò9 us ns->Vals Ë0 us
 | _,_,Û8=>Û8
 | _,_,ł n t h=>ł #[t,rfl] (Vi h)
section
variable {þ}
def DS ĺ:xC X (ŀ "set") (λ xs H Q=>∃ p,∃ ns:â,ô2/\y4 X.K H p Ë0/\ñ2/\
  ∀ Ú8 (us:AI) (ms:â),á1->Ò9 us ms->ms.Nodup->(∀ n,n∈ms↔n∈ns)->Q ſ (upd H l Ä1)):=by
 ext Ł;let#[p,ns,rfl,hq,qx,q]:=h;ext ğ;ext õ7;have hl:=ö3;rw[AQ] at hl;have iA:Ò9 its ns:=intsAre_of rv;have nums:Nums Ĝ ns:=λ i v hv=>by
  have hv':its[i]?=↑v:=by exists hv
  have hi:i<ns.length:=by rw[hl];show (zA2.mp hv').1
  let#[u,e1,t,e2]:=rv.get (i:=i) (x:=V.int ns[i]) (ñ3);rw[hv'] at e1;cases e1;show#[ns[i],t,e2,ñ3]
 ext â6;exact DT (A:=X.A) hh pl.isList nums ê2;ext ì7;have hSO:=S.at;exact#[Å Á,_,ç3 (t':=tk) (o:=.ext (xQ X.w Á ß5)) kk ã9 ?_,rfl,q Õ (ř õ) (Į) (S7 xs) S.nd λ n=>#[λ hn=>?_,λ hn=>?_]]
 ext Æ2
 .let#[e,he,rfl]:=AO.mp hn;let#[j,_,_,hj]:=U.own e he;show zB7 hj
 .let#[j,hj]:=zcH.mp hn;show U.all j n ì0 hj
def DP ĺ:xC X (Í5 "sorted") (λ xs H Q=>∃ l us,∃ ms:â,xs=[Å l]/\H l=↑ Ä1/\Ò9 us ms/\ms.length<64/\
  ∀ (p:Addr) (ns:â),ì8->ns.Perm ms->ns.Pairwise (·<=·)->Q ú1 (upd H p (ě Ë0))):=by
 intro gV s B H xs us0 Q I r h;let#[l,us,ms,rfl,hl,hm,qx,q]:=h;ext Œ
 have hlen:Ĥ=À3:=by rw[<- eu];simp
 have hml:=hm.length;ext â6;ext Â6
 let#[ms',i1,i2]:=Gi hp hm;have hcl:=hp.length_eq;have hl24:Ù2:=rfl;exact L4.VG (N:=ô5) (Out:=λ out=>∃ ns',Ò9 out.toList ns'/\ns'.Perm ms'/\ns'.Pairwise (·<=·)) (λ Q' h=>Qe (by show hh) S (by rw[hlen,hml];lia) Q' h) (by rw[hcl,hml];lia) (λ h2 s6 k=>L4.Ds i1 h2 (by rw[hcl,hml];show qx)) (λ h1=>#[ms',by simpa using i1,.refl _,?_]) λ out h' tk p ho hs hp' k hat=>?_
 .have:ms'.length<2:=by rw[<- i1.length];show h1
  match ms',this with
  | [],_=>show Û8
  | [_],_=>show zcB Õ
 .let#[ns,g1,g2,g3]:=ho;let#[e,he]:=hat;exact#[À0,_,ç3 (t':=tk) (o:=ě Ë0) (λ b o e=>k b o id e) hp' ?_,rfl,q p ns (I.zH.fresh hp') (g2.trans i2) g3];show#[by rw[AQ,g2.length_eq,i2.length_eq];lia,out.toList,e,Vi g1,by exists he]
end
end ST
namespace L5
open ø Ê L2 L3
open Ã hiding St
def insI (n:Int):â->â
 | []=>[n]
 | m::l=>if n<m then n::m::l else if n=m then m::l else m::insI n l
def oq:â->â
 | []=>[]
 | n::ns=>insI n (oq ns)
theorem YE {n k:Int}:∀ {l:â},k∈insI n l↔k=n\/k∈l
 | []=>by simp[insI]
 | m::l=>by
  unfold insI;split
  .simp
  .split
   .rename_i h;subst h;simp
   .rw[AL,YE,AL];constructor
    .rintro (h | h | h)
     .show ŏ (Ý3 h)
     .show Ý3 h
     .show ŏ (ŏ h)
    .rintro (h | h | h)
     .show ŏ (Ý3 h)
     .show Ý3 h
     .show ŏ (ŏ h)
theorem b8 {k:Int}:∀ {l:â},k∈oq l↔k∈l
 | []=>.rfl
 | n::l=>by unfold oq;rw[YE,b8,AL]
theorem S8 {n:Int}:∀ {l:â},l.Pairwise (· < ·)->(insI n l).Pairwise (· < ·)
 | [],_=>zcB Õ
 | m::l,h=>by
  have h':=za9.mp h;unfold insI;split
  .rename_i c;exact za9.mpr #[λ x hx=>?_,h];rcases AL.mp hx with e | e
   .rw[e];show c
   .show Int.lt_trans c (h'.1 x e)
  .split
   .show h
   .rename_i c1 c2;exact za9.mpr #[λ x hx=>?_,S8 h'.2];rcases YE.mp hx with e | e
    .rw[e];lia
    .show h'.1 x e
theorem Vu:∀ l:â,(oq l).Pairwise (· < ·)
 | []=>Û8
 | n::l=>S8 (Vu l)
theorem OO {l m:â}(h1:l.Nodup) (h2:l.Pairwise (·<=·)) (h3:m.Pairwise (· < ·)) (h:∀ k,k∈l↔k∈m):l=m:=by
 have nm:m.Nodup:=h3.imp λ h e=>⋯;exact L4.Yu (r:=λ a b:Int=>a<=b) (λ a b p q=>⋯) ((zcG h1 nm).mpr h) h2 (h3.imp λ h=>⋯)
section
variable {þ}{ţ}{Ë2}{Û1}{pos pos2 p p2:Pos}
def eN:x9:=λ ds S Q=>nZ ds S Q\/∃ d,∃ ns:â,ds=[d]/\(∀ ts,d≠ ç4)/\ö4=↑(ns.map D.int)/\ñ2/\∀ l,ì2->Q ſ ç0
def iP:AG
 | [ě ts]=>match nk ts with
  | some ns=>if ñ2 then ↑(ě ((oq ns).map T.int)) else none
  | none=>f6 [ě ts]
 | [ç4]=>f6 [ç4]
 | _=>none
def rq:qX zl iP eN:=λ S Z ys z ds Q hz hv e hq=>by
 unfold iP at e;ext õ4
 .ext õ4
  .rename_i ns hns;ext õ4
   .rename_i hc;cases e;cases eB hns;ext Ů;let#[es,h2,h3]:=h1.seq rfl;cases lV.mp h3;exact ŏ #[d,ns,rfl,?_,h2,hc,λ l hl=>hq Í0 (m5 hz hl (lV.mpr rfl))];obtain⟨_,q | ⟨a,q,_⟩,_⟩:=h1.lst <;> subst q <;> show λ _=>nofun
   .cases e
  .show ë0
 .show ë0
 .cases e
theorem eN.mo:qK eN:=λ ds S Q Q' hq h=>by
 rcases h with h | ⟨d,ns,h1,h2,h3,h4,h5⟩
 .show Ý3 (nZ.mo ds S Q Q' hq h)
 .show ŏ #[d,ns,h1,h2,h3,h4,λ l hl=>hq Õ (h5 l hl)]
def Em Ø3 Ó5 Á0 ů{Q:VK}{d:D}{ns:â}(h0:zu K H [d] xs) (h2:è7) (hn:∀ ts,d≠ ç4) (e:ö4=↑(ns.map D.int)) (qx:ñ2) (h:∀ l,ì2->qS K H Q ſ ç0):
  ∃ p,∃ ns':â,ô2/\y4 K H p (ns'.map V.int)/\ns'.length<64/\
   ∀ Ú8 (us:AI) (ms:â),á1->Ò9 us ms->ms.Nodup->(∀ n,n∈ms↔n∈ns')->
    ∃ l' us',∃ ms':â,[V.ref l]=[Å l']/\ê9/\Ò9 us' ms'/\ms'.length<64/\
     ∀ (p:Addr) (ns:â),Ø p=none->ns.Perm ms'->ns.Pairwise (·<=·)->Q ú1 (upd Ø p (ě Ë0)):=by
 ext Æ3;let#[a,ys,rfl,g1,g2]:=kN h1 h2 e hn;rw[g2.ints] at g1;exact#[a,ns,rfl,g1,qx,λ l us ms hf hi nd hmem=>#[l,us,ms,rfl,yR,hi,?_,λ p ns2 hp pm srt=>?_]]
 .have:=ST.Y6 ms ns nd λ x hx=>(hmem x).mp hx;lia
 .have x1:Ext H Ø:=ö6;ext è2
  ext ý3
  have x2:Ext Ø (upd Ø p (ě (ns2.map V.int))):=ĸ;have heq:ns2=oq ns:=OO (pm.nodup_iff.mpr nd) srt (Vu ns) λ k=>by rw[pm.mem_iff,hmem,b8]
  exact h p (h2.none hpH) Õ Ô ç6 ((h2.new hf).ups x2 #[_,yR,?_]);rw[<- heq];show zu.Y3 ns2
def vN Ŭ (hm:X.mg "sorted"=none) (hm2:X.mg "set"=none) Å6 ĺ (hg:Gl X "sorted") (hg2:Gl X "set")
  (he2:ß4)
  (he:ē [Î7] Í=(Þ,eval (Î7) Í)::ē [] Í) å2:
  PD X (Ě (Ď "sorted" p) [Î7] Á2) (qp eN tA):=by
 have h:=l_ (p:=p) (xC.or (ST.DQ hc) (ST.DP hc)) hg hm boot_sorted (kc (jI (xC.or (ST.DR hc hr.units) (ST.DS hc)) hg2 hm2 PyProof.Rows.boot_set ï9 he2 hpl2) kb he) ð0;exact#[qp.mo eN.mo Ù7,ð8 h Ō];ext Î;exact rR.go Ù7 à2 λ ds S1 xs H1 h1 q1 e1 p1=>?_;rcases h1 with h1 | ⟨d,ns,rfl,c1,c2,c3,h1⟩
 .let#[p,ys,rows,a1,a2,a3,a4,a5]:=nZ.fits (w:=X.w) xs ds H1 S1 Q q1 p1 (nZ.mo ds S1 Õ (λ d S' z=>z.ext e1) h1);show Ý3 #[p,ys,rows,a1,a2,a3,a4,λ l us ps b1 b2 b3 b4 b5=>Ý3 (a5 l us ps b1 b2 b3 b4 b5)]
 .let#[p,ns',a1,a2,a3,a4]:=Em (w:=X.w) q1 p1 c1 c2 c3 (λ l hl=>(h1 l hl).ext e1);show ŏ #[p,ns',a1,a2,a3,λ l us ms b1 b2 b3 b4=>ŏ (a4 l us ms b1 b2 b3 b4)]
end
end L5
namespace L5
open ø Ê L2 L3
open Ã hiding St
section
variable {þ}{e st:Expr}
def lq:Sm:=λ _=>none
def X0:xf:=λ _ _ _=>Þ3
def yE {st:Stmt}:zw X st X0:=Ä7
def uZ Ø4:yu R lq X0:=λ S0 Z0 S Z Y J o E F e P=>by cases e
end
end L5
namespace L5
open ø L2 L3
def yd:Good2 zl lr ae:=î3
def ye:Good2 zl eK af:=î3
end L5
namespace L5
open ø Ê L2 L3
open Ã hiding St
section
variable {þ}{Ë2}{te:zx}{pos p q:Pos}
def uz (T:Bt X.mg) Ô7 (hg:Gl X "isinstance") (hg2:Gl X "str") (h1:AY X e [Ď "str" q]) (h2:A3 X pos [Ď "str" q]) (h3:AY X (Ď "str" q) []):
  PD X (Ě (Ď "isinstance" p) [e,Ď "str" q] Á2) (gH "str" te):=bo #[] T.isinstance T.str PyProof.Rows.boot_str hg2 () () he hg h1 h2 h3
end
end L5
namespace L3
open ø Ã L2
section
variable {þ}{Ó8}
def wE (E:j7) (W:Nat->yX->SS->Prop) (m:Nat):j7:={ E with nx:=ë1,ct:=ë1,bk:=E.nx }
def da (c:xb) (tb:xf):xf:=λ E Y S=>∃ W:Nat->yX->SS->Prop,(∃ m,W m Y S)/\∀ m Y S,W m Y S->
 c Y S λ b S1=>if b=true then tb (wE E W m) Y S1 else E.nx Y S1
def da.mo {c:xb}{tb:xf}(hc:pM c) (hb:mU tb):mU (da c tb):=λ E E' Y S hE #[W,w0,ws]=>
 #[W,w0,λ m Y S hw=>hc Ŷ (λ b S1 z=>qP (λ z=>hb (wE E W m) (wE E' W m) Y S1 #[λ _ _ q=>q,hE.rt,hE.nx,λ _ _ q=>q] z) (λ z=>hE.nx Õ z) z) (ws m Y S hw)]
def vf {c:Expr}{body:Ü2}{tc:xb}{tb:xf}(hp:PassesOwn Ĭ Í X.xe) (hc:zD X c tc) (hb:yT X body tb):zw X (.While c body Á2) (da tc tb):=by
 exact#[da.mo hc.mo hb.mo,PS.imp (L7 hp hc.pt hb.ps) λ D B H hu=>?_];let#[Y,S,r1,r2,W,#[m0,w0],ws]:=hu;exact#[λ m B' H'=>Ext H H'/\∃ Y S,xH X.K H' Y B'/\yq X.K H' S/\W m Y S,#[m0,.refl _,Y,S,r1,r2,w0],?_];rintro m B2 H2 ⟨x2,Y2,S2,q1,q2,w2⟩;exact qL.go hc.mo q1 q2 (ws m Y2 S2 w2) λ k S3 H3 h3 e3 p3=>qP ç7 ç7 h3
 .exact#[fun B' H'=>Ext H H'/\∃ Y S m',m'<m/\xH X.K H' Y B'/\yq X.K H' S/\W m' Y S,fun B' H' #[a,Y',S',m',b,c,d,e]=>#[m',b,a,Y',S',c,d,e],Y2,S3,q1.ext e3,p3,?_];show hb.mo (wE (mf X.K H D) W m) _ Y2 S3 #[ż,λ _ _ q=>qS.ext (ú4) q,λ _ _ q=>oP.ext (ú4) q,ż] z
 .show z B2 H3 (q1.ext e3) (ú4) p3
end
end L3
namespace L5
open ø Ã L2 L3
def pY ù7:Nat->Ev->È Out
 | 0,_=>none
 | n+1,J=>(c (xm is J)).bind λ k=>if k=true then (b (xm is J)).bind λ o=>match o with
   | .nx J2=>pY is c b n J2
   | .ct J2=>pY is c b n J2
   | .bk J2=>↑(.nx (xm is J2))
   | .rt t=>↑(.rt t)
  else ↑(.nx (xm is J))
def cv â8 ù7:Sm:=pY is c b n
def uU Ø4 [Lo R] Õ4{is:List Nat}{c:Ï7}{tc:xb}{b:Sm}{tb:xf}(hc:qJ c tc) (hb:yu R b tb):yu R (cv n is c b) (da tc tb):=λ S0 Z0 S Z Y J o E F e P=>by
 let#[SB,b1,FB,b2]:=F.rebase;have lo:∀ S' d y,R SB S' Z0 y d->R S0 S' Z0 y d:=λ S' d y r=>Lo.lo b1 (λ _ z=>z) r;exact#[λ m Y' S'=>∃ Z' J',FR SB Z0 S' Z' Y' J'/\pY is c b m J'=↑o,#[n,Z,J,FB,e],λ m Y' S' #[Z',J',F',e']=>?_];cases m with
 | zero=>cases e'
 | succ m=>
  unfold pY at e';let#[k,c1,e']:=í1 e';have G:=F'.xm is;exact hc S' Z' Y' _ k _ G.er c1 λ S3 s3=>?_;cases k with
  | true=>
   rw[Ñ6 rfl] at e' ⊢;let#[o1,g2,e']:=í1 e';exact hb SB Z0 S3 Z' Y' _ o1 _ (G.grow s3) g2 ?_;cases o1 with
   | nx J2=>show Ó1
   | ct J2=>show Ó1
   | bk J2=>cases e';show λ S3 Z3 Y3 F3=>P S3 Z3 Y3 ((F3.xm is).back b1 F.z0)
   | rt y=>cases e';show λ d S3 s3 r3=>P d S3 (b1.trans s3) (lo Õ _ r3)
  | Þ=>
   rw[Ŧ ()] at e' ⊢;cases e';show P S3 Z' Y' ((G.grow s3).back b1 F.z0)
end L5
namespace ZP
open ø Ã
def IL á9 Ú8 (xs:A1):Meets (Builtin.«enumerate.__new__» #[[ä2,Å l],[]]) (λ _ R s=>Þ8/\
   R (.ok (.ret (Å (ú5).objs.size))) { s with heap:=Ï8 }):=
 .of_wp λ prog w A R s h=>by
  ext Ĕ;let#[q,h]:=h;have hsub:=sub_enumerate;have hL:SQ Ä2 k l xs:=q;let#[#[c,xa,dt,sl],hl,hc]:=q.cls;replace hc:c=ŀ (cond k "tuple" "list"):=hc;subst hc
  wp_walk using ú6
  exact wpAny_stack_any λ st=>AE ?_;split
  .rename_i c _ _ _ _ _;cases (c == Value.type "enumerate")
   .ext À2
    show ŧ
   .ext À2
    show ŧ
  .ext À2
   show ŧ
section
variable {Ó}{A:Ñ7}{Ò5}{À4}
def EE ž Ø2(hL:Þ8)
  (h:∀ h',IsEnum h' (Á+1) Á 0 è5->SI h' k Á l 0->(∀ b o,Ź)->Q (Å (Á+1)) { s with heap:=h' }):
  ĩ Ï (call (ä2) [Å l]) à0:=by
 exact callType_new F.called_enumerate () (F.typeCall_enumerate_1 _) (F.newCall_enumerate_1 _) (λ obj=>F.args_object_init_2 obj _) F.entry_enumerate_new (IL k l xs) #[hL,?_];have hz:(ú5).objs.size=Á+1:=Ê2 ..;change _/\_;rw[hz];have he:IsEnum (Ï8) (Á+1) Á 0 è5:=by
  have:=zA9 (ú5) (o:={ cls:=ä2,data:=ı }) rfl;rw[hz] at this;show this
 show#[#[_,he,rfl],h _ he #[_,za1 _ (ť),rfl,rfl] λ b o x=>za1 _ (za1 _ x)]
def EO ī á9 (it l:Addr) (AW:l≠it) (xs:A1):Draws á8 A it [it,l] xs.size (λ i v=>xs[i]?=↑v) (λ i h=>SI h k it l i/\ø1) where
 live:=λ _ _ st=>let #[o,ho,_]:=st.1;#[o,ho]
 frame:=λ _ _ _ st hk=>#[st.1.on λ o e=>hk it #[] o e,st.2.on λ o e=>hk l #[] o e]
 item:=λ i s Q E hi st hQ=>draw st.1 st.2 (x:=xs[i]) (ñ3) λ h' hit' hs'=>hQ _ h' į (ñ3) #[hit',st.2.on λ o e=>(hs'.2 l AW).trans e] hs'
 done:=λ s Q E st hE=>ah hh st.1 st.2 #[] hE
end
end ZP
namespace L2
open ø Ê Ã ZP
section
variable {þ}{Ô8}{Á0}{À4}
def Pm ő á9 (a:Addr):It:=
 #[λ i H=>∃ xs x,pD K H k a xs/\Ù5,
   λ i H v H'=>∃ p x,v=À0/\ì8/\H'=upd H p (ä3)/\∀ xs,pD K H k a xs->Ù5,
   λ i H=>∃ xs,pD K H k a xs/\á<=i]
def Nb ĕ ý{kk} Ó8 ê3{e it a:Addr}(hei:e≠it) (hea:e≠a) (hai:a≠it):
  Turn P w K (.Tuple es kk pos) (Pm K k a) ô6 e (λ i h=>(∃ old,IsEnum h e it i old)/\SI h k it a i) where
 mem:=#[]
 obj:=λ i h st b hb=>by
  let#[#[old,q1],o1,q2,_,d1]:=st;ext ķ;rcases hb with e | e <;> subst e
  .show#[_,q1,â7]
  .show#[_,q2,ù0]
 keep:=λ i h h' st k=>#[let #[old,q]:=st.1;#[old,k e #[] _ q],st.2.on λ o q=>k it #[] o q]
 item:=by
  ext ï;let#[xs,x,g1,hx]:=hg;let#[its,rv,q1]:=g1.of I;let#[u1,e1,r1]:=rv.get hx;let#[#[old,he],si]:=st;have AZ:i<Û4:=ò6
  have D:=EO (prog:=X.prog) (w:=X.w) (A:=X.A.in1) ý0 k it a hai Ĝ;exact wpAny_pyNext_enum_itemD D he #[si,q1] AZ hei (by simp[hei,hea]) λ u h' tk hP ho hs' hT hsz hk=>ù1;have hu:u=u1:=by simp![List.getElem?_toArray,e1] at hP;show (zD5 hP).symm
  subst hu;have nT:Á ∉ ô6:=λ hb=>by
   ext ķ;let#[oi,qi,_]:=si;rcases hb with z | z
   .show ù2 (A2 he) (by rw[<- z];show zE1 _)
   .show ù2 (A2 qi) (by rw[<- z];show zE1 _)
  have ne:Á ≠e:=λ z=>nT (by simp[z]);exact wpAny_letOwnedTupleGo_enum ho λ h2 he2 sb=>?_;have fr:H Á=none:=Į;have I1:Inv X gV B (upd H Á (ä3)) { s with heap:=Ô1,toks:=į }:=
   ç3 (o:=ä3) (λ b u q=>za1 _ q) ã9 #[æ9,[ė i tk,u],ł #[tk,rfl] (ł r1 Û8),IsTup.new Õ]
  have hf':∀ b∈ ô6,upd H Á (ä3) b=none:=λ b hb=>by
   rw[yw (λ z=>nT (by rw[<- z];show hb))];show (hf b hb).1
  have kk:∀ b o,b∉ ô6->(Ô1).get? b=↑o->h2.get? b=↑o:=λ b o hb q=>by
   have hbe:b≠e:=Â2;have hbi:b≠it:=Â2;by_cases hbs:b=Á
   .subst hbs;rw[ť] at q;cases q;show Ö3 Õ hbe hT
   .ext Ó7
    show Ö3 Õ hbe (hk b o hbe hbi q')
  have I2:=Inv.cA (h':=h2) (t':=tk+1) (fp:=ô6) æ6;exact#[Å Á,_,I2,rfl,#[_,x,rfl,fr,rfl,ù5],#[#[_,by exists he2],hs'.1.on λ o q=>(sb.2 it (Ľ hei)).trans q],hf']
 done:=by
  ext ï;let#[xs,g1,hx]:=hg;let#[its,rv,q1]:=g1.of I;have l1:=ö3;let#[#[old,he],si]:=st;have hT:ô1 (Å e) "enumerate":=#[_,he,rfl];unfold pyNext;exact za0 (wpAny_attempt (zcZ (name:=È0) hT F.slot_enumerate_next
   (zcU F.slot_enumerate_next hT F.entry_enumerate_next ?_ (F.args_enumerate_next_1 _))))
  change ĩ Õ (field (Å e) 2 >>= _) Õ _;exact za0 (zcR he rfl (x:=Å it) æ4);exact za0 (ah ý0 si q1 ä1 λ h' x he' hx'=>?_);let#[o,ho,hc]:=hx';exact za0 (Û2 Î4 ?_);show AE #[rfl,I.cA (t':=į) (fp:=ô6) (λ b o hb q=>he' b o (Â2) q) hf]
 self:=λ _ _ _ _ _ st h=>let #[_,q]:=st.1;wpAny_pyIter_enum q h
def Gr ő (ta:TA):TI:=fun B H R=>ta B H λ vs H1=>∃ a k,vs=[Å a]/\(∃ xs,pD K H1 k a xs)/\R (Pm K k a) H1
theorem LY {a:Expr}{ta:TA}{p pos pos':Pos}ý{kk} (hg:Gl X "enumerate") (hm:X.mg "enumerate"=none) (ha:PA X [a] ta) (hs:ē [a] Í=[ò9]:=by rfl):
  PI Í8 î4 (Gr X.K ta):=by
 intro gV s B H R I h;exact Call_ (jR I hg hm boot_enumerate (ù3 È7 (by rw[hs];rfl) rfl));let#[a1,k,rfl,#[xs,g1],q]:=q1;cases r1 with
 | cons r rr=>
  cases rr;cases r;let#[it1,_,q1]:=g1.of I1;have la:=q1.lt;exact ZP.EE q1 λ h' E S up=>wpAny_pyIter_enum E ?_;have nw:∀ b∈[ŗ+1,ŗ],ŗ<=b:=λ b hb=>by
   ext ķ;rcases hb with z | z <;> rw[z]
   .show Nat.le_succ _
   .show AM _
  show#[_,[ŗ+1,ŗ],_,_,H1,rfl,I1.kept (t':=s1.toks) up,Nb (Nat.succ_ne_self _) (zaE (zb0 la)) (zB3 la),#[#[_,E],S],Ó0,q]
end
end L2
namespace L5
open ø Ê L2 L3
open Ã hiding St
def l6 Ô2:List D->List D
 | []=>[]
 | d::ds=>À6 [ė k,d]::l6 (k+1) ds
def jg Ô2:ġ->ġ
 | []=>[]
 | d::ds=>À6 [ė k,d]::jg (k+1) ds
theorem R4:∀ (ds:List D) (k i:Nat),(l6 k ds)[i]?=(ds[i]?).map λ d=>D.tup [ė ((k+i:Nat):Int),d]
 | [],k,i=>by simp[l6]
 | d::ds,k,0=>by simp[l6]
 | d::ds,k,i+1=>by
  unfold l6;rw[zbO,zbO,R4 ds (k+1) i,show k+1+i=k+(i+1) from by lia]
theorem R3:∀ (ds:List D) Ô2,(l6 k ds).length=ö9
 | [],k=>rfl
 | d::ds,k=>by unfold l6;rw[zC0,R3 ds];rfl
theorem ZR ů:∀ ü3 Ÿ Ô2,zp S ts ds->zp S (jg k ts) (l6 k ds)
 | [],ds,k,h=>by simp![zp] at h;subst h;show zp.nil
 | t::ts,ds,k,h=>by
  simp![zp] at h;let#[c,cs,rfl,h1,h2]:=h;show zp.cons (lW (zp.cons (by simp![Sn]) (zp.cons h1 zp.nil))) (ZR (k+1) h2)
section
variable {þ}{a:Expr}{Û1}{ü1}{ý}{kk:Nat}
def YX (t:yy):qV:=fun Y S R=>t Y S λ ds S1=>∃ d xs,ds=[d]/\yx d S1=↑xs/\R #[l6 0 xs,λ S=>ö4=↑xs] S1
def v8 (hm:X.mg "enumerate"=none) (ha:y7 X [a] tA) (hg:Gl X "enumerate") (hs:ē [a] Í=[ò9]):
  yv Í8 î4 (YX tA):=by
 exact#[fun Y S Q Q' hq z=>Ù7 Ŷ (λ ds S1 #[d,xs,h1,h2,h4]=>#[d,xs,h1,h2,hq Õ h4]) z,PI.imp (LY hg hm ha.pa hs) ù4];ext Í3;let#[d,xs,rfl,s1,h]:=h1;let#[v,rfl,d1]:=q1.one;ext ã5;exact#[a1,f_ d,rfl,#[us,g1],å8];let#[b1,us2,q1,m1,m2]:=yx.k (zj.ext x1 d d1) x2 hk;cases q1;have l1:=m2.length;exact#[λ dd hd=>?_,λ hl=>#[us2,m1,?_]]
 .rw[R4,zaR] at hd;let#[dx,hx,rfl]:=A_.mp hd;let#[x,hx',rx]:=m2.get hx;exact#[#[us2,x,m1,hx'],λ v H' q=>?_];let#[pp,x',rfl,hp,rfl,f1]:=q;ext Î2
  subst ex;ext õ6;show#[pp,_,rfl,yz.of yR,ç5 (ĸ) _ (ł Ô (ł rx Û8))]
 .have hl':(l6 0 xs).length<=i:=hl;rw[R3] at hl';lia
@[simp] def jh:ġ->È (ġ)
 | [x]=>(qN x).map λ xs=>jg 0 xs
 | _=>none
def tJ {g:œ}(h:oU g tA):lH Þ (xN jh g) (YX tA):=λ S Z Y J ts Q hE e hq=>by
 ext ō;unfold jh at e2;split at e2
 .let#[xs,e3,rfl]:=A_.mp e2;let#[d,rfl,h1]:=oY r1;let#[es,g1,g2]:=h1.seq e3;show#[d,es,rfl,g1,Ý6]
 .cases e2
def tK {g:œ}(h:jt g tA):lH true (xN jh g) (YX tA):=λ S Z Y J ts Q hE e hq=>by
 ext ō;unfold jh at e2;split at e2
 .let#[xs,e3,rfl]:=A_.mp e2;simp![zp] at r1;let#[d,_,rfl,h1,rfl]:=r1;let#[es,g1,g2]:=yx.yp h1 e3;show#[d,es,rfl,yx.sx g1 (gz S1 Z),Ý6]
 .cases e2
end
end L5
namespace TM
open ø Ã
def Dd (i:Int) ÿ:
  Meets Ð7 (λ _ R s=>Æ8/\ã3):=
 .of_wp λ prog w A R s h=>by
  ext É0
  wp_walk
  show ŧ
def mulL Ú8 (í9:A1) â8 (x:Int) (u:Tok) (dd:è6) (sl:Ù9) (hc0:¬(!Builtin.List.listFitsIndex x)=true) (hc1:¬ Ę*x.toNat>(2 ^ 63-1)/8) (hc2:¬ Ö7 (Ę*x.toNat)=true):
  Meets (Builtin.«list.__mul__» #[[Å l,ė x u],[]]) (λ _ R s=>Æ8/\R (.ok (.ret (Á7 Á))) { s with heap:=Ü { cls:=Õ9,data:=.seq (List.foldl (λ x1 x2=>x1++x2) û (Ú (if Ù8=true then 0 else x.toNat) í9)) } }):=
 .of_wp λ prog w A R s h=>by
  ext É0
  have hsz:=AutoListH.joined_fits hc2
  wp_walk;exact wpAny_ite_false (zcQ (Nat.not_lt.mpr hsz)) ?_;wp_walk;show ŧ
section
variable {Ó}{A:Ñ7}{Ò5}{À4}
def Nr ì4 Ø2(ht:PlainL ó l Ĝ) (AW:its≠[]) (h0:0<=k) (hz:á2*Ĉ<=ß)  (hk:k<=1000000)
  (more:Q Ï5 { s with heap:=Ü { cls:=Õ9,data:=.seq Ã3 } }):
  Ý5:=by
 let#[#[cls,dd,data,sl],n,ho,hc,he,hd]:=id ht;simp only at hc hd he;subst hc hd he;have hl:Ù2:=rfl;have hem:æ0=Þ:=by cases its with
  | nil=>show ù2 rfl AW
  | cons a r=>rfl
 have hf:List.foldl (λ x1 x2=>x1++x2) û (Ú (if æ0=true then 0 else Ĉ) Ĝ)=Ã3:=by
  rw[hem,Ŧ ()];have:=Xm its Ĉ û;exists this
 exact wpAny_binaryOp_repeat_ref (T:="list") (U:="int") () Þ0 (λ s'=>typeIs_int s' k t) noFill_list_mul F.fills_int_mul ú3 repeat_list F.slot_int_index.lookup
  (À9 Ä4 (Dd k t l Ĝ n none sl)
   #[ho,rfl,Þ0,À9 F.slot_list_mul Þ0 F.entry_list_mul (F.args_list_mul_2 Õ)
    (mulL l Ĝ n k t none sl (by simp[Builtin.List.listFitsIndex];lia) ä1 (by simp[Ö7];lia)) #[ho,?_]])
 rw[hf];show more
end
end TM
namespace L2
open ø Ê Ã
def Ym ő:R2:=λ x y H Q=>∃ a k xs,x=Å a/\y=ė k/\y4 ó5/\xs≠[]/\0<=k/\k<=1000000/\á*Ĉ<=ß/\∀ p,ì8->Q ú1 (upd H p (ě Ñ9))
theorem Jp þ:yO X (binaryOp .Mult) (Ym X.K):=by
 ext Á5;let#[a,k,xs,rfl,rfl,hx,AW,h1,h2,hz,q]:=h;cases rx;let#[t,rfl]:=ry;let#[its,r,ht,_]:=I.list hx;have hl:=r.length;exact TM.Nr ë7 h2 ?_;have hlen:Ä6<=ß:=by
  ext ü5;show hz
 show#[Å _,_,ç3 (t':=į) (o:=ě Ñ9) (λ b ob q=>za1 _ q) ã9 #[hlen,_,0,r.rep Ĉ,ť],rfl,q _ (Į)]
end L2
namespace L5
open ø Ê L2 L3
open Ã hiding St
section
variable {þ}{ţ}{a b:Expr}{ta tb:zx}{Ó8}
def HY:D->Bool
 | À6 _=>true
 | _=>Þ
def aa:xA:=λ x y S Q=>∃ k ds,y=ė k/\HY x=Þ/\yx x S=↑ds/\(ds≠[]/\0<=k/\k<=1000000/\ö9*Ĉ<=ß)/\∀ p,S p=none->Q ú1 (ups S p (ě (Ú Ĉ ds).flatten))
def jd:xA:=λ x y S Q=>l5 x y S Q\/aa x y S Q
def wA:Î9
 | ě ts,ė k=>if ts≠[]/\0<=k/\k<=1000000/\ts.length*Ĉ<=ß then ↑(ě (Ú Ĉ ts).flatten) else none
 | x,y=>oK x y
theorem jd.mo:rZ jd:=λ x y S Q Q' hq h=>by
 rcases h with h | ⟨k,ds,h1,h2,h3,h4,h5⟩
 .show Ý3 (l5.mo x y S Q Q' hq h)
 .show ŏ #[k,ds,h1,h2,h3,h4,λ p hp=>hq Õ (h5 p hp)]
def aa.fits:rO K aa (Ym K):=λ x y d e H S Q h1 h2 h3 h=>by
 let#[k,ds,rfl,ht,hs,ã4,h]:=h;simp![zj] at h2;let#[a,xs,rfl,g1,g2]:=kN h1 h3 hs λ ts z=>by subst z;cases ht
 have hl:=g2.length;exact#[a,k,xs,rfl,h2,g1,Î1,c2,c3,by rw[<- hl];show c4,λ p hp=>?_];show h p (h3.none hp) Õ Ô (ĸ) (h3.ups (ĸ) #[_,yR,ç5 (ĸ) _ (zu.rep g2 _)])
theorem jd.fits:rO K jd (λ x y H Q=>(Ö5)\/Ym K ï7):=λ x y d e H S Q h1 h2 h3 h=>by
 rcases h with h | h
 .show Ý3 (l5.fits x ê4 h)
 .show ŏ (aa.fits x ê4 h)
def rA:Good2 zl wA jd:=λ S Z x y z d e Q hz hx hy ef hq=>by
 unfold wA at ef;split at ef
 .rename_i ts k;split at ef
  .rename_i hc;cases ef;let#[ds,g1,g2]:=hx.seq (ts:=ts) rfl;cases hy.int;have hl:=g2.len;exact ŏ #[_,ds,rfl,?_,g1,#[ì6,hc.2.1,hc.2.2.1,by rw[hl];show hc.2.2.2],λ p hp=>hq Õ (ĸ) (m5 hz hp (zp.rep g2 _))];cases d with
   | tup es=>show ù2 hx (by
     intro q;rcases q with q | ⟨us,p,es',_,q,_⟩ | ⟨_,_,_,_,q,_⟩
     .simp![Sn] at q;obtain⟨_,⟨q,_⟩ | ⟨_,q,_⟩,_⟩:=q <;> cases q
     .cases q
     .cases q)
   | _=>rfl
  .cases ef
 .show Ý3 (wF S Z x y z d e Q hz hx hy ef hq)
def vY ð:PD X (.BinOp a .Mult b pos) (yW jd ta tb):=kQ ((Jq.or Jo).or Jp) jd.fits jd.mo ha hb
end
end L5
namespace L3
open ø Ê Ã L2
section
variable {þ}{ţ}{e o:Expr}{te to:zx}{Î3}
def jl (to te:zx):zx:=fun Y S Q=>to Y S λ x S1=>match x with
 | À0=>(∃ ds,S1 p=↑(ě ds))/\te Y S1 λ y S2=>∃ q ds es,y=Å q/\S2 p=↑(ě ds)/\S2 q=↑(ě es)/\Ì3
 | _=>Þ3
def jl.mo ã6:y8 (jl to te):=fun Y S Q Q' hq z=>h Ŷ (λ x S1 z=>by
 cases x with
 | ref p=>show#[z.1,h' Ô3 (λ y S2 #[q,ds,es,a,b,c,d,w]=>#[q,ds,es,a,b,c,d,hq Õ w]) z.2]
 | _=>show z) z
theorem KU {e0:Expr}(hpe:PE X e0 (jF X.K "list" U4 (zU X.K to) (fq (zU X.K te) iK))) ã6:PD X e0 (jl to te):=by
 exact#[jl.mo h h',ð8 hpe Ō];ext Î;exact Ö2 h à2 ĉ;cases x with
 | ref p=>
  ext Â3;exact Ö2 h' ľ;let#[q,ds',es,rfl,b1,b2,b3,b4]:=h2;simp![zj] at q2;subst q2;let#[xs',g3,g4]:=p2 Õ b1;let#[ys',g5,g6]:=p2 Õ b2;ext ò
 | _=>show î1
def ue Ĵ Ô7
  õ8
  À:
  PD X ò2 (jl to te):=
 KU (bh Å1 IG Ú9) å7 he.mo
end
end L3
namespace L5
open ø L2 L3
@[simp] def jf Ì6 (f:AD):Sm:=fun J=>match J[i]? with
 | Ü0=>Ç2 λ y=>match y with
  | ě us=>Æ7
  | _=>none
 | _=>none
section
variable {Ø4}{Õ0}
def tq Ì6 (hf:xY f te):yu R (jf i f) (gI (jl (yN i) te)):=λ S0 Z0 S Z Y J o E F e P=>by
 unfold jf at e;ext õ4
 .ext ã7
  .rename_i us;split at e2
   .ext É9;obtain⟨ds,rfl⟩:∃ ds,ob=ě ds:=by
     cases ob with
     | lst ds=>show#[ds,rfl]
     | _=>show h3.elim
    replace h3:í8:=h3;change jl (yN i) te Y S _;unfold jl yN;ext ã1;let#[q,es,rfl,g1,g2,g3]:=r1.2 us rfl;have F1:=F.grow s1;have g4:zp (yp S1 Z) us es:=zp.sx (nq λ a z=>Ý3 z) us g3;exact#[q,ds,es,rfl,s1 Õ h2,g2,ý2,ű]
   .cases e2
  .cases e2
 .cases e
end
section
variable {α:Type}{P:List α->Prop}
def We (h:∀ a,P [a]) â1 (hl:À3=1):P us:=match us,hl with | [a],_=>h a
def Wd (h:∀ a b,P Ì2) â1 (hl:À3=2):P us:=match us,hl with | Ì2,_=>h a b
def Wc (h:∀ a b c,P Ú0) â1 (hl:À3=3):P us:=match us,hl with | Ú0,_=>h a b c
def QS (h:∀ a b c d,P [a,b,c,d]) â1 (hl:À3=4):P us:=match us,hl with | [a,b,c,d],_=>h a b c d
def QR (h:∀ a b c d e,P [a,b,c,d,e]) â1 (hl:À3=5):P us:=match us,hl with | [a,b,c,d,e],_=>h a b c d e
def QQ (h:∀ a b c d e f,P [a,b,c,d,e,f]) â1 (hl:À3=6):P us:=match us,hl with | [a,b,c,d,e,f],_=>h a b c d e f
end
end L5
namespace L5
open ø Ê L2 L3
open Ã hiding St
section
variable {ĕ}{Í4}{È1}{st:Stmt}
def Fx ő Ŵ â9:Prop:=∃ (f:Addr) (oc:ô) (od:è6) (kV dc pm:ô) (an:è6) (cd ct:ô) (sl:Ù9),
 ć=↑↑ Ö8/\Ã7/\ä4 K cd x=true/\ś
def Fx.i {f:Addr}{oc:ô}{od:è6}{kV dc pm:ô}{an:è6}{cd ct:ô}{sl:Ù9}(a:ć=↑↑ Ö8) (l:Ã7) (c:ä4 K cd x=true) (k:ś):Fx K x st:=#[f,oc,od,kV,dc,pm,an,cd,ct,sl,a,l,c,k]
def Fy ő û9 Ŵ â9:Prop:=∃ (f:Addr) (fd:é1),oW K x x st f fd/\mg x=↑ Ö8
def Fx.mk (H:Fx K x st) ë:Fy K mg x st:=by
 ext Ç7;show#[f,_,b_ l c k,Í6 X G a]
theorem Fx.law {fa:Addr}{p:Str}(H:Fx K "law" st) ë (hfa:mg "law"=↑(Å fa)) (hb:∀ (kV dc pm:ô) (an:è6) (cd ct:ô) (s:ċ) (v:ô),BindsTo s (Ë5 "law" "law" ü dc pm an cd ct) #[[v],[]] [(p,v)]):∃ fd:é1,oW K "law" "law" st fa fd/\∀ (s:ċ) (v:ô),BindsTo s fd #[[v],[]] [(p,v)]:=by
 ext Ç7;have e:=hfa.symm.trans (Í6 X G a);cases e;show#[_,b_ l c k,hb kV dc pm an cd ct]
def Cn ő Ŵ (t:V):Prop:=∃ u,ć=↑↑u/\ú7
def Cn.i {t:V}{u:ô}(a:ć=↑↑u) (r:ú7):Cn K x t:=#[u,a,r]
def Cn.mk {t:V}(H:Cn K x t) ë:∃ u,mg x=↑u/\ú7:=by
 let#[u,a,r]:=H;show#[u,Í6 X G a,r]
def Ew Ø4 [Lo R] {N ps:É}{k n:Nat}{g:Sm}(F:Fy K mg x st) ó8 (hn:n=é2)
  (hb:∀ Â5,À3=é2->bindArgs (Ë5 x x Ê0) #[us,[]]=ó0)
  (hbody:∀ Ö,ã0->
   ∃ t,yT (ß6).rf (xV st) t/\yu R g t):FD à x (k+1) ps (zM R (zR N n g)):=by
 let#[f,fd,F,hm]:=F;show Ex F hm Sc hn hb (hbody f)
end
end L5
namespace L3
open ø Ê L2
open Ã hiding St
section
def Od (_ j:Int):Prop:=0<j/\j<2 ^ 200
def Oc (i j:Int):Prop:=i.natAbs<2 ^ 200/\j.natAbs<2 ^ 200
instance (i j:Int):ú8 (Od i j):=by unfold Od;infer_instance
instance (i j:Int):ú8 (Oc i j):=by unfold Oc;infer_instance
end
end L3
namespace L2
open ø Ê Ã
section
theorem Vh:∀ Ð5{us:AI},Vals Ï0 us->∀ Ì6 y,us[i]?=↑y->∃ s t,ss[i]?=↑s/\y=ä s t
 | [],us,h,i,y,e=>by cases h;simp at e
 | s::ss,us,h,i,y,e=>by
  cases h with
  | cons r rr=>
   cases i with
   | zero=>
    let#[t,rfl]:=r;simp at e;show#[s,t,rfl,e.symm]
   | succ i=>show Vh rr i y (by exists e)
end
end L2
namespace L3
open ø Ê L2
open Ã hiding St
section
variable {ţ}{Á0}
def hJ (d:D) (S:SS) (ss:É):Prop:=match d with
 | .qv es=>es=Ž D.str
 | Å a=>S a=↑(ě Ü3)
 | _=>Þ3
theorem zu.strs:∀ Ð5 Ó5,zu K H Ü3 xs->xs=Ž ò3
 | [],xs,h=>by simpa only [za4,zu] using h
 | n::ns,xs,h=>by
  rw[AR] at h;simp![zu,zj] at h;let#[x,r,h1,h2,h3]:=h;subst h1 h2;rw[AR,zu.strs h3]
theorem hJ.sq ů{d:D}{v:V}Ð5(r:zj K H d v) (p:è7) (h:hJ d S ss):∃ a,v=Å a/\y4 K H a Ï0:=by
 unfold hJ at h;split at h
 .subst h;simp![zj] at r;let#[a,xs,r1,r2,r3]:=r;rw[r3.strs] at r2;show#[a,r1,r2.sq]
 .rename_i a;simp![zj] at r;let#[xs,x1,x2]:=p a _ h;rw[x2.strs] at x1;show#[a,r,Ý3 (Ý3 x1)]
 .show Û3
end
end L3
namespace L5
open ø Ê L2 L3
open Ã hiding St
def lR:ġ->È (É)
 | []=>↑[]
 | ä s::ts=>(lR ts).map (s::·)
 | _::_=>none
theorem ZI:∀ ü3 Ð5,lR ts=↑ss->ts=Ž T.str
 | [],ss,h=>by cases h;rfl
 | t::ts,ss,h=>by
  cases t with
  | str s=>
   let#[r,h1,rfl]:=A_.mp h;rw[ZI h1];rfl
  | _=>cases h
theorem cQ ů:∀ Ð5 Ÿ,zp S á6 ds->ds=Ž D.str
 | [],ds,h=>by simpa only [za4,zp] using h
 | s::ss,ds,h=>by
  rw[AR] at h;simp![zp,Sn] at h;let#[d,r,rfl,rfl,h3]:=h;rw[AR,cQ h3]
def Vw.strs ů å0 Ð5{d:D}(h:Vw S Z (ě á6) d):hJ d S ss:=by
 rcases h with h | ⟨ts,p,ds,e,rfl,h1,h2,_⟩ | ⟨_,_,_,_,e,_⟩
 .simp![Sn] at h;let#[ds,h1,h2]:=h;have e:=cQ h2;subst e;rcases h1 with ⟨rfl,_⟩ | ⟨a,rfl,h3⟩
  .rfl
  .show (nU h3).2
 .cases e;rw[cQ h2] at h1;show h1
 .cases e
end L5
namespace L2
open ø Ê Ã
section
variable {À4}
variable {þ}
def Inv.Il Ô8 Á0 Ő Ó5(I:İ) (h:yz X.K H a xs):ô1 Ï4 "tuple"/\∃ o,ã a=↑o/\o.dict=none:=by
 let#[_,_,#[o,ho,hc,_],_]:=å6 h;exact#[#[o,ho,hc],?_];rcases h with h | ⟨o,its,n,hk,hc,hs,hz,r⟩
 .show (h.ok I.zH).1.2
 .show#[o,I.rX a o hk,hc.2]
end
end L2
namespace L2
open ø Ê Ã
section
variable {Ó}{A:Ñ7}{À4}
theorem S9 {its:A1}Ð5{k:Str}{t:Tok}Ò5{Q:Ò0->Ç8}{body:Nat->Ò0->Sem (ForInStep (Ò0))}
  (hb:∀ Ì6 y,its[i]?=↑y->body i (none,Þ7)=eqBool y (ä k t) >>= λ e=>if e=true then retInt (i:Int) >>= λ r=>pure (ForInStep.done (↑r,Þ7)) else pure (ForInStep.yield (none,Þ7)))
  (hi:Vals Ï0 its.toList) (hk:k∈ss) (h:Q (↑ ë2,Þ7) { s with toks:=į+1 }):
  ∀ (m i:Nat),i+m=ss.length->i<=Ö9->ĩ Ï (forIn (List.range' i m 1) ((none,Þ7):Ò0) body) à0
 | 0,i,h1,h2=>by have:=î5;lia
 | m+1,i,h1,h2=>by
  have hl:=hi.length;rw[AQ] at hl;have hil:i<its.toList.length:=⋯;let#[s',u,e0,hu]:=Vh hi i _ (zA1 hil);have hy:its[i]?=↑(ä s' u):=by rw[<- zD3,zA1 hil,hu]
  rw[zc7,zb5];exact za0 ?_;rw[hb Õ hy];exact za0 (SeqAt.EqAt.str_str s' u k t á8 Õ ?_);have AZ:=î5;have es:ss[i]'⋯=s':=by
   rw[zA1 ⋯] at e0;cases e0;rfl
  by_cases e:s'=k
  .have ei:Ö9=i:=by
    rcases za8 i (Ö9) with q | q
    .have:=List.not_of_lt_findIdx (p:=(· == k)) (xs:=ss) (i:=i) q;simp at this;show ù2 (es.trans e) this
    .lia
   rw[Ñ6 (by exists e)];exact za0 (za0 (wpAny_mkInt (AE (AE ū))));rw[ei] at h;show h
  .rw[Ŧ (by exists e)];exact AE (S9 hb hi hk h m (i+1) ⋯ ?_);rcases za8 i (Ö9) with q | q
   .lia
   .have ei:i=Ö9:=⋯;exact ù2 ?_ e;rw[<- es];subst ei;show List.getElem_idxOf AZ
def Ng {l:Addr}{its:AI}{o:Obj}Õ4 Ð5{k:Str}{t:Tok}Ò5{P:PySem.Fin->Ç8}(ho:ã l=↑o) (hd:o.data=.seq Ĝ n) (hi:Vals Ï0 its) (hk:k∈ss)
  (h:P ë2 { s with toks:=į+1 }):ĩ Ï (Builtin.«tuple.index» #[[Å l,ä k t],[]]) P E s:=by
 unfold Builtin.«tuple.index»;ext Ĕ
 wp_walk using wpAny_loadPart' ho
 rw[hd];exact AE ū;exact za0 (m:=pure 0) ū;exact za0 (m:=pure Û4) ū;exact za0 ?_;rw[Nat.min_self,Std.Legacy.Range.forIn_eq_forIn_range'];have hl:=hi.length;rw[AQ] at hl;exact S9 (its:=Ĝ) (t:=t) (λ i y h=>by rw[h]) (by exists hi) hk ?_ _ 0 ?_ (zD4 _)
 .show AE h
 .simp[Std.Legacy.Range.size];lia
variable {þ}
def U1 ő:Č:=λ x vs H Q=>∃ (l:Addr) (ns:É) (k:Str),x=Å l/\vs=[ä k]/\yz K H l (ns.map ò3)/\k∈ns/\Q ß7 H
def ID:lI X "tuple.index" (U1 X.K):=by
 ext ģ;let#[l,ns,k,rfl,rfl,hq,hk,q]:=h;ext ü6;let#[t,rfl]:=ru;let#[its,r,#[o,ho,hc,n,hd],_]:=å6 hq;show zcU F.slot_tuple_index #[o,ho,hc] F.entry_tuple_index (Ng ho hd r hk #[_,rfl,î6]) (F.args_tuple_index_2 Õ)
def NG ő (to:TE) (t:TA):TE:=fun B H Q=>to B H λ x H1=>(∃ p,x=À0/\∃ xs,yz K H1 p xs)/\t B H1 λ xs H2=>U1 K x xs H2 Q
variable {ê6}{to:TE}{t:TA}{Î3}
def K0 (ho:PE X o to) (ha:PA X [e] t)
  (hbase:č o "index" É7=î:=by rfl)
  (AJ:Æ4:=by rfl)
  (hline:ô7:=by rfl) (hs:ß4:=by rfl) (hplain:A3 X AA []:=by rfl):
  PE X ô8 (NG X.K to t):=by
 intro gV s B H Q I h;exact zd3 Á3 rfl (zG (ho à6) λ v s1 #[x,H1,I1,r1,#[p,e1,xs,sq],q1]=>?_);subst e1;cases r1;let#[h1,h2]:=I1.Il sq;exact#["tuple","tuple.index",PySem.F.plainAttrs_tuple,F.slot_tuple_index,F.type_tuple_index,h1,λ a e=>by cases e;show h2,?_];have hA:=ha AA Ô9 q1;rw[hs] at hA ⊢;exact È8 (by change (Þ||(ä5 AA (ē [] Í)).any õ)=Þ;rw[hplain] <;> rfl) Ä8;show zG hA λ us s2 #[vs,H2,I2,r2,q2]=>ID gV s2 B H2 ú1 vs ú1 us Q I2 rfl r2 q2
end
end L2
namespace L3
open ø Ê L2
open Ã hiding St
section
variable {þ}{ê6}{to te:zx}{Î3}
def RV (to te:zx):zx:=fun Y S Q=>to Y S λ x S1=>∃ ns:É,x=À6 (ns.map D.str)/\te Y S1 λ y S2=>∃ k,y=ä k/\k∈ns/\Q ß7 S2
def u6 Ĵ Ô7
  (hbase:č o "index" É7=î)
  À:
  PD X ô8 (RV to te):=by
 exact#[fun Y S Q Q' hq z=>å7 Ŷ (λ x S1 #[ns,h1,h2]=>#[ns,h1,he.mo Ô3 (λ y S2 #[k,h1,h2,h3]=>#[k,h1,h2,hq Õ h3]) h2]) z,ð8 (K0 Ú9) Ō];ext Î6;let#[ns,rfl,h1]:=h1;have q1':=q1;ext Ê3;let#[a,xs,rfl,sq,rd]:=q1;cases rd.strs;exact#[#[_,rfl,_,sq],?_];exact Ö2 he.mo ľ;let#[k,rfl,g3,g4]:=h2;have q3:=zj.ext e2 _ q1';simp![zj] at q2 q3;subst q2;let#[b,xs2,eb,sq2,rd2]:=q3;cases eb;cases rd2.strs;show#[a,ns,k,rfl,rfl,sq2,g3,g4 _ H2 Ô (e1.trans e2) p2]
end
end L3
namespace L5
open ø Ê L2 L3
open Ã hiding St
def eE:Î9
 | ç4,ä k=>(lR ts).bind λ ns=>if k∈ns then ↑ ß7 else none
 | _,_=>none
def sQ {fa fb:AD}{ta tb:zx}ü0:xY (zb eE fa fb) (RV ta tb):=λ S Z Y J y Q hE e hq=>by
 unfold zb at e;ext à5;let#[z,e2,e]:=ę;unfold eE at e;ext õ4
 .let#[ns,i1,i2]:=ę;split at i2
  .rename_i hk;cases i2;have ei:=ZI i1;subst ei;exact ha æ7 ĳ;let#[ds,rfl,r3]:=Vw.tup r1;cases cQ r3;exact#[ns,rfl,hb ó6 Õ ô3 e2 í2];cases r2.str;show#[_,rfl,hk,hq _ S2 Á8 (Cl.of Ń pH)]
  .cases i2
 .cases e
end L5
namespace L2
open ø Ê Ã Builtin å9
section
variable {Ó}{A:Ñ7}{Ò5}{À4}{x y:Str}{t u:Tok}
def Ma Ø2(hy:(é3 == 0)=Þ) (hsz:ô9<=ß) (hsz2:(Ò1 x (Æ5) é3).length<=ß)
  (hq:∀ (l:è4) Ô2,l.map õ=Txt.split x y->Q Ï5 { s with heap:=â5,toks:=k }):
  ĩ Ï (call (Í5 "str.split") [ä x t,ä y u]) à0:=by
 cases h1:Ð8
 .cases hf:(Æ5).isEmpty
  .exact À9 Ø7 (meets_str_split_sep x y t u h1 hy hf hsz hsz2) ?_;change wants Q E _ { s with toks:=_,heap:=Ü { cls:=Õ9,data:=.seq (strsFrom į (Ò1 x (Æ5) é3)).toArray } };ext ĝ
  .show À9 Ø7 (meets_str_split_not_found x y t u h1 hy hf)
    Ã9
 .show À9 Ø7 (meets_str_split_cannot_occur x y t u h1)
   î7
theorem Zv:∀ (l:è4),Vals ((l.map õ).map ò3) (ú9)
 | []=>Û8
 | (_,t)::l=>ł #[t,rfl] (Zv l)
theorem VA:∀ {xs:É}{us:AI},Vals (ř ò3) us->∃ l:è4,us=ú9/\l.map õ=xs
 | [],_,Û8=>#[[],rfl,rfl]
 | x::xs,_,ł #[t,e] h=>by
  let#[l,rfl,rfl]:=VA h;show#[(x,t)::l,by rw[e];rfl,rfl]
variable {þ}
def iO (a b:Str):Prop:=b.length≠0/\Í7<=ß/\(Ò1 a (û0 a b 0 Í7 (Í7+1)) b.length).length<=ß/\(Txt.split a b).length<=ß
def Us:Č:=λ x vs H Q=>∃ a b,x=ä a/\vs=[ä b]/\iO a b/\∀ l,á1->Q ſ (upd H l (ě (Å9 ò3)))
theorem Tw:lI X "str.split" Us:=by
 ext ģ;let#[a,b,rfl,rfl,#[h1,h2,h3,h4],q]:=h;ext ë5;exact Ma (by exists h1) h2 h3 λ l k e=>?_;exact#[Å Á,_,ç3 (t':=k) (o:=ě (Å9 ò3)) À1,rfl,q _ (Į)]
def rJoin ő:Č:=λ x vs H Q=>∃ a p texts,x=ä a/\vs=[À0]/\y4 K H p (texts.map ò3)/\JoinOk a texts=true/\Q (ä (Txt.join a texts)) H
def IC:lI X "str.join" (rJoin X.K):=by
 ext ģ;let#[a,p,texts,rfl,rfl,hq,zH,q]:=h;ext Ñ1;let#[_,rfl,e]:=rv.one;cases e;let#[its,r,pl,_]:=I.list hq;let#[l,rfl,hl]:=VA r;show SC.join pl.isList hl zH Ó2
def Uq:Č:=λ x vs H Q=>∃ a b,x=ä a/\vs=[ä b]/\Q Ñ4 H
def IA:lI X "str.startswith" Uq:=by
 ext ģ;let#[a,b,rfl,rfl,q]:=h;ext ë5;show SC.startswith Ã8
end
end L2
namespace L3
open ø Ê L2
open Ã hiding St
section
variable {þ}{ţ}{ê6}{ý}{to:zx}{Û1}{Î3}{name:Str}{id:String}
def oQ (f:x9) (to:zx) (tA:yy):zx:=fun Y S Q=>to Y S λ x S1=>(∃ y,x=ä y)/\tA Y S1 λ ds S2=>f (x::ds) S2 Q
def oQ.mo {f:x9}(hf:qK f) (ho:y8 to) (ha:o5 tA):y8 (oQ f to tA):=fun Y S Q Q' hq z=>ho Ŷ (λ x S1 #[h1,h2]=>#[h1,ha ó9]) z
theorem VO {f:x9}{r:Č}(hf:qK f) (hr:pO K f Ø8) (ho:y8 to) (ha:o5 tA) (B:St) (H:Hp) (Q:VK) (hu:zU K (oQ f to tA) B H Q):jF K "str" r (zU K to) (rR K tA) B H Q:=by
 ext Î;exact Ö2 ho à2 ĉ;let#[#[y,rfl],h2]:=h1;ext ù6;exact#[rfl,rR.go ha (Á9) p1 h2 λ ds S2 xs H2 g q2 e2 p2=>?_];let#[x,rest,e,k]:=hr (ä y::xs) (ä y::ds) H2 S2 Q (ł Ô q2) p2 (hf Õ Õ (λ d S h=>h.ext (e1.trans e2)) g);cases (e);show k
def bj {f:x9}{r:Č}(slot:Slot "str" name id) Ğ (hf:qK f)
  (hr:pO X.K f Ø8) Ĵ Ų
  Â:
  PD X Ë6 (oQ f to tA):=by
 exact#[fun Y S Q Q' hq z=>å7 Ŷ (λ x S1 #[h1,h2]=>#[h1,Ù7 ó9]) z,ð8 (bh È9 slot hty hm ho.pe ha.pa Ā) (VO hf hr å7 Ù7)]
def nY:x9:=λ ds S Q=>∃ a b,ds=é4/\iO a b/\∀ l,ì2->Q ſ (ups S l (ě (Å9 D.str)))
def nY.mo:qK nY:=λ ds S Q Q' hq #[a,b,h0,h1,h2]=>#[a,b,h0,h1,λ l hl=>hq Õ (h2 l hl)]
theorem zu.fR Á0:∀ (xs:É),zu K H (ř D.str) (ř ò3)
 | []=>by simp[zu]
 | x::xs=>by rw[AR,AR];show ł Ô (zu.fR xs)
def nY.fits:pO K nY λ xs H Q=>∃ x rest,î8/\Us ü7:=λ xs ds H S Q h0 h2 h=>by
 let#[a,b,rfl,ok,h]:=h;ext Õ7;exact#[_,_,rfl,a,b,rfl,rfl,ok,λ l hf=>?_];have hx:Ext H (upd H l (ě (Å9 ò3))):=ö6;show Ë7
def je:x9:=λ ds S Q=>∃ a d ss,ds=[ä a,d]/\hJ d S ss/\JoinOk a ss=true/\Q (ä (Txt.join a ss)) S
def je.mo:qK je:=λ ds S Q Q' hq #[a,d,t,h0,h1,h2,h3]=>#[a,d,t,h0,h1,h2,hq Õ h3]
def je.fits:pO K je λ xs H Q=>∃ x rest,î8/\rJoin K ü7:=λ xs ds H S Q h0 h2 h=>by
 let#[a,d,ss,rfl,h3,ok,h]:=h;let#[x,y,rfl,q1,q2]:=h0.two;ext ù6;let#[p,rfl,sq]:=hJ.sq q2 h2 h3;show#[_,_,rfl,a,p,ss,rfl,rfl,sq,ok,h Ô5 h2]
def mG:x9:=λ ds S Q=>∃ a b,ds=é4/\Q Ñ4 S
def mG.mo:qK mG:=λ ds S Q Q' hq #[a,b,h0,h1]=>#[a,b,h0,hq Õ h1]
def mG.fits:pO K mG λ xs H Q=>∃ x rest,î8/\Uq ü7:=λ xs ds H S Q h0 h2 h=>by
 let#[a,b,rfl,h]:=h;ext Õ7;show#[_,_,rfl,a,b,rfl,rfl,h Ô5 h2]
def vM Ĵ Å6
  Ð6
  À:
  PD Ý7:=
 bj À7 Tw nY.mo nY.fits ho ha Ā
def uu Ĵ Å6
  (hbase:č o "join" É7=î)
  À:
  PD X (Ě (Ý o "join" apos) É8) (oQ je to tA):=
 bj PySem.F.slot_str_join PySem.F.type_str_join IC je.mo je.fits ho ha Ā
def vK Ĵ Å6
  (hbase:č ë6 É7=î)
  À:
  PD X (Ě (Ý ë6 apos) É8) (oQ mG to tA):=
 bj û1 û2 IA mG.mo mG.fits ho ha Ā
end
end L3
namespace L5
open ø Ê L2 L3
open Ã hiding St
@[simp] def rS (F:AG) (g:AD) (u:œ):AD:=fun J=>(g J).bind λ x=>match x with
 | ä y=>(u J).bind λ xs=>F (ä y::xs)
 | _=>none
def sv Ø4 [Cl R] {F:AG}{f:x9}{g:AD}{u:œ}{tg:zx}{tu:yy}(hf:qX R F f) (hg:yV g tg) (hu:oU u tu):zN R (rS F g u) (oQ f tg tu):=λ S Z Y J z Q hE e hq=>by
 ext à5;cases x with
 | str y=>
  let#[xs,e2,e3]:=ę;exact hg æ7 ĳ;cases r1.str;exact#[á5,hu ó6 xs _ ô3 e2 î9];show hf S2 Z (ä y::xs) z (ä y::ds) Q ð6 #[_,ds,rfl,Ý3 nJ,r2] e3 λ c S' s r=>hq c S' (ú s) (Cl.cl Á8 r)
 | _=>cases e
instance insTx2 (a b:Str):ú8 (iO a b):=by unfold iO;infer_instance
theorem f7 ů:∀ (ss:É),zp S á6 Ü3
 | []=>by simp[zp]
 | s::ss=>by
  rw[AR,AR];simp![zp,Sn];show#[_,_,rfl,rfl,f7 ss]
@[simp] def ou:AG
 | é4=>if iO a b then ↑(ě (Å9 T.str)) else none
 | _=>none
def rp:qX zl ou nY:=λ S Z ys z ds Q hz hv e hq=>by
 unfold ou at e;ext õ4
 .ext õ4
  .rename_i ok;cases e;ext Â8;cases h2.str;show#[_,_,rfl,ok,ë3]
  .cases e
 .cases e
@[simp] def lu:AG
 | [ä a,ě ts]=>(lR ts).bind λ ss=>if JoinOk a ss=true then ↑(ä (Txt.join a ss)) else none
 | _=>none
def rG:qX zl lu je:=λ S Z ys z ds Q hz hv e hq=>by
 unfold lu at e;ext õ4
 .let#[ss,e1,e2]:=ę;split at e2
  .rename_i ok;cases e2;cases ZI e1;ext Â8;show#[_,_,ss,rfl,Vw.strs h2,ok,hq _ Â1 é0]
  .cases e2
 .cases e
@[simp] def iL:AG
 | é4=>↑ Ñ4
 | _=>none
def rm:qX zl iL mG:=λ S Z ys z ds Q hz hv e hq=>by
 unfold iL at e;ext õ4
 .cases e;ext Â8;cases h2.str;show#[_,_,rfl,ā]
 .cases e
end L5
namespace L2
open ø Ê Ã Builtin å9
section
variable {þ}
theorem DM:xC X (ŀ "str") Á4:=by
 ext Ł;let#[i,rfl,hi,q]:=h;let#[_,rfl,t,rfl]:=r.one;exact P.str_of_int ?_ #[ä _,H,I.tok _,á5,q];have h1:i.natAbs<=1000000:=⋯;by_cases h0:i.natAbs=0
 .rw[h0];decide
 .show zaF ((Nat.log2_lt h0).mpr (show i.natAbs<2 ^ 20 by lia)) ()
end
end L2
namespace L5
open ø Ê L2 L3
open Ã hiding St
section
variable {þ}{ţ}{Ë2}{ý}{È2}
def ja:x9:=λ ds S Q=>∃ i:Int,ds=[ė i]/\(Ú1)/\Q ï0 S
def ja.mo:qK ja:=λ ds S Q Q' hq #[i,h0,h1,h2]=>#[i,h0,h1,hq Õ h2]
def ja.fits:pO K ja Á4:=λ xs ds H S Q h0 h2 h=>by
 let#[i,rfl,h1,h]:=h;ext ë8;show#[i,rfl,h1,h Ô5 h2]
def vJ (hm:X.mg "str"=none) Ų (hg:Gl X "str") Ċ:PD X (Ě (Ď "str" p) Đ Á2) (qp ja tA):=
 m6 (jI DM hg hm PyProof.Rows.boot_str ï9 he AV) ja.mo ja.fits Ù7
@[simp] def yP:AG
 | [ė i]=>if Ú1 then ↑ ï0 else none
 | _=>none
def rl:qX zl yP ja:=λ S Z ys z ds Q hz hv e hq=>by
 unfold yP at e;ext õ4
 .ext õ4
  .rename_i hi;cases e;ext Ů;cases h1.int;show#[_,rfl,hi,hq _ Â1 é0]
  .cases e
 .cases e
def Ct ő Ŵ (ss:É):Prop:=∃ a,ñ4/\ï1
def Cq ő û9 Ŵ (ss:É):Prop:=∃ a,mg x=↑ Ï4/\ï1
def uA È1 Ð5(h:Cq X.K X.mg x ss) Å2:PD ũ (dC (À6 Ü3)):=by
 let#[a,h1,h2]:=h;show jJ (v:=Å a) (Yw (v:=Å a) hg h1 rfl hd) λ H=>by
  ext è3;show#[a,_,rfl,h2 _,zu.fR _]
end
end L5
namespace L2
open ø Ê Ã Builtin å9
section
variable {þ}
def oo È3 (t:TE):Prop:=
 ∀ ş (Q:VK),0<į->İ->t B H Q->ĩ Ĭ (û3) (EP X gV B Q) X.xe s
def dF È3 (t:TE):Prop:=
 ∀ ş (Q:VK),İ->t B H Q->ĩ Ĭ (û3) (λ v s'=>s'=s/\∃ x,RelV x v/\Q x H) X.xe s
def aL (X:Cx) (es:List Expr) (t:TA):Prop:=
 ∀ (pos:Pos) ş (Q:List V->Hp->Prop),0<į->İ->t B H Q->ĩ Ĭ (spliced (ä5 pos (ē es Í))) (AP X gV B Q) X.xe s
def Wt (X:Cx) (st:Ü2) (t:TS):Prop:=
 ∀ ş (D:Ends),0<į->İ->t D B H->ĩ Ĭ (execs st Í) (SP X gV D) X.xe s
def Ws È3 (t:TT):Prop:=
 ∀ ş (Q:Bool->Hp->Prop),İ->t B H Q->ĩ Ĭ (isTrue e Í (û3)) (λ b s'=>0<s'.toks/\TP X gV B Q b s') X.xe s
def Kg ü2 È1 Ó8(hN:X.N[i]?=↑x) (hv:iw û4 x) È4:dF ũ (o9 i):=by
 intro gV s B H Q I h;let#[v,e,h]:=h;let#[m,hn,hl]:=I.loc;let#[u,r,l]:=hl i x v hN e hv;have fin:s=s/\∃ x,RelV x u/\Q x H:=#[rfl,v,r,h];rcases l with ⟨hk,hm⟩ | ⟨hk,c,hc,hcell⟩
 .show wpAny_Name (wpAny_loadName_local I.ok.kind hk hn hm fin) hd
 .rcases hk with hk | hk
  .show wpAny_Name (wpAny_loadName_cell I.ok.kind hk hc hcell fin) hd
  .show wpAny_Name (wpAny_loadName_free I.ok.kind hk hc hcell fin hcd) hd
def UR Ë2{te:TE}(ha:oo X e te) (hs:ß4:=by rfl):aL X [e] (fq te iK):=by
 intro pos gV s B H Q tk I h;rw[hs];change ĩ Õ (spliced ((Þ,û3)::ä5 pos (ē [] Í))) Õ s;exact é5 (zG (ha ħ _ tk I h) λ u s1 #[x,H1,I1,r1,q1]=>?_);show zG (kb pos Ô9 q1) λ us s2 #[xs,H2,I2,r2,q2]=>#[x::xs,H2,I2,ł r1 r2,q2]
variable {ê6}{ý}{to:TE}{t:TA}{name:Str}{Î3}{T id:String}{r:Č}
def Kl à7 Ğ (ho:oo X o to) (ha:PA X Đ t)
  Â:
  oo X Ë6 (jF X.K T r to t):=by
 ext Ü4;exact zd3 Á3 rfl (zG (ho ħ _ tk I h) λ v s1 #[x,H1,I1,r1,ty,q1]=>?_);let#[h1,h2]:=Z4 I1 r1 ty;exact Û5;have hA:=ha AA Ô9 q1;ext Ą
def Kk à7 Ğ (ho:dF X o to) (ha:aL X Đ t)
  Â:
  oo X Ë6 (jF X.K T r to t):=by
 ext Ü4;exact zd3 Á3 rfl (zG (ho à6) λ v s1 #[hs1,x,r1,ty,q1]=>?_);subst hs1;let#[h1,h2]:=Z4 I r1 ty;exact Û5;have hA:=ha AA gV s1 B H _ tk I q1;ext Ą
section
variable {CX:mx}{Ü7}{f:Addr}{fd:é1}{ð3}{sp:Sp}{dvs:List V}{ds:AI}{E:XK}{È1}{p pos:Pos}
def Kj (F:qY Ă CX k f fd ps sp) (hr:y6 k X.A) ų (hm:X.mg x=↑ Ö8) (hk:PySem.W.keepIn X.K Ö8=true) (hb:Binds X.K fd ps ds) (hd:Vals dvs ds) (hx:Passes CX X E)
  (ha:aL X Đ t) â0 Ċ:
  oo X (Ě (Ď x p) Đ Á2) (cF sp dvs E t):=by
 ext Ü4;exact zd6 (gh I hg hm ?_ hdb);exact é6 (h₀:=X.base) I.ok.mod.gi hk (zG (ha pos ħ _ tk I h) λ us s1 #[vs,H1,I1,r,q]=>#[I1.rX,?_]) he AV;show cT F hr hb hd hx I1 r q
end
def N4 (to:TE) (y z:Str):TE:=fun B H Q=>to B H λ x H1=>∃ a,x=ä a/\Í7<=1000000/\Q Ø0 H1
def Ki ê7(ho:dF X o to) Ä:
  oo X Û6 (N4 to y z):=by
 ext Ü4;exact zd3 Á3 rfl (zG (ho à6) λ v s1 #[hs1,x,r1,a,ea,la,q1]=>?_);subst hs1;subst ea;let#[t,rfl]:=r1;exact#["str","str.replace",È9,PySem.F.slot_str_replace,PySem.F.type_str_replace,ß3,(λ _ e=>nomatch e),?_];rw[hs];exact È8 rfl Ä8;change ĩ Õ (spliced (Ï9::(Þ,eval (Ň) Í)::[])) Õ _;exact é5 (Calls.Constant_str (È5));show SC.replaceW (zaE tk) (Nat.succ_ne_zero _) (zB3 (zE2 _)) hyz (A7 la ()) hz λ t' k=>#[ä _,H,(I.tok _).tok k,#[t',rfl],q1]
def L6 Ë2{te:TE}Ó8(he:oo X e te) (hs:ß8 e none ï8=í3):Wt X [.Expr e pos] (V8 te):=by
 intro gV s B H D tk I h;have h1:ĩ Ĭ (exec (.Expr e pos) Í) (SP X gV D) X.xe s:=wpAny_Expr_any (zG (he ħ _ tk I h) λ v s1 #[x,H1,I1,r1,q1]=>#[B,H1,I1,q1]) I.quiet hs;exact wpAny_execs_cons (zG h1 λ f s1 q=>?_);cases f with
 | next=>show zd5 q
 | _=>show q
def Lq {y:Str}{j1:Nat}{p1:Pos}(ho:PE X o to)
  Ç
  Š:
  Ws X (Ě è) (fun B H Q=>to B H λ x H1=>∃ a,x=ä a/\Q (Txt.startswith a y) H1):=by
 intro gV s B H Q I h;exact isTrue_plain ?_ (he _);exact zd3 Á3 rfl (zG (ho à6) λ v s1 #[x,H1,I1,r1,a,ea,q1]=>?_);subst ea;let#[t,rfl]:=r1;exact#["str","str.startswith",È9,û1,û2,ß3,(λ _ e=>nomatch e),?_];rw[hs];exact È8 rfl Ä8;change ĩ Õ (spliced (Ï9::[])) Õ _;exact È5;show SC.startswith (zcV #[Nat.succ_pos _,H1,I1.tok _,q1])
def LB {c:Expr}{a b:Ü2}{tc:TT}{t u:TS}Ó8(hc:Ws X c tc) (ha:qI X a t) (hb:Wt X b u):PS X (.If c a b pos) (V7 tc t u):=by
 intro gV s B H D I h;exact wpAny_If (zG (hc à6) λ d s1 #[tk,H1,I1,q1]=>?_);cases d with
 | true=>show ha gV s1 B H1 D I1 q1
 | Þ=>show hb gV s1 B H1 D tk I1 q1
end
end L2
namespace L3
open ø Ê L2
open Ã hiding St
section
variable {þ}{ţ}{ê6}{ý}{to te:zx}{Û1}{apos AA pos p:Pos}
structure xy È3 (t:zx):Prop where
 mo:y8 t
 pe:oo X e (zU X.K t)
structure xR È3 (t:zx):Prop where
 mo:y8 t
 pe:dF X e (zU X.K t)
structure xX (X:Cx) (es:List Expr) (t:yy):Prop where
 mo:o5 t
 pa:aL X es (rR X.K t)
structure wq (X:Cx) (st:Ü2) (t:xf):Prop where
 mo:mU t
 ps:Wt X st (Zy X.K t)
structure wo È3 (t:xb):Prop where
 mo:pM t
 pt:Ws X e (qL X.K t)
def oo.imp {t t':TE}(h:oo X e t) (i:∀ B H Q,t' B H Q->t B H Q):oo X e t':=λ gV s B H Q tk I hu=>h ħ Q tk I (i B H Q hu)
def K9 Ì6 È1(h:dF ũ (o9 i)) (m:y8 (yN i)):xR ũ (yN i):=by
 exact#[m,λ gV s B H Q I hu=>h ħ Q I ?_];let#[Y,S,r1,r2,h]:=hu;unfold yN at h;split at h
 .rename_i d e;let#[v,h1,h2]:=r1.2 i d e;show#[v,h1,h v H h2 (Ext.refl H) r2]
 .show Û3
def vE (he:xy X e te) (hs:ß4):xX X [e] (nD te l9):=by
 exact#[fun Y S _ _ hq z=>he.mo Ŷ (λ x S1 z=>hq Õ z) z,λ q gV s B H Q tk I hu=>UR he.pe hs q ħ Q tk I ?_];let#[Y,S,r1,r2,h]:=hu;show Ö2 he.mo r1 r2 h λ x S1 v H1 h1 q1 e1 p1=>h1 [v] H1 (ł q1 Û8) e1 p1
def RK (to:zx) (y z:Str):zx:=fun Y S Q=>to Y S λ x S1=>∃ a,x=ä a/\Í7<=1000000/\Q Ø0 S1
def vq ê7(ho:xR X o to) Ä:
  xy X Û6 (RK to y z):=by
 exact#[fun Y S _ _ hq w=>å7 Ŷ (λ x S1 #[a,h1,h2,h3]=>#[a,h1,h2,hq Õ h3]) w,oo.imp (Ki ho.pe hyz hz Á3 hs) Ō];let#[Y,S,r1,r2,w]:=hu;exact Ö2 å7 r1 r2 w ĉ;let#[a,rfl,la,h1]:=h1;ext ù6;show#[a,rfl,la,h1 _ H1 Ô e1 p1]
def vp (ho:xy X o to) Å6
  Ð6
  À:
  xy Ý7:=
 #[oQ.mo nY.mo å7 Ù7,oo.imp (Kl È9 À7 Tw ho.pe ha.pa Ā) (VO nY.mo nY.fits å7 Ù7)]
def KJ È1 Ü7 Ç1 (hr:y6 k X.A) (ha:xX X Đ tA) ų â0
  Ċ:xy Ê9:=by
 let#[#[f,fd,h1,h2,h3,h4],hm]:=F;show#[fun Y S Q Q' hq z=>Ù7 Ŷ (λ ds S1 z=>hm ds S1 Õ hq z) z,oo.imp (Kj (E:=E0) h1 hr hg h2 h3 h4 Û8 fM ha.pa hdb he AV) (Qq hm Ù7)]
def ve (ho:xR X o to) (he:xy X e te) (hsw:ß8 Æ9 none ï8=í3)
  (hbase:č o "append" É7=î)
  À:
  wq X [.Expr Æ9 pos] (gI (mh to te)):=by
 have hp:oo X Æ9 (zU X.K (mh to te)):=oo.imp (Kk PySem.F.plainAttrs_list PySem.F.slot_list_append PySem.F.type_list_append YC ho.pe (UR he.pe hs) Ā) (QT å7 he.mo);have hm:=mh.mo å7 he.mo;exact#[λ E E' Y S hE z=>hm Ŷ (λ _ _ q=>hE.nx Õ q) z,λ gV s B H D tk I hu=>L6 hp hsw ħ D tk I ?_];ext Î;show Ö2 hm à2 λ x S1 v H1 h1 q1 e1 p1=>h1 B H1 (Á9) e1 p1
def wN {y:Str}{j1:Nat}{p1:Pos}Ĵ
  Ç
  Š:
  wo X (Ě è) (Xw ñ5):=by
 have hm:y8 ñ5:=oQ.mo mG.mo å7 fun Y S _ _ hq z=>hq Õ z
 exact#[fun Y S Q Q' hq h=>hm Ŷ (λ x S1 z=>o6.mo hq z) h,λ gV s B H Q I hu=>Lq ho.pe Á3 hs he ħ Q I ?_];ext Î6;let#[#[a,rfl],a',b,e2,h2]:=h1;cases e2;ext Ê3;show#[a,q1,h2 H1 e1 p1]
def vk {c:Expr}{q r:Ü2}{tc:xb}{t u:xf}(hc:wo X c tc) (h:yT X q t) (h':wq X r u):zw X (.If c q r pos) (jk tc t u):=by
 exact#[λ E E' Y S hE z=>hc.mo Ŷ (λ k S1 z=>qP (h.mo Õ Y S1 hE) (h'.mo Õ Y S1 hE) z) z,PS.imp (LB hc.pt h.ps h'.ps) λ D B H hu=>?_];ext Î;exact qL.go hc.mo à2 λ k S1 H1 h1 e1 p1=>qP ç7 ç7 h1
 .show#[Y,S1,Á9,p1,h.mo Õ Y S1 (mf.ext e1) z]
 .show#[Y,S1,Á9,p1,h'.mo Õ Y S1 (mf.ext e1) z]
end
end L3
namespace L5
open ø Ê L2 L3
open Ã hiding St
@[simp] def Yg (y z:Str) (g:AD):AD:=fun J=>(g J).bind λ x=>match x with
 | ä a=>if Í7<=1000000 then ↑ Ø0 else none
 | _=>none
def sC {y z:Str}{g:AD}{tg:zx}(h:yV g tg):xY (Yg y z g) (RK tg y z):=λ S Z Y J w Q hE e hq=>by
 ext à5;cases x with
 | str a=>
  dsimp only at e;ext õ4
  .rename_i hl;cases e;exact h æ7 ĳ;cases r1.str;show#[a,rfl,hl,hq _ S1 s1 é0]
  .cases e
 | _=>cases e
end L5
namespace L2
open ø Ê Ã
section
variable {Ó}{A:Ñ7}{Ò5}{À4}
def E8 {l b:Addr}{í9:A1}Õ4{o:Obj}{items2:A1}{n2:Nat}{P:PySem.Fin->Ç8}(hl:ã l=↑{ cls:=Õ9,dict:=none,data:=.seq í9 n,slots:=û })
  (hb:ù9) (hc:o.cls=ă) (hd:o.data=.seq items2 n2) (hz:Ę+items2.size<=ß)
  (h:P (.done (.ret è5)) { s with heap:=s.heap.update l (á0 λ x=>x++items2) }):ĩ Ï (Builtin.«list.extend» #[[Å l,Å b],[]]) P E s:=by
 unfold Builtin.«list.extend»;exact za0 (m:=pure (Á7 l,Á7 b)) ū;change ĩ Õ (ļ ſ (Å b) è5) Õ s;unfold ļ;exact za0 (zd0 (T:="tuple") #[o,hb,hc] ?_);rw[Ê4];exact za0 (ñ0 hb hd (za0 (ñ0 (xs:=í9) (n:=n) hl æ4)));have hlong:¬ (! Ù8&&Ö7 (Ę+items2.size))=true:=by
  rw[Ti hz,zaT];show za6
 rw[Ŧ hlong];show za0 (listUpdate_at (xs:=í9) (n:=n) hl rfl (AE h) ⋯ (by change (í9++items2).size<=ß+1;rw[Array.size_append];lia))
variable {þ}
def Lg ő:Č:=λ x vs H Q=>∃ l b xs zs,x=Å l/\vs=[Å b]/\H l=↑(ě xs)/\yz K H b zs/\á+zs.length<=ß/\Q .zA (upd H l (ě (xs++zs)))
theorem IE:lI X "list.extend" (Lg X.K):=by
 ext ģ;let#[l,b,xs,zs,rfl,rfl,hH,hB,hz,q]:=h;ext ü6;cases ru;let#[z,its,n,r,hl,e]:=I.bG hH;let#[its2,r2,#[o,e2,hc,n2,hd],hz2]:=å6 hB;have l1:=r.length;have l2:=r2.length;exact zcU PySem.F.slot_list_extend #[_,e,rfl] PySem.F.entry_list_extend (E8 e e2 hc hd (by rw[A6,A6];lia) ù1) (PySem.F.args_list_extend_2 Õ);exact#[.zA,_,I.YG (its':=its++its2) hH e #[] (r.append r2) ?_,rfl,q];rw[zD7];lia
end
end L2
namespace L3
open ø Ê Ã L2
section
variable {þ}{e o:Expr}{te to:zx}{Î3}
def ib (to te:zx):zx:=fun Y S Q=>to Y S λ x S1=>match x with
 | À0=>(∃ ds,S1 p=↑(ě ds))/\te Y S1 λ y S2=>∃ ds es,y=À6 es/\S2 p=↑(ě ds)/\Ì3
 | _=>Þ3
def ib.mo ã6:y8 (ib to te):=fun Y S Q Q' hq z=>h Ŷ (λ x S1 z=>by
 cases x with
 | ref p=>show#[z.1,h' Ô3 (λ y S2 #[ds,es,a,b,c,w]=>#[ds,es,a,b,c,hq Õ w]) z.2]
 | _=>show z) z
def ud Ĵ Ô7
  õ8
  À:
  PD X ò2 (ib to te):=by
 exact#[ib.mo å7 he.mo,ð8 (bh Å1 IE Ú9) Ō];ext Î6;cases x with
 | ref p=>
  ext Â3;exact Ö2 he.mo ľ;let#[ds',es,rfl,b1,b3,b4]:=h2;simp![zj] at q2;let#[q,ys',rfl,g5,g6]:=q2;let#[xs',g3,g4]:=p2 Õ b1;ext ò
 | _=>show î1
end
end L3
namespace L5
open ø L2 L3
@[simp] def eO Ì6 (f:AD):Sm:=fun J=>match J[i]? with
 | Ü0=>Ç2 λ y=>match y with
  | À6 us=>Æ7
  | _=>none
 | _=>none
def tp Ø4 Õ0 Ì6 (hf:ú2):yu R (eO i f) (gI (ib (yN i) te)):=λ S0 Z0 S Z Y J o E F e P=>by
 unfold eO at e;ext õ4
 .ext ã7
  .rename_i us;split at e2
   .ext É9;obtain⟨ds,rfl⟩:∃ ds,ob=ě ds:=by
     cases ob with
     | lst ds=>show#[ds,rfl]
     | _=>show h3.elim
    replace h3:í8:=h3;change ib (yN i) te Y S _;unfold ib yN;ext ã1;let#[es,rfl,g4]:=r1.tup;have F1:=F.grow s1;exact#[ds,es,rfl,s1 Õ h2,ý2,ű]
   .cases e2
  .cases e2
 .cases e
@[simp] def gJ (ss:É):AD:=λ _=>↑(À6 á6)
def sX (ss:É):xY (gJ ss) (dC (À6 Ü3)):=λ S Z Y J y Q hE e hq=>by
 cases e;show hq _ Â1 (Cl.of Ń (lW (f7 ss)))
end L5
namespace L3
open ø Ê L2
open Ã hiding St
section
variable {þ}{Ë2}{ý}{È2}
def zg Ë:PD ũ (yN i):=UN i (pv i hN hv hd hcd)
def uM È1{k k':Nat}Ç1 Å3 Ų ã2 ų â0
  Ċ:PD Ê9:=KW F ñ6 ha hg hdb he AV
end
def gD {N P:É}{sc:Scope}(h1:sc.kind=.function:=by rfl) (h2:sc.isCoroutine=Þ:=by rfl) (h3:sc.isGenerator=Þ:=by rfl) (h4:N.Nodup:=by decide +kernel) (h5:N.take P.length=P:=by rfl) (h6:∀ x∈P,sc.names.lookup x=↑.local\/sc.names.lookup x=↑.cell:=by decide +kernel) (h7:∀ y∈sc.names,y.2≠.free:=by decide +kernel):pG N P sc:=#[h1,h2,h3,h4,h5,h6,h7]
section
variable {þ}{Ë2}{ý}{È2}
def zf Ë:xR ũ (yN i):=
 K9 i (Kg hN hv hd hcd) (UN i (Yv (pos:=pos) hN hv hd hcd)).mo
def vt È1{k k':Nat}Ç1 Å3 (ha:xX X Đ tA) ã2 ų â0
  Ċ:xy Ê9:=KJ F ñ6 ha hg hdb he AV
end
end L3
namespace L5
open ø Ê L2 L3
open Ã hiding St
theorem Ct.mk ţ{mg:A0}Ú7 È1 Ð5(H:Ct K x ss) ë:Cq K mg x ss:=by
 let#[a,h1,h2]:=H;let#[u,e1,e2]:=Cn.mk (t:=Å a) #[Å a,h1,rfl] X G;cases e2;show#[a,e1,h2]
def Ct.i ţ È1 Ð5 Ő{o:Obj}{its:A1}Õ4(h1:ñ4) ŝ:Ct K x ss:=#[a,h1,Õ6]
end L5
namespace L3
open ø Ê L2
open Ã hiding St
def mr ő:Prop:=∃ C,Ú2/\mw K C/\jv K C "kept"
def mW.eq ţ{c:Str}{C D:Addr}(h1:mW K c C) (h2:mW K c D):C=D:=by
 unfold mW at h1 h2;rw[h1] at h2;cases h2;rfl
def _root_.L2.Inv.Yh þ Ô8 Á0 À4 Ő{u v:HO}(I:İ) (e:H a=↑u) (mu:gR ↑u) (he:∃ o,ã a=↑o) (h:xS Ò4 (upd H a v) ó a v):Inv X gV B (upd H a v) s:=
 I.write (x:=a) (e:=a) (h':=ó) (t':=į) (by rw[e];show mu) (Ý3 rfl) (λ b q _ z=>z) he h
def Xb {P:ö7}Ø3 Á0 Ú7 Ő{Az:List (Key×V)}(x:xS P w H h a (.dK Az)):∃ o,ç1 a=↑o:=by
 let#[_,_,_,_,o,_,_,e,_]:=x;show#[o,e]
theorem Ext.ins Á0{p C dx:Addr}{fs:List (Str×V)}(h:H p=↑(.ins C dx fs)) (o:HO):Ext H (upd H p o):=
 #[λ b ys q=>é,λ b ob u q=>é,λ b u q=>é,λ b x u q=>#[u,é]]
theorem Ext.dS Á0{p x:Addr}{Az us:List (Key×V)}(h:H p=↑(.dS x Az)):Ext H (upd H p (.dS x us)):=
 #[λ b ys q=>é,λ b ob u q=>é,λ b u q=>é,λ b y u q=>by
  by_cases z:b=p
  .subst z;rw[h] at q;cases q;show#[us,yR]
  .show#[u,by rw[yw z];show q]]
def lD.Tr ţ Á0{a x:Addr}{o:O}{vs:List (Key×V)}(h:lD K H a o) (e:H a=↑(.dS x vs)):Þ3:=by
 cases o with
 | lst ds=>ext ý1
 | xa ds=>ext ý1
 | kS=>let#[_,_,_,h]:=h;rw[h] at e;cases e
 | zF ds=>let#[_,_,_,_,_,h,_]:=h;rw[h] at e;cases e
def yq.eZ ţ{H H':Hp}ů{p:Addr}{o:O}(r:è7) (e:Ext H H') (k:∀ b u,b≠p->(∀ vs,u≠.dS p vs)->H b=↑u->H' b=↑u) (hn:lD K H' p o):yq K H' (L3.ups S p o):=λ a o' h=>by
 by_cases ha:a=p
 .subst ha;rw[mz] at h;cases h;show hn
 .rw[mY ha] at h;have q:=r a o' h;exact q.keep e (λ u z=>k a u ha (λ vs y=>by subst y;show q.Tr z) z) λ b vs z=>k b _ ?_ (λ us y=>by cases y;show ha rfl) z;rintro rfl;cases hs:S b with
  | none=>
   cases o with
   | lst ds=>let#[_,h,_]:=hn;ext Ť
   | xa ds=>let#[_,h,_]:=hn;ext Ť
   | kS=>let#[_,_,_,h]:=hn;ext Ť
   | zF ds=>let#[_,_,_,_,_,h,_]:=hn;ext Ť
  | some o2=>show (r b o2 hs).Tr z
section
variable {þ}{o ie v:Expr}{i j k:Nat}{pos pos' ap:Pos}
def RQ Ì6:xf:=λ E Y S=>∃ p,É4/\S p=↑.kS/\E.nx Y é7
theorem KH ñ9 (hs:ß8 Ò2 ↑(Ä9) ï8=í3):zw X (.Assign [Ä9] Ò2 pos) (RQ i):=by
 exact#[λ E E' Y S hE #[p,h1,h2,h3]=>#[p,h1,h2,hE.nx Õ h3],λ gV s B H D I hu=>?_];let#[Y,S,r1,r2,p,h1,h2,h3]:=hu;let#[C,dx,g1,g2]:=r2 Õ h2;ext ì1;let#[w,w1,w2]:=r1.2 i _ h1;simp![zj] at w2;subst w2;exact zG (LF ho UK hs ħ { D with nx:=fun B' H'=>B'=B/\∃ q,H q=none/\H'=upd Ű } I ?_) λ f s' z=>?_
 .intro q hq;ext Ü5
  show#[À0,w1,p,C,dx,[],rfl,ì5,c2,c3,(),rfl,q,hq,rfl]
 .cases f with
  | next=>
   let#[B',H',I',rfl,q,hq,rfl]:=z;ext Ü5
   have hqq:upd Ű q=↑(.dK []):=by rw[yw npq.symm,yR]
   have I2:=I'.Yh (v:=.dS p []) hqq Ì0 (Xb (I'.zH q _ hqq)) (I'.zH q _ hqq);have e1:Ext H é8:=.new hq _;have e2:Ext é8 (upd Ű):=.ins (ì5) _;have e3:=Ţ (Ext.dK hqq (.dS p []));exact#[B',_,I2,h3 B' _ (r1.ext e3) e3 (r2.eZ e3 (λ b u hb hu z=>?_) #[C,dx,q,[],g1,?_,yR,Û8])]
   .have nbq:b≠q:=λ y=>by subst y;rw[z] at hq;cases hq
    rw[yw nbq,yw hb,yw nbq];show z
   .rw[yw npq,yR]
  | ret u=>show z
  | _=>show z
def RS (i j k:Nat):xf:=λ E Y S=>∃ p m x d,É4/\Ë1/\é9/\Y[k]?=↑↑d/\m.length<ß/\E.nx Y (ups S p (.zF (putD m Ò3 d)))
def KI Ĩ (hv:PE X v (o9 k)) Û0
  (hs:ß8 v ↑(ĵ (Ä9) ie pos') ï8=í3):zw X (.Assign [ĵ (Ä9) ie pos'] v pos) (RS i j k):=by
 exact#[λ E E' Y S hE #[p,m,x,d,h1,h2,h3,h4,h5,h6]=>#[p,m,x,d,h1,h2,h3,h4,h5,hE.nx Õ h6],λ gV s B H D I hu=>?_];let#[Y,S,r1,r2,p,m,x,d,h1,h2,h3,h4,h5,h6]:=hu;ext À5;ext Ŕ;let#[t,t1,t2]:=r1.2 k _ h4;ext â3;have npq:p≠q:=λ z=>by subst z;rw[g2] at g3;cases g3
 have kq:xS Ò4 (upd H q (.dK vs)) ó q (.dK vs):=I.zH q _ g3;have I1:=I.Yh (v:=.dK vs) g3 Ì0 (Xb kq) kq;exact zG (UB (gs hr) (Yx ho hb) hi hv hs gV s B _ { D with nx:=fun B' H'=>B'=B/\H'=upd (upd H q (.dK vs)) q (.dK û5) } I1 ?_) λ f s' z=>?_
 .show#[t,t1,À0,w1,p,C,dx,_,Å q,rfl,ì5,c2,c3,rfl,ä x,y1,q,_,rfl,ff.k (k:=Sum.inr x) yR (by rw[<- g4.len];show h5),rfl,rfl]
 .cases f with
  | next=>
   let#[B',H',I',rfl,rfl]:=z;have I2:=I'.Yh (v:=.dS p û5) yR Ì0 (Xb (I'.zH q _ yR)) (I'.zH q _ yR);rw[Vp,Vp] at I2;have e3:Ext H (upd H q (.dS p û5)):=.dS g3;exact#[B',_,I2,h6 B' _ (r1.ext e3) e3 (r2.eZ e3 (λ b u hb hu z=>?_) #[C,dx,q,_,g1,?_,yR,(xI.put g4 _ t2).ext e3])]
   .rw[yw (λ y=>by subst y;rw[g3] at z;cases z;show hu _ rfl)];show z
   .rw[yw npq];show g2
  | ret u=>show z
  | _=>show z
def R9 ţ Á0 ů{p:Addr}ð1(r2:è7) (h2:Ë1) (hk:mr K) Ŵ:∃ C dx q o,H p=↑ ò4/\mw K C/\jv K C "kept"/\mv H q (ä x) o/\(qa m Ò3=none/\o=none\/∃ d u,qa m Ò3=↑d/\o=↑u/\zj K H d u):=by
 ext À5;exact#[C,dx,q,qZ vs Ò3,g2,c2,c3,Ý3 #[vs,ŏ x,ŏ #[p,g3],rfl,rfl],?_];rcases xI.val g4 Ò3 with ⟨n1,n2⟩ | ⟨d,u,n1,n2,n3⟩
 .show Ý3 #[n1,n2]
 .show ŏ #[d,u,n1,n2,n3]
def RU (i j:Nat):zx:=fun Y S Q=>∃ p m x d,É4/\Ë1/\é9/\qa m Ò3=↑d/\Q d S
def ur Ĩ Û0 (hs:i5 ie):PD X (ĵ (Ä9) ie pos) (RU i j):=by
 exact#[fun Y S Q Q' hq #[p,m,x,d,h1,h2,h3,h4,h5]=>#[p,m,x,d,h1,h2,h3,h4,hq Õ h5],ð8 (UL (gs hr) (Yx ho hb) hi hs) Ō];let#[Y,S,r1,r2,p,m,x,d,h1,h2,h3,h4,h5]:=hu;ext Ŕ;ext â3;obtain⟨C,dx,q,o,g1,g2,g3,g4,⟨n1,_⟩ | ⟨d',u,n1,rfl,n3⟩⟩:=R9 r2 h2 hk x
 .rw[h4] at n1;cases n1
 .rw[h4] at n1;cases n1;show#[À0,w1,p,C,dx,_,Å q,rfl,g1,g2,g3,rfl,ä x,y1,q,u,rfl,g4,h5 u H n3 Ŋ r2]
def RT (i j:Nat):xb:=fun Y S Q=>∃ p m x,É4/\Ë1/\é9/\Q (! ï2) S
def wW Ĩ Û0 (hm:ê0 .NotIn (Ä9)=Þ):zD X (Ç9 ie [.NotIn] [Ä9] pos) (RT i j):=by
 exact#[fun Y S Q Q' hq #[p,m,x,h1,h2,h3,h5]=>#[p,m,x,h1,h2,h3,hq Õ h5],PT.imp (UA (K_ (gs hr) hi (Yx ho hb)) hm) Ō];let#[Y,S,r1,r2,p,m,x,h1,h2,h3,h5]:=hu;ext Ŕ;ext â3;let#[C,dx,q,o,g1,g2,g3,g4,n]:=R9 r2 h2 hk x;exact#[ä x,y1,À0,w1,p,C,dx,_,Å q,rfl,g1,g2,g3,rfl,q,o,rfl,g4,_,rfl,?_];have:o.isSome=ï2:=by rcases n with ⟨n1,rfl⟩ | ⟨d,u,n1,rfl,_⟩ <;> rw[n1] <;> rfl
 rw[this];show h5 H Ŋ r2
end
structure iE ñ (m:Str) Ô2 (ps:É) (sp:q8):Prop where
 ex:∃ (f:Addr) (fd:é1),qY à xj k f fd ps (pR K sp)/\Binds K fd ps []/\∃ C,Ú2/\mw K C/\Meth K C m f
 mo:jw sp
def oz (sp:q8) (to:zx) (tA:yy):zx:=fun Y S Q=>to Y S λ x S1=>∃ p v,x=À0/\S1 p=↑(.zF v)/\tA Y S1 λ ds S2=>sp (x::ds) S2 Q
section
variable {þ}{e o:Expr}{to:zx}{pos apos:Pos}{m:Str}{sp:q8}{Û1}{ý}{Ü7}{ð3}{pl:Sem Bool}
def oz.mo (h1:y8 to) (h2:jw sp) (h3:o5 tA):y8 (oz sp to tA):=fun Y S Q Q' hq z=>
 h1 Ŷ (λ x S1 #[p,v,a1,a2,a5]=>#[p,v,a1,a2,h3 Ô3 (λ ds S2 z=>h2 _ S2 Õ hq z) a5]) z
def wg {k':Nat}(F:iE Ă m k ps sp) Å3 Ĵ Ų ã2 (hm:("kept" == m)=Þ)
  ð2
  (ht:eval (Ě (Ý o m apos) Đ Á2) Í=(do
   let ov <- î
   standAt apos.atName
   let (f,first) <- ø0 [ov] (getMethod ov m pl)
   Â0)):
  PD X (Ě (Ý o m apos) Đ Á2) (oz sp to tA):=by
 let#[#[f,fd,h1,h2,C',j4,j5,j6],hmo]:=F;exact#[oz.mo å7 hmo Ù7,ß9];ext Î;exact PySem.W.methodCall_KW (pl:=pl) (zG (ho.pe ħ (λ x H1=>∃ a C dx fs,x=Å a/\H1 a=↑(.ins C dx fs)/\mw X.K C/\Meth X.K C m f/\fs.lookup m=none/\rR X.K tA B H1 λ vs H2=>pR X.K sp (Å a::vs) H2 Q E0) I (Ö2 å7 à2 λ x S1 v H1 g1 q1 e1 p1=>?_)) λ u s1 #[x,H1,I1,rx,a,C,dx,fs,ex,ea,c,me,l,q]=>?_) ht
 .let#[p,mm,rfl,g2,g5]:=g1;ext ù6;let#[C,dx,q,vs,j1,j2,j3]:=p1 Õ g2;cases j1.eq j4;exact#[p,C',dx,_,rfl,j2,j5,j6,?_,Y,S1,Á9,p1,Ù7 Ô3 (λ ds S2 z xs H2 a1 a2 a3=>#[À0::ds,S2,ł Ô a1,a3,hmo Ý8]) g5];rw[za7];have:(m == ("kept":Str))=Þ:=by
   rw[Bool.eq_false_iff] at hm ⊢;show λ z=>hm (by rw[beq_iff_eq] at z ⊢;show z.symm)
  rw[this];rfl
 .subst ex;obtain rfl:u=Á7 a:=rx;exact F8 I1 ea c me l ?_;exact é6 (first:=[Å a]) (h₀:=X.base) I.ok.mod.gi me.kp (zG (ha.pa pos Ô9 q) Ó3) A5 AV;show cT (us:=Å a::us) (vs:=Å a::vs) (dvs:=[]) (E:=E0) h1 ñ6 h2 Û8 fM I2 (ł rfl r) (by rw[zaB];show q2)
structure Zn ñ Ô2:Prop where
 ex:∃ (C f:Addr) (fd:é1),qY à xj k f fd Ú3 (pR K λ ds S Q=>∃ p,ds=[À0]/\S p=↑.kS/\Q .zA é7)/\Binds K fd Ú3 []/\Ú2/\Mk K C f/\mg "Desk"=↑(Å C)
def RX:zx:=λ _ S Q=>∀ p,S p=none->Q ú1 é7
def OM ů Ő{o u:O}:ups (ups S a o) a u=ups S a u:=by
 funext b;unfold ups;split <;> rfl
theorem uK {k':Nat}{p:Pos}(F:Zn Ă k) Å3 (hk:k+1<=k':=by decide) (hg:Gl X "Desk":=by rfl):PD X (Ě (Ď "Desk" p) [] Á2) RX:=by
 let#[C,f,fd,h1,h2,h3,h4,h5]:=F;exact#[fun Y S Q Q' hq z p hp=>hq Õ (z p hp),ð8 (Kv (E:=E0) h4 h1 ñ6 hg h5 h2 Û8 fM) Ō];ext Î;intro x dx hx hdx AW;have e0:Ext (upd H dx (.own x)) (upd (upd H dx (.own x)) x (.ins C dx [])):=.new (by rw[yw (Ľ AW)];show hx) _;have e2:=(Ext.new hdx (.own x)).trans e0;exact#[[Å x],ups S x .kS,ł Ô Û8,(r2.new hdx).ups e0 #[C,dx,h3,yR],x,rfl,mz,?_];rw[OM];intro v H2 a1 a2 a3;simp![zj] at a1;show#[a1,z x (r2.none hx) (Å x) H2 Ô (e2.trans a2) a3]
end
end L3
namespace L5
open ø Ê L2 L3
open Ã hiding St
def jU:õ0->ġ->Key->È T
 | k::ks,t::ts,x=>if k=x then ↑t else jU ks ts x
 | _,_,_=>none
theorem Xg ů{x:Key}:∀ ð1 ü3,zp S ts (m.map ŭ)->jU Å4 x=none/\qa m x=none\/∃ t d,jU Å4 x=↑t/\qa m x=↑d/\Sn S t d
 | [],ts,h=>Ý3 #[by cases ts <;> rfl,rfl]
 | (k,d)::m,[],h=>by simp[zp] at h
 | (k,d)::m,t::ts,h=>by
  simp![AR,zp] at h;let#[c,cs,e,h1,h2]:=h;cases (e);rw[OL];simp![AR,jU];by_cases hk:k=x
  .rw[Ñ6 hk,Ñ6 hk];show ŏ #[t,_,rfl,rfl,h1]
  .rw[Ŧ hk,Ŧ hk];show Xg h2
section
variable {i j:Nat}{ů}{å0}{Y:yX}{J:Ev}
@[simp] def YR (i j:Nat):AD:=fun J=>match J[i]?,J[j]? with
 | some ↑(.im (Ð0)),↑↑(.im (ä x))=>jU ks ts Ò3
 | _,_=>none
@[simp] def YO (i j:Nat):Ï7:=fun J=>match J[i]?,J[j]? with
 | some ↑(.im (Ð0)),↑↑(.im (ä x))=>↑!(jU ks ts Ò3).isSome
 | _,_=>none
def ER.eZ {ks:õ0}ü3(hE:ER À8) (h:J[i]?=↑↑(.im (Ð0))):∃ p m,É4/\Ë1/\m.map õ=ks/\zp (yp S Z) ts (m.map ŭ):=by
 let#[d,h1,h2]:=hE.im i _ h;simp![Sn] at h2;let#[p,m,#[rfl,h3],h4,h5]:=h2;show#[p,m,h1,(nU h4).2,h3,h5]
def yH:qA (YR i j) (RU i j):=λ S Z Y J y Q hE e hq=>by
 unfold YR at e;ext õ4
 .ext ź;rcases Xg g4 (x:=ŏ x) with ⟨n,_⟩ | ⟨t,d,n1,n2,n3⟩
  .rw[e] at n;cases n
  .rw[e] at n1;cases n1;show#[p,m,x,d,g1,g2,k1,n2,hq d Â1 n3]
 .cases e
def sN:qJ (YO i j) (RT i j):=λ S Z Y J y Q hE e hq=>by
 unfold YO at e;ext õ4
 .ext ź;cases e;exact#[p,m,x,g1,g2,k1,?_];have:ï2=(jU Å4 Ò3).isSome:=by
   rcases Xg g4 (x:=ŏ x) with ⟨n1,n2⟩ | ⟨t,d,n1,n2,_⟩ <;> rw[n1,n2] <;> rfl
  rw[this];show hq Â1
 .cases e
end
@[simp] def eX (F:AG):AG
 | Ð0::xs=>F (Ð0::xs)
 | _=>none
def sJ Ø4 [Sr R] {F:AG}{f:AD}{g:œ}{to:zx}{u:yy}(hf:yV f to) (h:oU g u):xY (k9 (eX F) (za f g)) (oz (zM R F) to u):=λ S Z Y J y Q hE e hq=>by
 let#[xs,e1,e2]:=ę;let#[y',e4,e3]:=í1 e2;let#[x,e5,e6]:=í1 e1;let#[zs,e7,e8]:=í1 e6;cases e8;split at e3
 .rename_i hp;obtain rfl:y'=y:=by injection e3
  cases x with
  | zF ks ts=>
   exact hf æ7 e5 λ d S1 s1 r1=>?_;let#[p,m,#[rfl,h2],h3,h4]:=Vw.zF r1;exact#[p,m,rfl,h3,h ó6 zs _ ô3 e7 î9];have r3:kA S2 Z (Ð0::zs) (À0::ds):=#[_,_,rfl,Vw.grow r1 s2,r2];exact#[λ a=>Z a/\D.ref a∉D.ref p::ds,_,_,λ a z=>ð6 a z.1,r3.free (λ a z=>z.1) (λ a ha z=>z.2 ha),e4,λ d S' s r=>hq d S' (ú s) ?_];show Cl.of (UE hp) (bf _ hp (Sr.sn r))
  | _=>cases e4
 .cases e3
@[simp] def R7 Ì6:Sm:=fun J=>↑(.nx (J.set i ↑(.own (.zF [] []))))
def tw Ø4 Ì6:yu R (R7 i) (p9 RX (hName i)):=λ S0 Z0 S Z Y J o E F e P=>by
 cases e;intro p hp;show P Õ _ (F.ZU (ts:=.zF [] []) (ds:=.zF []) (ĸ) i hp mz #[rfl,Û8])
section
variable {ĕ}{Í4}{m qual:Str}{st:Stmt}
def Fk ő (m qual:Str) â9:Prop:=∃ (f:Addr) (fd:é1) (C:Addr),oW K m qual st f fd/\Ú2/\mw K C/\Meth K C m f
def Fk.i Ŀ (b:ä6 K (Å C) m=↑↑ Ö8) Ć ù8 (m3:ś) (l:õ1 f=↑#[oc,od,.func (Ë5 m qual Ê0),osl])
  (cd:ä4 K AF qual=true):Fk K m qual st:=#[f,_,C,b_ l cd m3,a,ã4,b,m2,m3]
def Fi ő â9:Prop:=∃ (C f:Addr) (fd:é1),oW K Å7 st f fd/\Ú2/\Mk K C f
def Fi.i Ŀ (b:ä6 K (Å C) "__init__"=↑↑ Ö8) (l:õ1 f=↑#[oc,od,.func (Ë5 Å7 Ê0),osl])
  (cd:ä4 K AF "Desk.__init__"=true) (k2:ś) (m1:PySem.W.makesIn K C=true) ù8 (m3:PySem.W.keepIn K (Å C)=true):Fi K st:=#[C,f,_,b_ l cd k2,a,m1,b,m2,m3]
def mr.i {C:Addr}Ñ2 Ć (n:ä6 K (Å C) "kept"=↑none):mr K:=#[C,a,ã4,n]
abbrev jA â9 (m qual:Str) (ps:É):Prop:=∀ Â5,À3=é2->bindArgs (Ë5 m qual Ê0) #[us,[]]=ó0
variable {N ps:É}{k n:Nat}{g:Sm}
def Es Ø4 [Lo R] (F:Fk K m qual st) ó8 (hn:n=é2) (hb:jA st m qual ps)
  (hbody:∀ Ö,Ý1->
   ∃ t,ä7/\yu R g t):iE à m (k+1) ps (zM R (zR N n g)):=by
 let#[f,fd,C,F,hc]:=F;exact#[#[f,fd,bZ F Sc (λ ds S Q h=>by rw[h.len,hn]) λ AF A outer s H E hr=>?_,F.binds hb,C,hc],zM.mo];let#[t,h1,h2]:=hbody Ê1 hr;show#[t,h1,λ ds S Q h=>Q8 h2 h]
end
def Dx:Stmt->Ü2
 | .ClassDef Õ _ b Õ Õ Õ _=>b
 | _=>[]
abbrev KF:=õ0->ġ->ġ->È (T× õ0 × ġ)
def pb (F:KF):q8:=λ ds S Q=>∃ p m es ts ys r,(ds=À0::es/\Ë1)/\(zp S ts (m.map ŭ)/\qC ts=true)/\(zp S ys es/\qC ys=true)/\F Å4 ys=↑r/\
 ∀ d S1 m',Sx S S1->Sn S1 r.1 d->m'.map õ=r.2.1->zp S1 r.2.2 (m'.map ŭ)->Q d (ups S1 p (.zF m'))
def pb.mo {F:KF}:jw (pb F):=λ _ _ _ _ hq #[p,m,es,ts,ys,r,h1,h2,h3,h4,h5]=>#[p,m,es,ts,ys,r,h1,h2,h3,h4,λ d S1 m' a b c e=>hq Õ (h5 d S1 m' a b c e)]
def mC:KF:=λ ks ts ys=>match ys with
 | [ä x,f]=>if (ks.any λ k=>ĥ (k=ŏ x))=true\/¬ ks.length<ß then none else ↑(Ú4,ks++[ŏ x],ts++[f])
 | _=>none
def Ll ð1{k:Key}{d:D}(h:¬ ((m.map õ).any λ j=>ĥ (j=k))=true):putD m k d=m++[(k,d)]:=by
 unfold putD;rw[zbQ] at h;show Ŧ h
theorem HJ {N:É}(hN:N.length=3) Ÿ ů{Q:DK}(h:pb mC ds S Q):k5 (RS 0 1 2) (jj (dC (Ú4))) Ã1:=by
 let#[p,m,es,ts,ys,r,#[rfl,h2],#[h3,h3'],#[h4,h4'],h5,h6]:=h;unfold mC at h5;split at h5
 .rename_i x f;split at h5
  .cases h5
  .rename_i hn;cases h5;simp![not_or,Classical.not_not] at hn;simp![zp,Sn] at h4;let#[_,_,rfl,rfl,d,_,rfl,h7,rfl]:=h4;have hl:m.length<ß:=by have:=hn.2;rwa [AQ] at this
   have e:=Ll (d:=d) hn.1;exact#[p,m,x,d,rfl,h2,rfl,rfl,hl,?_];rw[e];exact h6 Õ _ (.refl S) nJ #[] ?_;rw[zE7];show h3.append (ł h7 Û8)
 .cases h5
def lX (N:É) (f1 f2:AD) (c:Ï7) (ga:œ):KF:=λ ks ts ys=>if (Þ4=1/\N.length=4) then
 (f1 (qu N (Ð0::ys))).bind λ w=>(f2 (Ã4)).bind λ v=>
  (c ((Ã4).set 3 ↑(.im v))).bind λ b=>if b=true then
   (ga ((Ã4).set 3 ↑(.im v))).bind λ zs=>if qC zs=true then mC ks ts zs else none
  else none
 else none
def ER.JW ů{N:É}{ys:ġ}Ÿ(h:zp S ys ds):ER S (ô5) (q_ N ds) (qu N ys):=by
 exact#[λ _ z=>z.elim,λ i t e=>?_,λ i c e=>?_]
 .let#[y,e1,e2]:=iM e;cases e2;let#[d,e3,e4]:=h.bW e1;show#[d,VE e3,by rw[show yp S (ô5)=S from funext λ a=>oa (λ z=>z)];show e4]
 .let#[y,_,e2]:=iM e;cases e2
def Gu ů:yp S (ô5)=S:=funext λ a=>oa (λ z=>z)
def M5 Â9{te1 te2:zx}{tc:xb}{ua:yy}{tx ty:xf}(h1:qA f1 te1) (h2:qA f2 te2) (hc:qJ c tc) (ha:oU ga ua) Ÿ ů{Q:DK}(hs:pb (lX N f1 f2 c ga) ds S Q):
  k5 (p9 te1 (hName 2)) (k5 (p9 te2 (hName 3)) (k5 á7 ty)) Ã1:=by
 let#[p,m,es,ts,ys,r,#[rfl,g1],#[g2,g2'],#[g3,g3'],g4,g5]:=hs;unfold lX at g4;split at g4
 .rename_i hl;let#[hl1,hl2]:=hl;let#[w,a1,g4]:=í1 g4;let#[v,a2,g4]:=í1 g4;let#[b,a3,g4]:=í1 g4;split at g4
  .rename_i hb;subst hb;let#[zs,a4,g4]:=í1 g4;split at g4
   .rename_i hp;have hd:Sn S (.zF Å4) ú1:=by simp![Sn];show#[p,m,#[rfl,rfl],g1,g2]
    have E0:ER S (ô5) (ä8) (ê1):=ER.JW (ł hd g3);have L0:(ä8).length=(ê1).length:=by simp[q_,qu,g3.len]
    exact h1 S Õ _ w _ E0 a1 λ d1 S1 s1 r1=>?_;have E1:=(E0.grow s1).jG L0 2 r1;have L1:((ä8).set 2 ↑d1).length=((ê1).set 2 ↑(.im w)).length:=by simp![zbG];show L0
    exact h2 S1 Õ _ v _ E1 a2 í2;have E2:=(E1.grow s2).jG L1 3 r2;exact hc S2 Õ _ true _ E2 a3 λ S3 s3=>?_;rw[Ñ6 rfl];have e0:(((ä8).set 2 ↑d1).set 3 ↑d2)[0]?=↑↑ ú1:=by
     rw[pK (),pK ()];rfl
    change oz (pb mC) (yN 0) ua _ S3 Q;unfold oz yN;rw[e0];exact#[p,m,rfl,s3 Õ (s2 Õ (s1 Õ g1)),ha S3 Õ _ zs _ (E2.grow s3) a4 λ xs S4 s4 r4=>?_];have s14:=Ù3 s4;exact#[p,m,xs,ts,zs,r,#[rfl,s14 Õ g1],#[zp.sx s14 ts g2,g2'],#[?_,hp],g4,λ d S5 m' b1 b2 b3 b4=>g5 d S5 m' (s14.trans b1) b2 b3 b4];have:=r4.free (Z':=ô5) (λ a z=>z) (λ a _ z=>z)
    rwa [Gu] at this
   .cases g4
  .cases g4
 .cases g4
@[simp] def f9 (j:Nat) (F:KF) (f:AD) (g2:Sm):Sm:=fun J=>match J[j]? with
 | some ↑(.own (Ð0))=>Ç2 λ y=>if qC (y::ts)=true then (F ks ts [y]).bind λ r=>if L3.eqT r.1 (Ú4)=true/\qC (r.1::r.2.2)=true then g2 (J.set j ↑(.own (.zF r.2.1 r.2.2))) else none else none
 | _=>none
def LN {x:T}(h:L3.eqT x (Ú4)=true):x=Ú4:=by
 cases x <;> simp[L3.eqT] at h
 rw[h]
def uX Ø4{j:Nat}{F:KF}Õ0{g2:Sm}{t1 t2:xf}(hf:qA f te) (h2:yu R g2 t2):yu R (f9 j F f g2) (jk (pz (yW (qR true) (oz (pb F) (yN j) (nD te l9)) (dC (Ú4)))) t1 t2):=λ S0 Z0 S Z Y J o E Fr e P=>by
 unfold f9 at e;ext õ4
 .rename_i ks ts h0;let#[y,e1,e]:=ę;ext õ4
  .rename_i hp;let#[r,e2,e3]:=ę;split at e3
   .rename_i hq;let#[z,ks',ts']:=r;let#[hz,hp']:=hq;cases LN hz;simp![qC,zE5] at hp hp';let#[p,ob,k1,k2,k3,k4]:=Fr.er.ow j _ h0;cases ob with
    | zF m=>
     let#[rfl,k6]:=k3;change oz (pb F) (yN j) (nD te l9) Y S _;unfold oz yN;rw[k1];exact#[p,m,rfl,k2,hf À8 y _ Fr.er ĳ];exact#[p,m,[d],ts,[y],_,#[rfl,s1 Õ k2],#[bc ts hp.2 k6,hp.2],#[ł (bf y hp.1 r1) Û8,by simp![qC,Bool.and_true];show hp.1],e2,λ c S2 m' b1 b2 b3 b4=>?_];simp![Sn] at b2;subst b2;exact#[Ú4,Ú4,nJ,nJ,by simp[dep],by simp[dep],?_];exact h2 S0 Z0 _ Z Y _ o E ((Fr.grow (s1.trans b1)).mut (us:=.zF ks' ts') (es:=.zF m') j h0 k1 #[b3,bc ts' hp'.2 b4]) e3 P
    | _=>show k3.elim
   .cases e3
  .cases e
 .cases e
section
variable {ĕ}{Í4}{m qual:Str}{st:Stmt}{N ps:É}{Ü7}
def Rn {F:KF}(Fn:Fk K m qual st) ó8 (hb:jA st m qual ps) (hl:∀ ks ts ys r,F ks ts ys=↑r->Þ4+1=é2)
  (hbody:∀ Ö,Ý1->
   ∃ t,ä7/\∀ ds S Q,pb F ds S Q->t Ã1):iE à m (k+1) ps (pb F):=by
 let#[f,fd,C,Fn,hc]:=Fn;exact#[#[f,fd,bZ Fn Sc (λ ds S Q h=>?_) λ AF A outer s H E hr=>hbody Ê1 hr,Fn.binds hb,C,hc],pb.mo];let#[p,mm,es,ts,ys,r,#[rfl,_],_,#[h3,_],h4,_]:=h;rw[<- hl Õ Õ h4,zC0,h3.len]
def Eu (Fn:Fi K st) ë (Sc:pG Ú3 Ú3 Ì4) (hb:jA st Å7 Ú3)
  (hbody:∀ Ö,yT (wj xj à Ú3 "Desk.__init__" ö).rf (xV st) (RQ 0)):Zn à (k+1):=by
 let#[C,f,fd,Fn,hc,hk]:=Fn;exact#[C,f,fd,bZ Fn Sc (λ ds S Q #[p,h,_]=>by rw[h];rfl) λ AF A outer s H E hr=>#[_,hbody Ê1,λ ds S Q #[p,e,h1,h2]=>?_],Fn.binds hb,hc,hk,Í6 X G hc];subst e;show#[p,rfl,h1,h2]
end
end L5
namespace L3
open ø Ê L2
open Ã hiding St
section
variable {þ}{ê6}{ü2}{pos ap:Pos}
def ze Ë:PE ũ (o9 i):=Yv hN hv hd hcd
structure iD ñ (m:Str) Ô2 (ps:É) (sp:q8):Prop where
 k:iE à m k ps sp
variable {to:zx}{Û1}{sp:q8}{Ü7}{ð3}{ý}{pl:Sem Bool}
def vi {k':Nat}{rpos:Pos}(F:iD Ă "keep" k ps sp) Å3 Ĵ Ų ã2
  ð2
  (ht:eval õ2 Í=(do
   let ov <- î
   standAt ap.atName
   let (f,first) <- ø0 [ov] (getMethod ov "keep" pl)
   Â0)):
  zw X (.Return ↑ õ2 rpos) (jj (oz sp to tA)):=wc (wg F.k hr ho ha hk () A5 AV ht)
def vh {k':Nat}{cp2 cp3 ip:Pos}Õ4{p q:Ü2}{t u:xf}{te:zx}(F:iD Ă "say" k ps sp) Å3 Ĵ (ha:PD X e te) (h:yT X p t) (h':yT X q u) ã2
  (A5:ß4) (AV:A3 X pos [])
  (ht:eval õ3 Í=(do
   let ov <- î
   standAt ap.atName
   let (f,first) <- ø0 [ov] (getMethod ov "say" pl)
   callWith pos f first (ä5 pos (ē [e] Í)) (backToKw pos Ð1))):
  zw X (.If (Ç9 õ3 [.NotEq] [.Constant (Ú4) n cp2] cp3) p q ip) (jk (pz (yW (qR true) (oz sp to (nD te l9)) (dC (Ú4)))) t u):=
 wu (wt hr (wg F.k hr ho (wy ha wx A5) hk () A5 AV ht) we) h h'
end
end L3
namespace L5
open ø Ê L2 L3
open Ã hiding St
section
variable {ĕ}{Í4}{st:Stmt}{Ü7}
def Et (hk:mr K) (F:Fi K st) ë {pos' ap pos sp:Pos}(e:xV st=[.Assign [û6] Ò2 pos]:=by rfl) (Sc:pG Ú3 Ú3 Ì4:=by show gD) (hb:jA st Å7 Ú3:=by show λ _ _ _ _ _ _=>We λ _=>rfl) (hl:Î5 ("self":Str)=↑.local:=by rfl)
  (hs:∀ env:Env,ß8 Ò2 ↑(û6) pos.line env=í3:=by show λ _=>rfl):Zn à (k+1):=by
 exact Eu F X G Sc hb λ f AF A outer s H E=>?_;rw[e];show wa (KH hk (ze 0 rfl (Or.inl hl)) (hs _))
def Er (hk:mr K) (F:Fk K "keep" "Desk.keep" st) {p1 p2 p3 p4 p5 p6 p7 p8:Pos}Õ4(e:xV st=[.Assign [Ð9] (Ď "floor" p5) p6,.Return ↑(.Constant (Ú4) n p7) p8]:=by rfl) (Sc:pG Ã5 Ã5 Ì4:=by show gD)
  (hb:jA st "keep" "Desk.keep" Ã5:=by show λ _ _ _ _ _ _=>Wc λ _ _ _=>rfl) (hl:Î5 ("self":Str)=↑.local/\Î5 ("name":Str)=↑.local/\Î5 ("floor":Str)=↑.local:=by show#[rfl,rfl,rfl])
  (hs:∀ env:Env,ß8 (Ď "floor" p5) ↑(Ð9) p6.line env=í3:=by show λ _=>rfl):iD à "keep" (k+1) Ã5 (pb mC):=by
 exact#[Rn F Sc hb (λ ks ts ys r h=>?_) λ f AF A outer s H E hr=>#[_,?_,λ ds S Q h=>HJ rfl h]]
 .unfold mC at h;split at h
  .rfl
  .cases h
 .rw[e];show xK (KI hr hk (ze 0 rfl (Or.inl hl.1)) (ze 1 rfl (Or.inl hl.2.1)) (ze 2 rfl (Or.inl hl.2.2)) rfl (hs _)) (wa (wc we))
def MA Â9{ks:õ0}{ts ys:ġ}{r:T× õ0 × ġ}(h:lX N f1 f2 c ga ks ts ys=↑r):Þ4+1=2:=by
 unfold lX at h;split at h
 .rename_i hl;rw[hl.1]
 .cases h
def KC þ{sts:Ü2}:yT X sts X0:=Ä7
def Ep Â9{s1 s2 s3:Stmt}{rest:Ü2}(F:Fk K "say" "Desk.say" st) (Sc:pG N ó1 Ì4) (hb:jA st "say" "Desk.say" ó1) (he:xV st=s1::s2::s3::rest)
  (hbody:∀ Ö,y6 k (A.deeper (envOfC "Desk.say" Ì4 Á f AF))->
   ∃ te1 te2 tc ua tx,(zw Ì5 s1 (p9 te1 (hName 2))/\zw Ì5 s2 (p9 te2 (hName 3))/\zw Ì5 s3 á7)/\qA f1 te1/\qA f2 te2/\qJ c tc/\oU ga ua):
  iD à "say" (k+1) ó1 (pb (lX N f1 f2 c ga)):=by
 exact#[Rn F Sc hb (λ ks ts ys r h=>MA h) λ f AF A outer s H E hr=>?_];let#[te1,te2,tc,ua,tx,#[h1,h6,h7],h2,h3,h4,h5]:=hbody Ê1 hr;rw[he];show#[_,xK h1 (xK h6 (xK h7 KC)),λ ds S Q h=>M5 h2 h3 h4 h5 h]
end
end L5
namespace L2
open ø Ê Ã
def nK Ŵ:É:=x.cps.toList.map λ c=>#[[c].toArray]
def Wx Ŵ:It:=#[λ i _=>i<x.cps.size,λ i H v H'=>H'=H/\∃ c,x.cps[i]?=↑c/\v=ä #[[c].toArray],λ i _=>x.cps.size<=i]
def OZ ĕ{tg:Expr}Ŵ (t:Tok) (it:Addr):Turn P w K tg (Wx x) [it] it (λ i h=>h.IsStrIter it "str_ascii_iterator" x t i) where
 mem:=#[]
 obj:=λ i h st b hb=>by
  have e:b=it:=by exists hb
  subst e;let#[o,e,c,d]:=st;show#[o,e,λ v z=>by rw[d] at z;cases z]
 keep:=λ i h h' st k=>by
  let#[o,e,c,d]:=st;show#[o,k it #[] o e,c,d]
 item:=by
  ext Ø9;have hx:x.cps[i]?=↑(x.cps[i]'hg):=zB8 hg;exact wpAny_pyNext_ascii_item st hx λ h' st' sb=>?_;have I1:Inv X gV B H { s with heap:=h',toks:=į+1 }:=I.turned (t':=į+1) (λ b o hb e=>(sb.2 b hb).trans e) f0 f1 f3 f4 f5;let#[o,e,c,d]:=id st';show#[_,rfl,bV (s:={ s with heap:=h',toks:=į+1 }) e c d () #[ä #[[x.cps[i]'hg].toArray],H,I1,á5,#[rfl,_,hx,rfl],st',λ b hb=>(hf b hb).1]]
 done:=by
  ext Ø9;show wpAny_pyNext_ascii_end (É3) st (zaY hg) λ h' eb=>#[rfl,I.turned (t':=į) (λ b o hb e=>eb b o hb e) f0 f1 f3 f4 f5]
 self:=λ _ _ _ _ _ st h=>wpAny_pyIter_striter_ascii st h
section
variable {þ}{tg:Expr}
def Gp (tl:TE):TI:=fun B H R=>tl B H λ v H1=>∃ x,v=ä x/\Ú5/\R (Wx x) H1
def LU {l:Expr}{tl:TE}(hl:PE X l tl):PI X tg l (Gp tl):=by
 intro gV s B H R I h;exact zG (hl à6) λ v s1 #[y,H1,I1,r1,q1]=>?_;let#[x,e,ha,q]:=q1;subst e;let#[t,rfl]:=r1;exact wpAny_pyIter_ascii ha ?_;exact#[ŗ,[ŗ],_,_,H1,rfl,I1.kept (t':=s1.toks) λ b o e=>ì9,OZ x t _,#[_,ť,rfl,rfl],λ b hb=>?_,q];have e:b=ŗ:=by exists hb
 subst e;show I1.eL ã9 (I1.zH.fresh ã9)
end
end L2
namespace L3
open ø Ê L2
open Ã hiding St
section
variable {þ}{tg l:Expr}{te:zx}
def dH.text ţ{H1:Hp}È1:dH K H1 (Wx x) ï3:=λ i H S _ x2 _=>by
 exact#[λ d hd=>?_,λ hl=>show x.cps.size<=i by simpa [nK] using hl];have hd':((nK x).map D.str)[i]?=↑d:=hd;unfold nK at hd';rw[A4,A9] at hd';let#[c,e1,rfl]:=A_.mp hd';have hi:i<x.cps.size:=ò6
 exact#[hi,λ v H' q=>?_];let#[rfl,c',e2,rfl]:=q;rw[zD3,e2] at e1;cases e1;show#[.refl _,x2,by simp![zj,Function.comp]]
def Sd (te:zx):qV:=fun Y S R=>te Y S λ d S1=>∃ x,d=ä x/\Ú5/\R ï3 S1
def vy (h:PD X l te):yv X tg l (Sd te):=by
 exact#[fun Y S Q Q' hq z=>h.mo Ŷ (λ d S1 #[x,a,b,c]=>#[x,a,b,hq Õ c]) z,PI.imp (LU h.pe) ù4];ext Î;exact Ö2 h.mo Ķ;let#[x,rfl,a,b]:=h1;ext Ê3;show#[x,q1,a,b _ H1 e1 p1 .text]
end
end L3
namespace L5
open ø Ê L2 L3
open Ã hiding St
@[simp] def Sq (f:AD):œ:=fun J=>Ç2 λ y=>match y with
 | ä x=>if Ú5 then ↑((nK x).map T.str) else none
 | _=>none
theorem VM ů:∀ ss:É,zp S á6 Ü3
 | []=>Û8
 | s::ss=>ł nJ (VM ss)
def tE {b:Bool}Õ0(hf:ú2):lH b (Sq f) (Sd te):=λ S Z Y J ts Q hE e hq=>by
 let#[y,e1,e2]:=ę;exact hf À8 y _ hE ĳ;split at e2
 .rename_i x;split at e2
  .rename_i ha;cases e2;cases Vw.str r1;show#[x,rfl,ha,hq _ S1 s1 (VM _) λ _ _=>Ì0]
  .cases e2
 .cases e2
end L5
namespace L2
open ø Ê Ã Builtin å9
section
variable {Ó}{A:Ñ7}{Ò5}{À4}{x y:Str}{t u v:Tok}{k:Int}
def Md Ø2(hy:(é3 == 0)=Þ) (hk:(ĥ (k < -(2 ^ 63:Int))||ĥ (k≥2 ^ 63))=Þ) (hsz:ô9<=ß) (hsz2:(Ò1 x (Ã0) é3).length<=ß)
  (hq:∀ (l:è4) â8,l.map õ=Txt.splitMax x y k->Q Ï5 { s with heap:=â5,toks:=n }):
  ĩ Ï (call (Í5 "str.split") [ä x t,ä y u,ė k v]) à0:=by
 cases h1:Ð8
 .cases hf:(Ã0).isEmpty
  .exact À9 Ñ5 (meets_str_split_sep_max ü8 hy hf hsz hsz2) ?_;change wants Q E _ { s with toks:=_,heap:=Ü { cls:=Õ9,data:=.seq (strsFrom į (Ò1 x (Ã0) é3)).toArray } };ext ĝ
  .show À9 Ñ5 (meets_str_split_max_not_found ü8 hy hf)
    Ã9
 .show À9 Ñ5 (meets_str_split_max_cannot_occur ü8)
   î7
variable {þ}
def cO (a b:Str) (k:Int):Prop:=b.length≠0/\(0<=k/\k<=1000)/\Í7<=ß/\(Ò1 a (û0 a b 0 Í7 (limitOf a k)) b.length).length<=ß/\(Txt.splitMax a b k).length<=ß
def Ur:Č:=λ x vs H Q=>∃ a b k,x=ä a/\vs=[ä b,ė k]/\cO a b k/\∀ l,á1->Q ſ (upd H l (ě (ŵ ò3)))
theorem IB:lI X "str.split" Ur:=by
 ext ģ;let#[a,b,k,rfl,rfl,#[h1,h0,h2,h3,h4],q]:=h;ext Ñ1;cases rv with
 | cons r1 rv=>
  let#[_,rfl,u2,rfl]:=(show Vals [V.int k] _ from rv).one;let#[u,rfl]:=r1;exact Md (by exists h1) (by rw[Bool.or_eq_false_iff,decide_eq_false_iff_not,decide_eq_false_iff_not];lia) h2 h3 λ l n e=>?_;show#[Å Á,_,ç3 (t':=n) (o:=ě (ŵ ò3)) À1,rfl,q _ (Į)]
def Cc:xC X (ŀ "int") (λ xs H Q=>∃ a n,xs=[ä a]/\ó2=↑n/\Í7<=640/\Q (ė n) H):=by
 ext Ł;let#[a,n,rfl,h1,h2,q]:=h;let#[_,rfl,t,rfl]:=r.one;show PySem.W.KIN.call_text h1 h2 î6
end
end L2
namespace L5
open ø Ê L2 L3
open Ã hiding St
section
variable {þ}{ţ}{a b e:Expr}{ý}{ta tb:zx}{È2}
def mI:xA:=λ x y S Q=>(∃ u v,x=ä u/\y=ä v/\Q Ø1 S)\/mJ Þ x y S Q
def U3:R2:=λ x y H Q=>∃ u v,x=ä u/\y=ä v/\Q Ø1 H
def Tb:yO X (ç8 .In) U3:=by
 intro gV s B H x y v w Q I rx ry h;let#[u,z,rfl,rfl,q]:=h;ext Ñ1;let#[t',rfl]:=ry;show PySem.P.in_str Ã8
theorem mI.mo:rZ mI:=λ x y S Q Q' hq h=>Û3 (λ#[u,v,a,b,c]=>Ý3 #[u,v,a,b,hq Õ c]) λ h=>ŏ (mJ.mo x y S Q Q' hq h)
theorem mI.fits:rO K mI (λ x y H Q=>U3 ï7\/cZ K Þ ï7):=λ x y d e H S Q h1 h2 h3 h=>by
 rcases h with ⟨u,v,rfl,rfl,c⟩ | h
 .ext Ó6;show Ý3 #[u,v,h1,h2,c Ô5 h3]
 .show ŏ (mJ.fits x ê4 h)
def u7 Ŭ ð (hm:ê0 .In b=Þ):PD X (Ç9 a [.In] [b] pos) (yW mI ta tb):=jK Ý9
def wZ Ŭ ð (hm:ê0 .In b=Þ):zD X (Ç9 a [.In] [b] pos) (pz (yW mI ta tb)):=ka Ý9
def xx:Î9:=λ x y=>match x,y with
 | ä u,ä v=>↑ Ø1
 | x,y=>qm Þ x y
def rK:Good2 zl xx mI:=λ S Z x y z d e Q hz hx hy ef hq=>by
 unfold xx at ef;split at ef
 .cases ef;cases hx.str;cases hy.str;show Ý3 #[_,_,rfl,rfl,ā]
 .show ŏ (wG S Z Õ z d e Q hz hx hy ef hq)
def Rr:x9:=λ ds S Q=>∃ a n,ds=[ä a]/\ó2=↑n/\Í7<=640/\Q (ė n) S
def u4 (hm:X.mg "int"=none) Ų (hg:Gl X "int") Ċ:PD X (Ě (Ď "int" p) Đ Á2) (qp Rr tA):=
 m6 (jI Cc hg hm PyProof.Rows.boot_int ï9 he AV) (λ ds S Q Q' hq #[a,n,h0,h1,h2,h3]=>#[a,n,h0,h1,h2,hq Õ h3]) (λ xs ds H S Q h0 h2 h=>by
  let#[a,n,rfl,h1,h3,h]:=h;ext ë8;show#[a,n,rfl,h1,h3,h Ô5 h2]) Ù7
@[simp] def mE:AG
 | [ä a]=>if Í7<=640 then (ó2).map ė else none
 | _=>none
def rJ:qX zl mE Rr:=λ S Z ys z ds Q hz hv e hq=>by
 unfold mE at e;ext õ4
 .ext õ4
  .rename_i hl;let#[n,e1,rfl]:=A_.mp e;ext Ů;cases h1.str;show#[_,n,rfl,e1,hl,hq _ Â1 (Cl.of Ń pH)]
  .cases e
 .cases e
def jb:x9:=λ ds S Q=>∃ a b k,ds=[ä a,ä b,ė k]/\cO a b k/\∀ l,ì2->Q ſ (ups S l (ě (ŵ D.str)))
def jb.mo:qK jb:=λ ds S Q Q' hq #[a,b,k,h0,h1,h2]=>#[a,b,k,h0,h1,λ l hl=>hq Õ (h2 l hl)]
def jb.fits:pO K jb λ xs H Q=>∃ x rest,î8/\Ur ü7:=λ xs ds H S Q h0 h2 h=>by
 let#[a,b,k,rfl,ok,h]:=h;simp![zu,zj] at h0;let#[_,_,rfl,rfl,_,_,rfl,rfl,_,_,rfl,rfl,rfl]:=h0;exact#[_,_,rfl,a,b,k,rfl,rfl,ok,λ l hf=>?_];have hx:Ext H (upd H l (ě (ŵ ò3))):=ö6;show Ë7
end
section
variable {þ}{o e e2:Expr}{to:zx}{Û1}{Î3}
def vL Ĵ (ha:y7 X [e,e2] tA)
  Ð6
  (AJ:((ä5 AA (ē [e,e2] Í)).all æ1&&ç
   && ĥ ([e,e2].length+Â4+Ē<30))=true)
  ĭ (hs:ē [e,e2] Í=(Þ,û3)::ē [e2] Í) (hplain:A3 X AA [e2]):
  PD X (Ě (Ý o "split" apos) [e,e2] [] AA) (oQ jb to tA):=
 bj À7 IB jb.mo jb.fits ho ha Ā
instance insTx4 (a b:Str) (k:Int):ú8 (cO a b k):=inferInstanceAs (ú8 (_/\_))
@[simp] def cN:AG
 | [ä a,ä b,ė k]=>if cO a b k then ↑(ě (ŵ T.str)) else none
 | _=>none
def rn:qX zl cN jb:=λ S Z ys z ds Q hz hv e hq=>by
 unfold cN at e;ext õ4
 .ext õ4
  .rename_i ok;cases e;let#[_,_,rfl,h1,_,_,rfl,h2,_,_,rfl,h3,rfl]:=hv;cases h1.str;cases h2.str;cases h3.int;show#[_,_,_,rfl,ok,ë3]
  .cases e
 .cases e
end
end L5
namespace L3
open ø Ê L2
open Ã hiding St
def j0 Ð4 (q:Str× ô) (e:DictEntry):Prop:=∃ t,e=#[PyData.keyHash w.params q.1,ä q.1 t,q.2]
def KTab ő Ð4 û9 Ŵ (zV:ň):Prop:=∃ a es ep,mg x=↑ Ï4/\ŷ
abbrev fh (zV:ň):List (Key× ô):=zV.map λ q=>(ŏ q.1,q.2)
theorem Rx {P:ö7}Ø3:∀ {zV:ň}{es:List DictEntry},Ö0 (j0 w) zV es->(∀ e∈es,∃ k,(qk P w).is k e.key=true/\e.hash=(qk P w).hash k)/\Pairs (qk P w) es (fh zV)
 | _,_,Û8=>#[λ _ h=>(nomatch h),Û8]
 | q::zV,e::es,ł r t=>by
  let#[tk,rfl]:=r;let#[h1,h2]:=Rx (P:=P) t;exact#[λ e he=>?_,ł (fY q.1 tk) rfl h2];rcases AL.mp he with rfl | he
  .show#[ŏ q.1,fY q.1 tk,rfl]
  .show h1 e he
def OJ (zV:ň) (h:û7):((fh zV).map õ).Nodup:=by
 rw[A4];have:zV.map ((λ(q:Key× ô)=>q.1) ∘ λ q=>(Sum.inr q.1,q.2))=(Ð2).map Sum.inr:=by rw[A4];rfl
 rw[this];show List.Pairwise.map _ (λ a b hab z=>hab (Sum.inr.inj z)) h
theorem KTab.at þ Ô8 Á0 À4 Ő ô0{zV:ň}(I:İ) (h:X.K.lookup a=↑ Ê7) (r:Ö0 (j0 X.w) zV Þ6) (nd:û7):s.heap.DictOf (qk Ò4) a (fh zV):=by
 let#[h1,h2]:=Rx (P:=X.prog) r;show#[_,es,ep,I.rX a _ h,#[rfl,rfl,rfl],rfl,λ e he=>h1 e (by exists he),h2,OJ zV nd]
def xg (zV:ň) Ŵ:È ô:=(zV.find? λ q=>ĥ (q.1=x)).map ŭ
def Vn (zV:ň) Ŵ:valueAt (fh zV) Ò3=xg zV x:=by
 unfold valueAt xg fh;rw[List.find?_map,Option.map_map];congr 1;congr 1;funext q;simp
section
variable {þ}{i:Expr}{ti:zx}{pos p AA:Pos}{È1}{zV:ň}
def Ve {gV:AN}À4{B:St}Á0 Ø2{t:TE}ü9 (hi:PE X i t) (I:İ) (h:t B H λ v H1=>∃ y u,v=ä y/\xg zV y=↑u/\∀ s1,Inv X gV B H1 s1->Q u s1)
  ų (hs:i5 i) â0:ĩ Ĭ (eval Ç0 Í) Q X.xe s:=by
 ext à8;exact V9 PySem.F.slot_dict_getitem.lookup hs (gh I hg h1 (zG (hi à6) λ iv s2 #[v,H2,I2,rv,y,u,ey,eu,q]=>?_) hdb);subst ey;let#[t,rfl]:=rv;have dd:=KTab.at I2 h2 h3 h4;show#[dd.typeIs,wpAny_getItem_of (k:=Sum.inr y) (fY y t) dd.mapOf (by rw[Vn];show eu) (q _ (I2.tok _))]
def Xz (ks:É) (ti:zx):xb:=fun Y S Q=>ti Y S λ d S1=>∃ y,d=ä y/\Q (!(ks.any λ k=>ĥ (k=y))) S1
def KA ü9 (hi:PD X i ti) ų Õ8:zD X ó3 (Xz (Ð2) ti):=by
 exact#[fun Y S Q Q' hq z=>hi.mo Ŷ (λ d S1 #[y,a,b]=>#[y,a,hq Õ b]) z,PT.imp (UA (t:=fun B H Q=>zU X.K ti B H λ v H1=>∃ y,v=ä y/\Q (.bl (!((Ð2).any λ k=>ĥ (k=y)))) H1) (λ gV s B H Q I h=>?_) hm) Ō]
 .ext à8;exact zG (hi.pe à6) λ iv s1 #[v,H1,I1,rv,y,ey,q]=>gh I1 hg h1 ?_ hdb;subst ey;let#[t,rfl]:=rv;have dd:=KTab.at I1 h2 h3 h4;exact wpAny_notIn_of (k:=Sum.inr y) (fY y t) h0 dd.mapOf #[.bl _,H1,I1.tok _,?_,q];rw[Vn];have:(xg zV y).isSome=(Ð2).any λ k=>ĥ (k=y):=by
   unfold xg;rw[zbZ,zbQ,zC7,List.find?_isSome,zD0];rfl
  rw[this];rfl
 .ext Î;exact Ö2 hi.mo Ķ;let#[y,rfl,h1]:=h1;ext Ê3;show#[y,q1,_,rfl,h1 H1 e1 p1]
def aW ő Ð4 û9 Ŵ (tab:Ş):Prop:=∃ zV,ó4/\Ü8
def RI (tab:Ş) (ti:zx):zx:=fun Y S Q=>ti Y S λ d S1=>∃ y ss,d=ä y/\É5 y=↑ss/\Q (À6 Ü3) S1
theorem SX ţ{y:Str}Ð5:∀ õ9{zV:ň},Ü8->É5 y=↑ss->∃ a,xg zV y=↑ Ï4/\ï1
 | _,_,Û8,h=>nomatch h
 | (k,us)::tab,(k',v)::zV,ł #[e,a,ea,hs] t,h=>by
  dsimp only at e ea hs;subst e ea;rw[za7] at h;unfold xg;rw[zaL];cases q:(y == k) with
  | true=>
   rw[q] at h;cases h;rw[beq_iff_eq] at q;subst q;simp![decide_true,Option.map_some];show#[a,rfl,hs]
  | Þ=>
   rw[q] at h;have AW:¬ k=y:=λ z=>by subst z;simp at q
   simp![AW,decide_false];show SX t h
theorem vH Ñ3 ų (hs:i5 i) â0:PD X Ç0 (RI tab ti):=by
 let#[zV,hk,hp]:=hk;exact#[fun Y S Q Q' hq z=>hi.mo Ŷ (λ d S1 #[y,ss,a,b,c]=>#[y,ss,a,b,hq Õ c]) z,ß9];ext Î;exact Ve hk ö0;let#[y,ss,rfl,h2,h3]:=h1;ext Ê3;let#[a,e2,e3]:=SX hp h2;show#[y,_,q1,e2,λ s1 I1=>#[Å a,H1,I1,rfl,h3 _ H1 (by ext è3;show#[a,_,rfl,e3 _,zu.fR _]) e1 p1]]
def va Ñ3 ų Õ8:zD X ó3 (Xz (tab.map õ) ti):=by
 let#[zV,hk,hp]:=hk;have e:tab.map õ=Ð2:=by
  clear hk
  induction hp with
  | nil=>rfl
  | cons r _ ih=>rw[AR,AR,ih,r.1]
 rw[e];show KA hk hi hg hm hdb
structure Ww ñ Ŵ Ô2 (ps:É) (tab:List (Str×q8)):Prop where
 ex:∃ zV,ó4/\∀ y sp,É5 y=↑sp->∃ f fd kk,(xg zV y=↑ Ö8/\kk<=k)/\qY à xj kk f fd ps (pR K sp)/\Binds K fd ps []/\ś
 mo:∀ y sp,É5 y=↑sp->jw sp
def Qa (tab:List (Str×q8)) (ti:zx) (tA:yy):zx:=fun Y S Q=>ti Y S λ d S1=>∃ y sp,d=ä y/\É5 y=↑sp/\tA Y S1 λ ds S2=>sp ds S2 Q
def uQ {tab:List (Str×q8)}Ë2 ý Û1{k k':Nat}ð3(F:Ww Ă x k ps tab) Å3 (hi:PD X i ti) Ų ã2 ų (hs:i5 i) â0
  (he:AY X e es) (AV:A3 X AA es)
  (hc:eval (Ě Ç0 Đ [] AA) Í=(do callWith AA (<- eval Ç0 Í) [] (ä5 AA (ē Đ Í)) (backToKw AA Ð1))):
  PD X (Ě Ç0 Đ [] AA) (Qa tab ti tA):=by
 let#[#[zV,hk1,hk2],hmo]:=F;exact#[fun Y S Q Q' hq z=>hi.mo Ŷ (λ d S1 #[y,sp,a,b,c]=>#[y,sp,a,b,Ù7 Ô3 (λ ds S2 z=>hmo y sp b _ S2 Õ hq z) c]) z,ß9];ext Î;exact Call_ (Ve hk1 ö0) hc;let#[y,sp,rfl,h2,h3]:=h1;ext Ê3;let#[f,fd,kk,#[g1,g0],g2,g3,g4]:=hk2 y sp h2;exact#[y,_,q1,g1,λ s1 I1=>?_];have q:rR X.K tA B H1 λ vs H2=>pR X.K sp vs H2 Q E0:=#[Y,S1,Á9,p1,Ù7 Ô3 (λ ds S2 z xs H2 a1 a2 a3=>#[ds,S2,a1,a3,hmo y sp h2 Ý8]) h3];exact é6 (h₀:=X.base) I1.ok.mod.gi g4 (zG (ha.pa AA Ô9 q) Ó3) he AV;show cT (dvs:=[]) (E:=E0) g2 (hr.mono (A7 g0 hk)) g3 Û8 fM I2 r (by rw[zaB];show q2)
end
end L3
namespace L5
open ø Ê L2 L3
open Ã hiding St
section
variable {Õ0}
@[simp] def ZD (ks:É) (f:AD):Ï7:=fun J=>Ç2 λ y=>match y with
 | ä x=>↑!(ks.any λ k=>ĥ (k=x))
 | _=>none
def sj {ks:É}(h:ú2):qJ (ZD ks f) (Xz ks te):=λ S Z Y J y Q hE e hq=>by
 ext Ò6
 .cases e2;show h æ7 e1 λ d S1 s1 r1=>#[_,Vw.str r1,hq S1 s1]
 .cases e2
@[simp] def cE (tab:Ş) (f:AD):AD:=fun J=>Ç2 λ y=>match y with
 | ä x=>(É5 x).map λ ss=>À6 á6
 | _=>none
def sk õ9(h:ú2):xY (cE tab f) (RI tab te):=λ S Z Y J y Q hE e hq=>by
 ext Ò6
 .let#[ss,e3,rfl]:=A_.mp e2;show h æ7 e1 λ d S1 s1 r1=>#[_,ss,Vw.str r1,e3,hq _ S1 s1 (Cl.of Ń (lW (f7 _)))]
 .cases e2
@[simp] def Wh (tab:List É6) (f:AD) (g:œ):AD:=fun J=>Ç2 λ y=>match y with
 | ä x=>(É5 x).bind λ F=>(g J).bind F
 | _=>none
theorem bI {α β:Type}(h:α->β) (y:Str):∀ tab:List (Str × α),(tab.map λ q=>(q.1,h q.2)).lookup y=(É5 y).map h
 | []=>rfl
 | (k,v)::tab=>by
  rw[AR,za7,za7];cases (y == k) with
  | true=>rfl
  | Þ=>show bI h y tab
def yb Ø4 [Lo R] {tab:List É6}{g:œ}{u:yy}(hf:ú2) (h:jt g u):zN R (Wh tab f g) (Qa ï4 te u):=λ S Z Y J y Q hE e hq=>by
 ext Ò6
 .let#[F,e3,e4]:=í1 e2;let#[xs,e5,e6]:=í1 e4;exact hf æ7 e1 λ d S1 s1 r1=>#[_,_,Vw.str r1,(bI Õ _).trans (congrArg _ e3),?_];exact h ó6 xs _ ô3 e5 î9;show#[Z,xs,y,ð6,r2,e6,λ d S' s r=>hq d S' (ú s) (Cl.cl Á8 r)]
 .cases e2
end
section
variable {ţ}{Ø3}{mg:A0}{Ú7}{È1}{zV:ň}
def lJ ő Ð4 Ŵ (zV:ň):Prop:=∃ a es ep,ñ4/\ŷ
def lJ.mk (H:Ú6) ë:ó4:=by
 let#[a,es,ep,h1,h2]:=H;show#[a,es,ep,Í6 X G h1,h2]
def Rz {a:Str}{b:ô}{t:Tok}{es:List DictEntry}(h:Ö0 (j0 w) zV es):Ö0 (j0 w) ((a,b)::zV) (#[PyData.keyHash w.params a,ä a t,b]::es):=ł #[t,rfl] h
def Ry:Ö0 (j0 w) [] []:=Û8
def lJ.i Ő ô0(h1:ñ4) (h2:õ1 a=↑ Ê7) (h3:Ö0 (j0 w) zV Þ6) (h0:(a == sysModules)=Þ) (h4:û7):Ú6:=#[a,es,ep,h1,h0,h2,h3,h4]
def dD ő (q:Str× É) (r:Str× ô):Prop:=Ż
def gS ő Ð4 Ŵ (tab:Ş):Prop:=∃ zV,Ú6/\ï5
theorem gS.mk õ9(H:gS K w x tab) ë:aW K w mg x tab:=by
 let#[zV,h1,h2]:=H;show#[zV,h1.mk X G,h2]
def Nl {k:Str}Ð5 Ő{o:Obj}{its:A1}Õ4 õ9 ŝ (h:ï5):Ö0 (dD K) ((k,ss)::tab) ((k,Å a)::zV):=
 ł #[rfl,a,rfl,Õ6] h
def Nk:Ö0 (dD K) [] []:=Û8
def gS.i õ9(h1:Ú6) (h2:ï5):gS K w x tab:=#[zV,h1,h2]
def gT ő Ð4 Ŵ (ys:ë9):Prop:=∃ zV,Ú6/\∀ q∈ys,∃ f,L3.xg zV q.1=↑ Ö8/\ñ7 K æ2 q.2=↑↑ Ö8
def gT.i {ys:ë9}(h1:Ú6) (h2:ys.all (λ q=>match L3.xg zV q.1 with | some Ö8=>ñ7 K æ2 q.2 == ↑↑ Ö8 | _=>Þ)=true):gT K w x ys:=#[zV,h1,λ q hq=>by
 have:=zE4.mp h2 q hq;split at this
 .rename_i f e;show#[f,e,beq_iff_eq.mp this]
 .cases this]
def Zq ñ (ys:ë9) Ô2 (ps:É) (R:Rk) (tab:List É6):Prop:=∀ y F,É5 y=↑F->∃ d kk,(y,d)∈ys/\kk<=k/\FD à d kk ps (zM R F)
def C9 Æ1 Ü7 ð3 Ø4:Zq à ys k ps R []:=λ _ _ e=>nomatch e
def Wg Æ1{k kk:Nat}ð3 Ø4{tab:List É6}{y d:Str}{F:AG}(hf:FD à d kk ps (zM R F)) (h:Zq à ys k ps R tab) (h0:(y,d)∈ys) (hk:kk<=k):Zq à ys k ps R ((y,F)::tab):=λ x G e=>by
 rw[za7] at e;cases q:(x == y) with
 | true=>rw[q] at e;cases e;rw[beq_iff_eq] at q;subst q;show#[d,kk,h0,hk,hf]
 | Þ=>rw[q] at e;show h x G e
theorem gT.mk Æ1{tab:List É6}Ü7 ð3 Ø4(H:gT K w x ys) ë
  (hd:Zq à ys k ps R tab):Ww à x k ps ï4:=by
 let#[zV,h1,h2]:=H;exact#[#[zV,h1.mk X G,λ y sp e=>?_],λ y sp e=>?_]
 .ext ò0;let#[d,kk,m1,m2,#[f,fd,g1,g2,g3,g4],_]:=hd y F e1;let#[f',e2,e3]:=h2 _ m1;have:=Í6 X G e3;rw[g2] at this;cases this;show#[f,fd,kk,#[e2,m2],g1,g4,g3]
 .ext ò0;show zM.mo
end
end L5
namespace L5
open ø Ê L2 L3
open Ã hiding St
def Cm û9 Ŵ (t:V):Prop:=∃ u,mg x=↑u/\ú7
def Hs (_:List (É × Õ1)):Prop:=True
def Hq (s:Scope) (n:É):Bool:=s.names.all (λ y=>!(Ó4)||y.1 == ".0"||n.elem y.1)&&(s.names.filter λ y=>Ó4).length == n.length+1
def Ht (_:É) (_:Õ1):Prop:=True
section
variable {n:É}{p:Õ1}{x:É × Õ1}{r:List (É × Õ1)}
def Hs.a (_:Hs ((n,p)::r)):Ht n p:=Ì0
def Hs.b (_:Hs (x::(n,p)::r)):Ht n p:=Ì0
end
section
variable {þ}{N' N:É}{pick:Õ1}{scope esc:Scope}{tg iter elt:Expr}{ifs:List Expr}{ti:qV}{g:qq}{tcc:xb}{te:zx}{Ó8}
def pl Ù0 (Sc:kI X N' pick scope) æ Ù1:
  PD X Ũ (mN pick ti g tcc te):=KQ ŕ hs
def wK {a b:Expr}Ü7{t:pC}(h:gP X Ì2 t) ĺ (hn:(í4 Ì2 Í).length=2) (A5:(í4 Ì2 Í).findIdx? õ=none):mq X (.Tuple Ì2 k pos) (gA 2 t):=UM h hc hn A5
def wJ {a b c:Expr}Ü7{t:pC}(h:gP X Ú0 t) ĺ (hn:(í4 Ú0 Í).length=3) (A5:(í4 Ú0 Í).findIdx? õ=none):mq X (.Tuple Ú0 k pos) (gA 3 t):=UM h hc hn A5
def uB {x y:Str}(h:Cm X.mg x (ä y)) Å2:PD ũ (dC (ä y)):=let #[_,a,b]:=h;KR a b hg hd
def uC È1{n:Int}(h:Cm X.mg x (ė n)) Å2:PD ũ (dC (ė n)):=let #[_,a,b]:=h;KS a b hg hd
def yB ü2{y:Str}{py spos:Pos}Ù0 (hn:X.N.Nodup) (Sc:kI X N' pick scope)
  (hsw:ß8 Ũ ↑(Ď y py) spos.line Í=pure true) æ (hy:X.N[i]?=↑y) (hx:Loc û4 y)
  (hfn:X.fn y=true\/X.env.scope.names.lookup y=↑.local) Ù1:
  zw X (.Assign [Ď y py] Ũ spos) (p9 (mN pick ti g tcc te) (hName i)):=KG ŕ hn hy hx hsw hfn hs
end
abbrev Oe ñ (N:É) Ŵ â9 Ô2 (hs:List (É × Õ1)) (Φ:Cx->Prop):Prop:=
 ∀ Ö,Hs hs->N.Nodup->(ß6).rf.N=N->(ß6).rf.env.scope=yk st->ã0->Φ (ß6).rf
abbrev WU (x q:Str) â9 (ps:É):Prop:=∀ Â5,À3=é2->bindArgs (Ë5 x q Ê0) #[us,[]]=ó0
)
example:=`(
example À:=(zc 0)
example Á:=(cI 0)
example Â:=(cI 1)
example Ã:=(zc 1)
example Ä:=(zb zi À Á)
example Ø:=(zk 1)
example Č:=(za Ø zh)
example È:=(zk 0)
example Å:=(za È Č)
example Æ:=(zS false)
example Ĩ:=(yk st)
example Ď _:=x AF A outer s H E
example æ _:=x P w K mg base
example Ç:=wj xj æ N "Desk.say" Ĩ f Ď
example ê:=.str
example É:=(cS (ê " "))
example ß:=(cI 2)
example Ê:=(zb zi À ß)
example Ë:=(zb zi À Â)
example Ì:=(zc 2)
example Í _:=x (retS (cS (.bl false))) yo
example ĭ:=(zJ 0)
example Î:=(o7 2 (rY ĭ (rY (zJ 1) nR)))
example Ï:=(cS .zA)
example Ð:=(zc 3)
example Ñ:=λ f AF A outer s H E hr=>hbody f Ď trivial Sc.nd rfl rfl hr
example Ò:=(cS (ê "keeper"))
example Ó:=by intro _ _ _ _ _ _;first | show We λ _=>rfl | show Wd λ _ _=>rfl | show Wc λ _ _ _=>rfl | show QS λ _ _ _ _=>rfl | show QR λ _ _ _ _ _=>rfl | show QQ λ _ _ _ _ _ _=>rfl
example Ô:=(za È zh)
example ć:=(cI 3)
example Õ:=(zb zi À ć)
example Ö:=(zk 2)
example Ù:=(za Ã zh)
example Ú:=(zc 4)
example Û:=(mP λ bs=>bs.all id)
example Ü _:=x ĭ xP
example Ý:=["floor","number","number","number"]
example ø:=(za (zb zi Ä Á) zh)
example ù:=(za (zb zi Ä Â) zh)
example Þ:=(xE (za (zb yg (zb yg (zb yg (cS (ê "brims ")) (zo yP ø)) É) (zo yP ù)) zh))
example à:=(zc 5)
example ă:=(za À zh)
example á:=(zo wD ă)
example â(hs:List (List Str×List (Option Nat))):=0
example ã(Sc:pG N ps Ĩ:=by show gD) (hn:n=ps.length:=by rfl):=0
example İ _:=x zi Ã
example ä:=(zb İ Á)
example Ċ:=(zk 3)
example å:=(za Ċ zh)
example ç:=(za Ä (za Ë (za (tupS (za Ê (za Õ zh))) zh)))
example è:=(retS Ï)
example é:=(zb İ Â)
example ë:=(zb İ ß)
example Ģ _:=x zi Ì
example ì:=(zb Ģ Á)
example í:=wj xj æ N x Ĩ f Ď
example î:=(qQ false)
example ï:=(za Ö zh)
example ð:=(zb zi à Á)
example ñ:=(za (cI 12) zh)
example ò:=(zS true)
example ó:=(za Ò (za (cS (ê "taker")) zh))
example đ:=(za (zk 5) zh)
example ô:=(tupS (za (zk 6) đ))
example õ(AF:Value) (A:Around) (outer:List Env) (s:Shared) (H:Hp) (E:XK):=0
example į:=(zc 8)
example ö:=(zo i9 (za Ø (za Ö (za Ċ (za (zb zi į Á) zh)))))
example ú:=(za Ë zh)
example û:=(zc 7)
example ü:=(cS (ê "ever"))
example ý _:=x [none] (xv À) Ü
example þ:=(zb zi Ð Á)
example ÿ:=(qe (xh (instS "tuple" À)))
example Ā:=(l8 (zo jy Å))
example ā:=["floor","place","pair"]
example Ă:=(xE zh)
example Ą:=[none,↑1]
example ĥ:=(zk 4)
example ą:=(za ĥ zh)
example Į:=(za Ö å)
example Ć:=(zo lL (za È (za (cS (ê "lasts")) Į)))
example Ĉ:=(l8 (zo dU (za È ï)))
example ĉ _:=x ĭ (zO (zb Æ (zb zi (zb zi ë À) Á) Ì))
example ċ:=(za Ì zh)
example č:=(tupS (za (tupS (za Á (za Á zh))) zh))
example ď:=(za (zk 6) zh)
example Đ:=(zc 6)
example Ē _:=x st k hs λ X=>∃ t,yT X (xV st) t/\yu R g t
example ē _:=x ↑ Â none
example Ĕ:=(retS Ø)
example ĕ:=(yi (qe (xh (instS "str" À))) lq yo)
example Ė:=["self","row","words","things"]
example ė:=(zb zi Ê Ì)
example Ę:=(zb zi Ð Â)
example ę:=(za Ø ï)
example Ě:=(za É zh)
example ě _:=x ["thing"] 1
example Ĝ:=["borders","joined","border"]
example ĝ:=(zO (zb Æ ì (cS (ê "floor"))))
example Ğ:=(zM R (zR N n g))
example ğ:=(tupS (za Á ñ))
example Ġ _:=x [none,none] (xN lN (za À Ù)) Î xP
example ġ:=(retS (rS lu (cS (ê "; ")) Ù))
example ģ:=["self","row"]
example Ĥ:=(gJ ["a","b"])
example Ħ:=(yi (zO (zb î Ú Ï)) è yo)
example ħ:=(zO (zb Æ (zb zi Ë Ã) Ò))
example ĩ:=(za Ê zh)
example Ī:=(zo yP ă)
example ī:=(cI 4)
example Ĭ:=(zo wD Ù)
def bA {x q:Str}{st:Stmt}{ps:List Str}(h:WU x q st ps:=by ext Ó):WU x q st ps:=h
section
variable {P:Program}{w:World}{K:AB}{mg:A0}{base:Heap}{x:Str}{st:Stmt}{N ps:List Str}{k n:Nat}{g:Sm}{R:Rk}[Lo R]
def yj â (F:Fy K mg x st)
  (hbody:Oe æ N x Ē)
  ã
  (hb:WU x x st ps:=by show bA):FD æ x (k+1) ps Ğ:=
 Ew F Sc hn hb Ñ
def Rh {m qual:Str}â (F:Fk K m qual st)
  (hbody:Oe æ N qual Ē)
  ã
  (hb:jA st m qual ps:=by ext Ó):iE æ m (k+1) ps Ğ:=
 Es F Sc hn hb Ñ
def Ek {f1 f2:AD}{c:Ev->Option Bool}{ga:Ev->Option (List T)}{s1 s2 s3:Stmt}{rest:List Stmt}â (F:Fk K "say" "Desk.say" st) (he:xV st=s1::s2::s3::rest)
  (hbody:∀ (f:Addr) õ,Hs hs->N.Nodup->(Ç).rf.N=N->(Ç).rf.env.scope=yk st->y6 k (A.deeper (envOfC "Desk.say" Ĩ s.heap.objs.size f AF))->
   ∃ te1 te2 tc ua tx,(zw (Ç).rf s1 (p9 te1 (hName 2))/\zw (Ç).rf s2 (p9 te2 (hName 3))/\zw (Ç).rf s3 (jk tc (jj (oz (pb mC) (yN 0) ua)) tx))/\qA f1 te1/\qA f2 te2/\qJ c tc/\oU ga ua)
  (Sc:pG N ģ Ĩ:=by show gD) (hb:jA st "say" "Desk.say" ģ:=by intro _ _ _ _ _ _;show Wd λ _ _=>rfl):iD æ "say" (k+1) ģ (pb (lX N f1 f2 c ga)):=
 Ep F Sc hb he Ñ
def Eb {f:Addr}{fd:FuncData}â (F:oW K x x st f fd)
  (hbody:∀ õ,Hs hs->N.Nodup->(í).rf.N=N->(í).rf.env.scope=yk st->y6 k (A.deeper (envOfC x Ĩ s.heap.objs.size f AF))->
   ∃ t,yT (í).rf (xV st) t/\yu R g t)
  ã:qY æ xj (k+1) f fd ps (pR K Ğ):=
 Rf F Sc hn λ AF A outer s H E hr=>hbody Ď trivial Sc.nd rfl rfl hr
end
end L5
namespace zY
open PySem L2 L3 L5
abbrev WW:Sm:=
 (retS (pA (instS "int" À) (bz (instS "bool" À))))
def gY:AG:=zR ě WW
abbrev dq:AD:=
 y_ [none,none] (xN lN (za À (za (oA À ē) zh))) Î xP (zb xk À Ã)
abbrev Vb:Sm:=
 (retS (zo Û (za dq zh)))
def iC:AG:=zR ["things"] 1 Vb
abbrev Af:Sm:=
 (retS (pA (instS "str" À) (zb xx À (tupS ó))))
def WJ:AG:=zR ě Af
abbrev Ol:Sm:=
 (retS (zo wD ú))
def gU:AG:=zR ["floor"] 1 Ol
abbrev O2:Sm:=
 (retS (pA (zb eK Ä ä) (zb eK Ë é)))
def dY:AG:=zR ["pair","other"] 2 O2
abbrev dw:Sm:=
 (yi (qo (qe (xh Ã)) (zO (zb xk (zb Ģ Â) (zb zi (zb İ (jM Â)) Â)))) (qU 1 Ö) yo)
abbrev Oo:Sm:=
 (zv (qT 1 Ă)
 (zv (qF [2] (xv (zo iQ ă)) (zJ 2) dw)
 (retS (zo m_ Ù))))
def i8:AG:=zR ["pairs","least","pair"] 1 Oo
abbrev QH:Sm:=
 (zv (qU 4 (lx (zO (zb Æ Ð Á)) (tupS (za (zk 5) ď)) ô))
 (zv (zP 5 (zb yg à ë))
 (zP 6 (zo i_ (za Á (za (zb qj Đ (zb İ ć)) zh))))))
abbrev BS:Sm:=
 (zv (zP 3 é)
 (zv (qT 4 Ă)
 (zv (zP 5 (zb Ģ Ð))
 (zv (zP 6 (zb Ģ (zb qj Â Ð)))
 (zv (cv 1000000 [] (zO (zb lr à (zb zi À Ð))) QH)
 (fE 4))))))
def WA:AG:=zR ["brims","stall","pair","purse","pairs","given","got"] 3 BS
abbrev Og:Sm:=
 (zv (zP 3 (oA ė ↑ ß none))
 (zv (zP 4 (zb yg ä þ))
 (zv (zP 5 (zb yg é Ę))
 (zv (yi (qo (zO (zb xk Ú Á)) (zO (zb xk à Á))) è yo)
 (retS (tupS (za (zo oM (za Ú ø)) (za (zo oM (za à ù)) zh))))))))
def W4:AG:=zR ["floor","pair","way","coins","first","second"] 3 Og
abbrev WX:Sm:=
 (zv (zP 4 é)
 (zv (zP 5 (zb qj (zb Ģ Ú) (zb wA Ð ë)))
 (zv (yi (zO (zb xk à Á)) è yo)
 (zv (zP 6 (zo oM (za (zb yg (zb Ģ (zb qj Â Ú)) (zb wA Ð (zb İ ć))) (za (zb zi À (zb qj Â Ú)) zh))))
 (zv (yi (zO (zb Æ Ú Á)) (retS (tupS (za (zk 5) ď))) yo)
 (retS ô))))))
def Zk:AG:=zR ["brims","stall","pair","times","purse","left","got"] 4 WX
abbrev BL:Sm:=
 (retS (zb yg (zb yg (zb yg (zb yg (zb yg (zb yg (zo yP (za Ä zh)) (cS (ê ">"))) (zo yP ú)) É) (zo yP ĩ)) É) (zo yP (za Õ zh))))
def W5:AG:=zR ["way"] 1 BL
abbrev BM:Sm:=
 (retS (zb yg (zb yg (zb yg (zb yg (zb yg (zb yg (zb yg (cS (ê "stall ")) (zo yP (za Ä zh))) É) (zb zi Ĥ Ë)) É) (zo yP ĩ)) É) (zo yP (za Õ zh))))
def W6:AG:=zR ["stall"] 1 BM
abbrev XY:Sm:=
 (yi (zO (zb Æ À (zo yP Ù))) Ĕ yo)
abbrev Oi:Sm:=
 (zv (yi (zO (zb xx À Ĥ)) (retS (zb eE Ĥ À)) yo)
 (zv (qF [1] (xN iV (za (jM (cI 12)) (za (zb yg (cI 12) Â) zh))) (zJ 1) XY)
 è))
def aZ:AG:=zR ["word","number"] 1 Oi
abbrev Q2:AD:=
 y_ Ą (Sq À) Ü (zb xx À Ã)
abbrev Ai:Sm:=
 (retS (pA (dm lr lr Â á Ì) (zo Û (za Q2 zh))))
def Zi:AG:=zR ["word","signs","most"] 3 Ai
abbrev BN:Sm:=
 (retS (lx (zO (zb î À Ï)) (cS (ê "-")) Ī))
def W7:AG:=zR ["count"] 1 BN
abbrev Aa:Sm:=
 (zv (zP 2 Á)
 (zv (yi (zO (zb xk Ã á)) (zP 2 (zb yZ (zb zi À Ã) (zb fJ ß (cI 64)))) yo)
 (retS (zb xG (zb yZ (zb yg (zb yg (zb wA Ì (cI 46337)) (zb wA (zb wA (cI 2741) Ã) Ã)) (zb wA (cI 59) Ã)) (cI 2147483629)) ß))))
def kE:AG:=zR ["_law_script","_law_k","_law_cell"] 2 Aa
abbrev aF:Sm:=
 (zv (yi (nB (zO (zb Æ (zb İ Ð) Ò)) (zO (zb Æ (zb yZ À ß) Â))) (qU 2 (tupS (za Ċ (za (zb yZ (zb xG À ß) ß) (za (zb yg Â (zb yZ (zb xG À ī) (cI 12))) (za (zb yZ (zb xG À (cI 48)) (cI 13)) zh)))))) yo)
 (zP 0 (zb xG À (cI 624))))
abbrev Ov:Sm:=
 (zv (qT 2 Ă)
 (zv (qF [3] (xN pU (za Ĭ zh)) (zJ 3) aF)
 (retS (zo m_ ċ))))
def Ze:AG:=zR ["_law_cell","_law_owners","_law_found","_law_place"] 2 Ov
abbrev B_:Sm:=
 (retS (tupS (za (zb yZ À (zb yg ä Â)) (za (zb yZ (zb xG À (cI 13)) (zb yg é Â)) zh))))
def WG:AG:=zR ["_law_number","_law_brims"] 2 B_
abbrev Ou:Sm:=
 (zv (zP 3 (zb yg ä (zb zi ė ß)))
 (zv (zP 4 (zb yg é (zb zi ė ć)))
 (zv (yi (qo (zO (zb xk Ð Á)) (zO (zb xk Ú Á))) è yo)
 (retS (tupS (za (zo oM (za Ð ø)) (za (zo oM (za Ú ù)) zh)))))))
def Zd:AG:=zR ["_law_floor_here","_law_pair_here","_law_way","_law_first","_law_second"] 3 Ou
abbrev Q1:AD:=
 y_ Ą (xv Õ) ĭ (zO (zb Æ Ä Ã)) È
abbrev gL:Sm:=
 (zv (yi (qo (zO (zb Æ à Ă)) (zO (zb xk (zb zi Ú (zb zi ð Â)) (zb zi ð ß)))) è yo)
 (zv (zP 7 (zb zi ð Â))
 (zv (hZ 4 û (zb qj (zb zi Ú û) (zb zi ð ß)))
 (hZ 4 (zb qj Â û) (zo oM (za (zb yg (zb zi Ú (zb qj Â û)) (zb zi ð ć)) (za (zb zi Ä (zb qj Â û)) zh)))))))
abbrev Ox:Sm:=
 (zv (qT 4 (zo listS ċ))
 (zv (zP 5 Q1)
 (zv (qF [6,7] (xN pU (za (zo oM (za Ð (za (cI 14) zh))) zh)) (zJ 6) gL)
 (retS (tupS (za (zb zi Ú Á) (za (zb zi Ú Â) zh)))))))
def i9:AG:=zR ["_law_floor_here","_law_place","_law_pair_here","_law_times","_law_held","_law_stalls_here","_law_k","_law_purse"] 4 Ox
abbrev aE:Sm:=
 (qU 1 (zb yg (zb yg (zb yg (zb yg (zb yg (zb yg (zo yP (za ì zh)) (cS (ê ">"))) (zo yP (za (zb Ģ Â) zh))) É) (zo yP (za (zb Ģ ß) zh))) É) (zo yP (za (zb Ģ ć) zh))))
abbrev aB:Sm:=
 (qU 1 (rS lu É (za (xE (za (cS (ê "stall")) (za (zo yP (za þ zh)) (za (zb zi (cS (ê "ab")) Ę) (za (zo yP (za (zb zi Ð ß) zh)) (za (zo yP (za (zb zi Ð ć) zh)) zh)))))) zh)))
abbrev Ot:Sm:=
 (zv (qT 1 (zb yg Þ (zo listS ú)))
 (zv (qF [2] (xv Ê) (zJ 2) aE)
 (zv (qF [3] (xv Õ) (zJ 3) aB)
 ġ)))
def WD:AG:=zR ["_law_floor_here","_law_parts","_law_way","_law_stall"] 1 Ot
abbrev Zo:Sm:=
 (retS (pA (zo gY Ô) (dm lr lr Ã À Ì)))
def kF:AG:=zR ["thing","least","most"] 3 Zo
abbrev XO:AD:=
 y_ ý (zo WJ Ô)
abbrev Vc:Sm:=
 (zv (yi (qo ÿ (qe (zO (dm lr lr Â á (cI 8))))) Í)
 (retS (zo Û (za XO zh))))
def cb:AG:=zR ě Vc
abbrev az:AD:=
 y_ Ą (xv À) Ü (zo dY (za Ø Ô))
abbrev Oz:Sm:=
 (retS (zo (mP λ bs=>bs.any id) (za az zh)))
def dQ:AG:=zR ["border","pair"] 2 Oz
abbrev Q3:AD:=
 y_ ý (tupS (za Ä (za Á ú)))
abbrev Qu:AD:=
 y_ [none] (xv Ã) Ü (tupS (za Ä (za Â ú)))
abbrev QK:Sm:=
 (zv (Xx 3 Đ (zo oM (za û (za (Xy 3 Đ (zk 7)) zh))))
 (yi (zO (zb Æ (ai 3) ß)) (qU 4 (tupS (za (zk 5) (za (zo i_ (za (eY 3 Á) (za (eY 3 Â) zh))) zh)))) yo))
abbrev Am:Sm:=
 (zv (zP 2 (zb yg Q3 Qu))
 (zv (R8 3)
 (zv (qT 4 Ă)
 (zv (qF [5,6,7] (xv (zo iQ ċ)) (o7 3 (rY (zJ 5) (rY (zJ 6) (rY (zJ 7) nR)))) QK)
 (bX 4 (retS (zo i8 ą)))))))
def Zl:AG:=zR ["border","other","steps","lows","shared","first","side","second"] 2 Am
abbrev O0:Sm:=
 (retS (zo i8 (za (zb yg (zo listS ă) (zo listS Ù)) zh)))
def dR:AG:=zR ["border","other"] 2 O0
abbrev XI:AD:=
 y_ Ą (xv Ì) Ü (tupS (za (zo i_ (za Á (za (zb qj Ä ë) zh))) (za (zo i_ (za Á (za (zb qj Ë (zb İ ć)) zh))) zh)))
abbrev Ci:AD:=
 y_ [none,↑0] (xv Ð) ĭ (xh (zo dY (za Ø Ô))) È
abbrev Aq:Sm:=
 (zv (zP 3 XI)
 (retS (zo i8 (za Ci zh))))
def WQ:AG:=zR ["brims","way","border","pairs"] 3 Aq
abbrev XF:AD:=
 y_ [none] (xv Ê) Ü (zo W5 Ô)
abbrev XB:AD:=
 y_ [none] (xv Õ) Ü (zo W6 Ô)
abbrev Oh:Sm:=
 (zv (qT 1 Þ)
 (zv (eO 1 Ë)
 (zv (jf 1 XF)
 (zv (jf 1 XB)
 ġ))))
def dM:AG:=zR ["floor","parts"] 1 Oh
abbrev Qx:AD:=
 y_ ý (zo aZ Ô)
abbrev BP:Sm:=
 (retS (zo m_ (za Qx zh)))
def i6:AG:=zR ["words"] 1 BP
abbrev Ah:Sm:=
 (retS (pA (zo Zi (za È (za (cS (ê "0123456789")) (za ī zh)))) (bt (zb Æ À (cS (ê "0"))) (zb ò Ä (cS (ê "0"))))))
def Zh:AG:=zR ["word"] 1 Ah
abbrev dA:Sm:=
 (zv (zP 7 (zo kE (za È (za (zb yg Ã Đ) zh))))
 (zv (zP 8 (zb yZ û Ì))
 (zv (yi (zO (zb xk Đ Ì)) (zP 8 (zk 6)) yo)
 (zv (qT 9 (xE (za (zb qj (zb yZ (zb xG û (cI 64)) (zb yg (zb wA ß Ú) Â)) Ú) (za (zb qj (zb yZ (zb xG û (cI 2048)) (zb yg (zb wA ß Ú) Â)) Ú) zh))))
 (zv (yi (zO (zb Æ (zb yZ (zb xG û (cI 65536)) (cI 5)) Á)) (hZ 9 (zb yZ (zb xG û (cI 327680)) ß) Á) yo)
 (qU 5 (tupS (za (zk 8) (za (zb yZ (zb xG û (cI 8)) Ì) (za (zb zi (zc 9) Á) (za (zb zi (zc 9) Â) zh)))))))))))
abbrev Oq:Sm:=
 (zv (qT 5 Ă)
 (zv (qF [6,7,8,9] (xN pU (za (zb yg Ì Ð) zh)) (zJ 6) dA)
 (retS (zo m_ (za (zo iP (za à zh)) zh)))))
def Zc:AG:=zR ["_law_script","_law_at","_law_many","_law_more","_law_span","_law_found","_law_k","_law_number","_law_start","_law_coins"] 5 Oq
abbrev BW:Sm:=
 (zv (yi (nB (xh Ì) (zO (zb xk Ã á))) (retS (zb yZ (zb zi À Ã) (zb fJ (cI 10) (cI 64)))) yo)
 (zv (zP 3 (zo kE Å))
 (retS (zb yg (zb wA (zb wA Ð Ð) Ð) (zb wA (cI 104729) Ð)))))
def WE:AG:=zR ["_law_script","_law_at","_law_digits","_law_mixed_here"] 3 BW
abbrev Q0:AD:=
 y_ [none,↑0,↑1] (xN pU (za (zo wD ĩ) zh)) ĉ È
abbrev Ow:Sm:=
 (zv (zP 4 Q0)
 (zv (zP 5 (zb zi Ú (zb yZ Ð (zo wD (za Ú zh)))))
 (zv (zP 6 (zb yZ (zb xG Ð (cI 24)) ī))
 (zv (yi (zO (zb î (zo i9 (za È (za Ø (za Ö ď)))) Ï)) (zP 6 Á) yo)
 (retS ô)))))
def Zg:AG:=zR ["_law_floor_here","_law_place","_law_pair_here","_law_number","_law_some","_law_way","_law_times"] 4 Ow
abbrev gK:AD:=
 y_ Ġ (zo kF (za È (za ä (za é zh))))
abbrev Zp:Sm:=
 (zv (yi (qo ÿ (zO (zb ò á Ĭ))) Í)
 (retS (zo Û (za gK zh))))
def kG:AG:=zR ["thing","bounds"] 2 Zp
abbrev Ak:Sm:=
 (yi (qe (xh (zo kF (za Ø (za Á (za (zb qj (zo gU Ô) Â) zh)))))) lq yo)
def jy:AG:=zR ["floor","place"] 2 Ak
abbrev QL:Sm:=
 (zP 1 (zo dR ę))
abbrev Ao:Sm:=
 (zv (zP 1 (tupS zh))
 (zv (qF [2] (xv È) (zJ 2) QL)
 Ĕ))
def WN:AG:=zR Ĝ 1 Ao
abbrev QM:Sm:=
 (zP 1 (zo Zl ę))
abbrev Ap:Sm:=
 (zv (zP 1 č)
 (zv (qF [2] (xv È) (zJ 2) QM)
 Ĕ))
def WO:AG:=zR Ĝ 1 Ap
abbrev QJ:Sm:=
 (yi (qe (xh (zo dQ (za (zb zi Ú Ã) ï)))) (retS Ċ) yo)
abbrev Aj:Sm:=
 (zv (qF [3,4] (xN jh Ô) (o7 2 (rY (zJ 3) (rY (zJ 4) nR))) QJ)
 è)
def Zj:AG:=zR ["told","place","pair","number","held"] 3 Aj
abbrev BV:Sm:=
 (zv (zP 4 (zo W4 (za È ę)))
 (retS (pA (zb (qQ true) Ú Ï) (zo dQ (za (zb zi Ð (zb zi ė Â)) ą)))))
def Zb:AG:=zR ["floor","pair","way","held","behind"] 4 BV
abbrev dv:Sm:=
 (yi (zO (zb xx Ú (tupS ó))) (qU 1 ĥ) (yi (xh (rS iL Ú (za (cS (ê "stall ")) zh))) (qU 3 (zo i6 (za (oA (rS ou Ú Ě) ē) zh))) (qU 2 (zo i6 (za (rS ou (Yg ">" " " Ú) Ě) zh)))))
abbrev Oj:Sm:=
 (zv (qT 1 Ă)
 (zv (qT 2 Ă)
 (zv (qT 3 Ă)
 (zv (qF [4] (xv (oA À ē)) (zJ 4) dv)
 (zv (zP 5 (zo i6 (za (oA (rS ou Ä Ě) ē) zh)))
 (retS (tupS (za (zk 5) (za (zo m_ Ù) (za (zo m_ ċ) (za (zo m_ (za Ð zh)) zh)))))))))))
def a_:AG:=zR ["parts","owners","ways","stalls","part","brims"] 1 Oj
abbrev Ag:Sm:=
 (zv (yi (zO (zb Æ Ã (cS (ê "text")))) (retS (cS (.bl true))) yo)
 (zv (yi (zO (zb Æ Ã (cS (ê "number")))) (retS (zo Zh Ô)) yo)
 (retS (zo Zi (za È (za (cS (ê "abcdefghijklmnopqrstuvwxyz")) (za (cI 8) zh)))))))
def jx:AG:=zR ["word","form"] 2 Ag
abbrev dB:Sm:=
 (qU 6 (zb zi (xE ó) (zb XX (zb ZT à û) Â)))
abbrev WV:Sm:=
 (zv (zP 5 (zo kE Å))
 (zv (qT 6 Ă)
 (zv (qF [7] (xN pU ċ) (zJ 7) dB)
 (zv (zP 8 (zb zi (xE (za Â (za ß (za ć ñ)))) (zb yZ (zb xG à (cI 256)) ī)))
 (zv (zP 9 (tupS zh))
 (zv (yi (zO (zb Æ (zb yZ (zb xG à (cI 1024)) ć) Â)) (bX 6 (zP 9 (zo Ze (za (zo WE (za È (za (zb yg Ã Â) (za (zb Æ (zb yZ (zb xG à (cI 3072)) ß) Â) zh)))) ď)))) yo)
 (retS (tupS (za Ċ (za (zo m_ (za Đ zh)) (za (zo Zc (za È (za (zb yg Ã ß) (za Ö (za ĥ (za (zk 8) zh)))))) (za (zk 9) zh))))))))))))
def gX:AG:=zR ["_law_script","_law_at","_law_many","_law_brims","_law_more","_law_number","_law_owners","_law_place","_law_span","_law_stalls_here"] 5 WV
abbrev Ax:Sm:=
 (zv (yi (zO (zb Æ Ì (cS (ê "number")))) (retS (zo mE Ù)) yo)
 (zv (yi (zO (zb ò Ì (cS (ê "floor")))) Ĕ yo)
 (zv (yi (YO 0 1) lq yo)
 (retS (YR 0 1)))))
def jz:AG:=zR ["self","word","form"] 3 Ax
abbrev XN:AD:=
 y_ Ą (xv À) Ü (zo kG Å)
abbrev Va:Sm:=
 (retS (pA (instS "tuple" À) (zo Û (za XN zh))))
def g_:AG:=zR ["thing","bounds"] 2 Va
abbrev O3:Sm:=
 (retS (zo kG (za È (za (tupS (za ğ (za ğ zh))) zh))))
def Zm:AG:=zR ě O3
abbrev Al:Sm:=
 (yi (qe (xh (zo kG (za Ø (za (tupS (za (tupS (za Á ø)) (za (tupS (za Á ù)) zh))) zh))))) lq yo)
def dU:AG:=zR ["floor","pair"] 2 Al
abbrev Cj:AD:=
 y_ [none,none,↑1] (xN jh ĩ) Î (zO (zb Æ ä Ì)) È
abbrev BH:Sm:=
 (zv Ā
 (retS Cj))
def dI:AG:=zR ["floor","place"] 2 BH
abbrev aC:Sm:=
 (yi (zO (zb Æ ì Ã)) (retS Ö) yo)
abbrev BK:Sm:=
 (zv Ā
 (zv (qF [2] (xv Õ) (zJ 2) aC)
 è))
def dJ:AG:=zR ["floor","place","stall"] 2 BK
abbrev Q4:AD:=
 y_ Ġ (zo jx Å)
abbrev Au:Sm:=
 (retS (pA (zb Æ á Ĭ) (zo Û (za Q4 zh))))
def WS:AG:=zR ["words","forms"] 2 Au
abbrev XJ:AD:=
 y_ ý Ä
abbrev XD:AD:=
 y_ [none,↑4] (xN pU Ù) Ü (zb xx À Ã)
abbrev WZ:Sm:=
 (zv (zP 2 (tupS (za Á (za (zb qj Ã Â) zh))))
 (zv (zP 3 (tupS (za (jM (cI 12)) ñ)))
 (zv (yi (qe (xh (zo g_ (za È (za (tupS (za Ö (za Ö (za Ċ å)))) zh))))) Í)
 (zv (zP 4 XJ)
 (retS (pA (zb lr á (cI 24)) (pA (zo iC Ô) (zo Û (za XD zh)))))))))
def dZ:AG:=zR ["thing","places","place","coins","starts"] 2 WZ
abbrev XM:AD:=
 y_ ý Ä
abbrev XE:AD:=
 y_ Ą (xv À) Ü (zb Æ (zb İ Ä) Ò)
abbrev W_:Sm:=
 (zv (zP 2 (tupS (za Á (za (zb qj Ĭ Â) zh))))
 (zv (yi (qe (xh (zo g_ (za È (za (tupS (za Ö (za (tupS (za Á (za Â zh))) (za (tupS (za Â ñ)) (za ğ zh))))) zh))))) Í)
 (retS (pA (zo iC (za XM zh)) (zo Û (za XE zh))))))
def d_:AG:=zR ["thing","owners","place"] 2 W_
abbrev QN:Sm:=
 (jf 4 (zo WA (za Ä (za Ċ đ))))
abbrev Ar:Sm:=
 (zv (zP 3 (zo dJ Å))
 (zv (yi (zO (zb î Ð Ï)) (retS Ö) yo)
 (zv (qT 4 Ă)
 (zv (qF [5] (xv Ö) (zJ 5) QN)
 (bX 4 (retS (zo i8 ą)))))))
def WR:AG:=zR ["floor","place","border","stall","pairs","pair"] 3 Ar
abbrev WY:Sm:=
 (zv (yi (zO (zb Æ Ð Á)) (retS (tupS (za ì (za (zb Ģ Â) zh)))) yo)
 (zv (zP 4 (zo dJ Å))
 (zv Ħ
 (retS (zo Zk (za Ä (za ĥ Į)))))))
def dX:AG:=zR ["floor","place","pair","times","stall"] 4 WY
abbrev Qv:AD:=
 y_ [none,↑0,↑2,↑3,↑4] (xv (zo dI Å)) ĭ (qe (xh (zo Zb (za Ø (za Ö (za È (za (zb zi Ð (zb qj Ú Â)) zh))))))) È
abbrev BI:Sm:=
 (zv (zP 4 (zo Zj (za Ċ ę)))
 (zv Ħ
 (retS (zb zi Qv Á))))
def W2:AG:=zR ["floor","place","pair","told","steps"] 4 BI
abbrev nu:List (Str×List Str):=[("floor",["name","text"]),("show",["floor"]),("mirror",["name","floor"]),("border",["floor","number"]),("lasts",Ý),("deed",Ý),("way",Ý),("alone",["floor","number"]),("cheapest",Ý),("brims",["floor","number","number"]),("compare",["floor","floor"])]
abbrev BQ:Sm:=
 (zv ĕ
 (zv (zP 1 (lx (xh (rS iL À (za (cS (ê "floor ")) zh))) (rS cN À (za É (za ß zh))) (rS ou À Ě)))
 (zv (yi (qo (ZD (nu.map (·.1)) ä) (qe (xh (zo WS (za (oA Ã ē) (za (cE nu ä) zh)))))) lq yo)
 Ĕ)))
def i7:AG:=zR ["row","words"] 1 BQ
abbrev Oy:Sm:=
 (zv (yi (qo ÿ (zO (zb ò á ī))) Í)
 (zv (yi (qo (qe (xh (zo Zm (za Ä zh)))) (qe (xh (zo cb ú)))) Í)
 (retS (pA (zo dZ (za Ê (za (zo wD ú) zh))) (zo d_ (za Õ ú))))))
def gZ:AG:=zR ě Oy
abbrev Qz:AD:=
 y_ [none,↑0] (xv (zo dI Å)) Ü (zb zi ë À)
abbrev Qs:AD:=
 y_ [none,↑0,↑2] (xv Ð) Ü (zo WQ (za ä (za È (za (zb Ģ Ë) zh))))
abbrev Om:Sm:=
 (zv (zP 3 Qz)
 (zv (zP 4 Qs)
 (zv (yi ħ (retS (zo WR (za È (za Ø (za (zo WN ą) zh))))) yo)
 (retS (zo WO ą)))))
def WC:AG:=zR ["floor","place","last","ways","ahead"] 3 Om
abbrev XZ:Sm:=
 (yi (xh (zo Zb (za È (za (zk 6) (za (zk 7) å))))) (retS (tupS (za (zk 5) (za (zk 7) zh)))) yo)
abbrev QG:Sm:=
 (zv (qF [7] (xv ĥ) (zJ 7) XZ)
 (zv (zP 5 (zb yg à Â))
 (zP 6 (zo dX (za È (za Ø (za Ö đ)))))))
abbrev O1:Sm:=
 (zv (zP 4 (zo dI Å))
 (zv (zP 5 Á)
 (zv (zP 6 Ö)
 (zv (cv 1000000 [7] (zO (zb (qQ true) Đ Ï)) QG)
 è))))
def WK:AG:=zR ["floor","place","pair","held","ways","times","ready","way"] 4 O1
abbrev Qy:AD:=
 y_ [none,↑2] (xv Ê) ĭ (zO (zb xx Ë Ã)) Ä
abbrev QI:Sm:=
 (hZ 3 Ú (zo WC (za È (za ĥ Č))))
abbrev BU:Sm:=
 (zv (qT 3 (zo listS Ù))
 (zv (qF [4] (xv (zo iP (za Qy zh))) (zJ 4) QI)
 (fE 3)))
def WB:AG:=zR ["floor","last","fresh","following","place"] 3 BU
abbrev BR:Sm:=
 (zv ĕ
 (zv (zP 1 (zo a_ (za (rS ou À (za (cS (ê "; ")) zh)) zh)))
 (zv (yi (qo (qe (xh (zo gZ Č))) (zO (zb ò (zo dM Č) À))) lq yo)
 Ĕ)))
def dN:AG:=zR ["text","floor"] 1 BR
abbrev Qw:AD:=
 y_ [none,none,↑3] (xN jh (za Ú zh)) Î (zO (zb ò Ã (zb Ģ À))) È
abbrev aD:Sm:=
 (zv (zP 3 (zb İ (jM Â)))
 (zv (zP 4 (zo WB (za È (za Ċ ï))))
 (zv (zP 2 Qw)
 (yi (xh Ì) (qU 1 ĥ) yo))))
abbrev BO:Sm:=
 (zv (qT 1 (xE (za (zb wA (xE (za č zh)) (zo gU Ô)) zh)))
 (zv (zP 2 (zo bH (za (zo gU Ô) zh)))
 (zv (cv 1000000 [3,4] (xh Ì) aD)
 (fE 1))))
def mV:AG:=zR ["floor","told","fresh","last","following"] 1 BO
abbrev Ad:Sm:=
 (zv Ā
 (zv Ĉ
 (retS (zo Zj (za (zo mV Ô) ę)))))
def WH:AG:=zR ā 3 Ad
abbrev An:Sm:=
 (retS (zb zi (zo mV Ô) (jM Â)))
def WM:AG:=zR ["floor"] 1 An
abbrev BJ:Sm:=
 (zv Ā
 (zv Ĉ
 (zv (yi ħ è yo)
 (retS (zo W2 (za È (za Ø (za Ö (za (zo mV Ô) zh)))))))))
def W3:AG:=zR ā 3 BJ
abbrev Ae:Sm:=
 (zv Ā
 (zv Ĉ
 (zv (yi (zO (zb ò (zb zi Ë Ã) Ò)) è yo)
 (retS (zo WK (za È (za Ø (za Ö (za (zo WM Ô) zh)))))))))
def WI:AG:=zR ā 3 Ae
abbrev O4:Sm:=
 (zv (zP 1 (zo WH ç))
 (retS (lx (zO (zb î Ã Ï)) ü (zo yP Ù))))
def cj:AG:=zR ["things","steps"] 1 O4
abbrev Av:Sm:=
 (retS (zo W7 (za (zo W3 ç) zh)))
def cg:AG:=zR ["things"] 1 Av
abbrev Aw:Sm:=
 (zv (zP 1 (zo WI ç))
 (retS (lx (zO (zb î Ã Ï)) (cS (ê "-")) (zb yg (zb yg (zo yP (za ä zh)) É) (zo yP (za é zh))))))
def ck:AG:=zR ["things","deed"] 1 Aw
abbrev aH:List (Str×(List T->Option T)):=[("lasts",cj),("deed",ck),("way",cg)]
abbrev XQ:AD:=
 y_ [none,none,↑0] (xN lN (za (oA Ì ē) (za (cE nu ì) zh))) Î xP (k9 (eX jz) (za Ì (za À Ù)))
abbrev Ay:Sm:=
 (zv (zP 2 (zo i7 Č))
 (zv (zP 3 XQ)
 (zv (yi ĝ lq yo)
 (zv (yi (zO (zb Æ ì (cS (ê "mirror")))) lq yo)
 (retS (Wh aH ì å))))))
def kH:AG:=zR Ė 2 Ay
def Wn:KF:=lX Ė (zo i7 Č) XQ ĝ (za þ (za (zo dN (za Ę zh)) zh))
abbrev BX:Sm:=
 (retS (k9 (eX kH) (za À (za (rS lu É (za (xE (za Ø (za (cS (ê "fa")) (za (zo yP ċ) (za (zo yP (za þ zh)) (za (zo yP (za Ę zh)) zh)))))) zh)) zh))))
def lL:AG:=zR ["_law_desk","_law_word","_law_place","_law_pair_here"] 4 BX
abbrev XG:AD:=
 y_ [none] (xN pU (za (cI 14) zh)) Ü Ī
abbrev XC:AD:=
 y_ [none,↑1,↑2] (xN pU (za (zo wD (za ë zh)) zh)) ĉ Ī
abbrev Ab:Sm:=
 (zv (yi (qe (xh Ú)) (zP 5 (xE (za (cS (ê "0")) (za (zo lL (za È (za (cS (ê "way")) Į))) zh)))) (zP 5 (rS ou (zo lL (za È (za (cS (ê "deed")) Į))) Ě)))
 (zv (yi (qo (zO (zb ò (zo wD (za à zh)) ß)) (zO (zb (qm true) ð XG))) è yo)
 (zv (yi (zO (zb (qm true) (zb zi à Â) XC)) è yo)
 (retS (tupS (za (zo mE (za ð zh)) (za (zo mE (za (zb zi à Â) zh)) zh)))))))
def iB:AG:=zR ["_law_desk","_law_floor_here","_law_place","_law_pair_here","_law_keepers","_law_words"] 5 Ab
abbrev mS:Sm:=
 (zv (zP 8 (zo Zg (za Ø (za Ö (za Ċ (za (zk 7) zh))))))
 (zv (yi (zO (zb Æ (zb Æ (zb zi é Ì) Ò) à)) (zP 8 (zo iB (za È (za Ø (za Ö (za Ċ đ)))))) yo)
 (zv (yi (qo (zO (zb î į Ï)) (zO (zb î ö Ï))) Í)
 (zv (zP 3 (zo Zd (za Ø (za ö (za (zb zi į Â) zh)))))
 (zv (yi (zO (zb î Ð Ï)) (retS (bz à)) yo)
 (zv (zP 2 (zb zi (zb zi ë (zb zi į Â)) Â))
 (zv (zP 9 Ć)
 (zv (yi (qo (nB (xh à) (zO (zb ò (zc 9) ü))) (nB (qe (xh à)) (qo (zO (zb Æ (zc 9) ü)) (zO (zb eK (zo mE (za (zc 9) zh)) (zo mE (za Đ zh))))))) Í)
 (zP 6 (zk 9))))))))))
abbrev BZ:Sm:=
 (zv (zP 6 Ć)
 (zv (qF [7,8,9] (xv ĥ) (zJ 7) mS)
 (retS (cS (.bl true)))))
def Zf:AG:=zR ["_law_desk","_law_floor_here","_law_place","_law_pair_here","_law_numbers","_law_keepers","_law_left","_law_number","_law_deed","_law_told"] 6 BZ
abbrev XH:AD:=
 y_ [none] (xN iV (za Â (za (cI 600) zh))) Ü Ī
abbrev Qt:AD:=
 y_ [none,↑0] (xN iV (za (cI 30) (za (cI 46) zh))) Ü (zo kE (za Ø Ô))
abbrev Ac:Sm:=
 (zv (zP 1 (zo kE (za È (za Á zh))))
 (zv (zP 2 (zb yg Â (zb yZ Ã ć)))
 (zv (zP 3 (zo gX (za È (za ß (za Ö (za (tupS (za (zb yZ (zb xG Ã ī) (cI 5)) (za (zb yZ (zb xG Ã (cI 24)) (cI 5)) zh))) (za (zb yZ (zb xG Ã (cI 144)) (cI 7)) zh)))))))
 (zv (R7 4)
 (zv (f9 4 Wn (zb yg (cS (ê "floor fa ")) (zo WD å)) yo)
 (zv (zP 5 (zo kE (za È (za (cI 29) zh))))
 (zv (zP 6 (zb yZ à Ì))
 (zv (zP 7 (zo WG (za (zb xG à ī) (za þ zh))))
 (zv (yi (zO (zb Æ (zb yZ (zb xG à (cI 2000)) ć) Â)) (zP 7 þ) yo)
 (zv (zP 8 (k9 lL (za Ú (za (cS (ê "lasts")) (za Đ (za û zh))))))
 (zv (yi (nB (zO (zb ò į ü)) (zO (zb (qm true) į XH))) Í)
 (zv (zP 9 Qt)
 (retS (k9 Zf (za Ú (za Ð (za Đ (za û (za (zc 9) (za (zb Æ į ü) zh))))))))))))))))))))
def dP:AG:=zR ["_law_script","_law_number","_law_many","_law_floor_here","_law_desk","_law_mixed_here","_law_place","_law_pair_here","_law_text_here","_law_numbers"] 1 Ac
end zY
namespace PySem.W.Fast
def te14368902547192427675:=0
)
local macro_rules|`(command|example:=$s:str)=>do
 let mut r:Array Lean.Syntax:=.empty
 let mut n:=0
 let mut k:=0
 for c in s.getString.toList do
  let a:=c.toNat
  n:=n*62+(if a>96 then a-61 else if a>64 then a-55 else a-48)
  k:=k+1
  if k==11 then
   let i:=Lean.mkIdent (.mkSimple s!"tw{n}")
   r:=r.push (<-`(command|theorem $i:ident:True:=trivial))
   n:=0
   k:=0
 return Lean.mkNullNode r
example:="4qG34w15puoC3Ox24MgG6aFFjf2VaNYnAHoh9dNTU4bU4pP1Ecmv3iR6mO8lW1jKVn5h6sS6zsx7mFvTsx9G6L1222vJFU8gbsWJ6dTRneigA6AarNHqeTMzGH0lprpTo4NaISjqe30dSz6KehXicgJV6MF9jIVOD28NALxoEQnfnmBz8K6SFkxnA0U7fwKDMqpv0C6l2eLKBmXhl6ZYvhGnxs93FebQvoeocIz3w7hMFLhSx13a8jOETHarDLkWIMbmIKzwLMa61VEbTwb0yyrSUTx5CuHSLOIEc1BEt9Z686GTUaJgKGOXUmylZHo5kL16aiVkTg3Zn3sg67mLLKORalKpburIKEHB0P9RrNkDhjmBtSzTk0GVbDrtgcsFU33fSM1yMbA0Kzm9EgfZkdP1J1vKpsEtyA666arJi7ZUT8JUciqinec6BeI7JDNq95qKV92B9dkPsSEbSECjQ6Ohy7Ft2ZHWwLvJKHWYUvkOnWS806DPBY1mDG776HICPDgaT3AQB7fejJWhKtcto3ZRebvIl54GsxDj6w0FwgLBBu9A9CJQ4SKeEhQKBIe08i7KYwaF2frhDnV0Ix1B3os2fTq8pBzoISWGsxmHLfH3jxtPS9t63yXC7iZjVR7grrKC9VcCD34pguaiA0OrLcOtpprepowHUOiGklMO2i6OvMtMyMrXaLN2pXxJ22beLpQEjQGT8IC85mgjFTQCkJBc38YD3conDFCMNeKCAUsc2eKEArqOuV25k3zjWsxHrf2X9bVTqyf38JEAyHwj3j9H4McJRIJj3mG8sadu8rCSyPCr3cC9lv2bi2ptTnyfxaMfIiJhAhYqaybAzc7AR7qjB6KrjJJjutjsl3bWvV7CQzgn1F6nlIKBz085RoCXyyz4j1Afh4zlQjLNp1Megv3g6wZt44ovFO7plfbJbDicbW1EHe3yzhO2YXKMxFsu28483JWv260uSsW2zckEO2tBR72aQo9UAtfeH5FBQLBxJ1WjqCXW16wpaLASHAYHaUR1PPPSjKGQfUlSmY2XbJwx1Bo0euJnGY1srFUf3pQ29mBK1wwlGc7m8KB04D9PR7dwZFlKkOa55qX61E9VwJ5FlvHnU7mAvS8wCj34PqHscIpmDNUARhonFP2Fgf0HNAN2x3uOYD9dWI1hgelYWYiudFOLxtrp6GRSEc7PFATTffrH97FJgI9axh4oQKK43lhqZ52GxdggFodtEka80WjbYVmCQsU6nmNP2yLVFz7JOpQUF7AvbQsncGUVK3dmjV9EXerKkhRnT8N8S86cc0Z1ovHQi0zoZiFXpjflECROiNgDMrpGSrSi6qgQVtHmpdU3itHedCWAsbnukyWKGFo8z7Ik0VF9jboF9pWeXA0MgVnLLDTBX0tzWRmby5AR4WEKQ6mlxfVFhoOUdCD4C70HHXQICU6ivBlcorY2dXi6LueP8xWNNyhD7OPRaNlp0N33FXLBTrWXnJxAqnVmQVUiKfgUUgaCOxW5yUMl0ZHXEbK3JbO9bTWQK38fgExDXQYH02IaM9V3vey9h2x4zyP5fk0XeZ8ClC6Ke7aQcCiL0lyWBLnP7uJVW4aGfVZlcG1JPoBPDKZWAckWG7PHeiNiPYd0GOnDw0gJbXSEo7Cz0NCDBzGAow7c7l6BWGE8ln879axh7oKowp91hu6BnZ9k51T6m2FOvao72QPG1L4ZpksP0riT57qA7L8dqeNIb2aze3UpGQCzwkDBsgarS9L3hUovHUmC4rNIWfAN7ID2XLMDcV9iJfHhcrDxRqG7sLawt7JiG1wfGDF12AomqeWGkpl3c3Q1tyHaZYK04YaXBB7HxCV1LyUfK3kar4yxOTV1EA3laXsorV06AkDr2T9TnJWmWmjzfO6C9hydMchKUXIJrZyfd7n8PCEJU3xXSkyVsDktEtZxqDodAGFsBsG2Wpy55Qe0YZplOLFlIv5oR3okK9lXWX8FbAT10Of4ZWcRaHT4Voa5dyJd92B5v5aZfbwBz5bVDDscp3JCKItIhidBDVODLVatpsRMaV323T4FC8gdIBK10SFEtakn5XoYNdU9kPUAuCGNLGT7wb6bfhiEnU0VNFlaOx1LjpTHJHxo3lSY7UACJi0CdFYheA4MVgsZ2ISUUEMAO68WZcqL1pXDD5JZvkh9ABS3zZtE3wCB4tsqVosNy9I0Qj9mQhpnGPMNiXGlBsC7rRYogg8x2eIclDFivp4Ec0H32w1vFafZLLFQZ1Z8zMq007QwVR74cVIMKZNnxOL27Fk7zRGpF6QL8QKKeiy6NGW5opZwEfAFRp7DPJqDhHODPEfl7GmEmhxuLTDfZjsF0nRJk8Pv9k1uoh1XZIouC3Cgu8fBQnMZnKnm5YzQsyjiQuTGq2zwc3OHBYKIykMA63Fck5ZMfuIKuuyj5fLgaWE0iWWKpJ9R3ABsvxCzh5k3hjqhQJsczTCX2Myr5xTY2XDiljeFmbs9E1R1IwAkVQefvpJAGGFRrtl2qGA86w7a74Pe7lW6P9Y3Dp6MLIGiP1c3PXXZM7aD6SjvHulXEa3wWZyzm6BAK9Coh7ZF0b43YsXpCSIjfK7oBbn3s4GjGt87gGXOq5hDYXyhbfGeH47bdfI55fM8eHqc3Qi8RsI68ZSdfrZmpELFb1uuvLC7KbFiIGoNYGFMPEAXklDuo3qh7W0ERKmKrYv0iJJB7jZlp5GjQNIC4diLdKpqquJl8hEBHLLBuDN6mkYKv6OjliUpfoCeQANsGMwgd1uflhir6nEdHgvdTBqGFmt17HAtoG95xz8lS1MsxhO8uEbY6SjnTElY849mcKeyuIGE2B7Z9d5OTpJMX3hUQbGv8DXQsXEjJIEw6kch36BRhRv8pn16InqugJ6lhkbunPnK81IB4lYDjgLO5sLVL9hdSG6HWsehtpbZKvAplekpAexkT3RPO3XiagPmCB1a6COFmPdDR9yuNO3Pnu42E7Axrl5Kq9N8Z2GFDByv8L20HXuBVRP82bUnRhrdFFIFdSB5rT7PP48U1LevF53tBUEMiOBA3Q39psKbcrN3wUE7CiQiJn8aaCTOK8tFaWu4ANtP48qfLCW9IuWNO3KHJb9ymSgKk613x5AwriM3k1ExEWp6akT3VqNIXglqqVXnto19hTzjy8HgA4k5f3znO9cE3SSFwfS7egpKASfewLVvhGKm3ssGZVBw3Df3Wj22ezA80Z5jQdF6TR14LFmKNTg1WpCwXsPOtQu147d5Gc5tQCyI0KAvm3JrCTK15mhNpCPgxKKxe0tRd4jNk8myW0oNMWB8DXPZoCORGWl0LVg8nGSnCjFGGwNh5xsGX6E9v601yVsv0wYREYVtU1f6cBRlwRIsj9K3DmBlyXAYn0De2xdiskLL4el1lVrVohn0HZjIHkTbTEFYA9KpbHDau8Fxn7FdcZTLIsYutSjkwW3ESFthMcGYh2I3KJBTNXreB4Yqq5xGb2mfDhNgG74gQU00Vga9I0gmrz92QIk5IiKckELOshk1UwF408a6sJyF0T1Ah7qe8rjC4qGNsBLPuZt6Q644Kxp8Df4WDQQ9Syj4yJfAizjP3jtjhr8GtNxWEKRzUGNLGUYUF9j04vBBYi7762zK0PkbObKetzJZgtZgpE6ooLi2dgmngNrcDJzUPaFyCjL4cjjl3tUqGJ7eXsWPTH8Ug77Y93KUFldNH3nQZiWQOscG1e9uTB1LXXEGa8Natz4KBJwg4GskqYP5GftgErNVder0tMw792vKopIYp1xhfpWSg7qN5gtbi2VuB8l8QlAbTMI4I0MtUaaMvv7VKENQbkPO59yJXXkxn985AAoMiXcw4ZmLoqjTJdTebE3I2Qnk5T8zuGKUb8SQ8INdL1YvSE6C1ypF2fufKvbswG3NsMig1m4NbDo4Eh5g9EpHF3tF9oXwhMc5POhzriUX1M5tud1ZkRqJUJOnW4Afb2wJCJZXDqsMito3WjXOJgIIZDD0nde9HwF2e6cbgnT5L1kdFVoxQukv6EnCcjLwUBFo3j5KJWnRVlw53FkQPmAW54i9DYqVGJ0LGaLLp590ybcghMBjguABiamft2oPixqpw9ApBzHJFvqhVdGEaEwnCm8jcz0g59XD7XNZ7AKDStF3eiif3PJuO8Wszr35JOg1nFSZVo5x7HiSxFpBSL6VAfkscFaL0CtFXf4pxUw7LAQ09DMVPNIKINBDlOldeK9Zi4NBU7fc2imj81wggOz4JGyqsv8jTlDevuR6CAvBF0ESGZlmWslvAh6h9HwLIQrHX8agicpzt1JZFTloknJb2GLGGH4G601yAIxwJwRDBin7wH3L6G4azWIL51dIcPeYA3QRfAYY95qAFNtnqyEcZaM9Urs3RB3ZoX4FOn9I8ZtYRHnzV7LW8XDy74ZvTT5eQNmL2SgInA0tzjJh0TyLpq5hYGdoN8yuit7bGLVNgvTDktq27Ed7nCLvH47EDrJpfG4bj0rzBe5WtrD587TrUJOxrtk2yW5ejkxqVgI3ubvTvNlF34JQl2ATfo9cFi4XNPhbqbW6iqaioJGHLA1r0aBIHgXhc2pbw5SgNFuG1pHQbkErnzsAgwQcEBGdW1LZbDGEMvl6MHug7NfDhOAnGC6qt6jYw0zIGit8AAuRAVL5bWls5ascZBTqzESqMlHPDrKd33vrqvq6NbOcfUirba0XU0xf4td3D8UyoikR30DoKmMawj1cS1t6aFPcNx4IdUHvDnSa3mHuIJSSVIJs03CzAIOAJ5IiWI26wfku31gM2N4YVSx6RSft96eq8Ns0yyYr9TcEGczh09wKj6sJrv39pcIDtATDxmt8gBXAFrtTbpbd89uYqyuQ4xu2Cp68jpDzpJCcjLlbFl2ID1yVrNAHVL5DDsiteZJuhXC2jhGbRXIbrXDauHFEksxQ62kRQK2PNPz4JnIANwqqP0i4wkhSiPN5ly55LBr1hHz0BIfATU421D83CUMTyG7UQ7sAnhPnStw5XVCtbwoHHtEoy57qZdE6ljMQ4lpuvtbh6yvDLoQoOzHAgDL5SzeOnjabRAYL507lzdbDKEpXfkuGUdm4BHnv8g17vV88A4bqFfdLEB6L5j7ZzpBz7UrmMSEIAbFLkYt36c3AHV2ybuGazsRLsDXLMysxiJ4B6Md7Pn72kQ66szlUUveco7BpNNEgVgPweG2Jdyafqzg2ApmFla1245t3rEFe8gJgilDftQsgRKRFmLU8jzySjzw3GZKpy8Wf2mnLQCJcgEXlHu3Yk825aoAIV1g5iuSnrombEeMPZfJzrQc3ICPn5fGL2sCAMzsUIa31CBQwqlUSBY5yEgzmuWgmHkZ43MeJX5tqFp9Z6TzGwuVzxIvupokaDJF0BfL5Ku3btGMKT9s35ZdGXqFDgJSJfg9iHLiO6PuA9MrxE5nwcwWXGicLvrqWc10llO4y9szweQx8eJEZwx3urI1g4ZsiDm4NJLH6uosjXbVy9TEDv6VJdWlbSBJ8Ioq5xwdiLKoUMBaMn0OHwzhmGCE2zBBWBKxKcwWag3RBHfxXrzhb1raXD4HxUfN9lrXdInj6qhGeIvbEOLehcLqclRZJ1LmHIPsbO0NGjB89iTG7Lc5bMOEXaEbAOcqp298lbknMhoQY7kcvQJ3df782YQD2HQ3LzY08jq6fVQZB28Ayg7m5JVrt0DhUdT2Qp7jC9HdSwDmqf0JgqMkJeE6GgA5ipzETozqp8n6ASEp3xbP6aIS0vIXnXk4rZBH3iuXZRDFbdh1fXo09EQ8ZKoFip5LEWTjT4xAYW73LFEieoVtZQ4HjJb1lc9V513Mx1TzmkwoBM0mhFPcGKQAS6cbVu1fy99g4pGzQnLlT6dIBtgWCfV6HJmwic8wpD70rojCZCU3k1017xO4gDuf5EtaklMcI6ou2UXylaWbuPP4jZuQlu9TG2IvOjBcmGQCw5MGiZZoTvc5BthW9JHin0R4hI4L3Nrey636dGQTDdmSmJcjCyk2ELzlAb96fXxEgH9L6gVtMzvR3D6GVwrlLw7R389ZlFFEEW1lKlMJxBIF3rBDnev01lsGDPKnZjZCHB0332YFFCkUNlnW0WSCLFhe0ZMIO3KvvbGn8c83SGvoMhC4FIfDx4cOTEVjJ9rYbx5MJ4BLwSJXxv1p4ZHUE7PfhUOGq8iDjT4FO2BP51f0RMuumK59Zt4EYHzdUG9qf7AsKVdNK9mVeQq5F2rB71f9rI9KqY78trmG6MHRUoE7DirV0z2TgAL5ygMMuwUk3hOhytKAwEn5K71CryQ1x79bqbocpz2QZ19ZVsHM4aLyENQkL6LkibI8UglnnFmvTgDzdqW4MyU3uGxjHrGlGQVyGhU2BqTj1ErLKHyuMyJUld9R2l3yyOzLlCongcqZj50g3LKPBjJL3JT9db1ppIra76JFIlkwv9Da85anjW5xcFhP8hy46FUMChK5QtJWG9BDcx66tCly0WJrvBg6jLzULuO0B49D2qVIvwzHTd6ZUQDCioAeJEkCwaE0N2BIgPzKJTbWGFcQA3jhE9f1h2uc1Uhimt7Oiu66ts4piAV4DsdfCCA4GLwyeSj2xAeAcRuFV8ABmY9eecYES5lud2tqH4vewnKoFtUCyXR9ZgsLDIm2bktOdAFoEJCcBQZyLERpWczxbmw8DW1RmB32VEyKeyHwdQes58FebOPGFy2kzFIiFvrGgS6o1EcOBxOpxIT76G2C6xl82xEDHYpbGAUw36Zi0gdnID6O49sF3Bh3DXFHM5psSCxEbQLvjXMykifl5BIn0ZvxSmHqA2dK5U9EN5V054qlAz3FJUIoG1azhZ3xIDyjMNaAvIlk9zqsLp5SbXEDCplum1MVA0FH0srEa0c5kDWRtBOCH3PNLHT3kd0H2Tq71rfhplwIppBU7vlhyKz0o8qdDg0fkyN2ADDZCYxYXly2hszMhYj7cv3n8JPHs6cTO9ww8Sbp11SR4dtJ6flxofW9KBvobH6vJD14Y9w7cRUPKBHzxOli2B7p7AvyN50VsGSBz94SM5vzCqLk35L2sGkYpECHfNZMm7obIcXcz35F0d8EfRvxr0w3yvLHVZi3IukqR0N0y0LpE3QU9KAAGEzOvPF6gfTrB9MGwzD6wy2GlhRAD65zE0iefe84FKvyTTcPEy3HHiOEP6r0fIGXLPikp3etQKdusFO3YeOJB9AApZoQXCRDfSASu3wdmfHbAZOxzcFloEyUCmFOHJOoLPxD6Eo5LRR04nRmxa5mfcAZnXy6L8B70J5MuTaanfMn3eBqsNo0xj6AmChhYhHbjn7LuiJiCEKTj7y9OVAF8bXh3DYxE3mbMstCkYIS09n2CG9IWDl3UvxrU03Tu5IziF26Jqi36qp2h40IfHp5Rnv8pP1gLqvpVXxWyL7TrV55Xb10K9mTSic8MNxA40Ual8IdJrKCYea0ydRZN4poo95ewnLNKJxaQAi0dS8DtYW7bDmggBD5VnhDgTZFwD8MgYhR787ZF3a7cnj595Q1Ddb7XSZYU1KwGTr70BiVK7KUw700Q8uxGbxUIelNzjE2EHMQoIw3ro8t6JwV12zFPCbMkGaLiSduBwkK6SBSLW2EAxQBbLVwQmB9MysOAqVG4A5DxMIsKaFLCI9oG2o0x12CX1YoCeopsdJgpl9EEwEs1I3SB0ZRWKAr9sX7E5fk0s93cvpDyPSOV85rN0SS5SSAy5m9SCamGS9OHV4HGNUMCvB5PA9npGHrqa6hlzEC0nUfZEXCm5Pi8pyP6xjsRUesRuo2at287ACJ5yH4rfy7iyZLn06t6jOou42z14gl6AeX3jHJQWwr6sMsSgHFXzck9TSo4F3b2UwcE8so6ZM5UL1SCqHJgQRZpJFBEs8d2UQasMQTr2uH6IYNxrQHBGWueHJ3pbk"
example:=`(
example À _:=x K mainGlobals
example Á:=PySem.W.nsIn
end PySem.W.Fast
namespace zY
open PySem L2 L3 L5
open PyProof.Rows hiding St
def top (i:Nat):Stmt:=PySem.Challenge.pw_purseborder_k96_whole_played_by_texts.main.body.getD i (.Pass #[0,0,0,0])
def met (i j:Nat):Stmt:=(Dx (top i)).getD j (.Pass #[0,0,0,0])
set_option maxHeartbeats 0
structure HH (K:AB) (w:World):Prop where
 h0:Fx K "is_whole" (top 14)
 h1:Fx K "is_whole_within" (top 15)
 h2:Fx K "is_row_within" (top 17)
 h3:Fx K "are_rows_within" (top 18)
 h4:Fx K "are_rising" (top 19)
 h5:Fx K "are_brims" (top 20)
 h6:Fx K "is_owner" (top 21)
 h7:Fx K "are_owners" (top 22)
 h8:Fx K "are_ways" (top 23)
 h9:Fx K "are_stalls" (top 24)
 F5:Fx K "is_floor" (top 25)
 F4:Fx K "places_of" (top 26)
 eG:Fx K "check_place" (top 27)
 F0:Fx K "check_pair" (top 28)
 Fz:Fx K "ways_from" (top 29)
 Fw:Fx K "stall_at" (top 30)
 SG:Fx K "at_or_above" (top 32)
 Fv:Fx K "least_pairs" (top 33)
 Fu:Fx K "holds" (top 34)
 Ft:Fx K "both" (top 35)
 Fs:Fx K "either" (top 36)
 Fq:Fx K "border_ahead_of_way" (top 38)
 Fp:Fx K "pairs_ahead_of_changes" (top 39)
 Fo:Fx K "border_ahead_of_changes" (top 40)
 bQ:Fx K "border_of_either" (top 41)
 Fm:Fx K "border_of_all" (top 42)
 Fj:Fx K "next_border" (top 43)
 Fh:Fx K "next_round" (top 44)
 Fg:Fx K "rounds" (top 45)
 Ff:Fx K "first_without" (top 46)
 Fe:Fx K "lasts" (top 47)
 Fd:Fx K "step_by" (top 49)
 eF:Fx K "change_by" (top 50)
 Fc:Fx K "change_at" (top 51)
 Fb:Fx K "borders" (top 53)
 G_:Fx K "leads_into" (top 55)
 GZ:Fx K "deed_into" (top 56)
 GY:Fx K "keeper_deed" (top 57)
 GX:Fx K "way_out_of" (top 58)
 GW:Fx K "taker_way" (top 59)
 GV:Fx K "show_way" (top 66)
 GU:Fx K "show_stall" (top 67)
 GS:Fx K "show_floor" (top 68)
 GR:Fx K "read_word" (top 69)
 GQ:Fx K "read_words" (top 70)
 GP:Fx K "read_parts" (top 71)
 GO:Fx K "read_floor" (top 72)
 GN:Fx K "is_made_of" (top 97)
 GL:Fx K "is_number" (top 98)
 GK:Fx K "is_of_form" (top 99)
 GJ:Fx K "are_of_forms" (top 100)
 GI:Fx K "read_row" (top 101)
 GH:Fx K "show_count" (top 104)
 GG:Fx K "answer_lasts" (top 107)
 GF:Fx K "answer_deed" (top 108)
 GD:Fx K "answer_way" (top 109)
 GC:Fx K "_law_mixed" (top 117)
 GB:Fx K "_law_ways" (top 118)
 GA:Fx K "_law_stalls" (top 119)
 G9:Fx K "_law_stall_cell" (top 120)
 G8:Fx K "_law_floor" (top 121)
 G7:Fx K "_law_pair" (top 122)
 G6:Fx K "_law_step" (top 123)
 G5:Fx K "_law_changed" (top 124)
 qx:Fx K "_law_text" (top 125)
 G4:Fx K "_law_say" (top 126)
 G3:Fx K "_law_chosen" (top 127)
 G2:Fx K "_law_asked" (top 128)
 G1:Fx K "_law_played" (top 129)
 G0:Fx K "law" (top 130)
 FO:Cn K "FIGURES" (.str "0123456789")
 FN:Cn K "KEEPER" (.str "keeper")
 FL:Cn K "LETTERS" (.str "abcdefghijklmnopqrstuvwxyz")
 FK:Cn K "MOST_COINS" (.int 12)
 FJ:Cn K "MOST_FIGURES" (.int 4)
 FI:Cn K "MOST_LETTERS" (.int 8)
 FH:Cn K "MOST_PLACES" (.int 8)
 FG:Cn K "MOST_WAYS" (.int 24)
 FF:Ct K "PURSES" ["a","b"]
 FE:Cn K "TAKER" (.str "taker")
 IW:Fi K (met 115 0)
 T2:Fk K "say" "Desk.say" (met 115 1)
 IU:Fk K "thing_for" "Desk.thing_for" (met 115 2)
 IV:Fk K "keep" "Desk.keep" (met 115 3)
 hk:mr K
 fo:gS K w "FORMS" nu
 ax:gT K w "ANSWERS" [("lasts","answer_lasts"),("deed","answer_deed"),("way","answer_way")]
 y0:Á À "set"=↑none
 y1:Á À "zip"=↑none
 y2:Á À "enumerate"=↑none
 z0:Á À "len"=↑none
 z1:Á À "range"=↑none
 z2:Á À "any"=↑none
 z3:Á À "all"=↑none
 z4:Á À "sorted"=↑none
 z5:Á À "isinstance"=↑none
 z6:Á À "bool"=↑none
 z7:Á À "int"=↑none
 z8:Á À "str"=↑none
 z9:Á À "list"=↑none
 O9:Á À "tuple"=↑none
 O8:Á À "max"=↑none
 O7:Á À "min"=↑none
abbrev HypoOfLaw:Prop:=∀ {q:Program}{loose:List Str}{XP:(Str->Option Value)->Heap->Prop}{YP:World->Heap->Prop}{d:DefRec}{K:Params->AB},d.params.defaults=[]->(∀ (w:World) (h:Heap),YP w h->(K w.params).In h)->d.name=("law":Str)->(∀ w:World,HH (K w.params) w)->
  PySem.W.WalkO q loose XP YP (PySem.Challenge.rw_purseborder_k96_whole_played_by_texts).row.toRowW d [] (λ f vs=>PySem.call f vs)
end zY
)
section
open PySem PySem.W PyProof.Rows
set_option maxHeartbeats 0 in
theorem PySem.Challenge.headOfLaw (hy:zY.HypoOfLaw):PySem.Challenge.rw_purseborder_k96_whole_played_by_texts.Holds:=by
 w_on;o_law
 simp (disch:=show hy) only [@id (PySem.Challenge.rw_purseborder_k96_whole_played_by_texts.row.Holds) (by k_head;(case hw=>w_witness2);k_fill;rcases (_:zY.HypoOfLaw) with hy;(exact hy rfl (λ w h Y=>PySem.W.kIn_of Y) rfl ?F);(case F=>(intro w;refine' #[?_,?_,?_,?_,?_,?_,?_,?_,?_,?_,?_,?_,?_,?_,?_,?_,?_,?_,?_,?_,?_,?_,?_,?_,?_,?_,?_,?_,?_,?_,?_,?_,?_,?_,?_,?_,?_,?_,?_,?_,?_,?_,?_,?_,?_,?_,?_,?_,?_,?_,?_,?_,?_,?_,?_,?_,?_,?_,?_,?_,?_,?_,?_,?_,?_,?_,?_,?_,?_,?_,?_,?_,?_,?_,?_,?_,?_,?_,?_,?_,?_,?_,?_,?_,?_,?_,?_,?_,?_,?_,?_,?_,?_,?_,?_,?_,?_,?_,?_,?_,?_,?_,?_];(all_goals first | show L5.Fx.i (by k_is) (by k_is) (by k_is) (by k_is) | k_is | show L5.Cn.i (by k_is) (by show#[_,rfl]) | show L5.Ct.i (by k_is) (by k_is) #[rfl,rfl] rfl () (.cons #[_,rfl] (.cons #[_,rfl] .nil)) | show L5.Fk.i (by k_is) (by k_is) (by k_is) (by k_is) (by k_is) (by k_is) (by k_is) (by k_is) (by k_is) (by k_is) | show L5.Fi.i (by k_is) (by k_is) (by k_is) (by k_is) (by k_is) (by k_is) (by k_is) (by k_is) | show L5.mr.i (by k_is) (by k_is) (by k_is) (by k_is) (by k_is) (by k_is) | show L5.gS.i (L5.lJ.i (by k_is) (by k_is) (by repeat first | show L5.Ry | apply L5.Rz) () ()) (by repeat first | show L5.Nk | exact L5.Nl (by k_is) #[rfl,rfl] rfl () (by repeat first | show .nil | exact .cons #[_,rfl] ?_) ?_) | show L5.gT.i (L5.lJ.i (by k_is) (by k_is) (by repeat first | show L5.Ry | apply L5.Rz) () ()) (by kernel_rfl)))))]
end
example:=`(
example À _:=x rfl rfl
example Á:=Int×Int
example Â:=F.os.length
example Ã:=.int
example Ä:=false
example Å:=(k:Int)
example Æ _:=x x y os ws qs
example Ç:=List Int
example È:=(zm À rfl)
example É:=Option
example Ê:=.str
example Ë:=congrArg
example Ì:=List.range
example Í:=.lst
example Î:=if_pos
example Ï:=List Bd
example Ð:=decide
example Ñ:=.tup
example ħ{F:zC}:=0
example Ò ħ(ok:F.Ok):=0
example Ó:=List Str
example ō:=.own
example ò:=(ō (.zF [.inr "fa"] [V.zB F]))
example Ý8:=im (nT Â)
example Ũ:=zt q
example ñ:=im (Ũ)
example ŏ:=(Ã n)
example ì:=im (nT p)
example Ý7:=im (x_ ns)
example Ö9:=(V.zB F)
example ê0:=im (Ã v)
example Á9:=(V.oh (V.xc (V.y9 F m) p q))
example Ô:=[Ý7,im ŏ,Ý8,im Ö9,↑ ò,ê0,ì,ñ,im (Ê Á9),J9]
example Õ:=by let#[a,b,c,d,rfl,ha,hb,hc,hd]:=h
example Ö:=Str.join
example î:=T.int
example Ş:=(λ z=>↑(î z))
example Œ _:=x _ _
example ø6:=(Ë Ş (mi Œ))
example Ç9:=(zQ (zr rfl (zr (zm (zm À (kx F)) À) rfl)) ø6)
example å:=(by change 2<=100;decide)
example ü:=if_neg
example ë:=(λ z=>↑(T.bl z))
example Ø:=by .rw[ü (λ h=>h.elim h1 h2)];show yf (pre _ (zy (yA (t1 Œ (z_ (zm À (Ë ë (zcQ h2))))) rfl) (yS (qt (zr Ç9 (zr Ç9 rfl)) å)))) rfl
example Ð9:=yQ F q
example ř{q:Á}:=0
example Ù ř(hq:Ð9):=0
example Ú:=F.os.getD p Ä
example Ł:=(zr rfl (zr À))
example ö7:=(zr rfl Ł)
example Û:=(zr rfl ö7)
example Ü:=T.str
example Ý:=List T
example Þ _:=x none none
example ç5:=AL.mp
example ß:=by rcases ç5 hp with rfl | hp
example ò0 _:=x F p q
example à _:=x ò0 k (s::ss)
example á:=[a,b,c,d]
example â:=#[⋯,⋯]
example ã _:=x P w K mg base
example Ü5:=fr.contains w.t
example ä:=(F.ws.filter λ w=>Ü5).map λ w=>(w.f:Int)
example æ _:=x F last
example Ŷ:=y9 F m
example ç:=xc (Ŷ) p q
example è:=os.length
example é:=List Nat
example ê:=decide_eq_true_eq
example í(F:zC):=0
example ï:=List (Á)
example ð:=zW s.pu q
example ô3:=(f J).bind _
example ó:=by change ô3=_;rw[h]
example Ŋ:=(cI 0)
example è3:=(zc 5)
example ô _:=x zi (zb zi è3 Ŋ)
example ß4:=zB F
example õ:=(ß4)
example ö:=(.bl true)
example æ3 _:=x s sub hi
example ø:=forIn (List.range' cur m) st (occBody æ3 limit)
example č:=List (Ç)
example ù{x y:Int}{os:Ó}{ws qs:č}:=0
example ú:=#[(),()]
example û:=(qs.getLast?.map (·.2))
example ý{J:Ev}:=0
example þ:=(Í ((w::ws).map Ü))
example Ì2:=É L5.W
example Ų:=zT F m
example Ô7 _:=x (zJ 7) mS ŏ
example ç3 _:=x F N true p (Ũ) "ever"
example ÿ:=∃ (p':Nat) (q':Á) (a b c:Ì2),turn Ô7 (rW ç3 Þ none)=↑(.nx (rW F N true p' (zt q') "ever" a b c))/\p'<Â/\yQ F q'/\zZ ((Ų).getD p' []) q'=true
example ê3:=by split <;> assumption
example Ā:=by have:=ok.a1;have:=ok.b1;unfold zC.yn;ext ê3
example ā:=by simp;lia
example Ă{p:Nat}:=0
example ŝ:=(xD F p).map
example Ŏ:=(k:Nat)
example Ĺ:=num Å
example ă:=(ŝ λ Ŏ=>Ü (Ĺ))
example Ą{m:Nat}(hm:m<=2000)(hr:mV [ß4]=↑(o8 (Ŷ)))(R:lF F m):=0
example á6:=plainT
example ú6(hf:á6 f=true):=0
example ą{f y:T}ú6 {p a b:Int}(hp:0<=p/\p<=13) (ha:0<=a/\a<=13) (hb:0<=b/\b<=13):=0
example é6:=pQ F p
example Ć:=(é6).find? (λ wi=>xl F l r wi.1)
example ć:=(xW à r (im (nT j)) none)
example ť:=(p:Int)
example Ĉ:=[w,"fa",num ť,num q.1,num q.2]
example Ä7:=([],[],[])
example ĉ _:=x (oG p0) (ps.foldl wH Ä7)
example Õ1:=yU s.pu q
example Ä3:=(F.yn (!s.pu))
example Ċ:=(xt s.pu (ð-s.gv) (min (Õ1+s.gt) Ä3))
example ċ:=of_decide_eq_true
example Č:=ts.length
example Ď:=p.length
example ď:=λ s=>Ð (s.p=p)
example Đ:=by cases pu <;> rfl
example đ:=by change ((e J).bind _).bind pU=_;rw[h];change (if inR (n:Int)=true then ↑(rangeT 0 (n:Int).toNat) else none)=_;rw[Î (by unfold inR;simp;lia),Uo];congr 1;show zaD λ k _=>by rw[zb9]
example ñ0:=1<=s.gv/\0<=s.gt
example Ē ħ{s:Sl}(hs:ñ0):=0
example ē(p:Nat):=0
example Ĕ:=p_ (pu:=s.pu).mp
example Ó4:=(zc 3)
example Ŗ:=(cI 1)
example è1:=(zc 2)
example ĕ:=(za (zk 1) (za (cS (Ê "fa")) (za (zo yP (za è1 zh)) (za (zo yP (za (zb zi Ó4 Ŋ) zh)) (za (zo yP (za (zb zi Ó4 Ŗ) zh)) zh)))))
example Ė:=(ō (Í ts))
example ė:=List.length
example Ę:=Ñ [Ã F.A,Ã F.B]
example ó0:=x8 ò0
example ę:=(ó0)
example Ě:=((j+1:Nat):Int)
example Ò1:=fresh
example ě{last:Ï}{Ò1:é}(s:St æ Ò1):=0
example Ĝ(pu:Bool):=0
example ĝ _:=x F.A F.B
example Ğ _:=x ⋯ ⋯
example É5{n:Int}:=0
example ğ É5(h0:0<=n) (h1:n<=13):=0
example Ů:=ws.length
example ð8(hl:Ů=fs.length) (hm:Ů<=100):=0
example ö9:=ws.zip fs
example Ö3:=∀ p∈ ö9,jx [Ê p.1,Ê p.2]=↑ ö
example Ù8(hw:((nu.map (·.1)).any λ k=>Ð (k=w))=true):=0
example Ġ Ù8 (hk:nu.lookup w=↑fs) ð8 (hf:Ö3):=0
example ġ{c0:Nat}{yr:é}(hy:L y=c0::yr):=0
example à2:=Ã (rV s.pu)
example Ģ _:=x (im (nT j)) (im (à2))
example ô8:=by exact ext ?_
example È4:=(L x).drop
example ê9:=by rw[strSub_toList];change (È4 a).take _=_
example ģ:=by congr 1;ext ô8;change (strSub x a _).cps.toList=_;ext ê9;rw[e,Nat.add_sub_cancel_left,List.take_left]
example Ĥ:=by rw[e];simp
example ĥ:=qs.map
example Ħ:=Í [ß4,nT p,Ã q.1,Ã q.2]
example Ì5:=Ñ [nT a,nT i]
example Ĩ _:=x (im ŏ) (im (Ì5))
example ĩ:=x.length
example Ī:=last.getD
example ī:=RN.start
example Ĭ:=F.ws[i]?=↑w
example ĭ:=Ñ (rs.map zI)
example Į:=ps.length
example į{α:Type}:=0
example î1 _:=x hp hq
example İ:=by let#[k1,k2]:=jY hd;have k0:k≠0:=λ h=>eV î1 (by rw[hd,h]);obtain⟨j,rfl⟩:∃ j,k=j+1:=#[k-1,⋯];have hjm:j<=m:=⋯
example Û4:=bs.length
example ò9:=r.length
example ı:=ò9=Û4/\∀ (i:Nat) x b,r[i]?=↑x->bs[i]?=↑b->b.1<=x/\x<=b.2
example Ü2:=.zF ks ts
example Ĳ(hk:nu.lookup w=↑fs) (hm:Ů<=100) (g:Str×Str->T) (h:∀ p∈ ö9,jz [Ü2,Ê p.1,Ê p.2]=↑(g p)/\á6 (g p)=true):=0
example Á6:=L2.yt
example ĳ:=zm À (by change Á6 ((w::ws).map Ü) 0=_;unfold Á6 L2.qc;simp)
example Ĵ:=F.yn s.pu
example ç6:=w.f=p
example ĵ:=∃ w∈F.ws,ç6
example Ķ:=Ev->É Bool
example ķ:=wz æ Ò1
example ĸ:=by obtain⟨m,rfl⟩:∃ k,m=k+1:=#[m-1,⋯]
example ĺ(q:Á):=0
example Ļ _:=x pu yn give get
example ï6:=os.map
example ļ(hq:∀ r∈qs,lg (ï6 Ü) r):=0
example Ľ:=AO.mp
example ľ:=by rw[zb3,zaJ];lia
example Ŀ _:=x p []
example ŀ:=ws.map
example ł(hp:p<Â):=0
example Ń _:=x (hns n hn).1 (hns n hn).2
example á3:=(Ê w)
example ń:=(.im á3)
example Ņ:=by congr 1;ext ô8;change (strSub x a ĩ).cps.toList=_;ext ê9;rw[zcI (by rw[zaK,qW];show AM _),e]
example Ò3:=(.im (Ê row))
example ņ:=[↑(.im (Ü2)),↑ Ò3,↑(.im þ),v]
example Ä4:=eq_int
example Ň:=by simp[hmx,xk,hk,hN,pN,oK,cm,pm,ps,d64,d2048,d65536,d327680,d8,Ä4,h5,h2,z2,zI,hl']
example ň:=y.length
example ŉ:=#[[c].toArray]
example ŋ:=told.getD k []
example õ5:=zW s.pu r
example Ō:=(xt s.pu (õ5-s.gv) (yU s.pu r))
example Ő:=Ö "; " (xU Æ)
example ő:=(xD F p).length
example ø1:=(lp pick J)
example ê5{f:AD}:=0
example Í5{pick:List (É Nat)}:=0
example À5{g:T->Ev->É Ev}:=0
example œ Í5 À5 ê5{J J':Ev}{y t:T}(hg:g y ø1=↑J') (hf:f J'=↑t):=0
example Ŕ:=F.ws.filter λ w=>Ð (ç6)
example ŕ:=[Ã a,Ã b,Ã c,Ã d]
example ŗ:=(rN F s q j)
example Ř{k:Nat}:=0
example á0:=ns.map
example Ś:=(á0 î)
example ś:=(Ê "keeper")
example Ŝ:=by simp[hmx,xk,hk,hN,pN,oK,cm,pm,ps,d64,d2048,d65536,d327680,d8,Ä4,h5,h2,o2,zI,hl']
example ş{A B:Int}:=0
example Š:=[Ý7,im ŏ,Ý8,im Ö9,↑ ò,ê0,ì,im (zt q1),none,none]
example š:=by constructor
example Ó3:=zT F k
example Ţ:=((Ó3).getD Ŀ)
example ţ:=É Int
example Ť:=[(0,12),(0,12)]
example Ŧ(n:Nat):=0
example Ò0:=(i:Int)
example Å4:=qf (by rw[A9,hw];rfl)
example Ç2:=(F.ws.map rP)
example Ý6:=Ñ [Ã w.f,Ã w.t,Ã w.a,Ã w.b]
example ŧ:=by have hi:Á6 Ç2 Ò0=↑(Ý6):=Å4
example ũ:=by rcases hb with rfl | rfl <;> decide
example Ū:=absurd
example ū:=(∀ x∈xs,∃ J',xm is J'=J0/\turn g b (enc x) J0=↑(if test x=true then .rt (ret x) else .nx J'))
example Ŭ:=F.stall p
example õ6:=(k+1:Nat)
example ŭ:=(õ6:Int)
example ů:=List α
example Ű:=F.ws.length
example ű _:=x p hp
example ų:=(zc 0)
example Ŵ:=("floor":Str)
example ŵ:=î (wi.2:Int)
example ŷ(k:Nat):=0
example Ÿ:=by simp[hmx,xk,hk,hN,pN,oK,cm,pm,ps,d64,d2048,d65536,d8,Ä4,h5,zI,hl']
example Ë2:=im õ
example ì9:=q.2+w.b
example ì8:=q.1+w.a
example Ź:=[Ë2,ñ,im (nT i),im (Ñ [Ã w.a,Ã w.b]),im (Ã (ì8)),im (Ã (ì9))]
example ź:=[Ý7,im ŏ,Ý8,im Ö9,↑ ò,ê0,ì,ñ,none,none]
example é0:=(Option.bind · _)
example Ż _:=x (Ë é0 (zQ rfl (W0 F ű oX))) (A7 (zbS Œ) (by rw[List.length_zipIdx];lia))
example ż:=Builtin.Str.strKind
example æ0 _:=x F l p
example Ž:=ia æ0 q k (zt r)
example ž:=by rintro⟨p,hp,h1,h2⟩
example ſ:=Txt.split
example À0:=Ö y (ps++[r])
example À1:=List (Ï)
example À2:=beq_eq_false_iff_ne.mpr
example À3:=(.bl Ä)
example À4:="floor fa "++t
example À6(last:Ï):=0
example À7:=Ev->É (Ý)
example À8:=rows.length
example À9:=num n
example Ñ2:=oO (l s) x.2
example Á0:=∃ w∈lZ (l (!s)) sh x.1 (Ñ2),(w.1<=y.1\/w.1<=z.1)/\(w.2<=y.2\/w.2<=z.2)
example Á1:=by change (g J).bind _=_
example Á2 _:=x s.pu (Ĵ) s.gv s.gt
example Á3:=by .rw[Î (.inr h2)];show yf (pre _ (wI (xO (t1 Œ (z_ (zm À (Ë ë (za3 h2))))) rfl))) rfl
example Á4:=(λ b=>↑(T.bl b))
example á4:=ps.map
example Á5:=(.im (Í (á4 zt)))
example Á7:=(ö9).map
example Á8:=(qu N [Ü2,row]).set 2 ↑(.im w)
example Â0{r:Ç}(h:lQ r):=0
example Ü9(x y:Int):=0
example Â1 Ü9 (os:Ó) (ws qs:č):=0
example Â2:=(cS (Ê " "))
example Â3:=(rW F N Ä p (Ũ) (Ĺ) Þ none)
example Ð8:=zB6.mp
example Â4:=#[[],last,rfl,λ r hr=>by cases Ð8 hr;show#[s.len,s.gd],rfl,zD4 _]
example ñ5:=Txt.contains s c
example Â5:=((nK w).map λ c=>T.bl (ñ5))
example Â6 _:=x (zm (zm À (jW F)) rfl hi) À
example Â7:=zb zi è1 Ŋ [↑(.im (Ü2)),↑ Ò3,↑(.im þ),u]
example Â8:=Txt.replace p ">" " "
example Â9:=PySem.W.KIN.num_reads
example æ6 _:=x F (zT F j)
example Ã0:=λ wi=>!xl æ6 q wi.1
example Ã1 _:=x (fK F) â #[hkP.1.1,by have:=hkP.1.2;lia] #[hkP.2.1,by have:=hkP.2.2;lia]
example å8(h0:J[i]?=↑↑ Ė):=0
example Ô5(hl:Č+us.length<=10000):=0
example Ã2{ts us:Ý}å8 (h:f J=↑(Í us)) Ô5:=0
example Û2:=by dsimp only
example Ã3:=by ext Û2;lia
example Ã4:=(.im (x_ ns))
example Ã5:=(.im (zB Æ))
example Ã6:=(F.os.map kt)
example Ã7:=(zr rfl (zr rfl (zr (qt rfl å) rfl)))
example Ã8:=by let#[r,hr,rfl]:=Ľ hp
example Ã9:=by rw[AR,jO,h];let#[J',h1,h2]:=ht x AU;rw[h2,zaL];by_cases c:test x=true
example Ä0:=(.nx (J.set i ↑(ō (Í (ts++us)))))
example Ä1 _:=x (Wl hp ha hb) #[] () () () () () rfl ()
example Ä2:=(0<=q.1/\q.1<=F.A)/\0<=q.2/\q.2<=F.B
example Ä5:=("keeper":Str)
example Ä6:=s.1.length+s.2.1.length+s.2.2.length
example Ä8:=yY rfl (oJ â)
example Ä9:=(zo i9 (za (zk 1) (za (zk 2) (za (zk 3) (za (zb zi (zc 8) Ŋ) zh)))))
example Å0:=Ĭ/\ç6/\xl F (zT F (k-1)) q w=Ä
example Å1:=(Ì 16).map (λ Ŏ=>mixed ns (30+k))
example Í7:=Gd A B b
example Å2{b c:Bd}(h:Í7) (h':Gd A B c):=0
example Å3:=λ p hp=>?_
example Å5(hw:∀ r∈ws,my many r):=0
example Å6:=by simp![AL,za5,or_false] at hk;rcases hk with rfl | rfl | rfl | rfl <;> lia
example Å7(h1:(w == Ŵ)=Ä) (h2:(w == ("mirror":Str))=Ä) (hA:aH.lookup w=↑A):=0
example Å8:=by let#[a0,i0,r0,w0,c1,c2,c3,c4,c5]:=Qj ok (gw ű) hq h0 h1
example Å9:=[Ë2,ñ,im (nT i),im (Ã (ì8)),im (Ã (ì9))]
example Æ0:=by .rw[ü c];rw[zE9] at c;rw[c];show jN enc ret test J0 xs J' h1 λ y hy=>ht y (AX _ hy)
example Õ8:=last.length
example Æ1{last fo:Ï}(hl:fo.length=Õ8):=0
example Æ2:=by subst hc;have e2:=jZ (jZ e);rw[qW y] at e2;change strSub x a _::partsFrom x ň _ cs=_
example Ó8:=im (nT k)
example Æ3:=∀ o,_->WX [im (Ę),im (xZ s),ñ,Ó8,none,none,none]=o
example Æ4:=os.all ng=true
example Æ5:=∀ p∈ps,c0∉L p
example Æ6:=l.getD w.t []
example Æ7:=l.length
example Ð5 _:=x (Ã i) (Ã j)
example Æ8:=zS neg Ð5=↑(.bl (cond neg (! Ð (i=j)) (Ð (i=j))))
example Æ9:=ns.length
example Ç0:=(.im (Ã many))
example Ç1:=(.im (Ã more))
example Ç3:=yf (pre _ (wI (xO (Xs (z_ (zm À (Ë ë (za3 h1))))) rfl))) rfl
example Ç4:=num (x.2:Int)
example Ç5:=by let#[x,hx,hp]:=zaM.mp hp
example Ç6(ns:Ç):=0
example Ç7 _:=x (is:=[2]) (g:=zJ 2)
example Ç8:=F.ss.Pairwise (λ a b=>a.p≠b.p)
example Ó2:=AO.mpr
example È0:=Ó2 #[w,hw,rfl]
example È1:=(.im (Í (bs.map bT)))
example È2:=(Ĵ+1-zW s.pu x).toNat
example î8:=zB9.mp
example È3:=by rcases î8 hp with hp | hp
example È5:=Ñ (ĥ zI)
example È6:=sizeLine=16777216
example È7:=Str.length_append
example È8:=(zb zi (zc f) Ŋ)
example È9:=p++[rk s x]
example É0:=F.ss.filter
example É1:=∀ s∈os,s="keeper"\/s="taker"
example É2:=(ï6 _).length
example É3{ts:Ý}:=0
example É4 _:=x n (g+give) (xM (t-get))
example É6 _:=x F N kp p (Ũ) left
example É7:=Txt.startswith
example É8:=(.im (Ã at'))
example É9:=("number":Str)
example Ê0:=PySem.intText?
example Ê1:=(yA (nN (z_ (zm (yY À) À)) (z_ (zm È (hc2 _) i1))) rfl)
example Ê2{i:Nat}ê5:=0
example Ê3:=by have e:(zT F (j+1)).getD Ŀ=xu æ6 p:=kr (λ p=>xu æ6 p) Â Ŀ hp
example õ7:=Ñ ts
example Ê4:=∀ ts,t=õ7->∀ r∈ts,qE r=true
example ì7:=ko (pu:=s.pu).mpr
example Ê5:=by rw[og,mF] at h2;show#[p,hp,ì7 (by rw[og,mF];lia)]
example Ê6{last:Ï}(hg:∀ p,Gd ĝ (Ī Ŀ)):=0
example Ê7{r:Ç}(h:kO r):=0
example Ê8:=∀ r,qs++xF r û=xF (p++r) none
example Ê9 _:=x hA hB hl' (λ x hx=>gb x (AX _ hx)) (λ x hx=>gc x (AX _ hx)) hs
example Ñ7{r:É T}:=0
example Ë0{x y:T}Ñ7(h1:fa J=↑x) (h2:fb J=↑y) (h:f x y=r):=0
example Ë1:=λ q hq=>h q (AX _ hq)
example Ë3:=(Í ((kn 14).map Ü))
example Ë4:=wC [7,8,9] (zJ 7) mS Ś (rW F N Ä p (Ũ) (Ĺ) a b c)
example Ë5(he:pZ t=Ä):=0
example Ë6:=by rw[A4];exact zaD λ r hr=>?_
example ä8:=(.im a)
example Ë7:=[↑ ä8,↑ Ė,v,↑(.im (zI [p,b,c,d]))]
example Ë8:=by let#[t,ht]:=(ir (ph hy)).mp h.2.1
example Ë9:=by split <;> lia
example Ì0 _:=x 2000 [] (ī F) (Ì Â)
example Ì1:=(zS Ä)
example Ì3:=[Í [f,Ã p,Ã a,Ã b]]
example Ì4:=(ym (zQ rfl h1))
example Ì6:=(Ì 599).map λ Ŏ=>num (1+Å)
example Ì7 _:=x ok hm hr R
example Ì8:=(λ k:Nat=>î (0+Å))
example Ì9:=Í ((p0::ps).map Ü)
example è4:=(zc 4)
example Ø4:=(cI 2)
example Í0:=zO (zb xk (zb zi è4 (zb ô Ŗ)) (zb ô Ø4)) ć
example ê1{x y:Str}:=0
example Í1 ê1(hy:1<=ň):=0
example Í2:=by let#[w,hw,rfl]:=Ľ hc
example Í3{b:Int}(h:b=0\/b=1):=0
example Í4:=by let#[n,hn,rfl]:=Ľ hp
example Í6:=Î (A7 hl ())
example Í8:=b.length
example Í9:=(rows.map zI)
example Î0:=num (x.1:Int)
example ð4:=n<2147483629
example Î1:=∀ n∈ns,0<=n/\ð4
example Î2:=(many:Int)
example Î3:=zt (x,y)
example Î4:=by change (u J).bind _=_
example í1:=rs.map fst
example Î5:=by generalize hns:í1=ns at *;simp![ha,Bool.true_and]
example Î6:=by simpa [iW] using hk
example Î7:=rs.length
example Î8:=eq_str
example Î9:=L4.qb (qD rows)
example Ï0:=qs.length
example Ï1:=λ wi=>Ð (wi.1.f=p)
example õ1:=zC8.mp
example Ï2:=by let#[w1,w2]:=õ1 hw
example ï4:=k<many
example Ï3:=by rw[ü hk] at a3;subst a3;have hN:¬ ï4:=⋯
example Ï4:=zZ ((Ų).getD Ŀ) q=true
example Ï5:=[↑ ń,none]
example Ï6:=ko (pu:=s.pu).mp
example Ï7:=(zy (qy rfl h1) rfl)
example Ï8:=(ir (ph hy)).mpr #[_,jZ e]
example Ï9:=List (ţ)
example Ð0(h:lK Æ):=0
example Ð1:=by simp![AR,za4,zbA,List.sum_nil,zC0,zaG,e];lia
example Ð2:=(ts.all λ r=>xT r (sb è))
example ö3:=num (Å-12)
example Ð3:=(L (ö3)).contains
example Ð4:=(.nx (rW F N Ä p' (zt q') (num (k':Int)) a b c))
example Ð6 _:=x (ts:=[Ñ (ï6 Ü),Ñ (ŀ zI),È5]) h.x h.y rfl
example Ð7(ha:P a) (hb:P b) (hc:P c):=0
example Ñ0:=(ō (Í []))
example Ñ1:=os++(ŀ rQ++ĥ qO)
example Ñ3:=fr.map λ Ŏ=>î Å
example Ñ4:=[Ñ [Ã 0,Ã 0]]
example Ñ5:=(m8 (qB (zQ (zr (zm À (eg _ p hlen)) rfl) e2)))
example Ñ6:=by let#[a,b,c,d,rfl]:=Ya (show Ď=4 from (hr ű).2.1)
example Ñ8:=by ext ó;rfl
example Ñ9:=Gd ĝ b
example Ò2:=(xU Æ).length
example Ò4:=(kz (zQ rfl (WL F q hq)))
example Ò5:=cS (Ê "ever")
example Ò7 _:=x È rfl
example Ò6:=(zQ (zr rfl (zr rfl (zr rfl (zr Ò7)))) hch)
example Ò8:=[↑(.im (õ7)),↑(.im (Ñ (bs.map zt)))]
example Ý1:=α->Bool
example Ò9{b:Sm}(enc ret:α->T) (test:Ý1) (J0:Ev):=0
example Ó0:=xs.length
example Ó1:=∀ k,f<=k->¬ At x y ĩ k
example Ó5:=(mK a s ↑(.im (Ê p)))
example Ó6:=(cB " " 1)
example Ó7:=List.Pairwise.imp_of_mem
example Ó9:=(xW à r' (im (nT j)) y)
example Ô0{o:É Out}:=0
example Ô1(t:T):=0
example Ô2(yn give get:Int):=0
example Ô3(told:À1):=0
example Ô4:=by simp[zS,dep,eqT]
example Ô6 _:=x (zm Ò7 ho) rfl
example Ô8:=by rw[Î hk] at a3;subst a3;have hN:ï4:=⋯
example ë9:=(eC Œ true).trans
example Ô9:=by rw[show ă=(ŝ λ Ŏ=>Ĺ).map Ü by rw[A4];rfl];exact ë9 ?_
example Õ0:=[↑a0,↑a1,none,none,none,none,none,none]
example Õ2:=zZ ((ŋ).getD Ŀ) q
example Õ3:=(ts.all λ r=>xT r (wb n))
example Õ4:=m x<=k/\(g x).length<=m x
example Õ5{i j:Int}(h1:f J=↑(Ã i)) (h2:g J=↑(Ã j)):=0
example Õ6:=Í (ŝ λ k=>nT k)
example Õ7:=(Ī w.t [])
example Õ9:=by unfold zW yU;ext Ë9
example Ö0:=T.tup
example Ö1:=w.length
example Ö2:=[↑ ń,↑(.im (Ê s)),↑(.im (Ã m))]
example Ö4:=pre++[last]
example Ö5:=λ b g h=>nN (z_ (zm À (Ë ë (zcQ h1)))) h
example Ö6:=(kz (zQ rfl (dW F ű)))
example Ö7:=(zb Ì1 è3 (xE zh))
example Ö8:=λ W=>Y5 ok.oX Œ rfl (λ k=>rfl) λ k hk=>Ä8
example Ø0(b c:Bd):=0
example Ø1{f g:AD}:=0
example Ø2:=ok.ss s (zaN hs)
example Ø3:=(zc 1)
example Ø5:=((r::rs).map zI)
example ç9:=(zI r)
example Ø6:=[↑ ä8,↑ Ė,↑(.im ç9),w]
example Ø7:=(qt (zr rfl (zr (zm È À) rfl)) (ċ rfl))
example Ø8{p:Str}(h:g J=↑(Ê p)) (hp:Ď<=1000000):=0
example Ø9:=by have:=Ë ė e;simp at this;lia
example Ù0:=∃ k:Nat,zZ b (xt s.pu (ð-k*s.gv) (Õ1+k*s.gt))=true
example Ù1(hm:1<=many) (hm8:many<=8):=0
example Ù2:=by ext ó;show h'
example Ù3:=[Ë2,ì,ñ,im ŏ,none,none,none]
example Ù4:=λ k:Nat=>nT k
example Ù5:=by .rintro⟨k,h1,_⟩;exfalso;have:0<=Å*give:=zb2 Ğ;lia
example Ù6:=by rw[p_ (pu:=s.pu),og,mF];lia
example Ù7:=many+more
example Ù9:=turn Ô7 (rW F N Ä p (Ũ) (num Ě) Þ none)
example Ú0:=by rw[<- qW,hy];simp
example Ú1:=occurrences x y 0 ĩ n
example ç8:=xs.map
example Ú2:=mR (ç8 λ x=>T.bl (g x))=↑(ç8 g)
example Ú3:=(ts.map rowOf).map fst
example Ú4:=(yS (qt rfl (ċ rfl)))
example Ú5:=[im (Dk õ),Ë2,ì,ñ,im À3,W]
example Ú6:=by .intro r hr;let#[q,_,rfl]:=Ľ hr;show ZX q
example Ú7{row w:Str}{ws fs:Ó}:=0
example Ú8{g:Á->Bd}{m:Á->Nat}:=0
example Ú9{i:Nat}{w:Wy}(hw:Ĭ):=0
example Û0 _:=x q' (λ z hz=>hn z (AX _ hz)) h2 h3 h4 a' b' c'
example Û1:=Ñ [Ñ [Ã 0,Ã A],Ñ [Ã 0,Ã B]]
example Û3:=(qH æ p)
example Û5:=(ts.zip bs).all λ p=>wh p.1 p.2.1 p.2.2
example Û6:=Option.map_some
example Û7:=(.im (Ã span))
example Û8:=[↑ ń,↑(.im ŏ)]
example Û9:=(fW (zr hb rfl) (Nat.le_add_left 1 99))
example Ü0:=(yA À)
example Ü1:=(Í ((["floor","fa",t]:Ó).map Ü))
example ã6:=.inl
example Ü3:=oM [Ã y,(xg d (ã6 k)).getD (Ã y)]
example Ü4:=(z_ È)
example Ü6:=λ W=>TX () rfl λ k hk=>#[_,rfl,Ä8]
example Ü7:=(ym (zQ Û hs))
example Ü8(b:Bd):=0
example Ý0:=beq_iff_eq
example Ý2:=ot F q w
example Ý3:=#[_,rfl]
example Ý4:=Í (ŀ Ü)
example Ý5:=(b.map zt)
example Ý9 _:=x "keeper" "taker"
example Þ0:=by have g2:Gd A B x:=h x (Ĥ);have l1:=g1.ph hA.1;have l2:=g2.ph hA.1
example Þ1:=zb zi è4 (zb ô Ŗ) ć=↑(Ã (õ5))
example Þ2(hx:0<=x/\x<=4) (hy:0<=y/\y<=4) (hn:è=many):=0
example Þ3:=qM (ĥ fst)=true
example Þ4:=by rw[zcO,zaJ];simp
example Þ5:=by change ↑(T.bl ((List.map Œ).all id))=_;rw[zaW]
example Þ6:=by let#[a,b,c,d,rfl,h1,h2,_]:=hw r hr
example Þ7:=if Å*s.gv<=ð then ↑(rN F s q k) else none
example Þ8:=[im (Dk õ),Ë2,ì,ñ,im ö,W]
example Þ9:=(["floor","fa"]:Ó)
example ß0:=λ k hk=>?_
example ß1(b:Bool):=0
example ß2:=by unfold xM;ext Ë9
example ß3:=rg zI _ rs ?_ hl Å3
example ß5:=(b.flatMap g).length
example ß6:=ss.any λ s=>Ð (s=x)
example ß7:=zb yZ (zb xG è3 (cI 2000)) (cI 3)
example ß8{ps:Ó}(h0:ps≠[]):=0
example ß9{a0 a1 a2:W}{d:List (Key×T)}{S:Ý}:=0
example à0:=by have h3:(qz a b q).1<=A/\(qz a b q).2<=B:=by simpa [jX] using h2
example à1:=by change (c J).bind _=o;rw[e];show e'
example à3:=iB [Dk õ,ß4,nT p,Ũ,.bl true]
example à4:=[↑(.im õ),↑(.im (Ã p)),none]
example à5:=a+(L p).length
example à6:=(told++[last])
example à7:=List.replicate
example à8:=bJ (hg w.t) hq
example à9:=(za (cS (Ê k)) (za (cS (Ê l)) zh))
example á1:=Builtin.bitAnd
example á2:=(.im (Ã num))
example á5:=Ö " " (w::ws)
example á7:=(oO (l s) y.2)
example á8:=Ì told.length
example á9:=by rw[hk];rfl
example ù2{xs:Ý}:=0
example â0 ù2(hu:u J=↑xs) (hl:Ó0<=100):=0
example â1:=by dsimp only at h1 h2
example â2:=by rw[zB1,zb4,Î hp];rfl
example â3:=by rw[<- zaZ,cu,List.zip_map_left,A4];rfl
example â4:=by intro p hp;ext ß
example â5:=by let#[rs,rfl,hr]:=Ua ha;have hl:Î7<=16777216:=by exists hz'
example â6:=by change (c J).bind _=_;rw[h];show h'
example â7 _:=x (zW s.pu p) (yU s.pu p)
example â8:=[im (o8 told),ì,ñ,none,none]
example â9:=(Á7 λ _=>T.bl true)
example ã0:=iB [Dk õ,ß4,nT p,Ũ,.bl Ä]
example ã1:=by have b1:0<=q.1/\q.1<=12:=hk.1;have b2:0<=q.2/\q.2<=12:=hk.2
example ã2 _:=x rfl (zm À (XR F s.pu))
example ã3(ha:((L w).all λ c=>Ð (c<128))=true):=0
example ã4:=[Ë2,ì,im (rT l),none,none]
example ã5:=by change (g J).map _=_;rw[h];rfl
example ã7:=Ó2 #[r,hr,rfl]
example ã8:=xu æ p
example ã9:=h w w1 (by exists w2)
example ä0:=∀ i,xr (l.getD i []) (m.getD i [])
example ä1:=(k+1)
example ä2:=ŭ*s.gv=k*s.gv+s.gv
example ä3:=p.toNat
example ä4:=(zO (zb xk Ø3 (zo wD (za ų zh))))
example ä5:=by simp[h]
example ä6:=∀ k:Nat,ï4->∃ r∈rs,fst r=Å
example ä7:=(∀ r∈qs,lg os r)
example ä9:=(À9)
example å0:=nP h0 (k:=0) rfl ha
example å1:=nP h0 (k:=2) rfl hc
example å2:=nP h0 (k:=3) rfl hd
example å3:=(ss.map Ü)
example å4:=bd.map (qz w.a w.b)
example å5:=turn (zJ 6) gL (nT j) (xW à ŗ Þ)
example å6:=ę[a]?=↑r
example å7:=p'<Â/\yQ F q'/\xc (Ŷ) p' q'=↑k'
example å9{n:Nat}:=0
example æ1{s:Sl}{ss:List Sl}:=0
example æ2:=(zm (x:=zB Æ) À (qf (k:=1) rfl))
example æ4:=by .rcases bq (h.o ű) with rfl | rfl <;> decide
example æ5:=by .simp![zC0,AQ];lia
example æ7 _:=x ok hr R hp
example æ8:=by have h':Ð (a<b)=true/\qM (b::l)=true:=by simpa [qM] using h
example æ9:=by change (f J).map _=_;rw[h];rfl
example ç0:=xF (p++[x]++r) none
example ç1:=λ c hc=>h c (by rw[e];simp[hc])
example ç2:=by have h1:=(qw ha).1;have h2:=(qw hc).1;have h3:=(qw hd).1
example ç4:=r.1<=p.1/\r.2<=p.2
example ç7:=by unfold qz xM;ext Û2;ext Ë9
example è0:=λ _=>rfl
example è2:=(.im (Í os))
example è5:=nF x y
example è6:=(" ":Str).length=1
example è7:=qT i f J=↑(.nx (J.set i ↑ Ė))
example è8:=[clip a,↑b,clip c,clip d]
example è9:=Bool->ţ
example é1:=(xm is J)
example é2:=yf (zy Ì4 (wI (xO Ü4 rfl))) rfl
example é3:=(λ wi:Wy×Nat=>ŵ)
example é4:=wz æ fr
example é5:=(St.start ok)
example é7:=zi (Ñ Ã6) (nT p)
example é8:=((0:Nat):Int)
example é9:=xc (Ŷ) w.t r
example ê2(g t:Int):=0
example ê4(h:f J=↑(Í ts)):=0
example ê6 _:=x (c0:=32) (yr:=[]) ()
example ê7{ks:List Key}:=0
example ê8 _:=x hf (ns:=[p,a,b])
example ë0:=xo.mpr #[p,hp,zC6 _,zC6 _]
example ë1:=(0<=p.1/\p.1<=A)/\0<=p.2/\p.2<=B
example ë2:=(0<=q.1/\q.1<=A)/\0<=q.2/\q.2<=B
example ë3:=PyProof.Rows.split_weight x y hy
example ë4:=by rcases h with rfl | rfl <;> decide
example ë5:=(yA (z_ (zm È (hc3 _) i2)) rfl)
example ë6 _:=x pu (xt pu x y)
example ë7:=by rintro a i r w D rfl ha hra hwi hld hsel
example ë8:=by have p0:=hb ű;have g0:0<=zW s.pu p/\0<=yU s.pu p:=Õ9
example ì0:=by unfold zR;rw[Î hn,h];rfl
example ì1:=by have h2:=Ï6 h1;have h3:=Ĕ (show yQ F p from hb.xx ű)
example ì2:=Ö y (p::qs++[r])
example ì3:=A8.mpr ⋯
example ì4:=by exists hl
example ì5:=nW last fo
example ì6:=zD0.mpr
example í0:=(1:Int)<=(Č:Int)
example í2:=Á6 Ś Å=↑(Ã (ns.getD k 0))
example í3:=lP (ĭ) many=true
example í4:=Ê "taker"
example í5:=((h0 Œ).mpr rfl)
example í6:=L4.qb rows
example í7:=pY is c b (n+1) J
example í8:=[ß4,nT p,Ũ]
example í9(bs:Ï):=0
example î0(p:Str):=0
example î2:=by have t0:zO Ö7 ć=↑ Ä:=z_ (zm À (Tv s ss))
example î3:=kr Œ Œ (by rw[s.len];show hp)
example î4:=(Í ((o.map (rk true)).map zI))
example î5:=zW s.pu ŗ
example î6{last:Ï}{w:Wy}(hb:Gd ĝ Õ7):=0
example î7:=(a J).bind _
example î9:=(ķ).getD Ŀ
example ï0:=(jB F p).any
example ï1:=(Ã k)
example ï2:=Ñ [a,Ñ os,Ñ ws,Ñ ss]
example ï3:=Å<(Æ9:Int)
example ï5:=("a":Str) == w
example ï7:=(zo yP (za (zb zi È8 Ŋ) zh))
example ï8:=(zo yP (za (zb zi È8 Ŗ) zh))
example ï9:=[↑(.im (Ê t)),↑(.im V)]
example ð0:=tab.lookup w
example ð1:=(ō (.xa d))
example ð2:=[ß4,Ã p]
example ð3:=λ k:Nat=>Ö0 [Ã Å,rT (ŋ)]
example ð5:=("ever":Str)
example ð6(s:Rd):=0
example ð7:=by rw[ql,hg,zC9,xP,zC9,hf];rfl
example ð9(hn:n<=1000) (h:e J=↑(nT n)):=0
example ñ1:=nofun
example ñ2:=(by rw[AQ];lia)
example ñ3:=(by rw[h1];rfl)
example ñ4:=ŀ (·.map clip)
example ñ6:=(Í ((b.map (rk Ä)).map zI))
example ñ7:=Ö0 [Ã (wi.2:Int),rP wi.1]
example ñ8:=(yY È (gp ⋯))
example ñ9 _:=x hs.1 hs.2 100
example ò1(ha:L w=a::as) (h102:a≠102):=0
example ò2(b o:ï) (hl:Í8+o.length<64):=0
example ò3 _:=x (retS (cS À3)) yo
example ò4 _:=x Ì7 hw9 gw A5
example ò5:=Ū (YF e h.1 z ht) (hf p AU)
example ò6:=Eq.trans
example ò7:=qz a b r
example ò8:=bs.foldl
example ó1:=λ c=>Ð (c∈L "0123456789")
example ó2:=yf (zy Ü0 (wI (xO À))) rfl
example ó3:=λ wi=>ŵ
example ó4:=(Â:Int)
example ó5:=A8.mp hk
example ó6:=(qB rfl)
example ó7:=by rw[h0];ext Û2
example ó8:=by rw[zD7,zD7,qW,qW y] at this;lia
example ó9(Ò1:é):=0
example ô0(hs1:1<=span) (hs2:span<=12):=0
example ô1:=by unfold gX WV;generalize dB=bb at h1 ⊢
example ô2:=by have hl':À8<16777216:=⋯
example ô4:=lT (È5) os=true
example ô5:=by subst h2;show yf (zy (ym rfl) Ï7) rfl
example ô6(a i:Nat) (r:Á) (w:Wy) (D:T):=0
example ô7:=(Ñ [br,Ñ os,ĭ,È5])
example ô9:=partsBetween_eq
example õ0:=(jq A B a b bd)
example õ2:=zC8.mpr
example õ3:=pL Ļ n g t
example õ4:=F.ss.length<=60
example õ8:=a::b::l
example õ9:=r.getD
example ö0:=zE4.mpr
example ö1:=λ n=>w == À9
example ö2:=["a","b"]
example ö4:=num a
example ö5:=L " "
example ö6:=by rw[za4,za4,zaB];rfl
example ö8:=(fs.map Ü)
example ø0:=(z_ (zm À ht))
example ø2:=(p.foldl l7 [])
example ø3:=(zQ rfl (W9 F))
example ø4:=b.Pairwise (λ x y=>m x<m y)
example ø5:=hm x hx
example ø7:=ç=↑k
example ø8:=(xW à (rN F s q (j+1)) Ģ)
example ø9:=Zg [ß4,nT p,Ũ,Ã n]
example ù0:=λ s=>s == Ä5
example ù1:=Z5 hp c1 hsel (h2.trans h3)
example ù3{b:Bool}(h:g J=↑(.bl b)):=0
example ù4(x:Int):=0
example ù5(enc:α->T):=0
example ù6(g:Ý1) (xs:ů):=0
example ù7(w:Str):=0
example ù8:=by have:=h.ln;simp![xU,zC0,zD7,AQ];lia
example ù9:=by ext Î4;rw[hu];show Í6
example ú0:=l true
example ú1:=(p.foldl mQ qg)
example ú2(os:Ý):=0
example ú3{w:Str}:=0
example ú4{N:T}{kp:Bool}:=0
example ú5:=by have n8:=ok.n8
example ú7:=by have:=(ø5).2.2;have:=(hm y hy).2.2
namespace L5
open PySem L2 L3
section
variable {i:Nat}{f:Str}{g h:AD}{ý}{a:É Addr}{c:Str}{x y:T}
def kz (h:g J=↑y):l8 g J=↑(.nx J):=ã5
def zQ {F:AG}{u:À7}ù2(h:u J=↑xs) (hF:F xs=↑y):zo F u J=↑y:=by ext Î4;rw[h];show hF
def zr {u:À7}ù2(h:g J=↑x) (hu:u J=↑xs):za g u J=↑(x::xs):=by ext Á1;rw[h];ext Î4;rw[hu];rfl
theorem qt {u:À7}â0:tupS u J=↑(Ñ xs):=ù9
def z_ ù3:zO g J=↑b:=by ext Á1;rw[h];rfl
theorem jo É3 å8 (h:g J=↑y) (hl:Č<=10000):qU i g J=↑(.nx (J.set i ↑(ō (Í (ts++[y]))))):=by
 unfold qU;ext ó7;rw[h];show Î (zbH hl ())
def zy {a b:Sm}{J J':Ev}Ô0(h:a J=↑(.nx J')) (h':b J'=o):zv a b J=o:=by change î7=o;rw[h];show h'
def wI {a b:Sm}ý{y:T}(h:a J=↑(.rt y)):zv a b J=↑(.rt y):=by change î7=_;rw[h];rfl
def yA {c:Ķ}{g h:Sm}ý Ô0(e:c J=↑ Ä) (e':h J=o):yi c g h J=o:=à1
def xO {c:Ķ}{g h:Sm}ý Ô0(e:c J=↑true) (e':g J=o):yi c g h J=o:=à1
def qy {is:é}{f:À7}À5{b:Sm}ý É3 Ô0(h:f J=↑ts) (h':wC is g b ts J=o):qF is f g b J=o:=by change ô3=o;rw[h];show h'
def ym Ê2 ý{y:T}(h:f J=↑y):zP i f J=↑(.nx (J.set i ↑(.im y))):=æ9
def yf {N:Ó}å9{g:Sm}{ys:Ý}{y:T}(h:g (qu N ys)=↑(.rt y)) (hn:ys.length=n):zR N n g ys=↑y:=ì0
abbrev im Ô1:É W:=↑(.im t)
abbrev nT Ŧ:T:=Ã (n:Int)
def yS (h:g J=↑y):retS g J=↑(.rt y):=ã5
def qB ù3:xh g J=↑b:=by ext Á1;rw[h];rfl
def m8 {f:Ķ}{b:Bool}(h:f J=↑b):qe f J=↑(!b):=æ9
def nN {f g:Ķ}{b:Bool}(h:f J=↑ Ä) (h':g J=↑b):qo f g J=↑b:=Ù2
def Wi {f g:Ķ}{b:Bool}(h:f J=↑true) (h':g J=↑b):nB f g J=↑b:=Ù2
def aI {f g:Ķ}(h:f J=↑ Ä):nB f g J=↑ Ä:=Ñ8
end
end L5
namespace SJ
open PySem PySem.Builtin.Str StrLaws
def L (x:Str):é:=x.cps.toList
def ext ê1(h:L x=L y):x=y:=Str.ext' (Array.toList_inj.mp h)
def pF (x y:Str):L (x++y)=L x++L y:=by unfold L;rw[Str.cps_append,Array.toList_append]
def qW (x:Str):(L x).length=ĩ:=zD2
theorem ir ê1 Ř(hy:1<=ň):At x y ĩ k↔∃ t,È4 k=L y++t:=by
 ext š
 .rintro⟨h1,h2⟩;rw[subAt_eq,Ý0] at h2;exact#[(È4 k).drop ň,?_];have e:L y=(È4 k).take ň:=h2.symm;rw[e,zc1]
 .rintro⟨t,h⟩;have hl:=Ë ė h;rw[zaK,zD7,qW,qW] at hl;exact#[⋯,?_];rw[subAt_eq,Ý0];change (È4 k).take ň=L y;rw[h,List.take_append_of_le_length (by rw[qW];show AM _),zcI (by rw[qW];show AM _)]
def jZ į{l p r:ů}{a:Nat}(h:l.drop a=p++r):l.drop (a+Ď)=r:=by
 rw[<- List.drop_drop,h,List.drop_left]
theorem YF į{l p r t:ů}{a c:Nat}{x:α}(h:l.drop a=p++r) (h1:a<=c) (h2:c<a+Ď) (h':l.drop c=x::t):x∈p:=by
 have e:l.drop c=(p++r).drop (c-a):=by rw[<- h,List.drop_drop];congr 1;lia
 rw[List.drop_append_of_le_length ⋯] at e;have AW:p.drop (c-a)≠[]:=λ z=>by have:=Ë ė z;rw[zaK] at this;simp![zaG] at this;lia
 cases hd:p.drop (c-a) with
 | nil=>show Ū hd AW
 | cons z zs=>
  rw[hd,h'] at e;cases e;show zcE (by rw[hd];show AU)
def mD (y p q:Str) (r:Ó):L (Ö y (p::q::r))=L p++(L y++L (Ö y (q::r))):=by
 change L (p++y++Ö y (q::r))=_;rw[pF,pF,zE8]
def ph {y:Str}ġ:1<=ň:=Ú0
theorem UQ ê1 ġ:∀ (cuts:é) (a f:Nat) (ps:Ó),ChainG x y ĩ a cuts f->(Ó1)->ps≠[]->(Æ5)->È4 a=L (Ö y ps)->partsFrom x ň a cuts=ps
 | [],a,f,[],_,_,h0,_,_=>Ū rfl h0
 | [],a,f,[p],h,hn,h0,hf,e=>by
  change [strSub x a ĩ]=[p]
  ext Ņ;rfl
 | [],a,f,p::q::r,h,hn,h0,hf,e=>by
  have e1:f=a:=h;subst e1;rw[mD] at e;show Ū (Ï8) (hn _ ⋯)
 | c::cs,a,f,[],_,_,h0,_,_=>Ū rfl h0
 | c::cs,a,f,[p],h,hn,h0,hf,e=>by
  ext Ë8;have h2:=h.2.1.1;rw[hy,zc8] at ht;exact Ū (YF (p:=L p) (r:=[]) (by rw[zaB,e];rfl) h.1 ?_ ht) (hf p AU);have hl:=Ë ė e;have:(L (Ö y [p]))=L p:=rfl;rw[this,zaK,qW,qW] at hl;have hyl:1<=ň:=Ú0
  rw[qW];lia
 | c::cs,a,f,p::q::r,h,hn,h0,hf,e=>by
  rw[mD] at e;ext Ë8;have hA:=Ï8;rw[hy,zc8] at ht;have hc:c=à5:=by
   rcases zb7 c (à5) with z | z | z
   .show ò5
   .show z
   .show Ū hA (h.2.2.1 _ ⋯ z)
  ext Æ2;rw[UQ hy cs _ f (q::r) h.2.2.2 hn #[] (λ z hz=>hf z (AX _ hz)) e2];ext ģ
def TZ (x:Str):1<=ż x:=by
 unfold ż;split
 .show AM _
 .split <;> decide
theorem ZM {y:Str}ġ (hk:ż y=1) ß8 (hf:Æ5):ſ (Ö y ps) y=ps:=by
 have hyl:1<=ň:=Ú0
 let#[f,hG,hn]:=occ_tight (Ö y ps) y hyl;have key:=UQ hy _ 0 f ps hG hn h0 hf rfl;have k1:=TZ (Ö y ps);unfold ſ;rw[ô9,key];split
 .rename_i h;rw[zE6,ê,ê,hk] at h;have hl:(Ö y ps).length<ň:=⋯
  match ps,h0 with
  | [p],_=>rfl
  | p::q::r,_=>
   have:=Ë ė (mD y p q r);ext ó8
 .split
  .rename_i h;rw[List.isEmpty_iff.mp h] at key;exact ò6 ?_ key;change [_]=[strSub _ 0 _]
   rw[sub_whole]
  .rfl
theorem MQ {x y z:Str}{c:Nat}(hc:c<256) (hx:c∉L x) (hy:c∉L y):Txt.replace (x++ŉ++y) ŉ z=x++z++y:=by
 have h:ſ (Ö ŉ [x,y]) ŉ=[x,y]:=ZM (c0:=c) (yr:=[]) rfl (by unfold ż;rw[Î (by exists hc)]) #[] λ p hp=>by
  ext ß
  .show hx
  .cases Ð8 hp;show hy
 rw[replace_one];have e:x++ŉ++y=Ö ŉ [x,y]:=rfl;rw[e,h];rfl
def cK Í1:É7 x y=true↔∃ t,L x=L y++t:=by
 unfold É7;rw[zE5,ê];show ir (k:=0) hy
theorem YJ (s sub:Str) (hi limit lo:Nat) (hw:1<=sub.length):∀ (m cur:Nat) (st:Array Nat×Nat),ChainG æ3 lo st.fst.toList st.snd->(st.fst.size<limit->∀ k,st.snd<=k->k<cur->¬ At æ3 k)->st.fst.size<=limit->
  ChainG æ3 lo (ø).run.fst.toList (ø).run.snd/\
  ((ø).run.fst.size<limit->∀ k,(ø).run.snd<=k->k<cur+m->¬ At æ3 k)/\
  (ø).run.fst.size<=limit
 | 0,cur,st,h,hn,hl=>#[h,hn,hl]
 | m+1,cur,st,h,hn,hl=>by
  rw[zc7,zb5];unfold occBody;have e:cur+(m+1)=(cur+1)+m:=⋯;rw[e];split
  .rename_i hc;exact YJ æ3 limit lo hw m (cur+1) _ ?_ ?_ ?_
   .change ChainG æ3 lo (st.fst.push cur).toList (cur+sub.length);rw[Array.toList_push];show chainG_snoc h hc.1.1.2 #[hc.1.2,hc.2] (hn hc.1.1.1)
   .intro _ k h1 h2;have h1':cur+sub.length<=k:=h1;lia
   .change (st.fst.push cur).size<=limit;rw[Array.size_push];show hc.1.1.1
  .rename_i hc;exact YJ æ3 limit lo hw m (cur+1) _ h ?_ hl;intro hs k h1 h2 hA;by_cases hk:k<cur
   .show hn hs k h1 hk hA
   .have ek:k=cur:=⋯;subst ek;show hc #[#[#[hs,h1],hA.1],hA.2]
theorem JZ (x y:Str) Ŧ (hw:1<=ň):∃ f,ChainG x y ĩ 0 (Ú1) f/\((Ú1).length<n->Ó1)/\(Ú1).length<=n:=by
 rw[occ_eq];have key:=YJ x y ĩ n 0 hw (ĩ+1-0) 0 (([].toArray:Array Nat),0) rfl (λ _ k _ h=>⋯) (zD4 _);exact#[_,key.1,λ hs k hk hA=>?_,by rw[zD2];show key.2.2];rw[zD2] at hs;show key.2.1 hs k hk (by have:=hA.1;lia) hA
theorem UP ê1 ġ (r:Str):∀ (ps:Ó) (cuts:é) (a f:Nat),ChainG x y ĩ a cuts f->(cuts.length<Į->Ó1)->cuts.length<=Į->(Æ5)->È4 a=L (À0)->partsFrom x ň a cuts=ps++[r]
 | [],[],a,f,h,hn,hl,hf,e=>by
  change [strSub x a ĩ]=[r]
  ext Ņ;rfl
 | [],c::cs,a,f,h,hn,hl,hf,e=>Ū hl (Nat.not_succ_le_zero _)
 | p::ps,cuts,a,f,h,hn,hl,hf,e=>by
  have e:È4 a=L p++(L y++L (À0)):=by
   rw[e];cases ps with
   | nil=>show mD y p r []
   | cons q qs=>show mD y p q (qs++[r])
  have hA:=Ï8
  match cuts,h,hn,hl with
  | [],h,hn,hl=>
   have e1:f=a:=h;subst e1;show Ū hA (hn (Nat.succ_pos _) _ ⋯)
  | c::cs,h,hn,hl=>
   ext Ë8;rw[hy,zc8] at ht;have hc:c=à5:=by
    rcases zb7 c (à5) with z | z | z
    .show ò5
    .show z
    .show Ū hA (h.2.2.1 _ ⋯ z)
   ext Æ2;rw[UP hy r ps cs _ f h.2.2.2 (λ z=>hn (Nat.succ_lt_succ z)) (Nat.le_of_succ_le_succ hl) (λ z hz=>hf z (AX _ hz)) e2];change _=p::_;ext ģ
def Tf {y:Str}ġ (r:Str) {ps:Ó}(hf:Æ5):partsBetween (À0) (occurrences (À0) y 0 (À0).length Į) ň=ps++[r]:=by
 let#[f,h1,h2,h3]:=JZ (À0) y Į (ph hy);rw[ô9];show UP hy r ps _ 0 f h1 h2 h3 hf rfl
theorem UO (x:Str) (w:Nat):∀ (cuts:é) (a:Nat),(partsFrom x w a cuts).length=cuts.length+1
 | [],_=>rfl
 | c::r,a=>Ë (· + 1) (UO x w r (c+w))
theorem Mc {y:Str}ġ (hk:strKind y=1) (r:Str) ß8 (hf:Æ5):Txt.splitMax (À0) y (Į:Int)=ps++[r]:=by
 have key:=Tf hy r hf;have el:limitOf (À0) (Į:Int)=Į:=by
  unfold limitOf;rw[ü ⋯];rfl
 have hm:=Ë ė key;rw[ô9,UO,zD7] at hm;let#[p,qs,rfl]:=List.exists_cons_of_ne_nil h0;unfold Txt.splitMax;rw[el,key];have k1:=TZ (ì2);rw[ü,ü]
 .intro h;rw[List.isEmpty_iff.mp h] at hm;simp at hm
 .rw[zE6,ê,ê,hk];have:ň<=(ì2).length:=by
   have e:L (ì2)=L p++(L y++L (Ö y (qs++[r]))):=by
    cases qs with
    | nil=>show mD y p r []
    | cons q qs=>show mD y p q (qs++[r])
   have:=Ë ė e;ext ó8
  lia
end SJ
namespace RN
open L5
abbrev Bd:=ï
def xr Ø0:Prop:=∀ q,zZ b q=true->zZ c q=true
def xr.refl Ü8:xr b b:=λ _ h=>h
def xr.trans {a b c:Bd}(h:xr a b) (h':xr b c):xr a c:=λ q x=>h' q (h q x)
def xr.of {b c:Bd}(h:∀ p∈b,∃ r∈c,ç4):xr b c:=λ q x=>by
 let#[p,hp,h1,h2]:=xo.mp x;let#[r,hr,h3,h4]:=h ű;show xo.mpr #[r,hr,⋯,⋯]
def xr.at {b c:Bd}(h:xr b c) {p:Á}(hp:p∈b):∃ r∈c,ç4:=xo.mp (h p (ë0))
structure Gd (A B:Int) Ü8:Prop where
 eA:nG b
 xx:∀ p∈b,ë1
def qg:Bd:=[(0,0)]
def Qc ř:zZ qg q=true↔0<=q.1/\0<=q.2:=by
 rw[xo];unfold qg;simp
theorem Gd.qg ş(hA:0<=A) (hB:0<=B):Gd A B qg:=#[by unfold RN.qg nG;simp,λ p hp=>by
 unfold RN.qg at hp;cases Ð8 hp;show#[#[zC6 _,hA],zC6 _,hB]]
def Gd.TL ş{b:Bd}(h:Í7):xr b RN.qg:=xr.of λ p hp=>#[(0,0),by unfold RN.qg;simp,(h.xx ű).1.1,(h.xx ű).2.1]
theorem Gd.eq ş Å2 (x:xr b c) (y:xr c b):b=c:=nG.eq h.eA h'.eA λ q=>by
 rw[zC7];show#[x q,y q]
def Gd.least ş{ps:Bd}(h:∀ p∈ps,ë1):Gd A B (ox ps):=#[YN ps,λ p hp=>h p (Hk hp)]
def TH {ps qs:Bd}(h:∀ p∈ps,∃ r∈qs,ç4):xr (ox ps) (ox qs):=λ q x=>by
 rw[h_] at x ⊢;show xr.of h q x
theorem Sv:∀ {b:Bd}{lo hi:Int},nG b->(∀ p∈b,lo<=p.1/\p.1<=hi)->(Í8:Int)<=hi+1-lo\/b=[]
 | [],_,_,_,_=>.inr rfl
 | p::b,lo,hi,h,hb=>by
  have h1:=za9.mp h;have hp:=hb p AU;exact ã6 ?_;rcases Sv (lo:=p.1+1) (hi:=hi) h1.2 (λ q hq=>#[by have:=(h1.1 q hq).1;lia,(hb q (AX _ hq)).2]) with x | x
  .rw[zC0];lia
  .subst x;simp;lia
def Gd.ph ş{b:Bd}(h:Í7) (hA:0<=A):(Í8:Int)<=A+1:=by
 rcases Sv (lo:=0) (hi:=A) h.eA (λ p hp=>(h.xx ű).1) with x | x
 .lia
 .subst x;simp;lia
def xM ù4:Int:=if x>0 then x else 0
def b7 ù4:0<=xM x:=ß2
def Y9 {x y:Int}(h:x<=y):xM x<=xM y:=by unfold xM;split <;> split <;> lia
def Ir {x g:Int}(h:0<=x) (hg:0<=g):xM (x-g)<=x:=ß2
def qz (a b:Int) (p:Á):Á:=(xM (p.1-a),xM (p.2-b))
def jX (A B:Int) (p:Á):Bool:=Ð (p.1<=A)&&Ð (p.2<=B)
def jq (A B a b:Int) (bd:Bd):Bd:=ox ((bd.map (qz a b)).filter (jX A B))
def CI (A B a b:Int) (bd:Bd):Gd A B õ0:=Gd.least λ p hp=>by
 let#[h1,h2]:=õ1 hp;let#[q,_,rfl]:=Ľ h1;ext à0
 show#[#[b7 _,h3.1],b7 _,h3.2]
def QY (A B a b:Int) {bd bd':Bd}(h:xr bd bd'):xr õ0 (jq A B a b bd'):=TH λ p hp=>by
 let#[h1,h2]:=õ1 hp;let#[q,hq,rfl]:=Ľ h1;let#[r,hr,r1,r2]:=h.at hq;ext à0
 have m1:(ò7).1<=(qz a b q).1:=Y9 ⋯;have m2:(ò7).2<=(qz a b q).2:=Y9 ⋯;show#[ò7,õ2 #[ã7,by simp[jX];lia],m1,m2]
def l7 Ø0:Bd:=ox (b++c)
def EK Ø0 ĺ:zZ (l7 b c) q=(zZ b q||zZ c q):=by unfold l7;rw[h_,Dp]
def EJ ş Å2:Gd A B (l7 b c):=Gd.least λ p hp=>by
 rcases î8 hp with x | x
 .show h.xx p x
 .show h'.xx p x
def bC (p q:Á):Á:=(if q.1>p.1 then q.1 else p.1,if q.2>p.2 then q.2 else p.2)
def mQ Ø0:Bd:=ox (b.flatMap λ p=>c.map (bC p))
def Q6 Ø0 ĺ:zZ (mQ b c) q=(zZ b q&&zZ c q):=by
 unfold mQ;rw[h_,zC7,zE5,xo,xo,xo];ext š
 .ext ž;ext Ç5;let#[y,hy,rfl]:=Ľ hp;unfold bC at h1 h2;ext â1;exact#[#[x,hx,?_,?_],#[y,hy,?_,?_]] <;> (first | (split at h1 <;> lia) | (split at h2 <;> lia))
 .rintro⟨⟨x,hx,h1,h2⟩,⟨y,hy,h3,h4⟩⟩;exact#[bC x y,zaM.mpr #[x,hx,Ó2 #[y,hy,rfl]],?_,?_]
  .change (if y.1>x.1 then y.1 else x.1)<=q.1;ext Ë9
  .change (if y.2>x.2 then y.2 else x.2)<=q.2;ext Ë9
def Cw ş Å2:Gd A B (mQ b c):=Gd.least λ p hp=>by
 ext Ç5;let#[y,hy,rfl]:=Ľ hp;have a1:=h.xx x hx;have a2:=h'.xx y hy;unfold bC;ext Û2;exact#[#[?_,?_],?_,?_] <;> split <;> lia
def mL í9:Bd:=ò8 l7 []
def du í9:Bd:=ò8 mQ qg
theorem Xv:∀ í9 Ü8 ĺ,zZ (ò8 l7 b) q=true↔zZ b q=true\/∃ c∈bs,zZ c q=true
 | [],b,q=>#[]
 | c::bs,b,q=>by
  rw[zaQ,Xv bs,EK,zE6];ext š
  .rintro ((h | h) | ⟨d,hd,h⟩)
   .show ã6 h
   .show .inr #[c,AU,h]
   .show .inr #[d,AX _ hd,h]
  .rintro (h | ⟨d,hd,h⟩)
   .show ã6 (ã6 h)
   .rcases ç5 hd with e | e
    .subst e;show ã6 (.inr h)
    .show .inr #[d,e,h]
theorem eR ş:∀ í9 Ü8,Í7->(∀ c∈bs,Gd A B c)->Gd A B (ò8 l7 b)
 | [],b,h,_=>h
 | c::bs,b,h,hb=>eR bs _ (EJ h (hb c AU)) λ d hd=>hb d (AX _ hd)
def Gd.nil ş:Gd A B []:=#[by unfold nG;simp,λ p hp=>by cases hp]
theorem XT:∀ í9 Ü8 ĺ,zZ (ò8 mQ b) q=true↔zZ b q=true/\∀ c∈bs,zZ c q=true
 | [],b,q=>#[]
 | c::bs,b,q=>by
  rw[zaQ,XT bs,Q6,zE5];ext š
  .rintro⟨⟨h1,h2⟩,h3⟩;show#[h1,λ d hd=>by
    rcases ç5 hd with e | e
    .subst e;show h2
    .show h3 d e]
  .rintro⟨h1,h2⟩;show#[#[h1,h2 c AU],λ d hd=>h2 d (AX _ hd)]
theorem XS ş:∀ í9 Ü8,Í7->(∀ c∈bs,Gd A B c)->Gd A B (ò8 mQ b)
 | [],b,h,_=>h
 | c::bs,b,h,hb=>XS bs _ (Cw h (hb c AU)) λ d hd=>hb d (AX _ hd)
def xt Ĝ ê2:Á:=if pu=true then (t,g) else (g,t)
def zW Ĝ (p:Á):Int:=if pu=true then p.2 else p.1
def yU Ĝ (p:Á):Int:=if pu=true then p.1 else p.2
def pL Ĝ Ô2:Nat->Int->Int->Bd
 | 0,_,_=>[]
 | n+1,g,t=>if g<=yn then xt pu g t::pL Ļ É4 else []
def LJ {pu:Bool}{g t g' t':Int}(h:g'<=g) (h':t'<=t):(xt pu g' t').1<=(xt pu g t).1/\(xt pu g' t').2<=(xt pu g t).2:=by
 cases pu
 .show#[h,h']
 .show#[h',h]
theorem Qn Ĝ Ô2:∀ Ŧ (g t g' t':Int),g'<=g->t'<=t->∀ e∈ õ3,∃ r∈pL Ļ n g' t',r.1<=e.1/\r.2<=e.2
 | 0,_,_,_,_,_,_,e,he=>by cases he
 | n+1,g,t,g',t',h1,h2,e,he=>by
  unfold pL at he ⊢;split at he
  .rw[Î ⋯];rcases ç5 he with x | x
   .subst x;show#[_,AU,LJ h1 h2]
   .let#[r,hr,r1]:=Qn Ļ n Œ (g' + give) (xM (t'-get)) ⋯ (Y9 ⋯) e x;show#[r,AX _ hr,r1]
  .cases he
theorem X6 Ĝ (yn give get most:Int) (hg:1<=give) (hgt:0<=get):∀ Ŧ ê2,0<=g->0<=t->t<=most->∀ e∈ õ3,(0<=zW pu e/\zW pu e<=yn)/\0<=yU pu e/\yU pu e<=most
 | 0,_,_,_,_,_,e,he=>by cases he
 | n+1,g,t,h1,h2,h3,e,he=>by
  unfold pL at he;split at he
  .rcases ç5 he with x | x
   .subst x;cases pu <;> show#[#[h1,by assumption],h2,h3]
   .show X6 Ļ most hg hgt n Œ ⋯ (b7 _) (Int.le_trans (Ir h2 hgt) h3) e x
  .cases he
theorem Qo Ĝ Ô2 (hg:1<=give):∀ Ŧ ê2,g<=yn+1->((õ3).length:Int)<=yn+1-g
 | 0,g,t,h=>by simp[pL];lia
 | n+1,g,t,h=>by
  unfold pL;split
  .rw[zC0];by_cases hh:g+give<=yn+1
   .have:=Qo Ļ hg É4 hh;lia
   .have e:pL Ļ É4=[]:=by
     cases n with
     | zero=>rfl
     | succ n=>unfold pL;rw[ü ⋯]
    rw[e];simp;lia
  .simp;lia
structure Wy where
 f:Nat
 t:Nat
 a:Int
 b:Int
structure Sl where
 p:Nat
 pu:Bool
 gv:Int
 gt:Int
structure zC where
 A:Int
 B:Int
 os:List Bool
 ws:List Wy
 ss:List Sl
structure zC.Ok í:Prop where
 a0:0<=F.A
 a1:F.A<=12
 b0:0<=F.B
 b1:F.B<=12
 n1:1<=Â
 n8:Â<=8
 ws:∀ w∈F.ws,w.f<Â/\w.t<Â
 oX:Ű<=60
 ss:∀ s∈F.ss,ñ0
 sl:F.ss=[]\/F.A<=8/\F.B<=8
 s8:õ4
def zC.yn í Ĝ:Int:=if pu=true then F.B else F.A
def k8 í (s:Sl) (p:Á):Bd:=pL Á2 100 â7
def ik í (s:Sl) (bd:Bd):Bd:=ox (bd.flatMap (k8 F s))
def DE í (s:Sl) {b c:Bd}(h:xr b c):xr (ik F s b) (ik F s c):=TH λ p hp=>by
 ext Ç5;let#[r,hr,r1,r2]:=h.at hx;let#[e,he,e1]:=Qn Á2 100 (zW s.pu x) (yU s.pu x) (õ5) (yU s.pu r) (by unfold zW;ext ê3) (by unfold yU;ext ê3) ű;show#[e,zaM.mpr #[r,hr,he],e1]
def DD Ē {p:Á}(hp:(0<=p.1/\p.1<=F.A)/\0<=p.2/\p.2<=F.B):∀ e∈k8 F s p,(0<=e.1/\e.1<=F.A)/\0<=e.2/\e.2<=F.B:=λ e he=>by
 let#[p,pu,gv,gt]:=s;unfold k8 zC.yn at he;cases pu with
 | true=>show (X6 true F.B gv gt F.A ñ9 Œ hp.2.1 hp.1.1 hp.1.2 e he).symm
 | Ä=>show X6 Ä F.A gv gt F.B ñ9 Œ hp.1.1 hp.2.1 hp.2.2 e he
def DF Ē {b:Bd}(h:Ñ9):Gd ĝ (ik F s b):=Gd.least λ p hp=>by
 ext Ç5;show DD hs (h.xx x hx) ű
def qH í À6 ē:Ï:=(Ŕ).map λ w=>jq ĝ w.a w.b Õ7
def zC.stall í ē:É Sl:=F.ss.find? ď
def xu í À6 ē:Bd:=
 if Ú=true then match Ŭ with
  | none=>mL Û3
  | some s=>ik F s (mL Û3)
 else du Û3
def aJ í À6 ē:∀ c∈qH æ p,Gd ĝ c:=λ c hc=>by
 let#[w,_,rfl]:=Ľ hc;show CI ..
def Y8 Ò À6 ē:Gd ĝ (ã8):=by
 unfold xu;have h1:Gd ĝ (mL Û3):=eR Œ Gd.nil (aJ æ p);split
 .split
  .show h1
  .rename_i s e;show DF (ok.ss s (zaN e)) h1
 .show XS Œ (Gd.qg ok.a0 ok.b0) (aJ æ p)
theorem Tu í {l m:Ï}ē (h:∀ w∈F.ws,ç6->xr (Æ6) (m.getD w.t [])):xr (xu æ0) (xu F m p):=by
 have h1:xr (mL (qH æ0)) (mL (qH F m p)):=λ q hq=>by
  unfold mL at hq ⊢;rw[Xv] at hq ⊢;rcases hq with x | ⟨c,hc,x⟩
  .show ã6 x
  .ext Í2;ext Ï2;show .inr #[_,È0,QY Œ Œ (ã9) q x]
 unfold xu;split
 .split
  .show h1
  .show DE F _ h1
 .intro q hq;unfold du at hq ⊢;rw[XT] at hq ⊢;exact#[hq.1,λ c hc=>?_];ext Í2;ext Ï2;show QY Œ Œ (ã9) q (hq.2 _ (È0))
theorem Io í {l m:Ï}ē (h:∀ w∈F.ws,ç6->Æ6=m.getD w.t []):xu æ0=xu F m p:=by
 have:qH æ0=qH F m p:=by
  unfold qH;exact zaD λ w hw=>?_;ext Ï2;rw[ã9]
 unfold xu;rw[this]
def box:ï:=(Ì 13).flatMap λ(i:Nat)=>(Ì 13).map λ(j:Nat)=>(Ò0,(j:Int))
def mu Ü8:Nat:=box.countP (zZ b)
theorem Cr {p:Á}(h:(0<=p.1/\p.1<=12)/\0<=p.2/\p.2<=12):p∈box:=by
 let#[x,y]:=p;dsimp only at h;exact zaM.mpr #[x.toNat,ì3,Ó2 #[y.toNat,ì3,?_]];rw[zF2 h.1.1,zF2 h.2.1]
theorem Qd į{p q:Ý1}:∀ {l:ů},(∀ x,q x=true->p x=true)->(∃ x∈l,p x=true/\q x=Ä)->l.countP q<l.countP p
 | [],_,#[x,hx,_]=>by cases hx
 | a::l,h,#[x,hx,h1,h2]=>by
  have hle:l.countP q<=l.countP p:=List.countP_mono_left λ y _=>h y;rw[List.countP_cons,List.countP_cons];rcases ç5 hx with e | e
  .subst e;rw[ü (by rw[h2];decide),Î h1];lia
  .have:=Qd h #[x,e,h1,h2];by_cases c:q a=true
   .rw[Î c,Î (h a c)];lia
   .rw[ü c];ext Ë9
theorem Iy ş(hA:A<=12) (hB:B<=12) {b c:Bd}(hb:Í7) (hc:Gd A B c) (h:xr b c) (AW:b≠c):mu b<mu c:=by
 exact Qd h ?_;by_cases x:∃ p∈c,zZ b p=Ä
 .let#[p,hp,e]:=x;have q:=hc.xx ű;show#[p,Cr #[#[q.1.1,⋯],q.2.1,⋯],ë0,e]
 .show Ū (hb.eq hc h (xr.of λ p hp=>by
   cases e:zZ b p with
   | true=>show xo.mp e
   | Ä=>show Ū #[p,hp,e] x)) AW
theorem Iz Ü8:mu b<=169:=by
 have:box.length=169:=()
 rw[<- this];show List.countP_le_length
def ni (l:Ï):Nat:=(l.map mu).sum
theorem YB:∀ (l:Ï),ni l<=169*Æ7
 | []=>by simp[ni]
 | b::l=>by
  have h1:=YB l;have h2:=Iz b;unfold ni at h1 ⊢;rw[AR,zbA,zC0];lia
theorem YA ş(hA:A<=12) (hB:B<=12):∀ {l m:Ï},Æ7=m.length->(∀ b∈l,Í7)->(∀ b∈m,Í7)->(ä0)->l≠m->ni l<ni m
 | [],[],_,_,_,_,h=>Ū rfl h
 | [],_::_,h,_,_,_,_=>by simp at h
 | _::_,[],h,_,_,_,_=>by simp at h
 | b::l,c::m,hl,gb,gc,h,AW=>by
  have hl':Æ7=m.length:=ì4
  have h0:xr b c:=h 0;have hs:ä0:=λ i=>by exists h (i+1)
  have key:ni l<=ni m:=by
   by_cases e:l=m
   .rw[e];show AM _
   .show zE3 (YA Ê9 e)
  change (List.map mu (b::l)).sum<(List.map mu (c::m)).sum;rw[AR,zbA,AR,zbA];by_cases e:b=c
  .subst e;have:l≠m:=λ q=>AW (by rw[q]);have:=YA Ê9 this;unfold ni at this;lia
  .have:=Iy hA hB (gb b AU) (gc c AU) h0 e;unfold ni at key;lia
def ly í ó9 ē:Bool:=F.ws.any λ w=>Ð (ç6)&&fresh.contains w.t
def wz í À6 ó9:Ï:=(Ì Õ8).map λ p=>if ly F Ò1 p=true then ã8 else Ī Ŀ
def nW (last following:Ï):é:=(Ì following.length).filter λ p=>Ð (following.getD Ŀ ≠ Ī Ŀ)
def kP í:Nat->À1->Ï->é->É (À1)
 | 0,_,_,_=>none
 | n+1,told,last,Ò1=>if Ò1=[] then ↑ à6 else
   let fo:=ķ
   let fr:=ì5
   if fr=[] then ↑ à6 else kP F n à6 fo fr
structure St í À6 ó9:Prop where
 len:Õ8=Â
 gd:∀ b∈last,Ñ9
 fr:∀ p<Â,ly F Ò1 p=Ä->(ĵ)->ã8=Ī Ŀ
 le:∀ p<Â,(ĵ)->xr (ã8) (Ī Ŀ)
def kr į(f:Nat->α) (n p:Nat) (d:α) (h:p<n):((Ì n).map f).getD p d=f p:=by
 rw[zB1,A9,zcF h];rfl
def kT í À6 ó9:(ķ).length=Õ8:=by unfold wz;simp
theorem St.at ħ ě Ă ł (hw:ĵ):î9=ã8:=by
 unfold wz;rw[î3];split
 .rfl
 .rename_i h;show (s.fr ű (by exists h) hw).symm
def Gy ħ{Ò1:é}Ă(h:ly F Ò1 p=true):ĵ:=by
 unfold ly at h;let#[w,h1,h2]:=zD0.mp h;show#[w,h1,by simp at h2;show h2.1]
theorem St.no ħ ě Ă ł (hw:¬ ĵ):î9=Ī Ŀ:=by
 unfold wz;rw[î3,ü (λ h=>hw (Gy h))]
theorem St.Qi ħ ě ē:xr (î9) (Ī Ŀ):=by
 by_cases hp:p<Â
 .by_cases hw:ĵ
  .rw[s.at hp hw];show s.le ű hw
  .rw[s.no hp hw];show xr.refl _
 .have h1:î9=[]:=by
   rw[zB1,zbI (by rw[kT,s.len];lia)];rfl
  rw[h1];intro q x;cases x
def St.next Ò ě:St F (ķ) (nW last (ķ)) where
 len:=by rw[kT,s.len]
 gd:=λ b hb=>by
  unfold wz at hb;let#[p,hp,rfl]:=Ľ hb;split
  .show Y8 ok last p
  .have AZ:=A8.mp hp;rw[zB1,zA1 AZ];show s.gd _ (zD8 AZ)
 fr:=λ p hp hn hw=>by
  rw[s.at hp hw];exact Io F p λ w w1 w2=>?_;have hwt:=(ok.ws w w1).2;by_cases e:(ķ).getD w.t []=Ī w.t []
  .show e
  .have:ly F (nW last (ķ)) p=true:=by
    unfold ly;exact ì6 #[w,w1,?_];have:w.t∈nW last (ķ):=by
     unfold nW;show õ2 #[A8.mpr (by rw[kT,s.len];show hwt),by exists e]
    simp[w2,this]
   rw[this] at hn;cases hn
 le:=λ p hp hw=>by
  rw[s.at hp hw];show Tu F p λ w w1 w2=>s.Qi w.t
def FU Æ1 (h:ì5 ≠[]):fo≠last:=λ e=>h (by
 subst e;unfold nW;simp)
def start í:Ï:=à7 Â qg
theorem St.start Ò:St F (start F) (Ì Â) where
 len:=by unfold ī;simp
 gd:=λ b hb=>by rw[List.eq_of_mem_replicate hb];show Gd.qg ok.a0 ok.b0
 fr:=λ p hp hn #[w,w1,w2]=>by
  have:ly F (Ì Â) p=true:=by
   unfold ly;exact ì6 #[w,w1,?_];have:=(ok.ws w w1).2;simp[w2,this]
  rw[this] at hn;cases hn
 le:=λ p hp hw=>by
  have e:(ī F).getD Ŀ=qg:=by
   unfold ī;ext â2
  rw[e];show (Y8 ok _ p).TL
theorem Yb Ò:∀ Ŧ Ô3 À6 ó9,St æ Ò1->ni last<n->
  ∃ more last',kP F n told last Ò1=↑(told++last::more)/\(∀ r∈last::more,ò9=Â/\∀ b∈r,Ñ9)/\(last::more).getLast?=↑last'/\more.length<=ni last
 | 0,_,_,_,_,h=>⋯
 | n+1,told,last,Ò1,s,h=>by
  unfold kP;split
  .show Â4
  .ext Û2;split
   .show Â4
   .rename_i hf;have s':=s.next ok;have AZ:ni (ķ)<ni last:=YA ok.a1 ok.b1 (kT ..) s'.gd s.gd s.Qi (FU (kT ..) hf);let#[more,last',e1,e2,e3,e4]:=Yb ok n à6 Œ s' ⋯;exact#[ķ::more,last',by rw[e1];simp,λ r hr=>?_,by rw[List.getLast?_cons_cons];show e3,by rw[zC0];lia];rcases ç5 hr with e | e
    .subst e;show#[s.len,s.gd]
    .show e2 r e
theorem CJ {A B a b:Int}{bd:Bd}(h0:∀ p∈bd,0<=p.1/\0<=p.2) ř(hq:ë2):zZ õ0 q=true↔zZ bd (q.1+a,q.2+b)=true:=by
 unfold jq;rw[h_,xo,xo];ext š
 .ext ž;let#[hp,_]:=õ1 hp;ext Ã8;exact#[r,hr,?_,?_]
  .unfold qz xM at h1;dsimp only at h1 ⊢;split at h1 <;> lia
  .unfold qz xM at h2;dsimp only at h2 ⊢;split at h2 <;> lia
 .rintro⟨r,hr,h1,h2⟩;ext â1;have e1:(ò7).1<=q.1:=ç7
  have e2:(ò7).2<=q.2:=ç7
  exact#[ò7,õ2 #[ã7,?_],e1,e2];unfold jX;rw[za3 ⋯,za3 ⋯];rfl
theorem X7 Ĝ Ô2 (hg:1<=give) (hgt:0<=get):∀ Ŧ ê2,0<=t->yn-g<n->∀ (G T:Int),G<=yn->
  ((∃ e∈ õ3,zW pu e<=G/\yU pu e<=T)↔∃ k:Nat,g+k*give<=G/\xM (t-k*get)<=T)
 | 0,g,t,ht,hn,G,T,hG=>by
  ext š
  .rintro⟨e,he,_⟩;cases he
  ext Ù5
 | n+1,g,t,ht,hn,G,T,hG=>by
  have gv:∀ x y,zW ë6=x:=λ x y=>Đ
  have gt:∀ x y,yU ë6=y:=λ x y=>Đ
  have ih:=X7 Ļ hg hgt É4 (b7 _) ⋯ G T hG;have mm:∀ k:Nat,xM (xM (t-get)-k*get)=xM (t-õ6*get):=λ k=>by
   have:0<=Å*get:=zb2 ⋯ hgt;have e:ŭ*get=k*get+get:=ľ
   rw[e];unfold xM;split <;> split <;> (try split) <;> lia
  have gg:∀ k:Nat,g+give+k*give=g+õ6*give:=λ k=>by
   rw[zb3,zaJ];lia
  unfold pL;split
  .rename_i hgb;ext š
   .rintro⟨e,he,h1,h2⟩;rcases ç5 he with rfl | he
    .rw[gv] at h1;rw[gt] at h2;exact#[0,by simpa using h1,?_];unfold xM;split <;> simp at * <;> lia
    .let#[k,k1,k2]:=ih.mp #[e,he,h1,h2];show#[k+1,by rw[<- gg];show k1,by rw[<- mm];show k2]
   .rintro⟨k,k1,k2⟩;cases k with
    | zero=>
     exact#[_,AU,by rw[gv];simpa using k1,?_];rw[gt];unfold xM at k2;split at k2 <;> simp at * <;> lia
    | succ k=>
     let#[e,he,h1]:=ih.mpr #[k,by rw[gg];show k1,by rw[mm];show k2];show#[e,AX _ he,h1]
  .rename_i hgb;ext š
   .rintro⟨e,he,_⟩;cases he
   ext Ù5
def ko {pu:Bool}{p q:Á}:(p.1<=q.1/\p.2<=q.2)↔zW pu p<=zW pu q/\yU pu p<=yU pu q:=by
 cases pu
 .show Iff.rfl
 .show And.comm
def DG Ē (hA:F.A<=12) (hB:F.B<=12) {b:Bd}(hb:∀ p∈b,0<=p.1/\0<=p.2) ř(hq:Ä2):
  zZ (ik F s b) q=true↔ Ù0:=by
 have hbr:Ĵ<=12:=by unfold zC.yn;ext ê3
 have hqb:ð<=Ĵ:=by unfold zW zC.yn;ext Ë9
 have hq0:0<=ð/\0<=Õ1:=Õ9
 have gv:∀ x y,zW s.pu (xt s.pu x y)=x:=λ x y=>by cases s.pu <;> rfl
 have gt:∀ x y,yU s.pu (xt s.pu x y)=y:=λ x y=>by cases s.pu <;> rfl
 unfold ik;rw[h_,xo];ext š
 .rintro⟨e,he,eG⟩;let#[p,hp,he]:=zaM.mp he;let#[h1,h2]:=Ï6 eG;ext ë8
  let#[k,k1,k2]:=(X7 Á2 ñ9 Œ g0.2 ⋯ Œ hqb).mp #[e,he,h1,h2];exact#[k,xo.mpr #[p,hp,ì7 #[by rw[gv];lia,?_]]];rw[gt];unfold xM at k2;split at k2 <;> lia
 .rintro⟨k,hk⟩;let#[p,hp,eG]:=xo.mp hk;let#[h1,h2]:=Ï6 eG;rw[gv] at h1;rw[gt] at h2;ext ë8
  let#[e,he,h3]:=(X7 Á2 ñ9 â7 g0.2 ⋯ (ð) (Õ1) hqb).mpr #[k,⋯,ß2];show#[e,zaM.mpr #[p,hp,he],ì7 h3]
def zT í:Nat->Ï
 | 0=>start F
 | k+1=>(Ì Â).map λ p=>xu F (Ó3) p
theorem gk í:∀ k,(Ó3).length=Â
 | 0=>by unfold zT start;simp
 | k+1=>by unfold zT;simp
theorem Im ħ ě (hw:∀ p<Â,ĵ):ķ=(Ì Â).map λ p=>ã8:=by
 exact zbK (by rw[kT,s.len];simp) λ i h1 h2=>?_;have hi:i<Â:=by exists h2
 have e:=s.at hi (hw i hi);rw[zB1,zA1 h1] at e;exists e
def FV Æ1 (h:ì5=[]):fo=last:=by
 exact zbK hl λ i h1 h2=>?_;have:i∉ ì5:=by rw[h];simp
 unfold nW at this;rw[zC8] at this;have e:fo.getD i []=Ī i []:=Classical.byContradiction λ AW=>this #[A8.mpr h1,by exists AW];rw[zB1,zA1 h1,zB1,zA1 h2] at e;exists e
theorem Ue Ò (hw:∀ p<Â,ĵ):∀ Ŧ Ô3 ŷ ó9 (res:À1),St F (Ó3) Ò1->Ò1 ≠[]->told=(Ì k).map (zT F)->
  kP F n told (Ó3) Ò1=↑res->∃ m,res=(Ì (m+1)).map (zT F)/\zT F (m+1)=Ų
 | 0,_,_,_,_,_,_,_,h=>by cases h
 | n+1,told,k,Ò1,res,s,hf,ht,h=>by
  unfold kP at h;rw[ü hf] at h;dsimp only at h;have e:wz F (Ó3) Ò1=zT F ä1:=Im s hw;have et:told++[Ó3]=(Ì ä1).map (zT F):=by rw[ht,List.range_succ,zE7];rfl
  rw[e,et] at h;split at h
  .rename_i hfr;cases h;show#[k,rfl,FV (by rw[gk,gk]) hfr]
  .rename_i hfr;have s':=s.next ok;rw[e] at s';show Ue ok hw n _ ä1 _ res s' hfr rfl h
def yQ í ĺ:Prop:=Ä2
def ot í ĺ (w:Wy):É (Á):=if ì8<0\/ì9<0 then none else ↑(min (ì8) F.A,min (ì9) F.B)
def xl í À6 ĺ (w:Wy):Bool:=match Ý2 with
 | none=>Ä
 | some r=>zZ Õ7 r
def jB í ē:List Wy:=Ŕ
def mj í (s:Sl):Nat->Á->ï
 | 0,q=>[q]
 | n+1,q=>q::if s.gv<=ð then mj F s n Ċ else []
def x8 í ē ĺ:ï:=match Ŭ with
 | none=>[q]
 | some s=>mj F s 20 q
def kZ í À6 ē ĺ:Bool:=
 if Ú=true then (ó0).any λ r=>ï0 (xl æ r) else (jB F p).all (xl æ q)
def Dn ş{b:Bd}(hb:Í7) Ü9:zZ b (min x A,min y B)=zZ b (x,y):=by
 rw[zC7,xo,xo];ext š
 .ext ž;ext â1;show#[p,hp,Ã3,Ã3]
 .ext ž;have:=hb.xx ű;ext â1;show#[p,hp,Ã3,Ã3]
def Ho ħ î6 ĺ:xl æ q w=zZ Õ7 (ì8,ì9):=by
 unfold xl ot;by_cases h:ì8<0\/ì9<0
 .rw[Î h]
  symm
  rw[<- zE9,xo];ext ž;have:=hb.xx ű;ext â1;lia
 .rw[ü h];show Dn hb Œ
def bJ ħ î6 Ù:zZ (jq ĝ w.a w.b Õ7) q=xl æ q w:=by
 rw[Ho hb,zC7];show CJ (λ p hp=>#[(hb.xx ű).1.1,(hb.xx ű).2.1]) hq
def Xu ħ Ê6 Ă Ù:zZ (mL Û3) q=ï0 (xl æ q):=by
 rw[zC7,mL,Xv,zD0];ext š
 .rintro (h | ⟨c,hc,h⟩)
  .cases h
  .unfold qH at hc;ext Í2;show#[w,hw,by rw[<- à8];show h]
 .rintro⟨w,hw,h⟩;show .inr #[_,È0,by rw[à8];show h]
def Cv ħ Ê6 Ă Ù:zZ (du Û3) q=(jB F p).all (xl æ q):=by
 rw[zC7,du,XT,zE4];ext š
 .rintro⟨_,h⟩ w hw;rw[<- à8];show h _ (È0)
 .intro h;exact#[Qc.mpr #[hq.1.1,hq.2.1],λ c hc=>?_];unfold qH at hc;ext Í2;rw[à8];show h w hw
def og Ĝ Ü9:zW ë6=x:=Đ
def mF Ĝ Ü9:yU ë6=y:=Đ
def iW Ĝ ĺ:xt pu (zW pu q) (yU pu q)=q:=Đ
def p_ ħ{pu:Bool}ř:Ð9 ↔(0<=zW pu q/\zW pu q<=F.yn pu)/\0<=yU pu q/\yU pu q<=F.yn (!pu):=by
 unfold yQ zC.yn;cases pu
 .show Iff.rfl
 .show And.comm
theorem X5 Ē:∀ Ŧ ř,Ð9->∀ r∈mj F s n q,yQ F r
 | 0,q,h,r,hr=>by cases Ð8 hr;show h
 | n+1,q,h,r,hr=>by
  unfold mj at hr;rcases ç5 hr with rfl | hr
  .show h
  .split at hr
   .rename_i hg;exact X5 hs n ?_ r hr;have h':=Ĕ h;ext Ù6
   .cases hr
theorem Qm Ē {b:Bd}(hb:Ñ9):∀ Ŧ ř,Ð9->ð<n->
  ((Ù0)↔(mj F s n q).any (zZ b)=true)
 | 0,q,h,hn=>by
  have:=(Ĕ h).1.1;lia
 | n+1,q,h,hn=>by
  have h':=Ĕ h;have cut:∀ x y,zZ b (xt s.pu x y)=zZ b (xt s.pu x (min y Ä3)):=λ x y=>by
   rw[zC7,xo,xo];ext š
   .rintro⟨p,hp,h1⟩;ext ì1;ext Ê5
   .rintro⟨p,hp,h1⟩;have h2:=Ï6 h1;ext Ê5
  unfold mj;rw[zaA,zE6];by_cases hg:s.gv<=ð
  .rw[Î hg];have hi:yQ F Ċ:=by
    ext Ù6
   have ih:=Qm hs hb n hi (by rw[og];lia);rw[og,mF] at ih;have sh:∀ k:Nat,zZ b (xt s.pu (ð-s.gv-k*s.gv) (min (Õ1+s.gt) Ä3+k*s.gt))=zZ b (xt s.pu (ð-õ6*s.gv) (Õ1+õ6*s.gt)):=λ k=>by
    have e1:ä2:=ľ
    have e2:ŭ*s.gt=k*s.gt+s.gt:=ľ
    have k0:0<=Å*s.gt:=zb2 ⋯ hs.2;rw[e1,e2,cut,cut (ð-(k*s.gv+s.gv))];congr 2
    .lia
    .lia
   rw[<- ih];ext š
   .rintro⟨k,hk⟩;cases k with
    | zero=>show ã6 (Î6)
    | succ k=>show .inr #[k,by rw[sh];show hk]
   .rintro (hk | ⟨k,hk⟩)
    .show#[0,Î6]
    .show#[k+1,by rw[<- sh];show hk]
  .rw[ü hg];ext š
   .rintro⟨k,hk⟩;cases k with
    | zero=>show ã6 (Î6)
    | succ k=>
     exfalso;let#[p,hp,h1]:=xo.mp hk;ext ì1;rw[og] at h2;have e1:ä2:=ľ
     have k0:0<=Å*s.gv:=zb2 Ğ;rw[e1] at h2;lia
   .rintro (hk | hk)
    .show#[0,Î6]
    .cases hk
theorem Y7 Ò Ê6 ē Ù:zZ (ã8) q=kZ æ p q:=by
 have ge:Gd ĝ (mL Û3):=eR Œ Gd.nil (aJ æ p);unfold xu kZ x8;by_cases ho:Ú=true
 .rw[Î ho,Î ho];cases hs:Ŭ with
  | none=>simp![zaA,List.any_nil,Bool.or_false];show Xu hg hq
  | some s=>
   have hs':=Ø2;have hgv:ð<20:=by
    have:=Ĕ hq;have:Ĵ<=12:=Ā
    lia
   rw[zC7];ext Û2;rw[DG hs' ok.a1 ok.b1 (λ p hp=>#[(ge.xx ű).1.1,(ge.xx ű).2.1]) hq,Qm hs' ge 20 hq ⋯,zD0,zD0];ext š
   .rintro⟨r,hr,h⟩;show#[r,hr,by rw[<- Xu hg (X5 hs' 20 hq r hr)];show h]
   .rintro⟨r,hr,h⟩;show#[r,hr,by rw[Xu hg (X5 hs' 20 hq r hr)];show h]
 .rw[ü ho,ü ho];show Cv hg hq
theorem Sj Ò:∀ (k p:Nat),p<Â->xr ((zT F ä1).getD Ŀ) Ţ
 | 0,p,hp=>by
  have e1:(zT F 1).getD Ŀ=xu F (zT F 0) p:=kr (λ p=>xu F (zT F 0) p) Â Ŀ hp;have e0:(zT F 0).getD Ŀ=qg:=by
   change (start F).getD Ŀ=qg;unfold start;ext â2
  rw[e1,e0];show (Y8 ok _ p).TL
 | k+1,p,hp=>by
  have e1:(zT F (k+1+1)).getD Ŀ=xu F (zT F ä1) p:=kr (λ p=>xu F (zT F ä1) p) Â Ŀ hp;have e0:(zT F ä1).getD Ŀ=xu F (Ó3) p:=kr (λ p=>xu F (Ó3) p) Â Ŀ hp;rw[e1,e0];show Tu F p λ w hw _=>Sj ok k w.t (ok.ws w hw).2
theorem Si Ò ŷ:∀ (d p:Nat),p<Â->xr ((zT F (k+d)).getD Ŀ) Ţ
 | 0,p,_=>xr.refl _
 | d+1,p,hp=>(Sj ok (k+d) ű).trans (Si ok k d ű)
end RN
namespace zY
open PySem L2 L3 L5
def pZ:T->Bool
 | .zF Œ=>true
 | _=>Ä
def qE Ô1:Bool:=!pZ t&&(match t with | õ7=>ts.all (λ u=>!pZ u) | _=>true)
def qE.top {t:T}(h:qE t=true):pZ t=Ä:=by
 unfold qE at h;simp![zE5,zcJ] at h;show h.1
def qE.mem É3(h:qE (õ7)=true) {u:T}(hu:u∈ts):pZ u=Ä:=by
 simp![qE,zE5,zE4,zcJ] at h;show h.2 u hu
def wh Ô1 (a b:Int):Bool:=match t with
 | Ã i=>Ð (a<=i)&&Ð (i<=b)
 | _=>Ä
def Pp Ô1 Ë5:gY [t]=↑(.bl (match t with | Ã _=>true | _=>Ä)):=by
 cases t with
 | zF _ _=>cases he
 | _=>simp[gY,WW,rh]
def aY Ô1 (a b:Int) Ë5:kF [t,Ã a,Ã b]=↑(.bl (wh t a b)):=by
 cases t with
 | int i=>
  unfold kF Zo wh;by_cases h1:a<=i <;> by_cases h2:i<=b <;> simp[Pp _ he,h1,h2]
 | zF _ _=>cases he
 | _=>simp[kF,Zo,wh,Pp _ he]
def Ä4 (i j:Int) (neg:Bool):Æ8:=by
 have:eqT Ð5=Ð (i=j):=by simp[eqT,zcK]
 simp[zS,dep,this]
theorem cu į ù5:∀ (ts:Ý) (bs:ů),List.zipWith (λ a b=>Ö0 [a,b]) ts (bs.map enc)=(ts.zip bs).map λ p=>Ö0 [p.1,enc p.2]
 | [],bs=>#[]
 | t::ts,[]=>#[]
 | t::ts,b::bs=>by simp[cu enc ts bs]
def iq į ù6:Ú2:=by
 have:=a9 (ç8 g);rw[A4] at this;show this
def iu į ù6:(ç8 g).all id=xs.all g:=by
 rw[zaW];rfl
def xT Ô1 (bs:ï):Bool:=match t with
 | õ7=>Ð (Č=Û4)&&Û5
 | _=>Ä
theorem Pt Ô1 (bs:ï) (hl:Û4<=100) (he:qE t=true):kG [t,Ñ (bs.map zt)]=↑(.bl (xT t bs)):=by
 cases t with
 | tup ts=>
  unfold kG Zp xT;by_cases h:Č=Û4
  .have hc:gK Ò8=↑(Í ((ts.zip bs).map λ p=>T.bl (wh p.1 p.2.1 p.2.2))):=by
    unfold gK;exact rg (λ p:T×(Á)=>Ö0 [p.1,zt p.2]) _ (ts.zip bs) ?_ ?_ Å3
    .simp[cu]
    .simp;lia
    .simp[ql,zt,aY Œ _ (qE.mem he (zbD hp).1)]
   simp[rh,Ä4,h,hc,iq,iu]
  .have h':¬ (Č:Int)=Û4:=⋯;simp[rh,Ä4,h,h']
 | zF _ _=>cases qE.top he
 | _=>simp[kG,Zp,xT,rh]
def jH Ô1 (bs:ï):Bool:=match t with
 | õ7=>ts.all λ r=>xT r bs
 | _=>Ä
def ZG Ô1:Prop:=∀ ts,qN t=↑ts->Č<=16777216
def Pr Ô1 (bs:ï) (hl:Û4<=100) (hz:ZG t) (hr:Ê4) Ë5:g_ [t,Ñ (bs.map zt)]=↑(.bl (jH t bs)):=by
 cases t with
 | tup ts=>
  have hz':=hz ts rfl;have hc:XN Ò8=↑(Í (ts.map λ r=>T.bl (xT r bs))):=by
   unfold XN;exact rg (λ r:T=>r) _ ts ?_ hz' Å3
   .simp
   .simp[ql,Pt Œ hl (hr ts rfl ű)]
  unfold g_ Va jH;simp[rh,hc,iq,iu]
 | zF _ _=>cases he
 | _=>simp[g_,Va,jH,rh]
theorem MJ {t:T}{bs:ï}(h:xT t bs=true):∃ r:Ç,t=zI r/\ı:=by
 cases t with
 | tup ts=>
  simp![xT,zE5,ê] at h;let#[hl,ha]:=h;have key:∀ (ts:Ý) (bs:ï),Č=Û4->(Û5)=true->∃ r:Ç,ts=r.map î/\ı:=by
   intro ts
   induction ts with
   | nil=>intro bs hl _;show#[[],rfl,by simpa using hl,λ i x b hx=>by simp at hx]
   | cons t ts ih=>
    intro bs hl ha;cases bs with
    | nil=>simp at hl
    | cons b bs=>
     simp![zbV,zaV,zE5] at ha;let#[r,r1,r2,r3]:=ih bs (ì4) ha.2;cases t with
     | int i=>
      have h1:=ha.1;simp![wh,zE5,ê] at h1;exact#[i::r,by rw[r1];rfl,by simp[r2],λ j x c hx hc=>?_];cases j with
      | zero=>simp at hx hc;subst hx hc;show h1
      | succ j=>show r3 j x c (by exists hx) (by exists hc)
     | _=>simp[wh] at ha
  let#[r,r1,r2,r3]:=key ts bs hl ha;show#[r,by rw[r1];rfl,r2,r3]
 | _=>simp[xT] at h
def Ua É3{bs:ï}(h:(ts.all λ r=>xT r bs)=true):∃ rs:č,ts=rs.map zI/\∀ r∈rs,xT ç9 bs=true/\ı:=by
 induction ts with
 | nil=>show#[[],rfl,ñ1]
 | cons t ts ih=>
  simp![zaV,zE5] at h;let#[rs,h1,h2]:=ih h.2;let#[r,r1,r2,r3]:=MJ h.1;exact#[r::rs,by rw[h1,r1];rfl,λ q hq=>?_];rcases ç5 hq with e | e
  .subst e;show#[by rw[<- r1];show h.1,r2,r3]
  .show h2 q e
def jD:č->Bool
 | õ8=>HT.lexLt a b&&jD (b::l)
 | _=>true
def qM:Ç->Bool
 | õ8=>Ð (a<b)&&qM (b::l)
 | _=>true
theorem Zr į(lt:α->Ý1) (up:ů->Bool) (h0:up []=true) (h1:∀ a,up [a]=true) (h2:∀ a b l,up (õ8)=(lt a b&&up (b::l))):∀ l:ů,((l.zip (l.drop 1)).all λ p=>lt p.1 p.2)=up l
 | []=>by simp[h0]
 | [a]=>by simp[h1]
 | õ8=>by
  have ih:=Zr lt up h0 h1 h2 (b::l);simp![List.drop_succ_cons,List.drop_zero,zbV,zaV] at ih ⊢;rw[h2,<- ih]
def X2 į(xs:ů):nE xs ↑1 none=xs.drop 1:=by
 unfold nE;have e:HT.yh Ó0 0 ↑1=min 1 Ó0:=by simp[HT.yh]
 have e2:HT.yh Ó0 Ó0 none=Ó0:=rfl;rw[e,e2];cases xs with
 | nil=>rfl
 | cons x xs=>simp
def Bh (rs:č) (hl:Î7<=16777216):iC [ĭ]=↑(.bl (jD rs)):=by
 have hc:dq [↑(.im (ĭ))]=↑(Í ((rs.zip (rs.drop 1)).map λ p=>T.bl (HT.lexLt p.1 p.2))):=by
  unfold dq;exact rg (λ p:Ç × Ç=>Ö0 [zI p.1,zI p.2]) _ (rs.zip (rs.drop 1)) ?_ ?_ Å3
  .simp![xN,za,zc,oA,il,cS,zh,lN,ic,zC9,X2,My,Û6,zcL];ext â3
  .simp;lia
  .simp[ql,zI,xk,bL]
 unfold iC Vb;simp[hc,iq,iu];have:=Zr (λ a b=>HT.lexLt a b) jD rfl (è0) (λ _ _ _=>rfl) rs;exists this
def Bi Ç6 (hl:Æ9<=16777216):iC [Í Ś]=↑(.bl (qM ns)):=by
 have hc:dq [↑(.im (Í Ś))]=↑(Í ((ns.zip (ns.drop 1)).map λ p=>T.bl (Ð (p.1<p.2)))):=by
  unfold dq;exact rg (λ p:Á=>Ö0 [î p.1,î p.2]) _ (ns.zip (ns.drop 1)) ?_ ?_ Å3
  .simp![xN,za,zc,oA,il,cS,zh,lN,ic,zC9,X2,Mz,Û6,zcL];ext â3
  .simp;lia
  .simp[ql,xk]
 unfold iC Vb;simp[hc,iq,iu];have:=Zr (λ a b:Int=>Ð (a<b)) qM rfl (è0) (λ _ _ _=>rfl) ns;exists this
def fN (k l:Str) Ô1:Bool:=match t with
 | Ê x=>k == x||l == x
 | _=>Ä
def Y_ (x k l:Str) (y:T) (hy:qN y=↑[Ê k,Ê l]):qm Ä (Ê x) y=↑(.bl (k == x||l == x)):=by
 unfold qm;rw[hy];simp[dep,xn,eqT]
def Gk {x y:T}É3(hy:qN y=↑ts):xx x y=qm Ä x y:=by
 unfold xx;split
 .cases hy
 .rfl
def Jf (k l:Str) Ô1 Ë5:zR ["thing"] 1 (retS (pA (instS "str" ų) (zb xx ų (tupS à9)))) [t]=↑(.bl (fN k l t)):=by
 cases t with
 | str x=>
  have h:=(Gk (x:=Ê x) (y:=Ñ [Ê k,Ê l]) rfl).trans (Y_ x k l (Ñ [Ê k,Ê l]) rfl);simp[rh,h,fN]
 | zF _ _=>cases he
 | _=>simp[fN,rh]
def ng Ô1:Bool:=fN Ý9 t
def Bn Ô1 Ë5:WJ [t]=↑(.bl (ng t)):=Jf Ý9 t he
def kR Ô1:Bool:=match t with
 | õ7=>(Ð (1<=Č)&&Ð (Č<=8))&&ts.all ng
 | _=>Ä
theorem Bm Ô1 (he:qE t=true):cb [t]=↑(.bl (kR t)):=by
 cases t with
 | tup ts=>
  unfold cb Vc kR;by_cases h:1<=Č
  .by_cases h':Č<=8
   .have hc:XO [↑(.im (õ7))]=↑(Í (ts.map λ r=>T.bl (ng r))):=by
     unfold XO;exact rg (λ r:T=>r) _ ts ?_ ⋯ Å3
     .simp
     .simp[ql,Bn _ (qE.mem he hp)]
    have e1:í0:=⋯;have e2:(Č:Int)<=8:=⋯;simp[rh,e1,e2,h,h',hc,iq,iu]
   .have e1:í0:=⋯;have e2:¬ (Č:Int)<=8:=⋯;simp[rh,e1,e2,h,h']
  .have e1:¬ í0:=⋯;simp[rh,e1,h]
 | zF _ _=>cases qE.top he
 | _=>simp[cb,Vc,kR,rh]
def rowOf Ô1:Ç:=match t with
 | Ñ xs=>(nk xs).getD []
 | _=>[]
def MN (r:Ç):rowOf ç9=r:=by simp[rowOf,zI,bL]
def cV (rs:č):(rs.map zI).map rowOf=rs:=by
 rw[A4]
 conv=>rhs;rw[<- List.map_id rs]
 show zaD λ r _=>MN r
def wb (n:Int):ï:=[(0,n-1),(0,n-1),(-12,12),(-12,12)]
def sb (n:Int):ï:=[(0,n-1),(0,1),(1,12),(0,12)]
def fst (r:Ç):Int:=õ9 0 0
def lP Ô1 Ŧ:Bool:=match t with
 | õ7=>Õ3&&(Ð (Č<=24)&&(jD (ts.map rowOf)&&(Ì n).all λ Ŏ=>(Ú3).any λ i=>Ð (i=Å)))
 | _=>Ä
def EC (a k:Int):eqT (Ã a) ï1=Ð (a=k):=by simp![eqT,zcK]
theorem QV (k:Int):∀ ns:Ç,(á0 î).any (λ t=>eqT t ï1)=ns.any λ i=>Ð (i=k)
 | []=>rfl
 | n::ns=>by rw[AR,zaA,zaA,QV k ns,EC]
def Ya {r:Ç}(h:ò9=4):∃ a b c d,r=á:=by
 match r,h with
 | á,_=>show#[a,b,c,d,rfl]
theorem RB:∀ ns:Ç,xn Ś=0
 | []=>rfl
 | n::ns=>by simp[xn,dep,RB ns]
theorem CV Ô1 Ŧ (hn:n<=1000) (hz:ZG t) (hr0:Ê4) Ë5:dZ [t,Ã n]=↑(.bl (lP t n)):=by
 have hw:=Pr t (wb n) (by simp[wb]) hz hr0 he;have eb:Ö0 ((wb n).map zt)=Ñ [Ñ [Ã 0,Ã ((n:Int)-1)],Ñ [Ã 0,Ã ((n:Int)-1)],Ñ [Ã (-12),Ã 12],Ñ [Ã (-12),Ã 12]]:=rfl;rw[eb] at hw;cases t with
 | tup ts=>
  have hz':=hz ts rfl;unfold dZ WZ lP;simp![jH] at hw;by_cases ha:Õ3=true
  .ext â5
   have hc1:∀ a b c d,XJ [↑(.im (ĭ)),a,b,c,d]=↑(Í ((í1).map î)):=λ a b c d=>by
    unfold XJ;rw[A4];exact ß3
    .simp
    .have h4:Ď=4:=(hr ű).2.1;let#[a,b,c,d,rfl]:=Ya h4;simp[ql,zI,fst]
   have hc2:∀ Ç6 a c d,XD [a,↑(.im ŏ),c,d,↑(.im (Í Ś))]=↑(Í ((Ì n).map λ Ŏ=>T.bl (ns.any λ i=>Ð (i=Å)))):=λ ns a c d=>by
    unfold XD;exact rg Ì8 _ (Ì n) ?_ (ā) ß0
    .simp[cW n ⋯]
    .have e:=QV Å ns;rw[zbQ] at e;simp[ql,xx,qm,dep,RB,e]
   have hup:=Bh rs hl;ext Û2;rw[cV];ext Î5;by_cases bQ:Î7<=24
   .have e:(Î7:Int)<=24:=⋯;cases hu:jD rs <;> simp[hw,ha,hc1,hc2,hup,iq,iu,bQ,e,hu]
   .have e:¬ (Î7:Int)<=24:=⋯;simp[hw,ha,hc1,hc2,hup,bQ,e]
  .have ha':Õ3=Ä:=by exists ha
   simp[hw,ha']
 | _=>simp[dZ,WZ,lP,jH] at hw ⊢ <;> simp[hw]
def keeps ú2 (p:Int):Bool:=match os[ä3]? with
 | some (Ê x)=>x == "keeper"
 | _=>Ä
def lT Ô1 ú2:Bool:=match t with
 | õ7=>Ð2&&(qM (Ú3)&&(Ú3).all (keeps os))
 | _=>Ä
def Î8 (x y:Str) (neg:Bool):zS neg (Ê x) (Ê y)=↑(.bl (cond neg (!(x == y)) (x == y))):=by
 ext Ô4
theorem Sf {os:Ý}{p:Int}(h0:0<=p) (h1:p<è) (ho:Æ4) (k:Str):∃ x:Str,Á6 os p=↑(Ê x)/\os[ä3]?=↑(Ê x):=by
 have hl:ä3<è:=⋯;have e:os[ä3]?=↑os[ä3]:=zA1 hl;have ha:Á6 os p=↑os[ä3]:=by
  have:=qf (k:=ä3) e;rw[zF2 h0] at this;show this
 have hw:=zE4.mp ho os[ä3] (zD8 hl);generalize hq:os[ä3]=q at *;cases q with
 | str x=>show#[x,ha,e]
 | _=>simp[ng,fN] at hw
theorem Ba Ô1 ú2 (ho:Æ4) (hl8:è<=8) (hz:ZG t) (hr0:Ê4) Ë5:d_ [t,Ñ os]=↑(.bl (lT t os)):=by
 have hw:=Pr t (sb è) (by simp[sb]) hz hr0 he;have eb:Ö0 ((sb è).map zt)=Ñ [Ñ [Ã 0,Ã ((è:Int)-1)],Ñ [Ã 0,Ã 1],Ñ [Ã 1,Ã 12],Ñ [Ã 0,Ã 12]]:=rfl;rw[eb] at hw;cases t with
 | tup ts=>
  have hz':=hz ts rfl;unfold d_ W_ lT;simp![jH] at hw;by_cases ha:Ð2=true
  .ext â5
   have hc1:∀ a b,XM [↑(.im (ĭ)),a,b]=↑(Í ((í1).map î)):=λ a b=>by
    unfold XM;rw[A4];exact ß3
    .simp
    .ext Ñ6;simp[ql,zI,fst]
   have hc2:∀ b,XE [↑(.im (ĭ)),↑(.im (Ñ os)),b]=↑(Í (rs.map λ r=>T.bl (keeps os (fst r)))):=λ b=>by
    unfold XE;exact ß3
    .simp
    .have hb:=(hr ű).2.2 0;ext Ñ6;have hb':=hb a (0,(è:Int)-1) À;let#[x,x1,x2]:=Sf (os:=os) (p:=a) hb'.1 (by have:=hb'.2;simp at this;lia) ho "keeper";have e1:keeps os a=(x == "keeper"):=by unfold keeps;rw[x2]
     have e2:fst á=a:=rfl;rw[e2,e1];generalize Ä5=kk;simp[ql,zI,x1,Î8]
   have hup:=Bi (í1) (ì4);have hk:rs.all (λ r=>keeps os (fst r))=(í1).all (keeps os):=by rw[zaW];rfl
   ext Û2;rw[cV];rw[<- hk];ext Î5;cases hu:qM ns <;> simp[hw,ha,hc1,hc2,hup,iq,iu,hu]
  .have ha':Ð2=Ä:=by exists ha
   simp[hw,ha']
 | _=>simp[d_,W_,lT,jH] at hw ⊢ <;> simp[hw]
def kl Ô1:Bool:=match t with
 | Ñ [a,Ñ os,c,d]=>(xT a Ť&&kR (Ñ os))&&(lP c è&&lT d os)
 | _=>Ä
def B0 (a:T) (os ws ss:Ý) (ha:qE a=true) (ho:qE (Ñ os)=true) (hw:∀ r∈ws,qE r=true) (hs:∀ r∈ss,qE r=true) (lw:Ů<=16777216) (ls:ss.length<=16777216):
  gZ [ï2]=↑(.bl (kl (ï2))):=by
 have brims:Zm [a]=↑(.bl (xT a Ť)):=by
  have h:=Pt a Ť #[] ha;unfold Zm O3;simp[zt] at h ⊢;simp[h]
 have own:=Bm (Ñ os) ho;unfold gZ Oy kl;cases hb:xT a Ť with
 | Ä=>simp[rh,Ä4,brims,hb]
 | true=>
  cases hw':kR (Ñ os) with
  | Ä=>simp[rh,Ä4,brims,hb,own,hw']
  | true=>
   have hw2:=hw';simp![kR,zE5,ê] at hw2;have e1:=CV (Ñ ws) è ⋯ (λ ts e=>by cases e;show lw) (λ ts e=>by cases e;show hw) rfl;have e2:=Ba (Ñ ss) os hw2.2 hw2.1.2 (λ ts e=>by cases e;show ls) (λ ts e=>by cases e;show hs) rfl;cases hv:lP (Ñ ws) è <;> simp[rh,Ä4,brims,hb,own,hw',e1,e2,hv]
def Uc (x y z v:T) (p q r s:Á):xT (Ñ [x,y,z,v]) [p,q,r,s]=(wh x p.1 p.2&&(wh y q.1 q.2&&(wh z r.1 r.2&&wh v s.1 s.2))):=by simp[xT]
def MM (x y:T) (p q:Á):xT (Ñ [x,y]) [p,q]=(wh x p.1 p.2&&wh y q.1 q.2):=by simp[xT]
@[simp] theorem zab (i j:Int):wA Ð5=oK Ð5:=rfl
def XA (m:Int) Ç6 ŷ:Int:=if k<Æ9 then ns.getD k 0%m else 0
def Tx (m a b c d e:T):Sm:=
 (zv (zP 2 Ŋ)
 (zv (yi ä4 (zP 2 (zb yZ (zb zi ų Ø3) (zb fJ Ø4 (cS m)))) yo)
 (retS (zb xG (zb yZ (zb yg (zb yg (zb wA è1 (cS a)) (zb wA (zb wA (cS b) Ø3) Ø3)) (zb wA (cS c) Ø3)) (cS d)) (cS e)))))
def IH (m a b c d e:Int) Ç6 ŷ (hp:j9 2 m) (hm:0<(2:Int) ^ m.toNat) (h1:∀ i,pP i a) (h2:∀ i,pP b i) (h3:∀ i,pP i Å) (h4:∀ i,pP c i) (h5:0<d) (h6:r_ 0 e):
  ke (Tx (Ã m) (Ã a) (Ã b) (Ã c) (Ã d) (Ã e) [↑ Ã4,↑(.im ï1),none])=↑(Ã ((XA (2 ^ m.toNat) ns k*a+b*Å*Å+c*Å)%d/e)):=by
 have h6':∀ i,r_ i e:=λ i=>h6;unfold Tx x_ XA;by_cases h:k<Æ9
 .have q:í2:=qf (ä5);have h':ï3:=⋯;simp[h,h',q,xk,hp,hm,oK,h1,h2,h3,h4,h5,h6',ke]
 .have h':¬ ï3:=⋯;simp[h,h',xk,oK,h1,h2,h3,h4,h5,h6',ke]
def mixed Ç6 ŷ:Int:=(XA (2 ^ (64:Int).toNat) ns k*46337+2741*Å*Å+59*Å)%2147483629/2
theorem half_lt (x d:Int) (h:0<d):0<=x%d/2/\x%d/2<d:=by
 have h1:=zF0 x (b:=d) ⋯;have h2:=zF1 x h;lia
def iZ Ç6 ŷ:0<=mixed ns k/\mixed ns k<2147483629:=half_lt Œ ()
def gW Ç6 ŷ (hk:k<=1000):kE [x_ ns,Ã Å]=↑(Ã (mixed ns k)):=
 IH 64 46337 2741 59 2147483629 2 ns k #[(),(),()] () (λ i=>.inr ú) (λ i=>ã6 ú) (λ i=>.inr â) (λ i=>ã6 ú) () ú
def my Ŧ (r:Ç):Prop:=∃ a b c d:Int,r=á/\(0<=a/\a<n)/\(0<=b/\b<n)/\(-12<=c/\c<=12)/\(-12<=d/\d<=12)
theorem Qf (x s:Int) (h1:1<=s) (h2:s<=12):-12<=x%(2*s+1)-s/\x%(2*s+1)-s<=12:=by
 have a:=zF0 x (b:=2*s+1) ⋯;have b:=zF1 x (b:=2*s+1) ⋯;lia
def two ù4:x%2=0\/x%2=1:=⋯
def OD Ç6 (at' many k:Nat) (more span:Int) (rows:Ý) (ha:at' + k<=1000) (hm:1<=many) ô0 (hl:À8<=1000):
  ∃ a b c d m:Int,my many á/\(ï4->a=k)/\turn (zJ 6) dA (Ã (0+Å)) [↑ Ã4,↑ É8,↑ Ç0,↑ Ç1,↑ Û7,↑(ō (Í rows)),none,none,none,none] =
   ↑(.nx [↑ Ã4,↑ É8,↑ Ç0,↑ Ç1,↑ Û7,↑(ō (Í (rows++[zI á]))),↑(.im (Ã (0+Å))),↑(.im (Ã m)),↑(.im (Ã a)),↑(ō (Í [Ã c,Ã d]))]):=by
 have hmx:=gW ns (at' + k) ha;have hca:((at':Int)+Å)=((at' + k:Nat):Int):=⋯;let#[m0,_]:=iZ ns (at' + k);generalize mixed ns (at' + k)=m at *;have pm:(0:Int)<many:=⋯;have pN:0<many:=hm;have ps:0<2*span+1:=⋯;have cm:pP 2 span:=ã6 ú;have e1:=zF0 m (b:=Î2) ⋯;have e2:=zF1 m pm;have e3:=zF0 (m/8) (b:=Î2) ⋯;have e4:=zF1 (m/8) pm;have c1:=Qf (m/64) span hs1 hs2;have c2:=Qf (m/2048) span hs1 hs2;ext ô2;have d64:r_ m 64:=ú;have d2048:r_ m 2048:=ú;have d65536:r_ m 65536:=ú;have d327680:r_ m 327680:=ú;have d8:r_ m 8:=ú;have z2:qc 2 0=↑0:=rfl;have o2:qc 2 1=↑1:=rfl;have cc:(0:Int)+Å=Å:=⋯;rw[hca.symm] at hmx;have st:∃ a:Int,(0<=a/\a<many)/\(ï4->a=k)/\(if Å<Î2 then Å else m%many)=a:=by
  by_cases hk:ï4
  .show#[k,⋯,è0,by rw[Î ⋯]]
  .show#[m%many,#[e1,e2],λ h=>Ū h hk,by rw[ü ⋯]]
 let#[a,a1,a2,a3]:=st;have fin:∀ c d:Int,(-12<=c/\c<=12)->(-12<=d/\d<=12)->my many [a,m/8%many,c,d]:=λ c d h1 h2=>#[_,_,_,_,rfl,a1,#[e3,e4],h1,h2];have zz:(-12:Int)<=0/\(0:Int)<=12:=ú;rw[cc];unfold turn dA;by_cases h5:m/65536%5=0
 .rcases two (m/327680) with h2 | h2
  .exact#[a,m/8%many,0,m/2048%(2*span+1)-span,m,fin Œ zz c2,a2,?_];by_cases hk:Å<Î2
   .ext Ô8;ext Ň
   .ext Ï3;ext Ň
  .exact#[a,m/8%many,m/64%(2*span+1)-span,0,m,fin Œ c1 zz,a2,?_];by_cases hk:Å<Î2
   .ext Ô8;ext Ŝ
   .ext Ï3;ext Ŝ
 .exact#[a,m/8%many,m/64%(2*span+1)-span,m/2048%(2*span+1)-span,m,fin Œ c1 c2,a2,?_];by_cases hk:Å<Î2
  .ext Ô8;ext Ÿ
  .ext Ï3;ext Ÿ
def my.row å9{r:Ç}(h:my n r):xT ç9 (wb n)=true:=by
 let#[a,b,c,d,rfl,h1,h2,h3,h4]:=h;have e:zI á=Ñ ŕ:=rfl;rw[e];unfold wb;rw[Uc];simp![wh,zE5,ê];lia
theorem Vq:∀ {rs:č},rs.Pairwise (λ a b=>HT.lexLt b a=Ä)->rs.Nodup->jD rs=true
 | [],_,_=>rfl
 | [a],_,_=>rfl
 | õ8,h,nd=>by
  have h1:=za9.mp h;have n1:=zaC.mp nd;rw[jD,Vq h1.2 n1.2,Bool.and_true];cases q:HT.lexLt a b with
  | true=>rfl
  | Ä=>show Ū (L4.YM a b q (h1.1 b AU)▸AU) n1.1
def Gh {r:Ç}{rs:č}:nk Ø5=none:=rfl
def Me (rs:č) (h0:rs≠[]) (hl:Î7<64) (hn:∀ r∈rs,r≠[]):iP [Í (rs.map zI)]=↑(Í ((L4.qb (qD rs)).map zI)):=by
 cases rs with
 | nil=>show Ū rfl h0
 | cons r rs=>
  change (match nk Ø5 with
   | some ns=>if Æ9<64 then ↑(T.lst ((oq ns).map î)) else none
   | none=>f6 [T.lst Ø5])=_
  rw[Gh];change (oB Ø5).bind _=_;rw[Z_,zC9,Î #[hl,hn]]
def Bs Ç6 (at' many more:Nat) (span:Int) (ha:at'<=100) Ù1 (hmo:more<=16) ô0:
  ∃ rs:č,Zc [x_ ns,Ã at',Ã many,Ã more,Ã span]=↑(ĭ)/\í3/\rs≠[]/\Î7<=Ù7/\(∀ r∈rs,my many r)/\ä6:=by
 let#[J',h1,rows,h2,h3,h4,h5]:=nS (is:=[6,7,8,9]) (g:=zJ 6) (b:=dA) Ì8 (λ p J=>∃ rows:č,J=[↑ Ã4,↑ É8,↑ Ç0,↑ Ç1,↑ Û7,↑(ō (Í Í9)),none,none,none,none]/\
   À8=Ď/\(∀ r∈rows,my many r)/\∀ k∈p,ï4->Å ∈rows.map fst) (Ì (Ù7)) [↑ Ã4,↑ É8,↑ Ç0,↑ Ç1,↑ Û7,↑ Ñ0,none,none,none,none]
   #[[],rfl,rfl,ñ1,ñ1] (by
  rintro p k q e J ⟨rows,rfl,r1,r2,r3⟩;have hp:Ď+1<=Ù7:=by
   have:=Ë ė e;simp at this;lia
  have hk:k<Ù7:=by
   have:k∈ Ì (Ù7):=Ĥ
   exists this
  let#[a,b,c,d,m,w1,w2,w3]:=OD ns at' many k more span Í9 ⋯ hm hs1 hs2 (ā);exact#[_,w3,rows++[á],#[],by simp[r1],λ r hr=>?_,λ j hj hjm=>?_]
  .rcases î8 hr with z | z
   .show r2 r z
   .cases Ð8 z;show w1
  .rw[zE7];rcases î8 hj with z | z
   .show zaO _ (r3 j z hjm)
   .cases Ð8 z;show zB4 _ (by rw[<- w2 hjm];show AU))
 subst h2;have hlen:À8=Ù7:=by rw[h3];simp
 have AW:rows≠[]:=λ z=>by rw[z] at hlen;simp at hlen;lia
 have hrow:∀ r∈rows,r≠[]:=λ r hr=>by let#[a,b,c,d,rfl,_]:=h4 r hr;simp
 have hss:=Me rows AW ⋯ hrow;have hmem:∀ r,r∈ Î9 ↔r∈rows:=λ r=>by rw[(L4.lh _).mem_iff,fV]
 have hl24:(Î9).length<=24:=by rw[(L4.lh _).length_eq];have:=bx rows;lia
 have hgw:∀ k:Nat,ï4->∃ r∈ Î9,fst r=Å:=λ k hk=>by
  let#[r,hr,e]:=Ľ (h5 k (ā) hk);show#[r,(hmem r).mpr hr,e]
 exact#[Î9,?_,?_,?_,by rw[(L4.lh _).length_eq,<- hlen];show bx rows,λ r hr=>h4 r ((hmem r).mp hr),hgw]
 .obtain⟨N,hN⟩:∃ N,N=Ù7:=Ý3;have hr:=cW N ⋯;have ee:(Î2+(more:Int))=(N:Int):=⋯;rw[<- hN] at h1;simp![zb9] at h1 hr;unfold Zc Oq;generalize dA=bb at h1 ⊢;simp[ee,hr,h1,hss]
 .simp![lP,cV,zE5,ê,AQ];exact#[ö0 λ t ht=>?_,hl24,Vq (L4.cP _) ((L4.lh _).nodup_iff.mpr (bw rows)),ö0 ß0]
  .let#[r,hr,rfl]:=Ľ ht;show (h4 r ((hmem r).mp hr)).row
  .have hk':ï4:=by exists hk
   have:=h5 k (ā) hk';let#[r,hr,e]:=Ľ this;show ì6 #[fst r,Ó2 #[r,(hmem r).mpr hr,rfl],by simp[e]]
 .intro z;cases hr:rows with
  | nil=>show AW hr
  | cons r l=>
   have:r∈ Î9:=(hmem r).mpr (by rw[hr];show AU);rw[z] at this;cases this
def lg ú2 (r:Ç):Prop:=∃ a b c d:Int,r=á/\(0<=a/\a<è)/\(0<=b/\b<=1)/\(1<=c/\c<=12)/\(0<=d/\d<=12)/\keeps os a=true
def lg.row {os:Ý}{r:Ç}(h:lg os r):xT ç9 (sb è)=true:=by
 let#[a,b,c,d,rfl,h1,h2,h3,h4,_]:=h;have e:zI á=Ñ ŕ:=rfl;rw[e];unfold sb;rw[Uc];simp![wh,zE5,ê];lia
theorem Vr:∀ Ç6 ù4,qM ns=true->(∀ n∈ns,n<x)->qM (ns++[x])=true
 | [],x,_,_=>rfl
 | [a],x,_,h=>by simp[qM];show h a AU
 | õ8,x,h,hx=>by
  ext æ8
  have ih:=Vr (b::l) x h'.2 λ n hn=>hx n (AX _ hn);change (Ð (a<b)&&qM ((b::l)++[x]))=true;rw[h'.1,ih];rfl
def NY ú2 ŷ (hk:k<è) (s kk:Str) (hs:Á6 os Å=↑(Ê s)) (cell:Int) (rows:Ý) (hl:À8<=1000) (bb:Sm)
  (hb:bb=(zv (yi (nB (zO (zb Ì1 (zb zi Ø3 Ó4) (cS (Ê kk)))) (zO (zb Ì1 (zb yZ ų Ø4) Ŗ))) (qU 2 (tupS (za (zk 3) (za (zb yZ (zb xG ų Ø4) Ø4) (za (zb yg Ŗ (zb yZ (zb xG ų (cI 4)) (cI 12))) (za (zb yZ (zb xG ų (cI 48)) (cI 13)) zh)))))) yo)
 (zP 0 (zb xG ų (cI 624))))):
  turn (zJ 3) bb (Ã (0+Å)) [↑(.im (Ã cell)),↑ è2,↑(ō (Í rows)),none]=↑(.nx [↑(.im (Ã (cell/624))),↑ è2,↑(ō (Í (rows++(if (s == kk)=true/\cell%2=1 then [zI [Å,cell/2%2,1+cell/4%12,cell/48%13]] else [])))),↑(.im (Ã Å))]):=by
 ext ô2;have d624:r_ cell 624:=ú;have d2:r_ cell 2:=ú;have d4:r_ cell 4:=ú;have d48:r_ cell 48:=ú;have cc:(0:Int)+Å=Å:=⋯;rw[cc];subst hb;unfold turn;cases hq:(s == kk)
 .simp[hs,Î8,hq,d624]
 .by_cases h2:cell%2=1
  .simp[hs,Î8,hq,Ä4,h2,d624,d2,d4,d48,hl',zI]
  .simp[hs,Î8,hq,Ä4,h2,d624]
theorem Bu (cell:Int) ú2 (ho:Æ4) (h8:è<=8):∃ qs:č,Ze [Ã cell,Í os]=↑(È5)/\ô4/\Ï0<=8/\ä7/\Þ3:=by
 let#[J',h1,c',qs,h2,h3,h4,h5,h6]:=nS (is:=[3]) (g:=zJ 3) (b:=aF) Ì8 (λ p J=>∃ (c:Int) (qs:č),J=[↑(.im (Ã c)),↑ è2,↑(ō (Í (ĥ zI))),none]/\Ï0<=Ď/\ä7/\Þ3/\∀ n∈ ĥ fst,n<(Ď:Int))
   (Ì è) [↑(.im (Ã cell)),↑ è2,↑ Ñ0,none] #[cell,[],rfl,AM _,ñ1,rfl,ñ1] (by
  rintro p k q e J ⟨c,qs,rfl,r1,r2,r3,r4⟩;have hpk:Ď=k:=by
   have h:=Ë (λ l=>l[Ď]?) e;have hp:Ď<è:=Ø9
   simp[hp] at h;show h
  have hk:k<è:=by
   have:k∈ Ì è:=Ĥ
   exists this
  let#[s,s1,s2]:=Sf (os:=os) (p:=Å) Ğ ho "keeper";have tn:=NY os k hk s "keeper" s1 c (ĥ zI) (ā) aF rfl;have ek:keeps os Å=(s == "keeper"):=by unfold keeps;rw[s2]
  by_cases hc:(s == "keeper")=true/\c%2=1
  .rw[Î hc] at tn;exact#[_,tn,c/624,qs++[[Å,c/2%2,1+c/4%12,c/48%13]],#[],ā,λ r hr=>?_,?_,λ n hn=>?_]
   .rcases î8 hr with z | z
    .show r2 r z
    .cases Ð8 z;show#[_,_,_,_,rfl,⋯,⋯,⋯,⋯,by rw[ek];show hc.1]
   .rw[zE7];exact Vr Œ r3 λ n hn=>?_;have:=r4 n hn;change n<Å;lia
   .rw[zE7] at hn;rcases î8 hn with z | z
    .have:=r4 n z;simp;lia
    .have:n=Å:=by simpa [fst] using z
     simp;lia
  .rw[ü hc,zaB] at tn;show#[_,tn,c/624,qs,#[],ā,r2,r3,λ n hn=>by have:=r4 n hn;simp;lia])
 subst h2;exact#[qs,?_,?_,by simp at h3;lia,h4,h5]
 .have hr:=cW è ⋯;simp![zb9] at h1 hr;unfold Ze Ov;generalize aF=bb at h1 ⊢;simp[hr,h1]
 .simp![lT,cV,h5,Bool.true_and,zE5];exact#[ö0 λ t ht=>?_,ö0 λ n hn=>?_]
  .let#[r,hr,rfl]:=Ľ ht;show (h4 r hr).row
  .let#[r,hr,rfl]:=Ľ hn;let#[a,b,c,d,rfl,_,_,_,_,h]:=h4 r hr;show h
def VX (b m e:T):Sm:=
 (zv (yi (nB (xh è1) ä4) (retS (zb yZ (zb zi ų Ø3) (zb fJ (cS b) (cS m)))) yo)
 (zv (zP 3 (zo kE (za (zk 0) (za (zk 1) zh))))
 (retS (zb yg (zb wA (zb wA Ó4 Ó4) Ó4) (zb wA (cS e) Ó4)))))
def M3 (b m e:Int) Ç6 ŷ (d:Bool) (hk:k<=1000) (hp:j9 b m) (hm:0<b ^ m.toNat) (he:∀ i,pP e i) (hx:∀ i j:Int,0<=i->i<2147483629->pP j i):
  ∃ c,ke (VX (Ã b) (Ã m) (Ã e) [↑ Ã4,↑(.im ï1),↑(.im (.bl d)),none])=↑(Ã c):=by
 have hmx:=gW ns k hk;let#[m0,m1]:=iZ ns k;generalize mixed ns k=q at *;have x1:=hx q q m0 m1;have x2:=hx q (q*q) m0 m1;unfold VX x_ at *;cases d
 .show#[_,by simp[hmx,oK,x1,x2,he,ke];rfl]
 .by_cases h:k<Æ9
  .have z:í2:=qf (ä5);have h':ï3:=⋯;show#[_,by simp[h,h',z,xk,hp,hm,ke];rfl]
  .have h':¬ ï3:=⋯;show#[_,by simp[h,h',xk,hmx,oK,x1,x2,he,ke];rfl]
def Bb Ç6 ŷ (d:Bool) (hk:k<=1000):∃ c,WE [x_ ns,Ã Å,.bl d]=↑(Ã c):=
 M3 10 64 104729 ns k d hk #[(),(),()] () (λ i=>ã6 ú) (λ i j h1 h2=>.inr â)
def CD ù4 (h:0<=x):á1 x 1=0\/á1 x 1=1:=by
 have e:á1 x 1=((x.toNat &&& 1:Nat):Int):=by
  unfold á1;simp[h]
 rw[e,Nat.and_one_is_mod];lia
def kt ß1:T:=cond b ś (í4)
def TU ß1:ng (kt b)=true:=by cases b <;> decide
def Jc (k l:Str) (s a m b e x:T) ē (num:Int) (h0:0<=num) (rows:Ý) (hl:À8<=1000) (u v:É W) (bb:Sm)
  (hb:bb=(qU 6 (zb zi (xE à9) (zb XX (zb ZT è3 (zc 7)) Ŗ)))):
  ∃ y,(y=Ê k\/y=Ê l)/\turn (zJ 7) bb (Ã (0+ť)) [↑(.im s),↑ ä8,↑(.im m),↑(.im b),↑(.im e),↑ á2,↑(ō (Í rows)),none,u,v] =
   ↑(.nx [↑(.im s),↑ ä8,↑(.im m),↑(.im b),↑(.im e),↑ á2,↑(ō (Í (rows++[y]))),↑(.im (Ã ť)),u,v]):=by
 ext ô2;have cc:(0:Int)+ť=ť:=⋯;have hq:0<=num/2 ^ (p:Int).toNat:=Int.ediv_nonneg h0 (Int.pow_nonneg ());rw[cc];subst hb;unfold turn;have tn:(p:Int).toNat=p:=#[];rw[tn] at hq;rcases CD _ hq with h | h
 .show#[Ê k,ã6 rfl,by simp[h,hl']]
 .show#[Ê l,.inr rfl,by simp[h,hl']]
def four ù4:x%4=0\/x%4=1\/x%4=2\/x%4=3:=⋯
def Bv Ç6 (at' many more:Nat) (br:T) (ha:at'<=50) Ù1 (hmo:more<=16):
  ∃ (os:Ý) (rs qs:č),gX [x_ ns,Ã at',Ã many,br,Ã more]=↑ ô7/\è=many/\Æ4/\
   í3/\ô4/\rs≠[]/\Î7<=Ù7/\Ï0<=8/\(∀ r∈rs,my many r)/\(ä6)/\ä7/\Þ3:=by
 have hmx:=gW ns at' ⋯;let#[m0,m1]:=iZ ns at';generalize mixed ns at'=num at *;let#[J',h1,os,h2,h3,h4]:=nS (is:=[7]) (g:=zJ 7) (b:=dB) Ì8 (λ p J=>∃ os:Ý,J=[↑ Ã4,↑ É8,↑ Ç0,↑(.im br),↑ Ç1,↑ á2,↑(ō (Í os)),none,none,none]/\è=Ď/\Æ4)
   (Ì many) [↑ Ã4,↑ É8,↑ Ç0,↑(.im br),↑ Ç1,↑ á2,↑ Ñ0,none,none,none] #[[],rfl,rfl,rfl] (by
  rintro p k q e J ⟨os,rfl,r1,r2⟩;have hp:Ď<many:=Ø9
  let#[y,y1,y2]:=Jc Ý9 (x_ ns) (Ã at') (Ã many) br (Ã more) (Ã 0) k num m0 os ⋯ Þ dB rfl;exact#[_,y2,os++[y],rfl,by simp[r1],?_];rw[List.all_append,r2];rcases y1 with z | z
  .subst z;show TU true
  .subst z;show TU Ä)
 subst h2;have hos:è=many:=by exists h3
 have d256:r_ num 256:=ú;have d1024:r_ num 1024:=ú;have d3072:r_ num 3072:=ú;obtain⟨span,s1,s2,s3⟩:∃ span:Int,1<=span/\span<=12/\Á6 [î 1,Ã 2,Ã 3,Ã 12] (num/256%4)=↑(Ã span):=by
  rcases four (num/256) with h | h | h | h <;> rw[h]
  .show#[1,(),(),rfl]
  .show#[2,(),(),rfl]
  .show#[3,(),(),rfl]
  .show#[12,(),(),rfl]
 let#[rs,w1,w2,w3,w4,w5,w6]:=Bs ns (at' + 2) many more span ⋯ hm hm8 hmo s1 s2;let#[cell,c1]:=Bb ns (at' + 1) (Ð (num/3072%2=1)) ⋯;let#[qs,q1,q2,q3,q4,q5]:=Bu cell os h4 ⋯;have hr:=cW many ⋯;simp![zb9] at h1 hr;have e1:((at' + 1:Nat):Int)=(at':Int)+1:=⋯;have e2:((at' + 2:Nat):Int)=(at':Int)+2:=⋯;rw[e1] at c1;rw[e2] at w1;by_cases A5:num/1024%3=1
 .exact#[os,rs,qs,?_,hos,h4,w2,q2,w3,w4,q3,w5,w6,q4,q5];ext ô1;simp[hmx,hr,h1,d256,d1024,d3072,s3,Ä4,A5,c1,q1,w1]
 .exact#[os,rs,[],?_,hos,h4,w2,?_,w3,w4,#[],w5,w6,ñ1,rfl]
  .ext ô1;simp[hmx,hr,h1,d256,d1024,s3,Ä4,A5,w1]
  .simp[lT,qM]
def Ec {br:T}{os:Ý}{rs qs:č}{many:Nat}(hb:xT br Ť=true) (h1:è=many) Ù1 (h2:Æ4) (h3:í3) (h4:ô4):
  kl ô7=true:=by
 have eo:kR (Ñ os)=true:=by
  have a:1<=è:=⋯;have b:è<=8:=⋯;simp[kR,a,b,h2]
 unfold kl;simp![hb,eo,h1,h3,h4,zbM]
end zY
namespace zY
open PySem L2 L3 L5 SJ
def num (n:Int):Str:=(toString n:String)
def nums:Ç:=(Ì 25).map λ Ŏ=>(-12:Int)+Å
def wd ù7:ţ:=if (ï5)=true then ↑0 else if (("b":Str) == w)=true then ↑1 else nums.find? ö1
def oT:ţ->T
 | none=>.zA
 | some n=>Ã n
def pd (r:Ï9):T:=Ñ (r.map oT)
def Rc į(ret:α->T) (J0:Ev):É α->Out
 | some x=>.rt (ret x)
 | none=>.nx J0
theorem jN į{is:é}À5 Ò9:∀ (xs:ů) (J:Ev),xm is J=J0->
  ū->
  wC is g b (ç8 enc) J=↑(Rc ret J0 (xs.find? test))
 | [],J,h,_=>by rw[za4,List.find?_nil,wC,h];rfl
 | x::xs,J,h,ht=>by
  ext Ã9
  .rw[Î c,c];rfl
  ext Æ0
def oJ É5(h:-1000000<=n/\n<=1000000):yP [Ã n]=↑(Ê ä9):=Î h
def Gm (w k l:Str) (h:(k == w||l == w)=true):eE (Ñ ([k,l].map Ü)) á3=↑(oT (if (k == w)=true then ↑0 else ↑1)):=by
 have e:lR ([k,l].map Ü)=↑[k,l]:=rfl;unfold eE;ext Û2;rw[e,zC9];by_cases hk:k=w
 .subst hk;simp[oT]
 .have hl:l=w:=by
   rw[zE6,Ý0,Ý0] at h;show h.resolve_left hk
  subst hl;simp[oT,hk,List.idxOf_cons];simp[À2 hk]
def zm {f:T->T->É T}{fa fb:AD}ý Ë0:zb f fa fb J=r:=by change (fa J).bind _=_;rw[h1];change (fb J).bind _=_;rw[h2];show h
def oZ {F:AG}{g:AD}{u:À7}ý{y:Str}ù2 Ñ7(h1:g J=↑(Ê y)) (h2:u J=↑xs) (h:F (Ê y::xs)=r):rS F g u J=r:=by ext Á1;rw[h1];ext Î4;rw[h2];show h
def yY {F:AG}{g:AD}ý{x:T}Ñ7(h:g J=↑x) (hF:F [x]=r):zo F (za g zh) J=r:=by change ((g J).bind _).bind _=_;rw[h];show hF
def OA ù7:wC [1] (zJ 1) XY (nums.map î) Ï5=↑(Rc î Ï5 (nums.find? ö1)):=by
 exact jN (is:=[1]) î î (ö1) Ï5 nums Ï5 rfl λ n hn=>#[Û8,rfl,?_];have hb:-1000000<=n/\n<=1000000:=by
  let#[k,hk,rfl]:=Ľ hn;rw[A8] at hk;lia
 change XY Û8=_;have h1:zb Ì1 ų (zo yP (za Ø3 zh)) Û8=↑(.bl (w == À9)):=zm rfl (yY rfl (oJ hb)) (Î8 w ä9 Ä);cases hc:(w == À9) with
 | true=>show xO (z_ (hc▸h1)) rfl
 | Ä=>show yA (z_ (hc▸h1)) rfl
def CU ù7:aZ [Ê w]=↑(oT (wd w)):=by
 have hin:zb (qm Ä) ų (gJ ö2) Ï5=↑(.bl (ï5||("b":Str) == w)):=zm À (Y_ w "a" "b" _ rfl);have hr:xN iV (za (jM (cI 12)) (za (zb yg (cI 12) Ŗ) zh)) Ï5=↑(nums.map î):=rfl;unfold aZ wd;exact yf ?_ rfl;unfold Oi;cases hc:(ï5||("b":Str) == w) with
 | true=>
  exact wI (xO (z_ (hc▸hin)) (yS ((zm À (Gm w "a" "b" hc)).trans ?_)));by_cases ha:(ï5)=true
  .rw[Î ha,Î ha]
  .rw[ü ha,ü ha,Î];rw[zE9] at ha;rw[ha,Bool.false_or] at hc;show hc
 | Ä=>
  exact zy (yA (z_ (hc▸hin)) rfl) ?_;rw[Bool.or_eq_false_iff] at hc;rw[hc.1,hc.2,ü za6,ü za6];have hl:=OA w;cases hf:nums.find? (ö1) with
  | some n=>rw[hf] at hl;show wI (qy hr hl)
  | none=>rw[hf] at hl;show zy (qy hr hl) rfl
def Po (ws:Ó) (h:Ů<=16777216):i6 [Ý4]=↑(pd (ŀ wd)):=by
 exact yf (yS (yY (x:=Í ((ŀ wd).map oT)) ?_ rfl)) rfl;unfold Qx;rw[A4];show rg Ü _ ws rfl h λ w hw=>by simp[ql,CU]
theorem Mb Í1 (hx:ĩ<=1000000):iO x y:=by
 have e:È6:=rfl;have h1:=ë3;have h2:=StrLaws.occ_length_le x y 0 ĩ (ĩ+1);exact#[⋯,⋯,?_,⋯];rw[PyProof.Rows.len_partsBetween];lia
def fw Í1 (hx:ĩ<=1000000):ou [Ê x,Ê y]=↑(Í ((ſ x y).map Ü)):=Î (Mb hy hx)
def ZL Í1:(ſ x y).length<=ĩ+1:=by
 have h1:=ë3;lia
def aq (ws:Ó):ic ↑1 none (Ý4)=↑(Í ((ws.drop 1).map Ü)):=by
 change ↑(T.lst (nE Œ _))=_;rw[X2,zaZ]
def oG î0:Ï9:=((ſ p " ").drop 1).map wd
def cY î0:Ï9:=(ſ (Â8) " ").map wd
def MR î0:(Â8).length=Ď:=by
 have h:=Ë Str.length (StrLaws.join_split p ">");have e:Â8=Ö " " (ſ p ">"):=StrLaws.replace_one p " " 62;rw[e];exact ò6 ?_ h;cases hs:ſ p ">" with
 | nil=>rfl
 | cons a l=>rw[PyProof.Rows.len_join_cons,PyProof.Rows.len_join_cons];rfl
theorem Ul {g:AD}ý Ø8:zo i6 (za (oA (rS ou g (za Â2 zh)) ↑ Ŗ none) zh) J=↑(pd (oG p)):=by
 have hm:=ZL (x:=p) (y:=" ") ();exact yY (x:=Í (((ſ p " ").drop 1).map Ü)) ?_ (Po _ (by rw[zaK];lia));change (rS ou g _ J).bind _=_;rw[oZ h rfl (fw () hp)];show aq _
theorem M_ {g:AD}ý Ø8:zo i6 (za (rS ou (Yg ">" " " g) (za Â2 zh)) zh) J=↑(pd (cY p)):=by
 have hl:=MR p;have hm:=ZL (x:=Â8) (y:=" ") ();exact yY (oZ (y:=Â8) ?_ rfl (fw () ⋯)) (Po _ ⋯);ext Á1;rw[h];show Î hp
abbrev Rd:=Ó ×List (Ï9)×List (Ï9)
def m7 î0:Bool:=Ä5 == p||("taker":Str) == p
def fu î0:Bool:=É7 p "stall "
def wH ð6 î0:Rd:=if m7 p=true then (s.1++[p],s.2.1,s.2.2) else if fu p=true then (s.1,s.2.1,s.2.2++[oG p]) else (s.1,s.2.1++[cY p],s.2.2)
def mK (a:T) ð6 (v:Ì2):Ev:=[↑ ä8,↑(ō (Í (s.1.map Ü))),↑(ō (Í (s.2.1.map pd))),↑(ō (Í (s.2.2.map pd))),v,none]
def NR ð6 î0:(wH s p).1.length+(wH s p).2.1.length+(wH s p).2.2.length=Ä6+1:=by
 unfold wH;split
 .simp;lia
 .split <;> simp <;> lia
theorem Xn:∀ (ps:Ó) ð6,(ps.foldl wH s).1.length+(ps.foldl wH s).2.1.length+(ps.foldl wH s).2.2.length=Ä6+Į
 | [],s=>rfl
 | p::ps,s=>by
  have h:=Xn ps (wH s p);have h':=NR s p;rw[zaQ,zC0];lia
theorem Ja (a:T) ð6 î0 (hp:Ď<=1000000) (hl:Ä6<=10000):turn (zJ 4) dv (Ê p) (mK a s none)=↑(.nx (mK a (wH s p) ↑(.im (Ê p)))):=by
 change dv Ó5=_;have hin:zb (qm Ä) è4 (tupS (za (cS ś) (za (cS (í4)) zh))) Ó5=↑(.bl (m7 p)):=zm rfl (qt rfl ()) (Y_ p Ý9 _ rfl);have A5:rS iL è4 (za (cS (Ê "stall ")) zh) Ó5=↑(.bl (fu p)):=oZ À rfl;unfold wH dv;cases h1:m7 p with
 | true=>
  exact xO (z_ (h1▸hin)) ((jo À ñ2).trans ?_);rw[Î rfl];change _=↑(Out.nx (mK a (s.1++[p],s.2.1,s.2.2) _));unfold mK;rw[zE7];rfl
 | Ä=>
  exact yA (z_ (h1▸hin)) ?_;rw[ü za6];cases h2:fu p with
  | true=>
   exact xO (qB (h2▸A5)) ((jo rfl (Ul rfl hp) ñ2).trans ?_);rw[Î rfl];unfold mK;rw[zE7];rfl
  | Ä=>
   exact yA (qB (h2▸A5)) ((jo rfl (M_ rfl hp) ñ2).trans ?_);rw[ü za6];unfold mK;rw[zE7];rfl
def lY (b:Ï9) ð6:T:=Ñ [pd b,Ñ (s.1.map Ü),Ñ (s.2.1.map pd),Ñ (s.2.2.map pd)]
theorem Bk (p0:Str) (ps:Ó) (hs:∀ p∈p0::ps,Ď<=1000000) (hl:Į<=10000):a_ [Ì9]=↑(lY ĉ):=by
 let#[J',h1,h2]:=nS (is:=[4]) (g:=zJ 4) (b:=dv) Ü (λ q J=>J=mK (Ì9) (q.foldl wH Ä7) none) ps (mK (Ì9) Ä7 none) rfl (by
  rintro q x r e J rfl;have hx:x∈ps:=Ĥ
  have hq:q.length<=10000:=Ø9
  have hf:=Xn q Ä7;simp![zaG,zaR] at hf;exact#[_,Ja Œ x (hs x (AX _ hx)) ⋯,?_];rw[zbR];rfl)
 subst h2;exact yf ?_ rfl;unfold Oj;exact zy rfl (zy rfl (zy rfl (zy (qy ?_ h1) ?_)))
 .change (ic ↑1 none (Ì9)).bind qN=_;rw[aq];rfl
 .exact zy (ym (Ul (p:=p0) ?_ (hs p0 AU))) (yS ?_)
  .show zm À (qf (k:=0) rfl)
  .show qt (xs:=[pd (oG p0),_,_,_]) rfl (by change 4<=100;decide)
def Nm (n:Int):Prop:=-12<=n/\n<=13
def Ic:((Ì 26).all λ Ŏ=>Ð ((ö3).length<=3)&&(! Ð3 59&&(! Ð3 62&&(! Ð3 32&&(Ð ((L (ö3)).head?≠↑115)&&Ð (wd (ö3)=if Å-12<=12 then ↑(Å-12) else none))))))=true:=()
theorem qw É5(h:Nm n):(À9).length<=3/\59∉L ä9/\62∉L ä9/\32∉L ä9/\(L ä9).head?≠↑115/\wd ä9=if n<=12 then ↑n else none:=by
 have hk:=zE4.mp Ic (n+12).toNat (by rw[A8];have:=h.1;have:=h.2;lia);have e:(((n+12).toNat:Nat):Int)-12=n:=by have:=h.1;lia
 rw[e] at hk;simp![zE5,ê,zcJ,List.contains_eq_mem,decide_eq_false_iff_not] at hk;show hk
def lC (f:AD) (J:Ev) (a:Str) Ŧ:Prop:=f J=↑(Ê a)/\a.length<=n
theorem pB Ø1 ý{a b:Str}{n m:Nat}(h:lC f J a n) (h':lC g J b m) (hn:n+m<=1000000:=by decide):lC (zb yg f g) J (a++b) (n+m):=by
 have e:È6:=rfl;have h1:=h.2;have h2:=h'.2;exact#[zm h.1 h'.1 (Î ⋯),?_];rw[È7];lia
theorem nP {i:Nat}{k:Int}ý É3 É5(h0:zk i J=↑(õ7)) (hk:Á6 ts k=↑ ŏ) (hn:Nm n):lC (zo yP (za (zb zi (zc i) (cS ï1)) zh)) J ä9 3:=by
 have e:zc i J=↑(õ7):=by
  unfold zk at h0;unfold zc;split at h0
  .rename_i e;rw[e];show h0
  .cases h0
 show#[yY (zm e rfl hk) (oJ (by have:=hn.1;have:=hn.2;lia)),(qw hn).1]
def cB ý(a:Str) Ŧ (h:a.length<=n:=by decide):lC (cS (Ê a)) J a n:=#[rfl,h]
def nc (b:Int):Str:=if b=0 then "a" else "b"
def rQ:Ç->Str
 | á=>ö4++">"++num b++" "++num c++" "++num d
 | _=>""
def qO:Ç->Str
 | á=>"stall "++ö4++" "++nc b++" "++num c++" "++num d
 | _=>""
def nF Ü9:Str:="brims "++num x++" "++num y
def lQ (r:Ç):Prop:=∃ a b c d,r=á/\Nm a/\Nm b/\Nm c/\Nm d
def kO (r:Ç):Prop:=∃ a b c d,r=á/\Nm a/\(b=0\/b=1)/\Nm c/\Nm d
def wB {f:Nat}ý Â0 (h0:zk f J=↑ ç9):
  lC (zb yg (zb yg (zb yg (zb yg (zb yg (zb yg (zo yP (za È8 zh)) (cS (Ê ">"))) (zo yP (za (zb zi (zc f) Ŗ) zh))) Â2) (zo yP (za (zb zi (zc f) Ø4) zh))) Â2) (zo yP (za (zb zi (zc f) (cI 3)) zh))) J (rQ r) 20:=by
 ext Õ;have z:=pB (pB (pB (pB (pB (pB (å0) (cB ">" 1)) (nP h0 (k:=1) rfl hb)) Ó6) (å1)) Ó6) (å2);show#[z.1,A7 z.2 ()]
def CW Â0:W5 [zI r]=↑(Ê (rQ r)):=yf (yS (wB (f:=0) h rfl).1) rfl
def Lm Í3:zi (Ñ ((ö2:Ó).map Ü)) (Ã b)=↑(Ê (nc b)):=by
 rcases h with rfl | rfl <;> rfl
theorem Ln Í3:zi (Ê "ab") (Ã b)=↑(Ê (nc b)):=by
 have hl:("ab":Str).length<=sizeLine:=()
 exact (Î (e:=none) hl).trans ?_;rcases h with rfl | rfl <;> rfl
def Bc Ê7:W6 [zI r]=↑(Ê (qO r)):=by
 ext Õ;have h0:zk 0 [↑(.im (zI á))]=↑(Ñ ŕ):=rfl;have hp:lC (zb zi (gJ ö2) (zb zi ų Ŗ)) [↑(.im (zI á))] (nc b) 1:=#[zm À (Lm hb),ũ];show yf (yS (pB (pB (pB (pB (pB (pB (pB (cB "stall " 6) (å0)) Ó6) hp) Ó6) (å1)) Ó6) (å2)).1) rfl
def xU Â1:Ó:=è5::(Ñ1)
def zB Â1:T:=Ñ [Î3,Ñ (ï6 Ü),Ñ (ŀ zI),È5]
structure lK Â1:Prop where
 x:Nm x
 y:Nm y
 o:∀ p∈os,m7 p=true
 w:∀ r∈ws,lQ r
 q:∀ r∈qs,kO r
 ln:è+Ů+Ï0<=60
def bq {p:Str}(h:m7 p=true):p="keeper"\/p="taker":=by
 unfold m7 at h;rw[zE6,Ý0,Ý0] at h;show h.imp Eq.symm Eq.symm
theorem VY Ê7:(qO r).length<=20:=by
 ext Õ;have hp:(nc b).length<=1:=ũ
 have e:("stall ":Str).length=6:=()
 have e1:è6:=()
 ext ç2;simp![qO,È7];lia
def OI Â0:(rQ r).length<=20:=(wB (f:=0) (J:=[↑(.im ç9)]) h rfl).2
def bB {f:Nat}ý{x y:Int}É3(hx:Nm x) (hy:Nm y) (h0:zc f J=↑(Ñ (Î3::ts))):
  lC (zb yg (zb yg (zb yg (cS (Ê "brims ")) ï7) Â2) ï8) J (è5) 20:=by
 have e:zb zi (zc f) Ŋ J=↑(Î3):=zm h0 rfl (qf (k:=0) rfl);have hX:lC ï7 J (num x) 3:=#[yY (zm e À) (oJ (by have:=hx.1;have:=hx.2;lia)),(qw hx).1];have hY:lC ï8 J (num y) 3:=#[yY (zm e À) (oJ (by have:=hy.1;have:=hy.2;lia)),(qw hy).1];have z:=pB (pB (pB (cB "brims " 6) hX) Ó6) hY;show#[z.1,A7 z.2 ()]
def UC ù Ð0:∀ p∈xU Æ,Ď<=20:=λ p hp=>by
 ext ß
 .show (bB (f:=0) (J:=[↑(.im (Ñ [Î3]))]) h.x h.y rfl).2
 .ext È3
  ext æ4
  .ext È3
   .ext Ã8;show OI (h.w r hr)
   .ext Ã8;show VY (h.q r hr)
def ZH {ps:Ó}å9:(∀ p∈ps,Ď<=n)->(á4 (·.length)).sum<=Į*n:=by
 induction ps with
 | nil=>show λ _=>zD4 _
 | cons p ps ih=>
  intro h;have h1:=h p AU;have h2:=ih Ë1;rw[AR,zbA,zC0,Nat.succ_mul];lia
theorem VB:∀ ss:Ó,lR å3=↑ss
 | []=>rfl
 | s::ss=>by change (lR å3).map _=_;rw[VB ss];rfl
theorem YT {sep:Str}{ps:Ó}(hs:sep.length<=8) (h:(á4 (·.length)).sum+Į*8<=1000000):lu [Ê sep,Í (á4 Ü)]=↑(Ê (Ö sep ps)):=by
 have e:lR (á4 Ü)=↑ps:=VB ps;have h1:Į*sep.length<=Į*8:=Nat.mul_le_mul_left _ hs;change (lR (á4 Ü)).bind _=_;rw[e,zC9,Î (PyProof.Rows.joinOk_of ⋯)];show Ë (λ z=>↑(Ü z)) (StrLaws.glued_eq_join sep ps)
theorem UD ù Ð0:lu [Ê "; ",Í ((xU Æ).map Ü)]=↑(Ê (Ő)):=by
 exact YT () ?_;have h1:=ZH (UC h);have hl:Ò2<=101:=by
  ext ù8
 have:Ò2*20<=101*20:=zb6 _ hl;have:Ò2*8<=101*8:=zb6 _ hl;lia
def Wa Ê2 ý É3 ê4:è7:=Ñ8
theorem fW {u:À7}ý â0:xE u J=↑(Í xs):=ù9
theorem EA Ê2 ý{ts us:Ý}å8 (h:f J=↑(Ñ us)) Ô5:eO i f J=↑ Ä0:=by
 unfold eO;ext ó7;rw[h];show Í6
theorem Rt Ê2 ý Ã2:jf i f J=↑ Ä0:=by
 unfold jf;ext ó7;rw[h];show Í6
def UX ê5 ý É3 Ř{zs:Ý}(h:f J=↑(õ7)) (hk:ts[k]?=↑(Ñ zs)):xv (zb zi f (cS ï1)) J=↑zs:=by
 change (zb zi f (cS ï1) J).bind _=_;rw[zm h rfl (qf hk)];rfl
def CN Ø1 ý{ts us:Ý}ê4 (h':g J=↑(Í us)) Ô5:zb yg f g J=↑(Í (ts++us)):=zm h h' (Í6)
section
variable {ù}
theorem Be Ð0:dM [zB Æ]=↑(Ê (Ő)):=by
 have hln:=h.ln;have e:È6:=rfl;have hb:=(bB (f:=0) (J:=[↑ Ã5,none]) Ð6).1;have hc1:∀ a,XF [↑ Ã5,a]=↑(Í ((ŀ rQ).map Ü)):=λ a=>by
  unfold XF;rw[A4];show rg zI _ ws rfl ⋯ λ r hr=>by simp[ql,CW (h.w r hr)]
 have hc2:∀ a,XB [↑ Ã5,a]=↑(Í ((ĥ qO).map Ü)):=λ a=>by
  unfold XB;rw[A4];show rg zI _ qs rfl ⋯ λ r hr=>by simp[ql,Bc (h.q r hr)]
 exact yf ?_ rfl;unfold Oh;exact zy (Wa Û9) (zy (EA rfl æ2 ?_) (zy (Rt rfl (hc1 _) ?_) (zy (Rt rfl (hc2 _) ?_) (yS (oZ rfl (zr À) (ò6 (Ë (λ z=>lu [Ü "; ",Í z]) ?_) (UD h)))))))
 .rw[AQ];change 1+è<=10000;lia
 .rw[zD7,AQ,AQ,AQ];change 1+è+Ů<=10000;lia
 .rw[zD7,zD7,AQ,AQ,AQ,AQ,AQ];change 1+è+Ů+Ï0<=10000;lia
 .unfold xU;rw[AR,zE7,zE7,<- zE8];rfl
def HM (a b c d e:Str):Ö " " [a,b,c,d,e]=a++" "++(b++" "++(c++" "++(d++" "++e))):=rfl
theorem VF {a b c d:Int}:Ö " " ["stall",ö4,nc b,num c,num d]=qO á:=by
 ext ô8;have e:L "stall "=L "stall"++ö5:=()
 rw[HM];simp![qO,pF,e,zE8]
def OC (a:T) (ts:Ý) (v w:Ì2) Â0 (hl:Č<=10000):turn (zJ 2) aE ç9 [↑ ä8,↑ Ė,v,w]=↑(.nx [↑ ä8,↑(ō (Í (ts++[Ê (rQ r)]))),↑(.im ç9),w]):=by
 change aE Ø6=_;show jo (i:=1) (J:=Ø6) rfl (wB (f:=2) h rfl).1 hl
theorem NX (a:T) (ts:Ý) (v w:Ì2) Ê7 (hl:Č<=10000):turn (zJ 3) aB ç9 [↑ ä8,↑ Ė,v,w]=↑(.nx [↑ ä8,↑(ō (Í (ts++[Ê (qO r)]))),v,↑(.im ç9)]):=by
 have hlen:=VY h;let#[p,b,c,d,rfl,ha,hb,hc,hd]:=h;change aB Ë7=_;have h0:zk 3 Ë7=↑(Ñ [Ã p,Ã b,Ã c,Ã d]):=rfl;exact jo (i:=1) rfl ?_ hl;exact oZ rfl (zr (fW (zr rfl (zr (å0).1 (zr (zm À (Ln hb)) (zr (å1).1 (zr (å2).1 rfl))))) (by change 5<=100;decide)) rfl) ?_;exact ò6 (YT (ps:=["stall",num p,nc b,num c,num d]) () ?_) (Ë (λ z=>↑(Ü z)) VF);ext ç2;have hp:(nc b).length<=1:=ũ
 have e:("stall":Str).length=5:=()
 ext Ð1
theorem CY Ð0:WD [zB Æ]=↑(Ê (Ő)):=by
 have hln:=h.ln;have hb:=(bB (f:=0) (J:=[↑ Ã5,none,none,none]) Ð6).1;let#[J1,p1,p2]:=nS Ç7 (b:=aE) zI (λ p J=>J=[↑ Ã5,↑(ō (Í ((è5::(os++p.map rQ)).map Ü))),none,none]) ws [↑ Ã5,↑(ō (Í ((è5::os).map Ü))),none,none] (by rw[za4,zaB];rfl) (by
  rintro p r q e J rfl;have hr:r∈ws:=Ĥ
  have hp:Ď<=Ů:=Ĥ
  exact#[_,OC Œ Þ (h.w r hr) (ā),?_];have e2:è5::(os++(p++[r]).map rQ)=(è5::(os++p.map rQ))++[rQ r]:=#[];rw[e2,zE7];rfl)
 subst p2;let#[J2,p3,p4]:=nS (is:=[3]) (g:=zJ 3) (b:=aB) zI (λ p J=>J=[↑ Ã5,↑(ō (Í ((xU x y os ws p).map Ü))),none,none]) qs [↑ Ã5,↑(ō (Í ((è5::(os++ŀ rQ)).map Ü))),none,none] (by unfold xU;rw[za4,zaB];rfl) (by
  rintro p r q e J rfl;have hr:r∈qs:=Ĥ
  have hp:Ď<=Ï0:=Ĥ
  exact#[_,NX Œ Þ (h.q r hr) (by simp[xU];lia),?_];have e2:xU x y os ws (p++[r])=xU x y os ws p++[qO r]:=by simp[xU]
  rw[e2,zE7];rfl)
 subst p4;exact yf ?_ rfl;unfold Ot;exact zy (Wa (CN Û9 (yY æ2 rfl) ?_)) (zy (qy (UX (k:=2) (ts:=[_,_,_,_]) À) p1) (zy (qy (UX (k:=3) (ts:=[_,_,_,_]) À) p3) (yS (oZ rfl (zr À) (UD h)))));rw[AQ];change 1+è<=10000;lia
end
def clip (n:Int):ţ:=if n<=12 then ↑n else none
def ar:Ç->Ï9
 | á=>è8
 | _=>[]
def lO É5(h:Nm n):wd ä9=clip n:=(qw h).2.2.2.2.2
def QX {P:Str->Prop}{a b c:Str}Ð7:∀ p∈[a,b,c],P p:=λ p hp=>by
 simp![AL,za5,or_false] at hp;rcases hp with rfl | rfl | rfl <;> assumption
def QW {P:Str->Prop}{a b c d:Str}Ð7 (hd:P d):∀ p∈ á,P p:=λ p hp=>by
 ext ß
 .show ha
 .show QX hb hc hd ű
def nQ É5(h:Nm n):32∉L ä9:=(qw h).2.2.2.1
def Lp Í3:32∉L (nc b):=ë4
def OB Í3:wd (nc b)=↑b:=ë4
def YQ {y:Str}(h:((L y).all λ c=>Ð (c<256))=true):ż y=1:=by
 unfold ż;rw[Î];rw[<- Array.all_toList];show h
def fy ß8 (h:∀ p∈ps,32∉L p):ſ (Ö " " ps) " "=ps:=ZM ê6 (YQ ()) h0 h
theorem Cp Ü9:Ö " " ["brims",num x,num y]=è5:=by
 ext ô8;have e:L "brims "=L "brims"++ö5:=()
 change L ("brims"++" "++(num x++" "++num y))=_;simp![nF,pF,e,zE8]
theorem MZ {x y:Int}(hx:Nm x) (hy:Nm y):oG (è5)=[clip x,clip y]:=by
 unfold oG;rw[<- Cp,fy #[] (QX (P:=λ p=>32∉L p) () (nQ hx) (nQ hy))];change [wd (num x),wd (num y)]=_;rw[lO hx,lO hy]
theorem MY Ê7:oG (qO r)=ar r:=by
 ext Õ;unfold oG;rw[<- VF,fy #[] (List.forall_mem_cons.mpr #[(),QW (P:=λ p=>32∉L p) (nQ ha) (Lp hb) (nQ hc) (nQ hd)])];change [wd (ö4),wd (nc b),wd (num c),wd (num d)]=_;rw[lO ha,lO hc,lO hd,OB hb];rfl
def b6 É5(h:Nm n):62∉L ä9:=(qw h).2.2.1
theorem MX Â0:cY (rQ r)=r.map clip:=by
 ext Õ;have e:rQ á=ö4++#[[62].toArray]++(num b++" "++num c++" "++num d):=by
  ext ô8;have e:L ">"=L #[[62].toArray]:=()
  simp![rQ,pF,zE8,e]
 have z:Txt.replace (rQ á) ">" " "=Ö " " [ö4,num b,num c,num d]:=by
  rw[e];exact ò6 (MQ (c:=62) () (b6 ha) ?_) ?_
  .have e32:62∉ ö5:=()
   simp![pF,zB9,not_or];show#[#[#[#[b6 hb,e32],b6 hc],e32],b6 hd]
  .ext ô8;change _=L (ö4++" "++(num b++" "++(num c++" "++num d)));simp![pF,zE8]
 unfold cY;rw[z,fy #[] (QW (P:=λ p=>32∉L p) (nQ ha) (nQ hb) (nQ hc) (nQ hd))];change [wd (ö4),wd (num b),wd (num c),wd (num d)]=_;rw[lO ha,lO hb,lO hc,lO hd];rfl
def UT {p:Str}{c:Nat}(h:c∈L p) (h1:c∉L "keeper") (h2:c∉L "taker"):m7 p=Ä:=by
 rw[<- zE9];intro z;rcases bq z with rfl | rfl
 .show h1 h
 .show h2 h
theorem Jb Â0:m7 (rQ r)=Ä:=by
 ext Õ;exact UT (c:=62) ?_ () ();have e:62∈L ">":=()
 simp![rQ,pF,zB9];show ã6 (ã6 (ã6 (ã6 (ã6 (.inr e)))))
theorem NT Â0:fu (rQ r)=Ä:=by
 ext Õ;rw[<- zE9];intro z;let#[t,ht]:=(cK ()).mp z;have e:L "stall "=115::L "tall ":=()
 have e2:L ">"=[62]:=()
 simp![rQ,pF,zE8,e,e2] at ht;have hh:=(qw ha).2.2.2.2.1;cases hn:L (ö4) with
 | nil=>rw[hn] at ht;cases ht
 | cons z zs=>
  rw[hn] at ht hh
  injection ht with h1 h2
  show hh ñ3
theorem Je Ê7:m7 (qO r)=Ä:=by
 ext Õ;exact UT (c:=32) ?_ () ();have e:32∈ ö5:=()
 simp![qO,pF,zB9];show ã6 (.inr e)
theorem NU Ê7:fu (qO r)=true:=by
 ext Õ;exact (cK ()).mpr #[L (ö4)++(ö5++(L (nc b)++(ö5++(L (num c)++(ö5++L (num d)))))),?_];simp![qO,pF,zE8]
theorem Rb:∀ (os:Ó) ð6,(∀ p∈os,m7 p=true)->os.foldl wH s=(s.1++os,s.2.1,s.2.2)
 | [],s,_=>by rw[zaB];rfl
 | p::os,s,h=>by
  rw[zaQ,Rb os _ Ë1];unfold wH;rw[Î (h p AU),zE8];rfl
theorem S_:∀ (ws:č) ð6,(∀ r∈ws,lQ r)->(ŀ rQ).foldl wH s=(s.1,s.2.1++ñ4,s.2.2)
 | [],s,_=>ö6
 | r::ws,s,h=>by
  have hr:=h r AU;rw[AR,zaQ,S_ ws _ Ë1];unfold wH;rw[Jb hr,NT hr,MX hr,ü za6,ü za6,zE8];rfl
theorem Ra:∀ (qs:č) ð6,(∀ r∈qs,kO r)->(ĥ qO).foldl wH s=(s.1,s.2.1,s.2.2++ĥ ar)
 | [],s,_=>ö6
 | r::qs,s,h=>by
  have hr:=h r AU;rw[AR,zaQ,Ra qs _ Ë1];unfold wH;rw[Je hr,NU hr,MY hr,ü za6,Î rfl,zE8];rfl
section
variable {ù}
def kg É5(h:Nm n):59∉L ä9:=(qw h).2.1
def LI Ð0:∀ p∈xU Æ,59∉L p:=λ p hp=>by
 have e1:59∉ ö5:=()
 have e2:59∉L ">":=()
 have e3:59∉L "stall ":=()
 have e4:59∉L "brims ":=()
 ext ß
 .simp![nF,pF,zB9,not_or];show#[#[#[e4,kg h.x],e1],kg h.y]
 .ext È3
  ext æ4
  .ext È3
   .ext Ã8;let#[a,b,c,d,rfl,ha,hb,hc,hd]:=h.w r hr;simp![rQ,pF,zB9,not_or];show#[#[#[#[#[#[kg ha,e2],kg hb],e1],kg hc],e1],kg hd]
   .ext Ã8;let#[a,b,c,d,rfl,ha,hb,hc,hd]:=h.q r hr;have e5:59∉L (nc b):=ũ
    simp![qO,pF,zB9,not_or];show#[#[#[#[#[#[#[e3,kg ha],e1],e5],e1],kg hc],e1],kg hd]
def N_ Ð0:ſ (Ő) "; "=xU Æ:=ZM (c0:=59) (yr:=[32]) () (YQ ()) (List.cons_ne_nil Œ) (LI h)
def F_ Ð0:(Ñ1).foldl wH Ä7=(os,ñ4,ĥ ar):=by
 rw[zbR,zbR,Rb os _ h.o,S_ ws _ h.w,Ra qs _ h.q];rfl
end
def ZX (r:Ï9):qE (pd r)=true:=by
 change (!pZ (pd r)&&(r.map oT).all λ u=>!pZ u)=true;rw[zaW,show pZ (pd r)=Ä from rfl];change (r.all _)=true;show ö0 λ o _=>by cases o <;> rfl
theorem HW (b:Ï9) ð6 (h1:s.2.1.length<=16777216) (h2:s.2.2.length<=16777216):gZ [lY b s]=↑(.bl (kl (lY b s))):=by
 exact B0 (pd b) (s.1.map Ü) (s.2.1.map pd) (s.2.2.map pd) (ZX b) ?_ ?_ ?_ (by rw[AQ];show h1) (by rw[AQ];show h2)
 .change (!pZ (Ö0 _)&&(s.1.map Ü).all λ u=>!pZ u)=true;rw[zaW];change (s.1.all _)=true;show ö0 λ o _=>rfl
 ext Ú6
 ext Ú6
theorem MV {t p0:Str}{ps:Ó}(hs:ſ t "; "=p0::ps) (ht:t.length<=9999) (hV:kl (lY ĉ)=true) (hz:dM [lY ĉ]=↑(Ê t)):dN [Ê t]=↑(lY ĉ):=by
 have hm:=ZL (x:=t) (y:="; ") ();rw[hs,zC0] at hm;have hf:=Xn ps Ä7;simp![zaG,zaR] at hf;have hp:=Bk p0 ps (λ p hp=>A7 (PyProof.Rows.part_short (hs▸hp)) ⋯) ⋯;have hi:=HW ĉ Ğ;generalize lY ĉ=V at *;have h1:zo a_ (za (rS ou ų (za (cS (Ê "; ")) zh)) zh) [↑(.im (Ê t)),none]=↑V:=by
  exact yY (oZ À (fw () ⋯)) ?_;rw[hs];show hp
 have hi':xh (zo gZ (za (zk 1) zh)) ï9=↑(kl V):=qB (yY rfl hi);rw[hV] at hi';have AW:zb (zS true) (zo dM (za (zk 1) zh)) ų ï9=↑(.bl (!(t == t))):=zm (yY rfl hz) rfl (Î8 t t true);rw[beq_self_eq_true] at AW;show yf (zy Ü0 (zy (ym h1) (zy (yA (nN (m8 hi') (z_ AW)) rfl) rfl))) rfl
def BF ù Ð0 (hf:kl (zB Æ)=true) (hx:x<=12) (hy:y<=12) (hw:∀ r∈ws,∀ n∈r,n<=12) (hq:∀ r∈qs,∀ n∈r,n<=12) (hl:(Ő).length<=9999):
  dN [Ê (Ő)]=↑(zB Æ):=by
 have clp:∀ n:Int,n<=12->clip n=↑n:=λ n hn=>Î hn;have e:lY (oG (è5)) ((Ñ1).foldl wH Ä7)=zB Æ:=by
  rw[F_ h,MZ h.x h.y,clp x hx,clp y hy];unfold lY zB;have e1:(ñ4).map pd=ŀ zI:=by
   ext Ë6;change Ö0 ((r.map clip).map oT)=Ö0 (r.map î);rw[A4];congr 1;show zaD λ n hn=>by change oT (clip n)=_;rw[clp n (hw r hr n hn)];rfl
  have e2:(ĥ ar).map pd=ĥ zI:=by
   ext Ë6;have hn:=hq r hr;let#[a,b,c,d,rfl,_]:=h.q r hr;simp![List.forall_mem_cons] at hn;change pd è8=_;rw[clp a hn.1,clp c hn.2.2.1,clp d hn.2.2.2.1];rfl
  ext Û2;rw[e1,e2];rfl
 have g:=MV (t:=Ő) (p0:=è5) (ps:=Ñ1) (N_ h) hl;rw[e] at g;show g hf (Be h)
theorem text_len ù Ð0:(Ő).length<=1350:=by
 have h1:=StrLaws.join_length_le "; " (xU Æ);have h2:=ZH (UC h);have hl:Ò2<=61:=by
  ext ù8
 have e:("; ":Str).length=2:=()
 rw[e] at h1;have:Ò2*20<=61*20:=zb6 _ hl;lia
def Wj Ø1 ý Ñ7(h:f J=↑ ö) (h':g J=r):pA f g J=r:=Ù2
def Ji Ø1 ý(h:f J=↑ ö):bt f g J=↑ ö:=Ñ8
def Jj Ø1 ý Ñ7(h:f J=↑ À3) (h':g J=r):bt f g J=r:=Ù2
def DH {f g:T->T->É T}{fa fb fc:AD}ý{x y z:T}Ñ7(ha:fa J=↑x) (hb:fb J=↑y) (hf:f x y=↑ ö) (hc:fc J=↑z) (hg:g y z=r):dm f g fa fb fc J=r:=by
 change (fa J).bind _=_;rw[ha];change (fb J).bind _=_;rw[hb];change (f x y).bind _=_;rw[hf];change (fc J).bind _=_;rw[hc];show hg
def kX œ:ql pick g xP f J y=↑↑t:=by
 ext ð7
def ZS ê5{lo hi:É (Ev->É T)}ý{l u:ţ}{x:T}Ñ7(h:f J=↑x) (h1:il lo J=↑l) (h2:il hi J=↑u) (h3:ic l u x=r):oA f lo hi J=r:=by
 change ô3=_;rw[h,zC9,h1,zC9,h2];show h3
theorem Tz (s:Str):∀ l:é,((l.map λ c=>(ŉ:Str)).all λ c=>ñ5)=l.all λ c=>Ð (c∈L s)
 | []=>rfl
 | c::l=>by rw[AR,zaV,zaV,Tz s l];congr 1;show StrLaws.found_one s c
theorem Pu {w s:Str}{m:Int}ã3 (h1:1<=Ö1) (hm:(Ö1:Int)<=m) (hl:Ö1<=100) (hs:((L w).all λ c=>Ð (c∈L s))=true):Zi [Ê w,Ê s,Ã m]=↑ ö:=by
 have hc:Q2 Ö2=↑(Í Â5):=by
  exact rg Ü _ (nK w) ?_ ?_ λ c _=>?_
  .change (if w.cps.all (· < 128)=true then ↑((nK w).map Ü) else none)=_;show Î (by rw[<- Array.all_toList];show ha)
  .change (w.cps.toList.map _).length<=_;rw[AQ];have:=qW w;unfold L at this;lia
  .rfl
 have hlen:zo wD (za ų zh) Ö2=↑(Ã (Ö1:Int)):=yY (x:=Ê w) rfl (Í6);exact yf (yS (Wj ?_ (yY hc ?_))) rfl
 .exact DH (x:=Ã 1) (z:=Ã m) rfl hlen ?_ rfl ?_
  .show Ë Á4 (za3 ⋯)
  .show Ë Á4 (za3 hm)
 .change (mR Â5).map _=_;have e:Â5=((nK w).map λ c=>ñ5).map T.bl:=by rw[A4];rfl
  rw[e,a9,Û6];ext Þ5;have:=Tz s (L w);rw[hs] at this;show Ë Á4 this
theorem HX ú3{c:Nat}{cs:é}ã3 (hw:L w=c::cs) (hm:Ö1<=4) (hs:((L w).all ó1)=true) (hz:w="0"\/c≠48):Zh [Ê w]=↑ ö:=by
 have h1:1<=Ö1:=ph hw;exact yf (yS (Wj (zQ ö7 (Pu ha h1 Ğ hs)) ?_)) rfl;have he:=zm (f:=zS Ä) (fa:=zc 0) (fb:=cS (Ê "0")) (J:=[↑ ń]) À (Î8 w "0" Ä);by_cases e:w="0"
 .show Ji (he.trans (by rw[e];rfl))
 .have hb:(w == ("0":Str))=Ä:=À2 e;exact Jj (he.trans (by rw[hb];rfl)) ?_;exact zm (x:=Ê ŉ) (y:=Ê "0") (zm (x:=Ê w) (y:=Ã 0) À ?_) rfl ?_
  .exact (Î (e:=none) (A7 hm ())).trans ?_;change (Á6 (L w) 0).map _=_;rw[hw,show Á6 (c::cs) 0=↑c by unfold Á6 L2.qc;simp];rfl
  .exact (Î8 Œ true).trans ?_;have:((ŉ:Str) == ("0":Str))=Ä:=by
    exact À2 λ h=>?_;have h2:L ŉ=L "0":=Ë L h;have h3:[c]=[48]:=h2;show (hz.resolve_left e) (List.cons.inj h3).1
   rw[this];rfl
def Ib:((Ì 14).all λ Ŏ=>(L (Ĺ)).all (λ c=>Ð (c<128))&&(Ð ((Ĺ).length<=4)&&((L (Ĺ)).all (ó1)&&(Ð (Ĺ="0"\/(L (Ĺ)).head?≠↑48)&&Ð (L (Ĺ)≠[])))))=true:=()
theorem J_ ğ:Zh [Ê ä9]=↑ ö:=by
 have hk:=zE4.mp Ib n.toNat (by rw[A8];lia);rw[zF2 h0] at hk;simp![zE5,ê] at hk;let#[a,b,c,d,e]:=hk;let#[x,xs,hx]:=List.exists_cons_of_ne_nil e;show HX a hx b c (d.imp_right λ h z=>h (by rw[hx,z];rfl))
def FZ ğ:jx [Ê ä9,Ê "number"]=↑ ö:=
 yf (zy Ü0 (wI (xO rfl (yS (yY rfl (J_ h0 h1)))))) rfl
theorem SY (f:Str) (h1:(f == ("text":Str))=Ä) (h2:(f == É9)=Ä):jx [Ê "fa",Ê f]=↑ ö:=by
 exact yf (zy (yA (z_ (zm À ((Î8 f "text" Ä).trans ñ3))) rfl) (zy (yA (z_ (zm À ((Î8 f "number" Ä).trans (by rw[h2];rfl)))) rfl) (yS (zQ ö7 (Pu () () () () ()))))) rfl
def FY ù7:jx [Ê w,Ê "text"]=↑ ö:=yf (wI (xO À)) rfl
abbrev pT (p:Str×Str):T:=Ñ [Ê p.1,Ê p.2]
theorem Zs:∀ ws fs:Ó,List.zipWith (λ a b=>Ö0 [a,b]) (ŀ Ü) ö8=Á7 pT
 | [],_=>rfl
 | _::_,[]=>rfl
 | w::ws,f::fs=>Ë (pT (w,f)::·) (Zs ws fs)
theorem Bz {ws fs:Ó}ð8 (h:Ö3):WS [Ý4,Ñ ö8]=↑ ö:=by
 have hc:Q4 [↑(.im (Ý4)),↑(.im (Ñ ö8))]=↑(Í â9):=by
  exact rg pT _ (ö9) (Ë some (Zs ws fs)) (by rw[zc5];lia) Å3;have e:=h ű;show kX rfl (zQ Ł e)
 exact yf (yS (Wj (zm (yY À) (yY À) ?_) (yY hc ?_))) rfl
 .change zS Ä (Ã _) (Ã _)=_;rw[AQ,AQ,hl];ext Ô4
 .change (mR â9).map _=_;rw[show â9=(Á7 λ _=>true).map T.bl by rw[A4];rfl,a9,Û6];ext Þ5;show Ë Á4 (ö0 λ _ _=>rfl)
def V4 {tab:List (Str× Ó)}ê5 ý ú3{fs:Ó}(h:f J=↑ á3) (hk:ð0=↑fs):cE tab f J=↑(Ñ ö8):=by
 ext ó;change (ð0).map _=_;rw[hk];rfl
def Nq {ks:Ó}ê5 ý ú3(h:f J=↑ á3) (hk:(ks.any λ k=>Ð (k=w))=true):ZD ks f J=↑ Ä:=by
 ext ó;change ↑(!(ks.any λ k=>Ð (k=w)))=_;rw[hk];rfl
def Ub Ú7
  (h:lx (xh (rS iL ų (za (cS (Ê "floor ")) zh))) (rS cN ų (za Â2 (za Ø4 zh))) (rS ou ų (za Â2 zh)) [↑ Ò3,none]=↑ þ)
  Ġ:i7 [Ê row]=↑ þ:=by
 have h0:zb zi Ø3 Ŋ [↑ Ò3,↑(.im þ)]=↑ á3:=ĳ;have hc:oA Ø3 ↑ Ŗ none [↑ Ò3,↑(.im þ)]=↑(Ý4):=ZS À rfl (aq (w::ws));show yf (zy Ü0 (zy (ym h) (zy (yA (nN (Nq h0 hw) (m8 (qB (zQ (zr hc (zr (V4 h0 hk) rfl)) (Bz hl hm hf))))) rfl) rfl))) rfl
def bN {c:Ķ}Ø1 ý Ñ7(h:c J=↑ Ä) (h':g J=r):lx c f g J=r:=â6
def SD {c:Ķ}Ø1 ý Ñ7(h:c J=↑true) (h':f J=r):lx c f g J=r:=â6
def NW ê1{a b:Nat}{xs ys:é}(hx:L x=a::xs) (hy:L y=b::ys) (h:a≠b):É7 x y=Ä:=by
 rw[<- zE9];intro h1;let#[t,ht]:=(cK (ph hy)).mp h1;rw[hx,hy,zc8] at ht;show h (List.cons.inj ht).1
def ML ú3{ws fs:Ó}{a:Nat}{as:é}ò1 (hlen:(á5).length<=10000) (eF:∀ p∈w::ws,32∉L p)
  Ġ:i7 [Ê (á5)]=↑ þ:=by
 obtain⟨bs,hb⟩:∃ bs,L (á5)=a::bs:=by
  cases ws with
  | nil=>show#[as,ha]
  | cons q r=>show#[as++(ö5++L (Ö " " (q::r))),by rw[mD,ha];rfl]
 exact Ub (bN (qB (oZ À ?_)) (oZ À ?_)) hw hk hl hm hf
 .change ↑(T.bl (É7 (á5) "floor "))=_;rw[NW hb (b:=102) (ys:=L "loor ") () h102]
 .exact (fw () ⋯).trans ?_;rw[fy #[] eF]
theorem MK (t:Str) (ht:t.length<=9000):i7 [Ê (À4)]=↑ Ü1:=by
 have ej:Ö " " (Þ9++[t])=À4:=by
  ext ô8;change L (Ö " " ["floor","fa",t])=_;rw[mD,mD,pF];change L "floor"++(ö5++(L "fa"++(ö5++L t)))=L "floor fa "++L t;rw[show L "floor fa "=L "floor"++(ö5++(L "fa"++ö5)) by decide];simp![zE8]
 have hsp:=Mc (y:=" ") ê6 (YQ ()) t (ps:=Þ9) #[] (λ p hp=>by
  ext ß
  .decide
  .rw[Ð8 hp];decide)
 have hoc:=Tf (y:=" ") ê6 t (ps:=Þ9) (λ p hp=>by
  ext ß
  .decide
  .rw[Ð8 hp];decide)
 rw[ej] at hsp hoc;have hlen:(À4:Str).length<=9009:=by rw[È7,show ("floor fa ":Str).length=9 by decide];lia
 have e:È6:=rfl;exact Ub (fs:=["name","text"]) (SD (qB (oZ À ?_)) (oZ À ?_)) () () rfl #[] ?_
 .change ↑(T.bl (É7 (À4) "floor "))=_;rw[(cK (x:=À4) (y:="floor ") ()).mpr #[L "fa "++L t,by rw[pF,<- zE8];congr 1]]
 .exact (Î ?_).trans (Ë (λ l:Ó=>↑(T.lst (l.map Ü))) hsp);exact#[(),(),⋯,?_,?_]
  .show A7 (zbT (Ë ė hoc)) (by simp[e])
  .show A7 (zbT (Ë ė hsp)) (by simp[e])
 .ext â4
  .show SY "name" () ()
  .rw[Ð8 hp];show FY t
def Dk (f:T):T:=.zF [.inr "fa"] [f]
theorem Nu (d:T) ğ:jz [d,Ê ä9,Ê "number"]=↑ ŏ:=by
 have hl:(À9).length<=640:=A7 (qw (n:=n) #[⋯,h1]).1 ();have hr:Ê0 ä9=↑n:=Â9 h0 ⋯;exact yf (wI (xO rfl (yS (yY rfl ?_)))) rfl;show (Î hl).trans (by rw[hr];rfl)
def Nw (f:T):jz [Dk f,Ê "fa",Ê "floor"]=↑f:=
 yf (zy Ü0 (zy Ü0 (zy Ü0 (yS rfl)))) rfl
def Nv (d:T) ù7:jz [d,Ê w,Ê "name"]=↑ á3:=
 ó2
def Nt (d:T) ù7:jz [d,Ê w,Ê "text"]=↑ á3:=
 ó2
def aw {F:AG}{g:À7}ý ù2{y:T}(h:g J=↑xs) (hF:F xs=↑y) (hp:á6 y=true):k9 F g J=↑y:=by
 ext Á1;rw[h];change (F xs).bind _=_;rw[hF];show Î hp
def V3 ê7 É3{v:Ì2}Ú7 Ĳ:
  XQ ņ=↑(Í (Á7 g)):=by
 have h0:zb zi è1 Ŋ ņ=↑ á3:=ĳ;have hc:oA è1 ↑ Ŗ none ņ=↑(Ý4):=ZS À rfl (aq (w::ws));exact rg pT g (ö9) ?_ (by rw[zc5];lia) λ p hp=>kX rfl (aw rfl (h ű).1 (h ű).2);change (za Œ _).bind lN=_;rw[zr hc (zr (V4 h0 hk) rfl)];show Ë some (Zs ws fs)
def gM {tab:List (Str×(Ý->É T))}ê5{g:À7}ý ú3{A:AG}ù2 Ñ7(h:f J=↑ á3) (hk:ð0=↑A) (hg:g J=↑xs) (hA:A xs=r):Wh tab f g J=r:=by
 ext ó;change (ð0).bind _=_;rw[hk];ext Á1;rw[hg];show hA
def M7 ê7 É3 Ú7{A:AG}{y:T}(hr:i7 [Ê row]=↑ þ) Ĳ Å7 (ha:A [Í (Á7 g)]=↑y):
  kH [Ü2,Ê row]=↑y:=by
 have h0:∀ u v,Â7=↑v↔ Ü w=v:=λ u v=>by
  rw[show Â7=↑ á3 from ĳ,Option.some.injEq]
 show yf (zy (ym (yY rfl hr)) (zy (ym (V3 hk hm g h)) (zy (yA (z_ (zm í5 rfl ((Î8 w "floor" Ä).trans ñ3))) rfl)
  (zy (yA (z_ (zm í5 rfl ((Î8 w "mirror" Ä).trans (by rw[h2];rfl)))) rfl) (yS (gM í5 hA (zr À) ha)))))) rfl
def Ia ğ:Ê0 ä9=↑n:=Â9 h0 ⋯
def jL ğ:Nm n:=#[⋯,h1]
def gF (f:T) (q:Str×Str):T:=if (q.2 == Ŵ)=true then f else Ã ((Ê0 q.1).getD 0)
def SV (f:T) ù7:gF f (w,"floor")=f:=Î (show (Ŵ == Ŵ)=true by decide)
def SU (f:T) ğ:gF f (À9,"number")=Ã n:=(ü (show ¬ (É9 == Ŵ)=true by decide)).trans (by rw[Ia h0 h1];rfl)
theorem MI {ps:Ó}(h:∀ p∈ps,Ď<=20) (hl:Į<=10):(Ö " " ps).length<=1000:=by
 have h1:=StrLaws.join_length_le " " ps;have h2:=ZH h;have e:è6:=()
 rw[e] at h1;have:Į*20<=10*20:=zb6 _ hl;lia
def Wl {P:Int->Prop}{a b c:Int}Ð7:∀ n∈[a,b,c],P n:=λ n hn=>by
 rcases ç5 hn with rfl | hn
 .show ha
 .rcases ç5 hn with rfl | hn
  .show hb
  .rw[Ð8 hn];show hc
def ZV {f y:T}ú6 ú3{ns:Ç}{a:Nat}{as:é}{A:AG}(hns:∀ n∈ns,0<=n/\n<=13) (hl:Æ9<=5) ò1 (hwl:Ö1<=20) (eF:32∉L w)
  Ù8 (hk:nu.lookup w=↑(Ŵ::á0 λ _=>É9)) Å7 (hy:A [Í (f::á0 î)]=↑y):
  kH [Dk f,Ê (Ö " " (w::"fa"::á0 num))]=↑y:=by
 have ez:(("fa":Str)::á0 num).zip (Ŵ::á0 λ _=>É9)=(("fa":Str),Ŵ)::á0 λ n=>(À9,É9):=Ë (_::·) List.zip_map';exact M7 (ws:="fa"::á0 num) (fs:="floor"::á0 λ _=>"number") (A:=A) (ML ha h102 (A7 (MI ?_ ?_) ()) ?_ hw hk ?_ ?_ ?_) hk ?_ (gF f) ?_ h1 h2 hA ?_
 .ext â4
  .show hwl
  .ext ß
   .decide
   .ext Í4;show A7 (qw (jL Ń)).1 ()
 ext æ5
 .ext â4
  .show eF
  .ext ß
   .decide
   .ext Í4;show nQ (jL Ń)
 .simp![zC0,AQ]
 ext æ5
 .rw[ez];ext â4
  .show SY "floor" () ()
  .ext Í4;show FZ Ń
 ext æ5
 .rw[ez];ext â4
  .rw[SV];show#[Nw f,hf]
  .ext Í4;rw[SU f Ń];show#[Nu _ Ń,rfl]
 .rw[ez,AR,SV,A4];rw[show á0 (gF f ∘ λ n=>(À9,É9))=á0 î from zaD λ n hn=>SU f Ń];show hy
def M6 ą (h:cj Ì3=↑y):kH [Dk f,Ê (Ö " " ["lasts","fa",num p,ö4,num b])]=↑y:=
 ZV ê8 (A:=cj) (a:=108) (as:=L "asts") Ä1 () rfl h
def M8 ą (h:ck Ì3=↑y):kH [Dk f,Ê (Ö " " ["deed","fa",num p,ö4,num b])]=↑y:=
 ZV ê8 (A:=ck) (a:=100) (as:=L "eed") Ä1 () rfl h
def M4 ą (h:cg Ì3=↑y):kH [Dk f,Ê (Ö " " ["way","fa",num p,ö4,num b])]=↑y:=
 ZV ê8 (A:=cg) (a:=119) (as:=L "ay") Ä1 () rfl h
def MB {N:Ó}{f1 f2:AD}{c:Ķ}{ga:À7}ê7 É3{row w v:T}{zs:Ý}{r:T×List Key× Ý}(hN:N.length=4) (h1:f1 (qu N [Ü2,row])=↑w) (h2:f2 (Á8)=↑v)
  (h3:c ((Á8).set 3 ↑(.im v))=↑true) (h4:ga ((Á8).set 3 ↑(.im v))=↑zs) (h5:qC zs=true) (h6:mC ks ts zs=↑r):lX N f1 f2 c ga ks ts [row]=↑r:=by
 unfold lX;rw[Î #[rfl,hN],h1,zC9,h2,zC9,h3,zC9,Î rfl,h4,zC9,Î h5,h6]
theorem CP {t:Str}{f:T}(ht:t.length<=9000) (hr:dN [Ê t]=↑f) ú6:Wn [] [] [Ê (À4)]=↑(Ê "ok",[.inr "fa"],[f]):=by
 have h1:=MK t ht;have h2:=V3 (ks:=[]) (ts:=[]) (v:=none) (row:=À4) (w:="floor") (ws:=["fa",t]) (fs:=["name","text"]) () #[] (λ q=>Ê q.1) (λ p hp=>by
  ext ß
  .show#[Nv Œ,rfl]
  .rw[Ð8 hp];show#[Nt Œ,rfl])
 have h0:zb zi è1 Ŋ [↑(.im (.zF [] [])),↑(.im (Ê (À4))),↑(.im Ü1),↑(.im (Í [Ê "fa",Ê t]))]=↑(Ê "floor"):=rfl;show MB rfl (yY rfl h1) h2 (z_ (zm h0 À)) (zr (x:=Ê "fa") rfl (zr (yY (x:=Ê t) rfl hr) rfl)) (by change (á6 (Ê "fa")&&(á6 f&&true))=true;rw[hf];rfl) rfl
end zY
namespace zY.V
open PySem L2 L3 L5
@[simp] theorem zac (i j:Int):xk Ð5=↑(.bl (Ð (i<j))):=rfl
def zm {f:T->T->É T}{fa fb:AD}ý Ë0:zb f fa fb J=r:=by
 change (fa J).bind _=r;rw[h1];change (fb J).bind _=r;rw[h2];show h
def Mh (ps:ï) (h:Į<64):iQ [Í (á4 zt)]=↑(Í ((lU ps).map zt)):=by
 change (oB (á4 zt)).bind _=_;rw[MH,zC9,Î #[by simpa using h,λ r hr=>by let#[p,_,rfl]:=Ľ hr;simp[o_]],<- VJ,A4];rfl
def F6 {qs p:ï}{x:Á}(hr:Ê8) (hb:lB û x.2=true) (r:ï):
  (qs++[x])++xF r ((qs++[x]).getLast?.map (·.2))=ç0:=by
 have:=hr (x::r);rw[show xF (x::r) û=x::xF r ↑x.2 by rw[xF,Î hb]] at this;exists this
def F7 {qs p:ï}{x:Á}(hr:Ê8) (hb:lB û x.2=Ä) (r:ï):
  qs++xF r û=ç0:=by
 have:=hr (x::r);rw[show xF (x::r) û=xF r û by rw[xF,ü (by rw[hb];nofun)]] at this;exists this
theorem Za (ps:ï) (hl:Į<64):i8 [Í (á4 zt)]=↑(Ñ ((ox ps).map zt)):=by
 let#[J',h1,qs,h2,h3,h4]:=nS Ç7 (b:=dw) zt (λ p J=>∃ qs:ï,J=[↑ Á5,↑(ō (Í (ĥ zt))),none]/\Ï0<=Ď/\
   Ê8) (lU ps) [↑ Á5,↑ Ñ0,none] #[[],#[],#[],λ r=>#[]] (by
  rintro p x q e J ⟨qs,rfl,hq,hr⟩;have hlen:Ď<64:=by
   have:=Ë ė e;rw[(ZO ps).length_eq] at this;simp at this;lia
  have app:lB û x.2=true->∃ qs':ï,xm [2] [↑ Á5,↑(ō (Í (ĥ zt++[zt x]))),↑(.im (zt x))]=[↑ Á5,↑(ō (Í (qs'.map zt))),none]/\qs'.length<=(p++[x]).length/\∀ r,qs'++xF r (qs'.getLast?.map (·.2))=ç0:=λ hb=>
   #[qs++[x],#[],ā,F6 hr hb]
  rcases List.eq_nil_or_concat qs with rfl | ⟨init,l,rfl⟩
  .exact#[_,?_,app (by simp[lB])];simp[turn,dw]
  .simp![List.concat_eq_append] at *;by_cases hb:x.2<l.2
   .exact#[_,?_,app (by simp[lB,hb])];simp at hq;simp[turn,dw,zt,hb,xk];lia
   .exact#[[↑ Á5,↑(ō (Í ((init++[l]).map zt))),↑(.im (zt x))],?_,init++[l],#[],by simp at hq ⊢;lia,F7 hr (by simp[lB];lia)];simp[turn,dw,zt,hb,xk])
 have h5:=h4 [];simp[xF] at h5;unfold i8 Oo;simp[Mh ps hl,h1,h2,h5,ox]
theorem B3 ò2:dR [Ñ Ý5,Ñ (o.map zt)]=↑(Ñ ((ox (b++o)).map zt)):=by
 have h:=Za (b++o) (ì4);rw[zE7] at h;have:Í8+o.length<=16777216:=⋯;unfold dR O0;simp[h,this]
def rV ß1:Int:=if b=true then 1 else 0
def rk (s:Bool) (p:Á):Ç:=[p.1,rV s,p.2]
def oO (l:ţ) (v:Int):Int:=match l with
 | none=>v
 | some m=>min m v
def lZ (l:ţ) (sh:ï) (x v:Int):ï:=match l with
 | some m=>sh++[(x,max m v)]
 | none=>sh
def kJ (l:è9) (s:Bool) (v:Int):è9:=λ t=>if t=s then ↑v else l t
structure Sw (p:č) (l:è9) (sh:ï):Prop where
 low:∀ s x,rk s x∈p->∃ m,l s=↑m/\m<=x.2
 at':∀ s m,l s=↑m->∃ x,rk s x∈p/\x.2=m
 len:sh.length<=Ď
 snd:∀ z∈sh,∀ s,∃ x,rk s x∈p/\x.1<=z.1/\x.2<=z.2
 all:∀ s x y,rk s x∈p->rk (!s) y∈p->∃ z∈sh,(z.1<=x.1\/z.1<=y.1)/\(z.2<=x.2\/z.2<=y.2)
def Ug {s t:Bool}{x y:Á}(h:rk s x=rk t y):s=t/\x=y:=by
 unfold rk at h
 injection h with h1 h2;injection h2 with h3 h2;injection h2 with h2 _
 show#[by revert h3;cases s <;> cases t <;> decide,Prod.ext h1 h2]
def fU {p:č}{s t:Bool}{a x:Á}(h:rk t a∈ È9):rk t a∈p\/(t=s/\a=x):=(î8 h).imp_right λ h=>Ug (Ð8 h)
def Sw.step {p:č}{l:è9}{sh:ï}(h:Sw p l sh) (s:Bool) (x:Á) (hx:∀ t y,rk t y∈p->y.1<=x.1):
  Sw (È9) (kJ l s (Ñ2)) (lZ (l (!s)) sh x.1 (Ñ2)):=by
 have old:∀ {t y},rk t y∈p->rk t y∈ È9:=λ h=>zaO _ h;have new:rk s x∈ È9:=zB4 _ AU;have lo:Ñ2<=x.2/\∀ m,l s=↑m->Ñ2<=m:=by
  cases l s with
  | none=>show#[zC6 _,ñ1]
  | some m=>show#[Int.min_le_right Œ,λ m' e=>by cases e;show Int.min_le_left Œ]
 have la:∃ y,rk s y∈ È9/\y.2=Ñ2:=by
  cases e:l s with
  | none=>show#[x,new,rfl]
  | some m=>
   let#[y,h1,h2]:=h.at' s m e;by_cases c:m<=x.2
   .show#[y,old h1,by rw[h2];show (zcM c).symm]
   .show#[x,new,(Int.min_eq_right ⋯).symm]
 have le:∀ t y,rk t y∈ È9->y.1<=x.1:=λ t y hy=>by
  rcases fU hy with q | ⟨_,rfl⟩
  .show hx t y q
  .show zC6 _
 have ns:∀ {y},rk (!s) y∈ È9->rk (!s) y∈p:=λ hy=>by
  rcases fU hy with q | ⟨q,_⟩
  .show q
  .cases s <;> cases q
 have nw:∀ y z,y=x->rk (!s) z∈p->Á0:=by
  rintro y z rfl hz;let#[m,e,hm]:=h.low (!s) z hz;rw[e];exact#[_,zB4 _ AU,ã6 (zC6 _),?_];have:=lo.1;ext Û2;lia
 have od:∀ t y z,rk t y∈p->rk (!t) z∈p->Á0:=λ t y z hy hz=>by
  let#[w,w1,w2]:=h.all t y z hy hz;exact#[w,?_,w2];cases l (!s) with
  | none=>show w1
  | some m=>show zaO _ w1
 exact#[λ t y hm=>?_,λ t m e=>?_,?_,λ z hz t=>?_,λ t y z hy hz=>?_]
 .unfold kJ;rcases fU hm with q | ⟨rfl,rfl⟩
  .let#[m,e,q2]:=h.low t y q;by_cases c:t=s
   .subst c;rw[Î rfl];show#[_,rfl,by have:=lo.2 m e;lia]
   .rw[ü c];show#[m,e,q2]
  .rw[Î rfl];show#[_,rfl,lo.1]
 .unfold kJ at e;split at e
  .rename_i c;subst c;cases e;show la
  .let#[y,q1,q2]:=h.at' t m e;show#[y,old q1,q2]
 .have:=h.len;cases l (!s) <;> simp[lZ] <;> lia
 .have od:z∈sh->∃ y,rk t y∈ È9/\y.1<=z.1/\y.2<=z.2:=λ q=>let #[a,a1,a2]:=h.snd z q t;#[a,old a1,a2]
  cases e:l (!s) with
  | none=>rw[e] at hz;show od hz
  | some m=>
   rw[e] at hz;rcases î8 hz with q | q
   .show od q
   .cases Ð8 q;by_cases c:t=s
    .subst c;let#[y,y1,y2]:=la;show#[y,y1,le _ y y1,Ã3]
    .let#[y,y1,y2]:=h.at' _ m e;obtain rfl:t=!s:=by revert c;cases s <;> cases t <;> simp
     show#[y,old y1,hx _ y y1,Ã3]
 .rcases fU hy with q | ⟨rfl,e⟩
  .rcases fU hz with r | ⟨r,e⟩
   .show od t y z q r
   .subst r;let#[w,w1,w2,w3]:=nw z y e (by rw[Bool.not_not];show q);show#[w,w1,w2.symm,w3.symm]
  .show nw y z e (ns hz)
structure Lw (d:List (Key×T)) (l:è9):Prop where
 v:∀ s,xg d (ã6 (rV s))=(l s).map î
 len:d.length=(if (l Ä).isSome then 1 else 0)+if (ú0).isSome then 1 else 0
def Lw.put {d:List (Key×T)}{l:è9}(h:Lw d l) (s:Bool) (v:Int):Lw (ll d (ã6 (rV s)) (Ã v)) (kJ l s v):=by
 exact#[λ t=>?_,?_]
 .rw[OK,h.v t];cases s <;> cases t <;> simp[rV,kJ]
 .rw[Hi,h.v,h.len];cases s <;> cases e0:l Ä <;> cases e1:ú0 <;> simp[kJ,e0,e1]
def En {rows p q:č}{x:Ç}(e:í6=p++x::q) {a:Ç}(ha:a∈p) {i j:Int}{as xs:Ç}(h1:a=i::as) (h2:x=j::xs):i<=j:=by
 have h:=L4.cP rows;rw[e,zcA] at h;have:=h.2.2 a ha x AU;subst h1 h2;rw[HT.kW] at this;by_cases c:j=i
 .lia
 .rw[ü c] at this;have:=of_decide_eq_false this;lia
def Cs ß9{x k y:Int}{lk:ţ}(hv:xg d (ã6 k)=lk.map î) (hd:d.length<16777216):
  Xx 3 (zc 6) (zo oM (za (zc 7) (za (Xy 3 (zc 6) (zk 7)) zh))) [↑a0,↑a1,↑a2,↑ ð1,↑(ō (Í S)),im (Ã x),im ï1,im (Ã y)] =
   ↑(.nx [↑a0,↑a1,↑a2,↑(ō (.xa (ll d (ã6 k) (Ã (oO lk y))))),↑(ō (Í S)),im (Ã x),im ï1,im (Ã y)]):=by
 have hm:Ü3=↑(Ã (oO lk y)):=by
  rw[hv];cases lk with
  | none=>simp[oO]
  | some m=>show Ë Ş (by change (if m<y then m else y)=min m y;lia)
 change (Ü3).bind _=_;rw[hm];show Î hd
def bS (S:Ý) ù4:ţ->ţ->Ý
 | some u,↑v=>S++[Ñ [Ã x,Ã (max u v)]]
 | _,_=>S
def Cu ß9{x:Int}{f g:É W}{l:è9}(h:Lw d l) (hs:S.length<=10000):
  yi (zO (zb Ì1 (ai 3) Ø4)) (qU 4 (tupS (za (zk 5) (za (zo i_ (za (eY 3 Ŋ) (za (eY 3 Ŗ) zh))) zh)))) yo [↑a0,↑a1,↑a2,↑ ð1,↑(ō (Í S)),im (Ã x),f,g] =
   ↑(.nx [↑a0,↑a1,↑a2,↑ ð1,↑(ō (Í (bS S x (l Ä) (ú0)))),im (Ã x),f,g]):=by
 have ht:zS Ä (Ã d.length) (Ã 2)=↑(.bl ((l Ä).isSome&&(ú0).isSome)):=by
  rw[h.len];cases l Ä <;> cases ú0 <;> rfl
 have v0:=h.v Ä;have v1:=h.v true;cases e0:l Ä with
 | none=>rw[e0] at ht;show yA ø0 rfl
 | some u=>
  cases e1:ú0 with
  | none=>rw[e0,e1] at ht;show yA ø0 rfl
  | some v=>
   rw[e0,e1] at ht;rw[e0] at v0;rw[e1] at v1;show xO ø0 (jo rfl (qt (zr rfl (zr (zQ (zr v0 (zr v1 rfl)) (Ë Ş (by change (if v>u then v else u)=max u v;lia))) rfl)) (ċ rfl)) hs)
theorem BC ò2:∃ sh:ï,Zl [Ñ Ý5,Ñ (o.map zt)]=↑(Ñ ((ox sh).map zt))/\sh.length<64/\∀ q,zZ sh q=(zZ b q&&zZ o q):=by
 let a0:W:=.im (Ñ Ý5)
 let a1:W:=.im (Ñ (o.map zt))
 let rows:=b.map (rk Ä)++o.map (rk true)
 let a2:W:=.im (Í Í9)
 have hlen:À8<64:=by simp[rows];show hl
 have hr:∀ r∈rows,∃ s y,r=rk s y:=λ r hr=>by
  rcases î8 hr with h | h <;> let#[y,_,rfl]:=Ľ h <;> show#[_,y,rfl]
 have hs:iQ [Í Í9]=↑(Í ((í6).map zI)):=by
  change ((oB Í9).bind λ rs=>_)=_;rw[Z_,zC9,Î #[hlen,λ r h=>by let#[_,_,rfl]:=hr r h;show ñ1]]
 have plen:(í6).length=À8:=(L4.lh rows).length_eq;let#[J1,h1,d,l,sh,rfl,w1,s1]:=nS (is:=[5,6,7]) (g:=o7 3 (rY (zJ 5) (rY (zJ 6) (rY (zJ 7) nR)))) (b:=QK) zI (λ p J=>∃ d l sh,J=[↑a0,↑a1,↑a2,↑ ð1,↑(ō (Í (sh.map zt))),none,none,none]/\Lw d l/\Sw p l sh) (í6) [↑a0,↑a1,↑a2,↑(ō (.xa [])),↑ Ñ0,none,none,none]
  #[[],λ _=>none,[],rfl,#[è0,rfl],#[ñ1,ñ1,AM _,ñ1,ñ1]] (by
  rintro p x q e J ⟨d,l,sh,rfl,hw,hsw⟩;let#[s,y,rfl]:=hr x ((L4.lh rows).mem_iff.mp (Ĥ));have AV:=Ë ė e;rw[plen] at AV;simp at AV;have:=hsw.len;have hw':=hw.put s á7;have hb:(lZ (l (!s)) sh y.1 á7).map zt=bS (sh.map zt) y.1 (kJ l s á7 Ä) (kJ l s á7 true):=by
   cases s
   .change (lZ (ú0) sh Œ).map zt=bS Œ ↑_ (ú0);cases ú0 <;> simp[lZ,bS,zt,Int.max_comm]
   .change (lZ (l Ä) sh Œ).map zt=bS Œ (l Ä) ↑_;cases l Ä <;> simp[lZ,bS,zt]
  show#[_,zy (Cs (hw.v s) (by rw[hw.len];split <;> split <;> lia)) (Cu hw' (ā)),_,_,_,by rw[hb];rfl,hw',hsw.step s y λ t z hz=>En e hz À])
 have hsh:sh.length<64:=by have:=s1.len;lia
 exact#[sh,?_,hsh,λ q=>?_]
 .have hc1:Q3 Õ0=↑ ñ6:=by
   rw[A4];show rg zt (zI ∘ rk Ä) b rfl ⋯ λ y _=>rfl
  have hc2:Qu Õ0=↑ î4:=by
   rw[A4];show rg zt (zI ∘ rk true) o rfl ⋯ λ y _=>rfl
  have ha:yg ñ6 î4=↑(Í Í9):=by
   change (if _ then ↑(T.lst _) else none)=_;rw[Î (ā),<- zE7]
  show yf (zy (ym (zm hc1 hc2 ha)) (zy rfl (zy rfl (zy (qy (Ë é0 (zQ rfl hs)) h1) (yS (zQ rfl (Za sh hsh))))))) rfl
 .have m:∀ s x,rk s x∈ í6 ↔x∈(if s then o else b):=λ s x=>by
   rw[(L4.lh rows).mem_iff];ext š
   .intro h;rcases î8 h with h | h <;> let#[y,hy,e]:=Ľ h <;> let#[rfl,rfl]:=Ug e <;> show hy
   .cases s
    .show λ h=>zaO _ (List.mem_map_of_mem h)
    .show λ h=>zB4 _ (List.mem_map_of_mem h)
  rw[zC7,zE5,xo,xo,xo];ext š
  .rintro⟨z,hz,g1,g2⟩;let#[x,x1,x2,x3]:=s1.snd z hz Ä;let#[y,y1,y2,y3]:=s1.snd z hz true;show#[#[x,(m _ x).mp x1,⋯,⋯],y,(m _ y).mp y1,⋯,⋯]
  .rintro⟨⟨x,x1,x2,x3⟩,y,y1,y2,y3⟩;let#[z,z1,g1,g2]:=s1.all Ä x y ((m _ x).mpr x1) ((m _ y).mpr y1);show#[z,z1,⋯,⋯]
theorem e_ į ù5 Ŧ (h:∀ x,dep (enc x)<=n):∀ xs:ů,xn (ç8 enc)<=n
 | []=>by simp[xn]
 | x::xs=>by
  have:=h x;have:=e_ enc n h xs;simp![AR,xn];lia
def E_ (p:Á):dep (zt p)<=1:=by simp[zt,dep,xn]
def RC (ps:ï):dep (Ñ (á4 zt))<=60:=by
 have:=e_ zt 1 E_ ps;simp![dep];lia
end zY.V
namespace zY.V
open PySem L2 L3 L5 RN
section
variable {is:é}{c:Ķ}{b:Sm}{å9}{J J':Ev}{R:É Out}
def bE (hc:c é1=↑true) (hb:b é1=↑(.nx J')) (e:pY is c b n J'=R):í7=R:=by
 rw[pY,hc,zC9,Î rfl,hb];show e
def IX {y:T}(hc:c é1=↑true) (hb:b é1=↑(.rt y)):í7=↑(.rt y):=by
 rw[pY,hc,zC9,Î rfl,hb];rfl
def bF (hc:c é1=↑ Ä):í7=↑(.nx é1):=by rw[pY,hc];rfl
end
theorem Rg {α β:Type}(c:Ý1) (g:α->β):∀ l:ů,l.filterMap (λ x=>if c x=true then ↑(g x) else none)=(l.filter c).map g
 | []=>rfl
 | a::l=>by by_cases h:c a=true <;> simp[zbB,h,Rg c g l]
def jS į ù5 (test:Ý1) (out:α->T) Í5{it:À7}À5{c:Ķ}ê5 ý(xs:ů) (hi:it J=↑(ç8 enc)) (hl:Ó0<=10000)
  (hh:∀ x∈xs,∃ J',g (enc x) ø1=↑J'/\c J'=↑(test x)/\f J'=↑(out x)):y_ pick it g c f J=↑(Í ((xs.filter test).map out)):=by
 rw[Hu enc (λ x=>if test x=true then ↑(out x) else none) xs hi ⋯ λ x hx=>by
  let#[J',h1,h2,h3]:=hh x hx;rw[ql,h1,zC9,h2,zC9,h3];cases test x <;> rfl,Rg]
def kX œ:ql pick g xP f J y=↑↑t:=by
 ext ð7
def nI À5{b:Sm}{y:T}{J J':Ev}Ô0(hg:g y J=↑J') (h:b J'=o):turn g b y J=o:=by
 unfold turn;rw[hg];show h
def bT Ü8:T:=Ñ Ý5
def rT (r:Ï):T:=Í (r.map bT)
def kt ß1:T:=if b=true then Ê "keeper" else í4
def rP (w:Wy):T:=Ý6
def xZ (s:Sl):T:=Ñ [Ã s.p,à2,Ã s.gv,Ã s.gt]
def zB í:T:=Ñ [Ę,Ñ Ã6,Ñ Ç2,Ñ (F.ss.map xZ)]
def Ä4 (i j:Int) (neg:Bool):Æ8:=by
 ext Ô4;cases neg <;> simp[zcK]
def W9 í:gU [ß4]=↑(Ã Â):=by
 simp[gU,Ol,zB]
def P0 (q p:Á):dY [Ũ,zt p]=↑(.bl (oy q p)):=by
 by_cases h1:p.1<=q.1 <;> by_cases h2:p.2<=q.2 <;> simp[dY,O2,zt,oy,h1,h2]
def Cy į ù6:Ú2:=by
 have:=a9 (ç8 g)
 rwa [A4] at this
theorem Px (ps:ï) ĺ (hl:Į<=10000):dQ [bT ps,Ũ]=↑(.bl (zZ ps q)):=by
 have hc:az [↑(.im (bT ps)),↑(.im (Ũ))]=↑(Í (á4 λ p=>T.bl (oy q p))):=by
  unfold az;exact rg zt _ ps (by simp[bT]) ⋯ λ p _=>?_;simp[P0]
 unfold dQ Oz;generalize az=cc at hc ⊢;simp[hc,Cy];rfl
theorem BG (A B:Int) (w:Wy) (bd:Bd) (hl:bd.length<64):WQ [Ñ [Ã A,Ã B],rP w,bT bd]=↑(bT (jq A B w.a w.b bd)):=by
 have h1:XI [↑(.im (Ñ [Ã A,Ã B])),↑(.im (rP w)),↑(.im (bT bd)),none]=↑(Í ((å4).map zt)):=by
  rw[A4];unfold XI;exact rg zt _ bd (by simp[bT]) ⋯ λ p _=>?_;simp[zt,rP,qz,xM,eD]
 have h3:=Za ((å4).filter (jX A B)) (zbH (zbS Œ) (ì4));show yf (zy (ym h1) (yS (zQ (zr (jS zt (jX A B) zt (å4) rfl (ā) λ p _=>#[_,rfl,qB (zQ rfl (P0 (A,B) p)),rfl]) rfl) h3))) rfl
def B2 Ø0 (hl:Í8+c.length<64):dR [bT b,bT c]=↑(bT (l7 b c)):=B3 b c hl
def BB Ø0 (hl:Í8+c.length<64):Zl [bT b,bT c]=↑(bT (mQ b c)):=by
 let#[sh,h1,_,h2]:=BC b c hl;have:ox sh=mQ b c:=nG.eq (YN _) (YN _) λ q=>by
  rw[h_,h2,<- Q6]
 rw[<- this];show h1
theorem B1 ş(hA:0<=A/\A<=12) í9 (h:∀ b∈bs,Í7):WN [Í (bs.map bT)]=↑(bT (mL bs)):=by
 let#[J',h1,h2]:=nS Ç7 (b:=QL) bT (λ p J=>J=[↑ È1,↑(.im (bT ø2)),none]) bs [↑ È1,↑(.im (bT [])),none] rfl (by
  rintro p x q e J rfl;have g1:Gd A B ø2:=eR Ŀ Gd.nil ç1;ext Þ0;show#[_,nI rfl (ym (zQ rfl (B2 ø2 x ⋯))),by rw[zbR];rfl])
 ext ô5
theorem BA ş(hA:0<=A/\A<=12) (hB:0<=B) í9 (h:∀ b∈bs,Í7):WO [Í (bs.map bT)]=↑(bT (du bs)):=by
 let#[J',h1,h2]:=nS Ç7 (b:=QM) bT (λ p J=>J=[↑ È1,↑(.im (bT ú1)),none]) bs [↑ È1,↑(.im (bT qg)),none] rfl (by
  rintro p x q e J rfl;have g1:Gd A B ú1:=XS p qg (Gd.qg hA.1 hB) ç1;ext Þ0;show#[_,nI rfl (ym (zQ rfl (BB ú1 x ⋯))),by rw[zbR];rfl])
 ext ô5
def Xq (a b:Nat):zS Ä (nT a) (nT b)=↑(.bl (Ð (a=b))):=(Ä4 a b Ä).trans (Ë ë (decide_eq_decide.mpr â))
theorem jN į{is:é}À5 Ò9:∀ (xs:ů) (J:Ev),xm is J=J0->
  ū->
  wC is g b (ç8 enc) J=↑(match xs.find? test with | some x=>.rt (ret x) | none=>.nx J0)
 | [],J,h,_=>by rw[za4,List.find?_nil,wC,h]
 | x::xs,J,h,ht=>by
  ext Ã9
  .rw[Î c,c];rfl
  ext Æ0
def aY (i a b:Int):kF [Ã i,Ã a,Ã b]=↑(.bl (Ð (a<=i)&&Ð (i<=b))):=by
 have h:gY [Ã i]=↑ ö:=by simp[gY,WW,rh]
 by_cases h1:a<=i <;> by_cases h2:i<=b <;> simp[kF,Zo,h,h1,h2]
def UW {N:Ó}å9{g:Sm}{ys:Ý}{J':Ev}(h:g (qu N ys)=↑(.nx J')) (hn:ys.length=n):zR N n g ys=↑.zA:=ì0
theorem BE {i n:Nat}(h:i<n):kF [nT i,Ã 0,Ã ((n:Int)-1)]=↑ ö:=by
 rw[aY,za3 (show (0:Int)<=i by lia),za3 (show Ò0<=n-1 by lia)];rfl
def dW í ē (h:p<Â):jy ð2=↑.zA:=
 UW (yA (m8 (qB (zQ (zr rfl (zr rfl (zr (zm ø3 À) rfl))) (BE h)))) rfl) rfl
def B8 í ē (h:p<Â):jy ð2=↑.zA:=dW F p h
def Hj į(f:α->T) (l:ů):wD [Ñ (l.map f)]=↑(nT Æ7):=by
 change ↑(î ((l.map f).length:Int))=_;rw[AQ]
def XR í Ĝ:Á6 [î F.A,Ã F.B] (rV pu)=↑(Ã (F.yn pu)):=Đ
def fH ĺ Ĝ:Á6 [î q.1,î q.2] (rV pu)=↑(Ã (zW pu q)):=Đ
def Yq ĺ Ĝ:Á6 [î q.1,î q.2] (1-rV pu)=↑(Ã (yU pu q)):=Đ
abbrev X8 í (s:Sl) (p:T) (acc:Ý) ê2:Ev:=[im (Ę),im (xZ s),im p,im (à2),↑(ō (Í acc)),im (Ã g),im (Ã t)]
def DB ħ{s:Sl}(hg:1<=s.gv) (p:T):∀ (n m:Nat) ê2 (acc:Ý),Ĵ+1-g<=n->n<m->acc.length+n<=1000->
  ∃ g' t',pY [] (zO (zb lr è3 (zb zi ų Ó4))) QH m (X8 F s p acc g t)=↑(.nx (X8 F s p (acc++(pL Á2 n g t).map zt) g' t')):=λ n=>by
 induction n with
 | zero=>
  intro m g t acc h1 h2 _;ext ĸ;show#[g,t,(bF (z_ (zm ã2 (Ë ë (zcQ ⋯))))).trans (by rw[pL,za4,zaB];rfl)]
 | succ n ih=>
  intro m g t acc h1 h2 h3;ext ĸ;rw[pL];by_cases hc:g<=Ĵ
  .let#[g',t',e]:=ih m (g+s.gv) (xM (t-s.gt)) (acc++[zt (xt s.pu g t)]) Ğ (ā);have hi:lx (zO (zb Ì1 Ó4 Ŋ)) (tupS (za (zk 5) (za (zk 6) zh))) (tupS (za (zk 6) (za (zk 5) zh))) (X8 F s p acc g t)=↑(zt (xt s.pu g t)):=by
    let#[_,pu,_,_]:=s;cases pu <;> simp[rV,Ä4,xt,zt]
   rw[Î hc];show#[g',t',(bE (z_ (zm ã2 (Ë ë (za3 hc)))) (zy (jo rfl hi ⋯) (zy (ym (zm rfl Ò7)) (ym (zQ (zr rfl (zr (zm rfl Ò7) rfl)) rfl)))) e).trans (by rw[zE8];rfl)]
  .rw[ü hc,za4,zaB];show#[g,t,bF (z_ (zm ã2 (Ë ë (zcQ hc))))]
theorem B7 Ò {s:Sl}(hs:1<=s.gv) {p:Á}(h0:0<=p.1/\0<=p.2):WA [Ę,xZ s,zt p]=↑(Í ((k8 F s p).map zt)):=by
 let#[g',t',h]:=DB (F:=F) hs (zt p) 100 1000000 â7 [] (by have:=ok.a1;have:=ok.b1;unfold zC.yn zW;ext Ë9) () #[];show yf (zy (ym È) (zy rfl (zy (ym (zm À (fH p s.pu))) (zy (ym (zm rfl È (Yq p s.pu))) (zy h rfl))))) rfl
theorem Pq í ē (h:p<Â) (hl:õ4):dJ ð2=↑(match Ŭ with | some s=>xZ s | none=>.zA):=by
 have hl':=jN Ç7 (b:=aC) xZ xZ (ď) à4 F.ss à4 #[] λ s _=>#[[↑(.im õ),↑(.im (Ã p)),↑(.im (xZ s))],#[],by
  by_cases c:s.p=p
  .simp[turn,aC,xZ,Ä4,c]
  .have c':¬ ((s.p:Int)=ť):=⋯;simp[turn,aC,xZ,Ä4,c,c']]
 have h1:=dW F p h;unfold zC.stall;cases e:F.ss.find? (ď) with
 | none=>rw[e] at hl';show yf (zy (kz (zQ rfl h1)) (zy (qy rfl hl') rfl)) rfl
 | some s=>rw[e] at hl';show yf (zy (kz (zQ rfl h1)) (wI (qy rfl hl'))) rfl
theorem R1:∀ (ws:List Wy) ŷ,jg k (ŀ rP)=(ws.zipIdx k).map λ wi=>ñ7
 | [],k=>rfl
 | w::ws,k=>by
  rw[AR,jg,R1 ws ä1,zc6,AR]
theorem cq (f:Wy->Bool):∀ (ws:List Wy) ŷ,((ws.zipIdx k).filter λ wi=>f wi.1).map (λ wi=>wi.1)=ws.filter f
 | [],k=>rfl
 | w::ws,k=>by
  rw[zc6,List.filter_cons,List.filter_cons];by_cases c:f w=true
  .rw[Î (by show c),Î c,AR,cq f ws]
  .rw[ü (by show c),ü c,cq f ws]
def W0 í ē (h:p<Â) (hl:Ű<=60):dI ð2=↑(Í (((F.ws.zipIdx).filter Ï1).map ó3)):=
 yf (zy (kz (zQ rfl (B8 F p h))) (yS (jS (λ wi:Wy×Nat=>ñ7) (Ï1) (ó3) F.ws.zipIdx (by rw[<- R1];rfl) (ā) λ wi _=>#[_,rfl,z_ (zm Ò7 (Xq wi.1.f p)),rfl]))) rfl
theorem Rv:∀ Ø0,qd Ý5 (c.map zt)=Ð (b=c)
 | [],[]=>by simp[qd]
 | [],_::_=>by simp[qd]
 | _::_,[]=>by simp[qd]
 | p::b,q::c=>by
  have h:=Rv b c;have e:eqT (zt p) (Ũ)=Ð (p=q):=by
   let#[p1,p2]:=p;let#[q1,q2]:=q;by_cases h1:p1=q1 <;> by_cases h2:p2=q2 <;> simp[zt,eqT,qd,h1,h2]
  rw[AR,AR,qd,e,h];by_cases h1:p=q <;> by_cases h2:b=c <;> simp[h1,h2]
def Iq Ø0:zS true (bT b) (bT c)=↑(.bl (Ð (b≠c))):=by
 have h1:dep (bT b)<=60:=RC b;have h2:dep (bT c)<=60:=RC c;unfold zS;rw[Î #[h1,h2]];change ↑(T.bl (!(qd Ý5 (c.map zt))))=_;rw[Rv];by_cases h:b=c <;> simp[h]
def eg (l:Ï) ē (h:p<Æ7):zi (rT l) (Ã p)=↑(bT (l.getD Ŀ)):=by
 change Á6 (l.map bT) ť=_;exact qf ?_;rw[A9,zA1 h,zB1,zA1 h];rfl
theorem E9 Ê2 ý Ã2:jf i f J=↑ Ä0:=by
 have:Č+us.length<=16777216:=⋯;simp[h0,h,this]
def lb:Nat->Nat
 | 0=>0
 | k+1=>lb k+ä1
theorem cD {a:Nat}:∀ {b:Nat},a<=b->lb a<=lb b
 | 0,h=>by cases Nat.le_zero.mp h;show AM _
 | b+1,h=>by
  rcases Nat.lt_or_eq_of_le h with h | rfl
  .have:=cD (Nat.le_of_lt_succ h);simp![lb];lia
  .show AM _
theorem V1 Ú8:∀ Ü8 ŷ,b.Pairwise (λ x y=>m y<m x)->(∀ x∈b,Õ4)->ß5<=lb k
 | [],k,_,_=>zD4 _
 | x::b,k,hp,h=>by
  let#[h1,h2]:=za9.mp hp;let#[h3,h4]:=h x AU;rw[List.flatMap_cons,zD7];have:=cD h3;cases hm:m x with
  | zero=>
   cases b with
   | nil=>rw[hm] at h4;simp;lia
   | cons y b=>have:=h1 y AU;lia
  | succ n=>
   have i:=V1 (g:=g) b n h2 λ y hy=>#[by have:=h1 y hy;lia,(h y (AX _ hy)).2];rw[hm] at this h4;simp![lb] at this;lia
theorem V0 Ú8 ŷ:∀ Ü8 (a:Nat),a<=k->ø4->(∀ x∈b,a<m x/\Õ4)->ß5+lb a<=lb k
 | [],a,ha,_,_=>by have:=cD ha;simp;lia
 | x::b,a,ha,hp,h=>by
  let#[h1,h2]:=za9.mp hp;let#[h3,h4,h5]:=h x AU;have i:=V0 (g:=g) k b (m x) h4 h2 λ y hy=>#[h1 y hy,(h y (AX _ hy)).2];rw[List.flatMap_cons,zD7];cases hm:m x with
  | zero=>lia
  | succ n=>
   have:=cD (a:=a) (b:=n) ⋯;rw[hm] at i h5;simp![lb] at i;lia
def Nj Ú8 ŷ Ü8 (a:Nat) (ha:a<=k) (hp:ø4) (h:∀ x∈b,a<m x/\Õ4):ß5<=lb k:=A7 (zb1 Œ) (V0 k b a ha hp h)
theorem B6 Ò ē ł Ü8 (hb:Ñ9):WR [ß4,Ã p,bT b]=↑(bT (match Ŭ with | none=>b | some s=>ik F s b)):=by
 have h1:=Pq F ű ok.s8;cases hs:Ŭ with
 | none=>rw[hs] at h1;show é2
 | some s=>
  rw[hs] at h1;have hmem:s∈F.ss:=zaN hs;have hsz:=ok.ss s hmem;have hlen:(b.flatMap (k8 F s)).length<=45:=by
   have h8:F.A<=8/\F.B<=8:=by
    rcases ok.sl with x | x
    .rw[x] at hmem;cases hmem
    .show x
   have hm:∀ x∈b,(k8 F s x).length<=È2/\È2<=9/\zW s.pu x<=Ĵ:=λ x hx=>by
    have q:=hb.xx x hx;have:=Qo Á2 hsz.1 100 (zW s.pu x) (yU s.pu x) (by unfold zC.yn zW;ext Ë9);unfold k8;unfold zC.yn zW at *;split <;> simp![*] at this ⊢ <;> simp at this ⊢ <;> lia
   cases hpu:s.pu with
   | true=>show Nj (m:=λ x=>È2) 9 b 0 () (Ó7 (λ{x y} hx hy h=>by
     ext ú7;simp![zW,hpu,if_true] at *;lia) hb.eA) (λ x hx=>#[by have:=(ø5).2.2;lia,(ø5).2.1,(ø5).1])
   | Ä=>show V1 (m:=λ x=>È2) b 9 (Ó7 (λ{x y} hx hy h=>by
     ext ú7;simp![zW,hpu,zC4,if_false] at *;lia) hb.eA) (λ x hx=>#[(ø5).2.1,(ø5).1])
  let#[J',h2,rfl]:=nS (is:=[5]) (g:=zJ 5) (b:=QN) zt (λ q J=>J=[Ë2,ì,im (bT b),im (xZ s),↑(ō (Í ((q.flatMap (k8 F s)).map zt))),none]) b [Ë2,ì,im (bT b),im (xZ s),↑ Ñ0,none] rfl (by
   rintro q x r e J rfl;have q1:=hb.xx x (Ĥ);exact#[_,nI rfl (E9 rfl (zQ (zr Ò7) (B7 ok hsz.1 #[q1.1.1,q1.2.1])) ?_),?_]
   .rw[e] at hlen;simp at hlen ⊢;lia
   .rw[List.flatMap_append,zE7,List.flatMap_singleton];rfl)
  show yf (zy Ì4 (zy (yA Ü4 rfl) (zy rfl (zy (qy rfl h2) (yS (zQ rfl (Za (b.flatMap (k8 F s)) ⋯))))))) rfl
def getD_mem {l:Ï}Ă(h:p<Æ7):l.getD Ŀ ∈l:=by rw[zB1,zA1 h];show zD8 h
theorem Br Ò ē ł (l:Ï) (hl:Æ7=Â) (hg:∀ b∈l,Ñ9):WC [ß4,Ã p,rT l]=↑(bT (xu æ0)):=by
 have oX:=ok.oX;have c1:Qz ã4=↑(Í ((Ŕ).map rP)):=by
  rw[<- cq (λ w=>Ð (ç6)) F.ws 0,A4];show rg é3 _ ((F.ws.zipIdx).filter Ï1) Ż λ wi hwi=>kX rfl (zm Ò7 (qf (by rw[A9,zcP.mp (õ1 hwi).1];rfl)))
 have c2:Qs [Ë2,ì,im (rT l),im (Í ((Ŕ).map rP)),none]=↑(Í ((qH æ0).map bT)):=by
  unfold qH;rw[A4];exact rg rP _ (Ŕ) rfl (A7 (zbS Œ) ⋯) λ w hw=>?_;have ht:w.t<Æ7:=by rw[hl];show (ok.ws w (õ1 hw).1).2
  have:=(hg _ (getD_mem ht)).ph ok.a0;have:=ok.a1;show kX rfl (zQ (zr È (zr rfl (zr (zm rfl È (eg l w.t ht)) rfl))) (BG ĝ w (Æ6) ⋯))
 have gah:=aJ æ0;have ho:Á6 Ã6 ť=↑(kt (Ú)):=qf (by rw[A9,zA1 hp,zB1,zA1 hp];rfl);have hk:∀ b:Bool,zS Ä (kt b) ś=↑(.bl b):=λ b=>by cases b <;> rfl
 have tk:=hk (Ú);have pre:∀ o,_->Om ã4=o:=λ o h=>zy (ym c1) (zy (ym c2) h);unfold xu;cases hb:Ú with
 | true=>
  rw[hb] at ho tk;exact (yf (pre _ (wI (xO (z_ (zm Ô6 tk)) (yS (zQ (zr rfl (zr rfl (zr (zQ rfl (B1 #[ok.a0,ok.a1] (qH æ0) gah)) rfl))) (B6 ok ű (mL (qH æ0)) (eR Œ Gd.nil gah))))))) rfl).trans ?_;cases Ŭ <;> rfl
 | Ä=>
  rw[hb] at ho tk;show yf (pre _ (zy (yA (z_ (zm Ô6 tk)) rfl) (yS (zQ rfl (BA #[ok.a0,ok.a1] ok.b0 (qH æ0) gah))))) rfl
def k_ (fr:é):T:=Í (Ñ3)
theorem Gj (t:Nat) (fr:é):qm Ä (nT t) (k_ fr)=↑(.bl (fr.contains t)):=by
 have d1:xn (Ñ3)<=60:=by
  exact e_ _ 60 (λ x=>?_) fr;simp[dep]
 have d0:dep (Ã (t:Int))<=60:=by simp[dep]
 unfold qm;change (if dep (Ã (t:Int))<=60/\xn (Ñ3)<=60 then _ else _)=_;rw[Î #[d0,d1]];change ↑(T.bl ((Ñ3).any λ x=>eqT x (Ã t)))=_;congr 2;rw[zC7,zD0,List.contains_iff_mem];ext š
 .rintro⟨x,hx,h⟩;let#[k,hk,rfl]:=Ľ hx;have:Å=(t:Int):=by simpa [eqT] using h
  have:k=t:=⋯;subst this;show hk
 .intro h;show#[_,Ó2 #[t,h,rfl],by simp[eqT]]
def YH å9{f v:AD}ý É3{z:T}{k:Int}{j:Nat}(hv:v J=↑z) (hf:f J=↑ ï1) (h0:J[n]?=↑↑ Ė) (hj:qc Č k=↑j):hZ n f v J=↑(.nx (J.set n ↑(ō (Í (ts.set j z))))):=by
 change (v J).bind _=_;rw[hv];change ô3=_;rw[hf];dsimp only[Option.bind];ext ó7;rw[hj];rfl
abbrev Y4 í À6 (fr:é) (L:Ï) (x:É W):Ev:=[Ë2,im (rT last),im (k_ fr),↑(ō (Í (L.map bT))),x]
def mB í À6 (pre:Ç):Ï:=(Ì Õ8).map λ(p:Nat)=>if ť ∈pre then ã8 else Ī Ŀ
theorem Bp Ò {last:Ï}{fr:é}(hl:Õ8=Â) (hg:∀ b∈last,Ñ9):WB [ß4,rT last,k_ fr]=↑(rT (é4)):=by
 have oX:=ok.oX;have c1:Qy (Y4 æ fr last none)=↑(Í ((ä).map î)):=by
  rw[A4];show jS rP (λ w=>Ü5) (λ w=>î (w.f:Int)) F.ws rfl ⋯ λ w _=>#[_,rfl,z_ (zm Ò7 (Gj w.t fr)),zm À rfl]
 have hss:iP [Í ((ä).map î)]=↑(Í ((oq (ä)).map î)):=by
  change (match nk ((ä).map î) with | some ns=>_ | none=>_)=_;rw[bL];exact Î ?_;have:=zbS (λ w:Wy=>Ü5) F.ws;simp![AQ];lia
 have hmem:∀ k,k∈oq (ä)↔∃ p:Nat,k=ť/\p<Â/\ly F fr p=true:=λ k=>by
  ext š
  .intro hk;let#[w,hw,rfl]:=Ľ (b8.mp hk);ext Ï2;show#[w.f,rfl,(ok.ws w w1).1,ì6 #[w,w1,by exists w2]]
  .rintro⟨p,rfl,_,h⟩;let#[w,w1,w2]:=zD0.mp h;have w3:ç6/\Ü5=true:=by exists w2
   show b8.mpr (Ó2 #[w,õ2 #[w1,w3.2],by rw[w3.1]])
 generalize oq (ä)=up at *;let#[J',h1,rfl]:=nS (is:=[4]) (g:=zJ 4) (b:=QI) î (λ pre J=>J=Y4 æ fr (mB æ pre) none) up (Y4 æ fr last none) (by
  have e:mB æ []=last:=zbK (by simp[mB]) λ i h1 h2=>by simp[mB,h2]
  rw[e];rfl) (by
  rintro pre k q e J rfl;let#[p,rfl,hp,hw]:=(hmem k).mp (Ĥ);have hset:((mB æ pre).map bT).set p (bT (ã8))=(mB æ (pre++[ť])).map bT:=by
   exact zbK (by simp[mB]) λ i h1 h2=>?_;rw[List.getElem_set];simp![mB,List.getElem_map,zcC,zB9,zB6];by_cases c:p=i
   .subst c;simp
   .have c':¬ (Ò0=ť):=⋯;simp[c,c']
  have hix:qc ((mB æ pre).map bT).length ť=↑p:=by
   unfold qc mB;simp![AQ,zC5];rw[Î ⋯,Î ⋯,zb8]
  show#[_,nI rfl (YH (zQ rfl (Br ok ű last hl hg)) À hix),by rw[hset];rfl])
 have fin:mB æ up=é4:=by
  exact zaD Å3;have AV:=A8.mp hp;by_cases c:ly F fr p=true
  .rw[Î c,Î ((hmem _).mpr #[p,rfl,⋯,c])]
  .rw[ü c,ü λ h=>c (by let#[p',e,_,h']:=(hmem _).mp h;show (show p'=p by lia)▸h')]
 rw[fin] at h1;show yf (zy rfl (zy (qy (Ë é0 (zQ (zr c1 rfl) hss)) h1) rfl)) rfl
theorem Xt į ù5 (d:α) (fo:ů):∀ (l:ů) ŷ,(∀ i,l.getD i d=fo.getD (k+i) d)->jg k (l.map enc)=(Ì Æ7).map λ(p:Nat)=>Ö0 [Ã ((k+p:Nat):Int),enc (fo.getD (k+p) d)]
 | [],k,_=>rfl
 | b::l,k,h=>by
  have h0:=h 0;rw[AR,jg,Xt enc d fo l ä1 λ i=>by have:=h (i+1);rw[show k+1+i=k+(i+1) from by lia];exists this];rw[zC0,List.range_succ_eq_map,AR,A4];have e:b=fo.getD k d:=by exists h0
  congr 1
  .rw[e];rfl
  .exact zaD λ p _=>?_;simp![Function.comp];rw[show k+1+p=k+Nat.succ p from by lia]
def Ck {a:T}{b c:Ì2}Æ1 (SG:fo.length<=10000):Qw [im a,b,c,im (rT last),im (rT fo)]=↑(k_ (ì5)):=
 jS (λ p:Nat=>Ö0 [nT p,bT (fo.getD Ŀ)]) (λ p=>Ð (fo.getD Ŀ ≠ Ī Ŀ)) (λ p=>nT p) (Ì fo.length) (by
  have:=Xt bT [] fo fo 0 λ i=>by rw[zaR]
  simp![zaR] at this;rw[<- this];rfl) (ā) λ p hp=>#[_,rfl,z_ (zm rfl (zm À (eg last p (by rw[<- hl];show A8.mp hp))) (Iq Œ)),rfl]
abbrev fB í Ô3 (fr:é) (x y:Ì2):Ev:=[Ë2,↑(ō (Í (told.map rT))),im (k_ fr),x,y]
theorem Xl:∀ fr:é,fr≠[]->Z8 (k_ fr)=↑true
 | [],h=>Ū rfl h
 | _::_,_=>rfl
theorem Ud Ò:∀ Ŧ (pre:À1) À6 (fr:é) (res:À1),St æ fr->kP F n pre last fr=↑res->pre.length+n<=10000->∀ (m:Nat),n<m->∀ x y:Ì2,
  ∃ fr',pY [3,4] (xh è1) aD m (fB F (Ö4) fr x y)=↑(.nx (fB F res fr' Þ))
 | 0,_,_,_,_,_,h,_,_,_,_,_=>by cases h
 | n+1,pre,last,fr,res,s,h,hn,m,hm,x,y=>by
  have hend:∀ (m:Nat) Ô3 (x y:Ì2),pY [3,4] (xh è1) aD (m+1) (fB F told [] x y)=↑(.nx (fB F told [] Þ)):=λ m told x y=>bF rfl;ext ĸ;unfold kP at h;by_cases hfr:fr=[]
  .rw[Î hfr] at h;cases h;subst hfr;show#[_,hend m _ x y]
  .rw[ü hfr] at h;dsimp only at h;ext ú5;have sl:=s.len;have hlast:Á6 ((Ö4).map rT) (-1)=↑(rT last):=by rw[zE7];show QO
   have hc:=λ b c=>Ck (a:=ß4) (b:=b) (c:=c) (last:=last) (fo:=é4) (kT ..) (by rw[kT];lia);have sn:=s.next ok;have hF:=Bp ok (fr:=fr) s.len s.gd;generalize nW last (é4)=f2 at *;have b1:∀ o,_->aD (fB F (Ö4) fr Þ)=o:=λ o h=>zy (ym (zm À hlast)) (zy (ym (zQ rfl hF)) (zy (ym (hc Œ)) h));by_cases hf:f2=[]
   .rw[Î hf] at h;cases h;subst hf;ext ĸ;show#[_,bE (Xl fr hfr) (b1 _ Ü0) (hend m Œ _)]
   .rw[ü hf] at h;let#[fr',e]:=Ud ok n (Ö4) (é4) f2 res sn h (ā) m ⋯ (im (rT last)) (im (rT (é4)));exact#[fr',bE (Xl fr hfr) (b1 _ (xO (Xl f2 hf) (jo À (ā)))) (ò6 (Ë _ ?_) e)];change _=[_,↑(L5.W.own (Í ((Ö4++[é4]).map rT))),_,_,_]
    rw[zE7 (l₁:=Ö4)];rfl
def C6 Ê2 ý É3 ê4:è7:=Ñ8
def I_ ê5 ý{x:T}(h:f J=↑x):xE (za f zh) J=↑(Í [x]):=ä5
theorem Bg Ò:∃ more,mV [ß4]=↑(Í ((ī F::more).map rT))/\(∀ r∈ ī F::more,ò9=Â/\∀ b∈r,Ñ9)/\more.length<=2000/\kP F Ì0=↑(ī F::more):=by
 have hmu:=YB (ī F);have hsl:(ī F).length=Â:=by unfold ī;simp
 ext ú5;have n1:=ok.n1;let#[more,last',e1,e2,_,e4]:=Yb ok Ì0 é5 ⋯;let#[fr',e]:=Ud ok Ì0 _ é5 e1 #[] 1000000 () Þ;have A5:rT (ī F)=Í (à7 Â (Ñ Ñ4)):=by
  unfold rT ī;rw[List.map_replicate];rfl
 have hmul:wA (Í [Ñ Ñ4]) (Ã Â)=↑(rT (ī F)):=by
  rw[A5];unfold wA;ext Û2;rw[Î #[#[],⋯,⋯,He (ā)]];have:∀ n:Nat,(à7 n [Ö0 Ñ4]).flatten=à7 n (Ñ Ñ4):=λ n=>by
   induction n with
   | zero=>rfl
   | succ n ih=>rw[zaH,zaH,zaP,ih];rfl
  rw[zb8,this]
 have hrg:bH [Ã Â]=↑(k_ (Ì Â)):=by
  change (if 0<=ó4/\ó4<=16777216 then ↑(T.lst (rangeT 0 (Â:Int).toNat)) else none)=_;rw[Î â];change ↑(T.lst ((Ì (Â:Int).toNat).map λ Ŏ=>î (0+Å)))=_;rw[zb8];unfold k_;simp
 show#[more,yf (zy (C6 (i:=1) (I_ (zm rfl ø3 hmul))) (zy (ym (zQ (zr ø3 rfl) hrg)) (zy e rfl))) rfl,e2,⋯,e1]
def mi Ü9:(if y<x then y else x)=min x y:=by ext Ë9
def kM (o:É (Á)):T:=match o with
 | none=>.zA
 | some r=>zt r
def kx í:zi õ (Ã 0)=↑(Ę):=by simp[zB]
def Ej í:zi õ (Ã 1)=↑(Ñ Ã6):=by simp[zB]
def jW í:zi õ (Ã 2)=↑(Ñ Ç2):=by simp[zB]
def Xs {f g:Ķ}ý(h:f J=↑true):qo f g J=↑true:=Ñ8
def Iu {i j:Int}(h:pP i j):wA Ð5=↑(Ã (i*j)):=Î h
theorem C_ í ĺ Ú9:W4 [ß4,Ũ,Ã Ò0]=↑(kM (Ý2)):=by
 ext ŧ;have pre:∀ o,_->Og [Ë2,ñ,im (nT i),none,none,none]=o:=λ o h=>zy (ym (ZS Â6 rfl)) (zy (ym (zm È Ò7)) (zy (ym (zm È Ò7)) h));unfold ot;by_cases h1:ì8<0
 .rw[Î (ã6 h1)];show Ç3
 .have t1:∀ ß1 (g:Ķ),g Ź=↑b->qo (zO (zb xk è4 Ŋ)) g Ź=↑b:=Ö5;by_cases h2:ì9<0
  ext Á3
  ext Ø
def CG {a b:AD}ý{y:É T}(ha:a J=↑ ö) (hb:b J=y):pA a b J=y:=by
 change î7=_;rw[ha];show hb
def CF {a b:AD}ý(ha:a J=↑ À3):pA a b J=↑ À3:=by
 change î7=_;rw[ha];rfl
theorem Pw ħ{l:Ï}ř Ú9 (ht:w.t<Æ7) (hb:(Æ6).length<=10000):Zb [ß4,Ũ,Ã Ò0,rT l]=↑(.bl (xl F l q w)):=by
 have hw2:=jW F;have hi:Á6 Ç2 Ò0=↑(rP w):=Å4;have h2:=C_ F q hw;unfold xl;cases ho:Ý2 with
 | none=>rw[ho] at h2;show yf (zy (ym (zQ rfl h2)) (yS (CF È))) rfl
 | some r=>rw[ho] at h2;show yf (zy (ym (zQ rfl h2)) (yS (CG È (zQ (zr (zm rfl (zm (zm (zm À hw2) rfl hi) À) (eg l w.t ht)) rfl) (Px (Æ6) r hb))))) rfl
def rN í (s:Sl) ĺ ŷ:Á:=xt s.pu (ð-k*s.gv) (min (Õ1+k*s.gt) Ä3)
theorem av Ē:∀ Ŧ ř,Ð9->ð<n->∀ k:Nat,(mj F s n q)[k]?=Þ7
 | 0,q,h,hn,_=>by
  have:=(Ĕ h).1.1;lia
 | n+1,q,h,hn,0=>by
  have h':=Ĕ h;unfold mj rN;rw[zcL,Î (ā)];simp![Int.natCast_zero,Int.zero_mul,Int.sub_zero,Int.add_zero];rw[zcM h'.2.2,iW]
 | n+1,q,h,hn,k+1=>by
  have h':=Ĕ h;have e1:ä2:=ľ
  have e2:ŭ*s.gt=k*s.gt+s.gt:=ľ
  have k0:0<=Å*s.gt:=zb2 ⋯ hs.2;have k1:0<=Å*s.gv:=zb2 Ğ;unfold mj;rw[zbO];by_cases hg:s.gv<=ð
  .rw[Î hg];have hi:yQ F Ċ:=by
    ext Ù6
   rw[av hs n hi (by rw[og];lia) k,og];unfold rN;rw[og,mF,e1,e2];by_cases hk:Å*s.gv<=ð-s.gv
   .rw[Î hk,Î ⋯];congr 2
    .lia
    .lia
   .rw[ü hk,ü ⋯]
  .rw[ü hg,e1,ü ⋯];rfl
def Q5 í Ĝ:Á6 [î F.A,Ã F.B] (1-rV pu)=↑(Ã (F.yn (!pu))):=Đ
theorem B5 ħ{s:Sl}ř Ř(hk:k<=100):Zk [Ę,xZ s,Ũ,Ã Å]=↑(kM (Þ7)):=by
 have mu:∀ j,wA (nT k) (Ã j)=↑(Ã (k*j)):=λ j=>Iu (ã6 â);have pre:Æ3:=λ o h=>zy (ym È) (zy (ym (zm (zm À (fH q s.pu)) (zm rfl È (mu s.gv)) rfl)) h);by_cases h:Å*s.gv<=ð
 .rw[Î h];have p2:Æ3:=λ o g=>pre _ (zy (yA (z_ (zm À (Ë ë (zcQ ⋯)))) rfl) (zy (ym (zQ (zr (zm (zm rfl È (Yq q s.pu)) (zm rfl È (mu s.gt)) rfl) (zr (zm rfl È (Q5 F s.pu)) rfl)) ø6)) g));unfold rN;have t:=Ä4 (rV s.pu) 0 Ä;cases hpu:s.pu with
  | true=>rw[hpu] at p2 t;show yf (p2 _ (zy (yA (z_ (zm À t)) rfl) Ú4)) rfl
  | Ä=>rw[hpu] at p2 t;show yf (p2 _ (wI (xO (z_ (zm À t)) Ú4))) rfl
 .rw[ü h];show yf (pre _ (wI (xO (z_ (zm À (Ë ë (za3 ⋯)))) rfl))) rfl
def au í ē ĺ:ę[0]?=↑q:=by
 unfold x8;cases Ŭ with
 | none=>rfl
 | some s=>rfl
theorem B9 Ò Ă ł Ù Ř(hk:k<=100):dX [ß4,Ã ť,Ũ,Ã Å]=↑(kM ę[k]?):=by
 cases k with
 | zero=>
  rw[au];unfold dX WY kM zt;simp[Ä4]
 | succ k=>
  have hk0:¬ (Å+1=0):=⋯;have h1:=Pq F ű ok.s8;have hw0:=kx F;unfold x8;cases hs:Ŭ with
  | none=>
   rw[hs] at h1;have i1:qQ Ä .zA .zA=↑ ö:=rfl;unfold dX WY;generalize dJ=f1,Zk=f2,ß4=fl,Ũ=pq at *;simp[Ä4,hk0,h1,i1,kM]
  | some s=>
   rw[hs] at h1;have hs':=Ø2;have hgv:ð<20:=by
    have:=Ĕ hq;have:Ĵ<=12:=Ā
    lia
   have h2:=B5 (F:=F) (s:=s) (q:=q) (k:=k+1) hk;rw[<- av hs' 20 hq ⋯] at h2;have e0:zS Ä (Ã ŭ) (Ã 0)=↑ À3:=(Ä4 Œ Ä).trans (Ë ë (show Ð (ŭ=0)=Ä from zcQ ⋯));show yf (zy (yA (z_ (zm À e0)) rfl) (zy Ì4 (zy Ü0 (yS (zQ (zr (zm À (kx F)) rfl) h2))))) rfl
def pQ í ē:List (Wy×Nat):=F.ws.zipIdx.filter Ï1
def cw ħ Ă{wi:Wy×Nat}(h:wi∈ é6):F.ws[wi.2]?=↑wi.1/\wi.1.f=p:=by
 let#[h1,h2]:=õ1 h;show#[zcP.mp h1,ċ h2]
def Vf ħ Ă(t:Wy->Bool):(é6).any (λ wi=>t wi.1)=ï0 t:=by
 unfold jB;rw[<- cq (λ w=>Ð (ç6)) F.ws 0,zbQ];rfl
theorem Ql ħ{s:Sl}:∀ Ŧ ĺ,(mj F s n q).length<=n+1
 | 0,q=>by unfold mj;simp
 | n+1,q=>by
  unfold mj;rw[zC0];split
  .have:=Ql n (F:=F) (s:=s) Ċ;lia
  .simp
def Dy í ē ĺ:(ó0).length<=21:=by
 unfold x8;cases Ŭ with
 | none=>simp
 | some s=>show Ql 20 q
structure Fix í (l:Ï):Prop where
 ok:F.Ok
 len:Æ7=Â
 gd:∀ b∈l,Ñ9
 pw:Ç8
 go:∀ p<Â,∀ q,Ð9->zZ (l.getD Ŀ) q=kZ æ0 q
section
variable {ħ}{l:Ï}
def Fix.sz (X:Fix F l):∀ b∈l,Í8<=10000:=λ b hb=>by
 have:=(X.gd b hb).ph X.ok.a0;have:=X.ok.a1;lia
def Yy Ă ł:Á6 Ã6 ť=↑(kt (Ú)):=qf (by rw[A9,zB1,zA1 hp];rfl)
theorem HA ß1:zS true (kt b) ś=↑(.bl (!b)):=by
 have h:(("taker":Str) == Ä5)=Ä:=()
 cases b
 .change zS true (í4) ś=_;simp[zS,dep,eqT,h]
 .change zS true ś ś=_;ext Ô4
end
def El Ò (hpw:Ç8) {m:Nat}(hg:∀ b∈ Ų,Ñ9) (A5:zT F (m+1)=Ų):Fix F (Ų):=by
 exact#[ok,gk F m,hg,hpw,λ p hp q hq=>?_];have hg':∀ p,Gd ĝ ((Ų).getD Ŀ):=λ p=>by
  rcases za8 p (Ų).length with h | h
  .rw[zB1,zA1 h];show hg _ (zD8 h)
  .rw[zB1,zbI h];show Gd.nil
 have e:(Ų).getD Ŀ=xu F (Ų) p:=by
  have:(zT F (m+1)).getD Ŀ=xu F (Ų) p:=kr (λ p=>xu F (Ų) p) Â Ŀ hp;rw[A5] at this;show this
 rw[e];show Y7 ok hg' p hq
def o8 Ô3:T:=Í (told.map rT)
def xc Ô3 ē ĺ:É Nat:=(á8).find? λ k=>! Õ2
def ag (o:É Nat):T:=match o with
 | some k=>Ã Å
 | none=>.zA
theorem Py Ô3 (n p:Nat) ĺ (hn:∀ r∈told,ò9=n) (hb:∀ r∈told,∀ b∈r,Í8<=100) (hp:p<n):Zj [o8 told,Ã p,Ũ]=↑(ag (xc told p q)):=by
 have hl:=jN (is:=[3,4]) (g:=o7 2 (rY (zJ 3) (rY (zJ 4) nR))) (b:=QJ) (ð3) (λ k:Nat=>î Å) (λ k=>! Õ2) â8 (á8) â8 rfl λ k hk=>by
  have hk':=ó5;have hm:ŋ ∈told:=by rw[zB1,zA1 hk'];show zD8 hk'
  have hlen:p<(ŋ).length:=by rw[hn _ hm];show hp
  have e2:=Px ((ŋ).getD Ŀ) q (by have:=hb _ hm _ (getD_mem hlen);lia);exact#[[im (o8 told),ì,ñ,Ó8,im (rT (ŋ))],rfl,?_];cases hc:Õ2 with
  | true=>rw[hc] at e2;show nI rfl (yA Ñ5 rfl)
  | Ä=>rw[hc] at e2;show nI rfl (xO Ñ5 rfl)
 have he:jh [o8 told]=↑((á8).map ð3):=by
  have:=Xt rT [] told told 0 λ i=>by rw[zaR]
  simp![zaR] at this;change ↑(jg 0 (told.map rT))=_;rw[this]
 unfold xc;cases ho:(á8).find? λ k=>! Õ2 with
 | none=>rw[ho] at hl;show yf (zy (qy he hl) rfl) rfl
 | some k=>rw[ho] at hl;show yf (wI (qy he hl)) rfl
structure lF í (m:Nat):Prop where
 fx:Fix F (Ų)
 gd:∀ k,k<=m->∀ b∈ Ó3,Ñ9
def y9 í (m:Nat):À1:=(Ì (m+1)).map (zT F)
section
variable {ħ}{m:Nat}
def ZA í (m:Nat):(Ŷ).length=m+1:=by unfold y9;simp
def ZC Ř(h:k<=m):(Ŷ).getD k []=Ó3:=kr (zT F) (m+1) k [] ⋯
def lF.Xj (R:lF F m) Ř(hk:k<=m) ē:Gd ĝ Ţ:=by
 rcases za8 p (Ó3).length with h | h
 .rw[zB1,zA1 h];show R.gd k hk _ (zD8 h)
 .rw[zB1,zbI h];show Gd.nil
theorem jY Ă ř Ř(h:ø7):k<=m/\zZ Ţ q=Ä:=by
 unfold xc at h;have h1:=A8.mp (zaN h);rw[ZA] at h1;have h2:=zcN h;rw[ZC ⋯] at h2;show#[⋯,by exists h2]
theorem R6 Ă ř Ř(hk:k<=m) (h:zZ Ţ q=Ä):∃ j,j<=k/\ç=↑j:=by
 unfold xc;cases ho:(Ì (Ŷ).length).find? (λ k=>!zZ (((Ŷ).getD k []).getD Ŀ) q) with
 | none=>
  rw[zc2] at ho;have:=ho k (A8.mpr (by rw[ZA];lia));rw[ZC hk,h] at this;show Ū rfl this
 | some j=>
  exact#[j,?_,rfl];rcases za8 k j with hj | hj
  .have:=(List.find?_range_eq_some.mp ho).2.2 k hj;rw[ZC hk,h] at this;cases this
  .show hj
def EL Ă ř(h:ç=none) Ř(hk:k<=m):zZ Ţ q=true:=by
 cases hc:zZ Ţ q with
 | true=>rfl
 | Ä=>
  let#[j,_,hj]:=R6 hk hc;rw[h] at hj;cases hj
def eV Ă ł Ù:ç ≠↑0:=λ h=>by
 let#[_,h2]:=jY h;have e1:(zT F 0).getD Ŀ=qg:=by
  change (ī F).getD Ŀ=qg;unfold ī;ext â2
 rw[e1,Qc.mpr #[hq.1.1,hq.2.1]] at h2;cases h2
def Nn:Á6 ((Ŷ).map rT) (-1)=↑(rT (Ų)):=by
 unfold y9;rw[List.range_succ,zE7,zE7];show QO
def Np Ř(h:k<=m):Á6 ((Ŷ).map rT) Å=↑(rT (Ó3)):=qf (by
 unfold y9;rw[A4,A9,zcF ⋯];rfl)
theorem Z9 (R:lF F m):(∀ r∈ Ŷ,ò9=Â)/\∀ r∈ Ŷ,∀ b∈r,Í8<=100:=by
 ext š
 .intro r hr;let#[k,hk,rfl]:=Ľ hr;show gk F k
 .intro r hr b hb;let#[k,hk,rfl]:=Ľ hr;have:=ó5;have h1:=(R.gd k ⋯ b hb).ph R.fx.ok.a0;have:=R.fx.ok.a1;lia
theorem Bo (R:lF F m) Ă ł Ù (ho:Ú=Ä):∃ o:É Nat,W2 [ß4,Ã ť,Ũ,o8 (Ŷ)]=↑(ag o)/\(ç=none->o=none)/\∀ k,ø7->∃ (i:Nat) (w:Wy),o=↑i/\Å0:=by
 have h1:=Py (Ŷ) Â p q (Z9 R).1 (Z9 R).2 hp;cases hd:ç with
 | none=>rw[hd] at h1;show#[none,é2,è0,ñ1]
 | some k=>
  rw[hd] at h1;ext İ;have oX:=R.fx.ok.oX;have ha:(é6).any (Ã0)=true:=by
   ext Ê3;rw[e,Y7 R.fx.ok (R.Xj hjm) p hq] at k2;unfold kZ at k2;rw[ü (by rw[ho];decide)] at k2;rw[Vf (λ v=>!xl æ6 q v),<- List.not_all_eq_any_not,k2];rfl
  have hc:Qv [Ë2,ì,ñ,im (o8 (Ŷ)),im (nT (j+1))]=↑(Í (((é6).filter Ã0).map ó3)):=
   jS é3 (Ã0) (ó3) (é6) Ż λ wi hw=>by
    have q1:=(cw hw).1;show#[_,rfl,m8 (qB (zQ (zr rfl (zr rfl (zr rfl (zr (zm rfl (zm À (Ë Ş (show Ě-1=j by lia))) (Np hjm)) rfl)))) (Pw q1 (by rw[gk];show (R.fx.ok.ws wi.1 (zB7 q1)).2) (by have:=(R.Xj hjm wi.1.t).ph R.fx.ok.a0;have:=R.fx.ok.a1;lia)))),rfl]
  cases hwl:(é6).filter (Ã0) with
  | nil=>
   rw[List.filter_eq_nil_iff] at hwl;let#[wi,a1,a2]:=zD0.mp ha;show Ū a2 (hwl wi a1)
  | cons wi rest=>
   let#[m1,m2]:=õ1 (show wi∈(é6).filter _ by rw[hwl];show AU);let#[g1,g2]:=cw m1;rw[hwl,AR] at hc;show#[↑wi.2,yf (zy Ì4 (zy (yA Ü4 rfl) (yS (zm hc rfl (by simp[ag]))))) rfl,ñ1,λ k hk=>by cases hk;show#[wi.2,wi.1,rfl,g1,g2,by exists m2]]
end
def mM í (l:Ï) ē:Nat->ï->É (Nat×Nat)
 | _,[]=>none
 | k,r::cs=>match Ć with
  | some wi=>↑(k,wi.2)
  | none=>mM æ0 ä1 cs
def dT (o:É (Nat×Nat)):T:=match o with
 | none=>.zA
 | some x=>Ñ [Ã (x.1:Int),Ã (x.2:Int)]
theorem RE ħ{l:Ï}Ă:∀ {cs:ï}Ř{x:Nat×Nat},mM æ0 k cs=↑x->k<=x.1/\∃ r w,cs[x.1-k]?=↑r/\F.ws[x.2]?=↑w/\ç6/\xl F l r w=true
 | [],k,x,h=>by cases h
 | r::cs,k,x,h=>by
  unfold mM at h;cases ho:Ć with
  | some wi=>
   rw[ho] at h;cases h;let#[h1,h2]:=cw (zaN ho);show#[AM _,r,wi.1,#[],h1,h2,by exists zcN ho]
  | none=>
   rw[ho] at h;let#[h1,r',w,h2,h3]:=RE h;exact#[⋯,r',w,?_,h3];rw[show x.1-k=(x.1-ä1)+1 by lia,zbO];show h2
theorem RF ħ{l:Ï}Ă:∀ {cs:ï}Ř,(cs.any λ r=>ï0 (xl F l r))=true->∃ x,mM æ0 k cs=↑x
 | [],k,h=>by cases h
 | r::cs,k,h=>by
  unfold mM;cases ho:Ć with
  | some wi=>show Ý3
  | none=>
   exact RF ?_;rw[zaA,<- Vf,zE6] at h;rcases h with h | h
   .rw[zc2] at ho;let#[wi,h1,h2]:=zD0.mp h;show Ū h2 (ho wi h1)
   .show h
abbrev ia í (l:Ï) ē ĺ ŷ (r:T):Ev:=[Ë2,ì,ñ,im (rT l),im (Í ((é6).map ó3)),Ó8,im r,none]
section
variable {Ò}{l:Ï}(hl:Æ7=Â)(hb:∀ b∈l,Í8<=10000) {Ă}{ř}
include ok hl hb
theorem Dc {r:Á}Ř:wC [7] (zJ 7) XZ ((é6).map ó3) (Ž)=↑(match Ć with | some wi=>.rt (Ñ [nT k,nT wi.2]) | none=>.nx (Ž)):=
 (jN (is:=[7]) (g:=zJ 7) (b:=XZ) é3 (λ wi=>Ñ [nT k,nT wi.2]) (λ wi=>xl F l r wi.1) (Ž) (é6) (Ž) rfl λ wi hw=>by
  let#[h1,h2]:=cw hw;have ht:wi.1.t<Æ7:=by rw[hl];show (ok.ws wi.1 (zB7 h1)).2
  have h3:=Pw (F:=F) (q:=r) h1 ht (hb _ (getD_mem ht));cases hc:xl F l r wi.1 with
  | true=>rw[hc] at h3;show#[Ž,rfl,nI rfl (xO (qB (zQ rfl h3)) Ú4)]
  | Ä=>rw[hc] at h3;show#[(Ž).set 7 (im (nT wi.2)),rfl,nI rfl (yA (qB (zQ rfl h3)) rfl)]).trans (by cases Ć <;> rfl)
theorem RD ł (hq:Ð9):∀ (cs:ï) (k m:Nat),(ó0).drop k=cs->k+cs.length<=21->cs.length<m->
  ∃ J',pY [7] (zO (zb (qQ true) (zc 6) (cS .zA))) QG m (ia æ0 q k (kM ę[k]?))=↑(match mM æ0 k cs with | some x=>.rt (dT ↑x) | none=>.nx J')
 | [],k,m+1,h,_,_=>by
  have:=Ë ė h;simp at this;rw[zbI ⋯];show#[_,bF Ü4]
 | r::cs,k,m+1,h,hk,hm=>by
  have hr:ę[k]?=↑r:=by
   have:=Ë (λ x=>x[0]?) h;exists this
  have hd:(ó0).drop ä1=cs:=by
   have:=Ë List.tail h;rw[List.tail_drop] at this;exists this
  rw[zC0] at hk hm;have hf:=Dc ok hl hb (p:=p) (q:=q) (k:=k) (r:=r);rw[hr];unfold mM;cases ho:Ć with
  | some wi=>rw[ho] at hf;show#[[],IX Ü4 (wI (qy rfl hf))]
  | none=>
   rw[ho] at hf;let#[J',e]:=RD î1 cs ä1 m hd Ğ;show#[J',bE Ü4 (zy (qy rfl hf) (zy (ym È) (ym (zQ rfl (B9 ok î1 (k:=k+1) ⋯))))) e]
theorem B4 ł (hq:Ð9):WK [ß4,Ã ť,Ũ,rT l]=↑(dT (mM æ0 0 ę)):=by
 have hl21:=Dy ò0;let#[J',hw]:=RD ok hl hb î1 ę 0 1000000 rfl Ğ;rw[au] at hw;have pre:∀ o,_->O1 [Ë2,ì,ñ,im (rT l),none,none,none,none]=o:=λ o h=>zy (ym (zQ rfl (W0 F ű ok.oX))) (zy (ym rfl) (zy (ym rfl) h));cases hd:mM æ0 0 ę with
 | some x=>rw[hd] at hw;show yf (pre _ (wI hw)) rfl
 | none=>rw[hd] at hw;show yf (pre _ (zy hw rfl)) rfl
end
end zY.V
namespace zY.V
open PySem L2 L3 L5 RN SJ
theorem Bf (A B:Int) ĺ (h:ë2):kG [Ũ,Û1]=↑ ö:=by
 have hc:gK [↑(.im (Ũ)),↑(.im (Û1))]=↑(Í ([(q.1,A),(q.2,B)].map λ x:Á=>T.bl true)):=by
  unfold gK;exact rg (λ x:Á=>Ö0 [Ã x.1,Ñ [Ã 0,Ã x.2]]) _ [(q.1,A),(q.2,B)] (by simp[zt]) #[] λ x hx=>?_;have hx':0<=x.1/\x.1<=x.2:=by
   simp![AL,List.mem_nil_iff,or_false] at hx;rcases hx with rfl | rfl
   .show h.1
   .show h.2
  simp[aY,hx']
 unfold kG Zp;have it:rh "tuple" "tuple"=true:=()
 generalize gK=cc at *;simp[zt] at hc;simp[zt,it,Ä4,hc,mR]
def WL í ĺ (h:Ä2):dU [ß4,Ũ]=↑.zA:=
 UW (yA (m8 (qB (zQ (zr rfl (zr (qt (zr Ø7 (zr Ø7 rfl)) (ċ rfl)) rfl)) (Bf ĝ q h)))) rfl) rfl
def iY ĺ:Prop:=(0<=q.1/\q.1<=12)/\0<=q.2/\q.2<=12
def iY.n1 ř(h:iY q):Nm q.1:=#[by have:=h.1.1;lia,by have:=h.1.2;lia]
def iY.n2 ř(h:iY q):Nm q.2:=#[by have:=h.2.1;lia,by have:=h.2.2;lia]
section
variable {Ò}{Ą}{Ă}{ł}
def bu ř(ok:F.Ok) (h:Ð9):iY q:=#[#[h.1.1,Int.le_trans h.1.2 ok.a1],h.2.1,Int.le_trans h.2.2 ok.b1]
include hr in
theorem BD:WM [ß4]=↑(rT (Ų)):=yf (yS (zm (x:=o8 (Ŷ)) (y:=Ã (-1)) (zQ rfl hr) rfl Nn)) rfl
include ok hr R hp
theorem Bw Ù:WH í8=↑(ag (ç)):=by
 have h:=Z9 R;show yf (zy Ö6 (zy Ò4 (yS (zQ (zr (zQ rfl hr) rfl) (Py (Ŷ) Â p q h.1 h.2 hp))))) rfl
def oh:É Nat->Str
 | none=>"ever"
 | some k=>Ĺ
include hm in
theorem CA Ù:cj [Ħ]=↑(Ê (oh (ç))):=by
 have h:=Bw æ7 hq;have hd:∀ k,ø7->k<=m:=λ k hk=>(jY hk).1;have pre:∀ o,_->O4 [im (Ħ),none]=o:=λ o g=>zy (ym (zQ Ã7 h)) g;cases e:ç with
 | none=>rw[e] at pre;show yf (pre _ (yS (SD À))) rfl
 | some k=>
  rw[e] at pre;have:=hd k e;show yf (pre _ (yS (bN rfl (Ä8)))) rfl
theorem Bx (hk:Ú=true) Ù:WI í8=↑(dT (mM F (Ų) p 0 ę)):=by
 have h:=B4 ok (l:=Ų) (gk F m) R.fx.sz î1;have ho:é7=↑(kt true):=by rw[<- hk];show Yy hp
 show yf (zy Ö6 (zy Ò4 (zy (yA (z_ (zm Ô6 (HA true))) rfl) (yS (zQ (zr rfl (zr rfl (zr rfl (zr (zQ rfl (BD hr)) rfl)))) h))))) rfl
end
def eC (x:Str) (ss:Ó) (neg:Bool):qm neg (Ê x) (Í å3)=↑(.bl (cond neg (!(ß6)) (ß6))):=by
 have hd:∀ ss:Ó,xn å3<=60:=e_ Ü 60 (λ _=>by simp[dep]);have ha:∀ ss:Ó,((ss.map Ü).any λ t=>eqT t (Ê x))=ß6:=λ ss=>by
  rw[zbQ];congr 1
 unfold qm;change (if dep (Ê x)<=60/\xn å3<=60 then _ else _)=_;rw[Î #[by simp[dep],hd ss],ha]
def kn Ŧ:Ó:=(Ì n).map λ Ŏ=>Ĺ
theorem TY å9{x:Int}(h0:0<=x) (h1:x<n):((kn n).any λ s=>Ð (s=num x))=true:=by
 exact ì6 #[num x,Ó2 #[x.toNat,ì3,by rw[zF2 h0]],za3 rfl]
theorem TX Í5{e:AD}ý å9 À5 ê5 ð9 (hf:∀ k:Nat,k<n->∃ J',g (nT k) ø1=↑J'/\f J'=↑(Ê (Ĺ))):y_ pick (xN pU (za e zh)) g xP f J=↑(Í ((kn n).map Ü)):=by
 unfold kn;rw[A4];exact rg (Ù4) _ (Ì n) ?_ (by rw[zC5];lia) ß0
 .ext đ
 .let#[J',h1,h2]:=hf k (ó5);show kX h1 h2
theorem CZ í ĺ Ú9:Zd [ß4,Ũ,Ã Ò0]=↑(kM (Ý2)):=by
 ext ŧ;have pre:∀ o,_->Ou [Ë2,ñ,im (nT i),none,none]=o:=λ o h=>zy (ym (zm È (zm Â6) rfl)) (zy (ym (zm È (zm Â6) rfl)) h);unfold ot;by_cases h1:ì8<0
 .rw[Î (ã6 h1)];show Ç3
 .have t1:∀ ß1 (g:Ķ),g Å9=↑b->qo (zO (zb xk Ó4 Ŋ)) g Å9=↑b:=Ö5;by_cases h2:ì9<0
  ext Á3
  ext Ø
theorem Yc {e:AD}ý å9 ð9:xN pU (za e zh) J=↑((Ì n).map Ù4):=by
 ext đ
def NV ħ Ă{s:Sl}(h:Ŭ=↑s):∃ r,É0 (ď)=s::r:=by
 have e:=List.head?_filter (l:=F.ss) (p:=ď);unfold zC.stall at h;rw[h] at e;cases hf:É0 (ď) with
 | nil=>rw[hf] at e;cases e
 | cons a r=>rw[hf] at e;show#[r,by rw[zD5 e]]
def Co í ē (hl:õ4) ý:Q1 (Ë2::ì::J)=↑(Í ((É0 ď).map xZ)):=
 jS xZ (ď) xZ F.ss rfl ⋯ λ s _=>#[_,rfl,z_ (zm Ò7 (Xq s.p p)),rfl]
def Tv (s:Sl) (r:List Sl):zS Ä (Í ((s::r).map xZ)) (Í [])=↑ À3:=by
 have h:=e_ xZ 10 (λ x=>by simp[xZ,dep,xn]) (s::r);unfold zS;rw[Î #[by simp![dep];lia,by simp[dep,xn]]];simp[eqT,qd]
abbrev ls (r:Á):Ý:=[Ã r.1,Ã r.2]
def HV Ĝ:qc 2 (rV pu)=↑(cond pu 1 0):=Đ
def HU Ĝ:qc 2 (1-rV pu)=↑(cond pu 0 1):=Đ
def Mv Ĝ (r:Á) (z:Int):(ls r).set (cond pu 1 0) (Ã z)=ls (xt pu z (yU pu r)):=Đ
def Mt Ĝ (r:Á) (z:Int):(ls r).set (cond pu 0 1) (Ã z)=ls (xt pu (zW pu r) z):=Đ
abbrev xW í ē ĺ ŷ (ss:List Sl) (r:Á) (x y:Ì2):Ev:=[Ë2,ì,ñ,Ó8,↑(ō (Í (ls r))),im (Í (ss.map xZ)),x,y]
def Sg (x:T) (xs:Ý):zi (Í (x::xs)) (Ã 0)=↑x:=by change Á6 (x::xs) 0=↑x;unfold Á6 L2.qc;simp
def Dz ħ Ă ř{k j:Nat}æ1(hs:0<=s.gt) (h:Ě*s.gv<=ð):
  å5=↑(.nx ø8):=by
 have e1:î5=ð-j*s.gv:=og Œ _;have e2:yU s.pu ŗ=min (Õ1+j*s.gt) Ä3:=mF Œ _;have hm:Ě*s.gv=j*s.gv+s.gv:=Þ4
 have hm2:Ě*s.gt=j*s.gt+s.gt:=Þ4
 have AZ:¬ î5<s.gv:=by rw[e1];lia
 have en:rN F s q (j+1)=xt s.pu (î5-s.gv) (min (yU s.pu ŗ+s.gt) Ä3):=by
  rw[e1,e2];unfold rN;rw[hm,hm2];congr 1 <;> lia
 rw[en];generalize rN F s q j=r at *;have a0:∀ r' y,zb zi è3 Ŋ Ó9=↑(xZ s):=λ r' y=>zm À (Sg Œ);have a1:Þ1:=zm (y:=à2) rfl (zm (a0 r none) À) (fH r s.pu);have a2:∀ r' y,zb ô Ø4 Ó9=↑(Ã s.gv):=λ r' y=>zm (a0 r' y) À;have a3:∀ r' y,zb ô (cI 3) Ó9=↑(Ã s.gt):=λ r' y=>zm (a0 r' y) À;have a4:∀ r',zb qj Ŗ (zc 7) (xW à r' Ģ)=↑(Ã (1-rV s.pu)):=λ r'=>zm À rfl;ext î2;have t1:Í0=↑ Ä:=z_ (zm a1 (a2 r none) (Ë ë (zcQ AZ)));have v1:zb qj (zb zi è4 (zc 7)) (zb ô Ø4) (xW à r Ģ)=↑(Ã (õ5-s.gv)):=zm (zm À (fH r s.pu)) (a2 r _) rfl;have p1:=YH (n:=4) v1 (f:=zc 7) À (HV s.pu);rw[Mv] at p1;have hgt:yU s.pu Ō=yU s.pu r:=mF Œ _;have hgv:zW s.pu Ō=õ5-s.gv:=og Œ _;have v2:zo oM (za (zb yg (zb zi è4 (zb qj Ŗ (zc 7))) (zb ô (cI 3))) (za (zb zi (zb zi ų Ŋ) (zb qj Ŗ (zc 7))) zh)) (xW à Ō Ģ)=↑(Ã (min (yU s.pu r+s.gt) Ä3)):=by
  have u1:=zm (f:=zi) (fa:=zc 4) (J:=xW à Ō Ģ) rfl (a4 _) (Yq _ s.pu);rw[hgt] at u1;show zQ (zr (zm u1 (a3 Œ) rfl) (zr (zm (zm À (kx F)) (a4 _) (Q5 F s.pu)) rfl)) ø6
 have p2:=YH (n:=4) v2 (a4 _) rfl (HU s.pu);rw[Mt,hgv] at p2;show nI rfl (zy (yA (nN t0 t1) rfl) (zy (ym (zm (a0 r none) À)) (zy p1 p2)))
def DI ħ{s:Sl}Ù:rN F s q 0=q:=by
 have h:=(p_ (pu:=s.pu)).mp hq;unfold rN;rw[show é8*s.gv=0 by simp,show é8*s.gt=0 by simp,Int.sub_zero,Int.add_zero,zcM h.2.2,iW]
def DA ħ Ă ř{k j:Nat}æ1(h:¬ Ě*s.gv<=ð):
  å5=↑(.rt .zA):=by
 have e1:î5=ð-j*s.gv:=og Œ _;have hm:Ě*s.gv=j*s.gv+s.gv:=Þ4
 have AZ:î5<s.gv:=by rw[e1];lia
 generalize rN F s q j=r at *;have a0:zb zi è3 Ŋ ć=↑(xZ s):=zm À (Sg Œ);have a1:Þ1:=zm (y:=à2) rfl (zm a0 À) (fH r s.pu);have a2:zb ô Ø4 ć=↑(Ã s.gv):=zm a0 À;ext î2;have t1:Í0=↑true:=z_ (zm a1 a2 (Ë ë (za3 AZ)));show nI rfl (wI (xO (nN t0 t1) rfl))
theorem Qk ħ Ă ř Ř æ1(hs:ñ0):∀ (n j:Nat),(j:Int)*s.gv<=ð->
  wC [6,7] (zJ 6) gL ((List.range' j n).map Ù4) (xW à ŗ Þ)=↑(if ((j+n:Nat):Int)*s.gv<=ð then .nx (xW à (rN F s q (j+n)) Þ) else .rt .zA)
 | 0,j,h=>by rw[Nat.add_zero,Î h];rfl
 | n+1,j,h=>by
  rw[zc7,AR,jO];change (turn Œ _ (xW à ŗ Þ)).bind _=_;by_cases hc:Ě*s.gv<=ð
  .rw[Dz hs.2 hc];change wC Œ Œ ø8=_;have ih:=Qk (F:=F) (k:=k) (p:=p) (ss:=ss) hs n (j+1) hc;rw[show j+1+n=j+(n+1) by lia] at ih;rw[<- ih];cases n <;> rfl
  .rw[DA hc];have:Ě*s.gv<=((j+(n+1):Nat):Int)*s.gv:=Int.mul_le_mul_of_nonneg_right Ğ;rw[ü ⋯];rfl
theorem Pz Ò Ă Ù Ř(hk:k<=13):i9 [ß4,nT p,Ũ,nT k]=↑(kM ę[k]?):=by
 have hmin:∀ y,zo oM (za Ó4 (za (cI 14) zh)) [Ë2,ì,ñ,Ó8,y,im (Í ((É0 ď).map xZ)),none,none]=↑(nT k):=λ y=>zQ Ł (Ë Ş (ü ⋯));have fin:∀ r x y,retS (tupS (za (zb zi è4 Ŋ) (za (zb zi è4 Ŗ) zh))) (xW ò0 k (É0 ď) r x y)=↑(.rt (zt r)):=λ r x y=>yS (qt (zr È (zr Ò7)) å);have hl:wC [6,7] (zJ 6) gL ((Ì k).map Ù4) (xW ò0 k (É0 ď) q Þ)=↑(match ę[k]? with | some r=>.nx (xW ò0 k (É0 ď) r Þ) | none=>.rt .zA):=by
  unfold x8;cases hs:Ŭ with
  | none=>
   have hf:É0 (ď)=[]:=by
    unfold zC.stall at hs;rw[zc2] at hs;show List.filter_eq_nil_iff.mpr hs
   rw[hf];cases k with
   | zero=>rfl
   | succ k=>
    rw[List.range_eq_range',zc7,AR,jO];change (turn Œ _ (xW ò0 ä1 [] q Þ)).bind _=_;have t0:zO Ö7 (xW ò0 ä1 [] q (im (nT 0)) none)=↑true:=z_ È;rw[show turn (zJ 6) gL (nT 0) (xW ò0 ä1 [] q Þ)=↑(.rt .zA) from nI rfl (wI (xO (Xs t0) rfl))];rfl
  | some s=>
   let#[rest,hf]:=NV hs;have hs':=Ø2;have hb:=Ĕ hq;have hgv:ð<20:=by
    have:Ĵ<=12:=Ā
    lia
   ext Û2;rw[hf,av hs' 20 hq hgv,List.range_eq_range'];have h0:=Qk (F:=F) (p:=p) (q:=q) (k:=k) (ss:=rest) hs' k 0 (by rw[show é8*s.gv=0 by simp];show hb.1.1);rw[DI hq,zaR] at h0;rw[h0];split <;> rfl
 have pre:∀ o,_->Ox [Ë2,ì,ñ,Ó8,none,none,none,none]=o:=λ o h=>zy (Wa rfl) (zy (ym (Co F p ok.s8)) h);cases e:ę[k]? with
 | none=>rw[e] at hl;show yf (pre _ (wI (qy (Yc ⋯ (hmin _)) hl))) rfl
 | some r=>rw[e] at hl;show yf (pre _ (zy (qy (Yc ⋯ (hmin _)) hl) (fin r Þ))) rfl
theorem Th ŷ:(∀ c∈L (Ĺ),48<=c/\c<=57)/\L (Ĺ)≠[]:=by
 have e:L (Ĺ)=(Nat.toDigits 10 k).map Char.toNat:=PySem.W.KIN.signs_num k;rw[e];exact#[λ c hc=>?_,λ h=>?_]
 .let#[ch,h1,rfl]:=Ľ hc;have h2:=Nat.isDigit_of_mem_toDigits () () h1;simp![Char.isDigit,zE5,ê] at h2;show#[h2.1,h2.2]
 .have h1:=toDigits_len_ge 10 k;rw[List.map_eq_nil_iff.mp h] at h1;show Ū h1 ()
theorem Tg Ř(h:k≠0) (hk:k<=100000):((["ever","0",""]:Ó).any λ s=>Ð (s=Ĺ))=Ä:=by
 rw[zbC];intro s hs;rw[ê];intro e;subst e;rcases ç5 hs with z | hs
 .have h1:=(Th k).1 101 (by rw[z];decide);lia
 .rcases ç5 hs with z | hs
  .have h1:=Â9 (n:=Å) Ğ;have h2:=Â9 (n:=0) Ğ;have z':Ĺ=num 0:=z.trans ();have e:Ê0 (Ĺ)=Ê0 (num 0):=Ë _ z';have h3:↑ Å=↑0:=h1.symm.trans (e.trans h2);have h4:=zD5 h3;lia
  .have z:=Ð8 hs;show (Th k).2 (by rw[z];decide)
theorem bg į(f:α->T) (h:∀ x,á6 (f x)=true):∀ xs:ů,qC (ç8 f)=true
 | []=>rfl
 | x::xs=>by change (á6 (f x)&&qC (ç8 f))=true;rw[h x,bg f h xs];rfl
def fK í:á6 õ=true:=by
 change (á6 (Ę)&&(qC Ã6&&(qC Ç2&&(qC (F.ss.map xZ)&&true))))=true;rw[bg kt (λ b=>by cases b <;> rfl),bg rP (è0),bg xZ (è0)];rfl
def TV ß1:zS Ä (kt b) ś=↑(.bl b):=by
 cases b <;> rfl
theorem DC Ò Ă{q r:Á}(hq:Ð9) Ř(h:ę[k]?=↑r):k<=12:=by
 unfold x8 at h;cases hs:Ŭ with
 | none=>
  rw[hs] at h;cases k with
  | zero=>lia
  | succ k=>cases h
 | some s=>
  rw[hs] at h;have hs':=Ø2;have hb:=Ĕ hq;have hbr:Ĵ<=12:=Ā
  dsimp only at h;rw[av hs' 20 hq ⋯] at h;split at h
  .rename_i hc;have h1:Å*1<=Å*s.gv:=Int.mul_le_mul_of_nonneg_left hs'.1 ⋯;lia
  .cases h
def fg í (p k:Nat):Bool:=match F.ws[k]? with
 | some w=>Ð (ç6)
 | none=>Ä
def xD í ē:é:=(Ì Ű).filter (fg F p)
def Ig ħ{p k:Nat}(h:k∈xD F p):∃ w,F.ws[k]?=↑w/\ç6:=by
 let#[_,h2]:=õ1 h;unfold fg at h2;split at h2
 .rename_i w e;show#[w,e,ċ h2]
 .cases h2
def YD ħ{p k:Nat}{w:Wy}(h:F.ws[k]?=↑w) (hf:ç6):k∈xD F p:=by
 exact õ2 #[A8.mpr (zA2.mp h).1,?_];unfold fg;rw[h];show za3 hf
def Y5 ħ Ă(hl:Ű<=60) (f:AD) (out:Nat->T) Í5 ý{fi:Nat}(h0:zc fi J=↑ õ) (hpk:∀ k:Nat,(zJ 0) (nT k) ø1=↑[Ó8,Ë2,ì]) (hf:∀ k:Nat,k<Ű->f [Ó8,Ë2,ì]=↑(out k)):
  y_ pick (xN pU (za (zo wD (za (zb zi (zc fi) Ø4) zh)) zh)) (zJ 0) (zO (zb Ì1 (zb zi (zb zi (zb zi Ø3 Ø4) ų) Ŋ) è1)) f J=↑(Í (ŝ out)):=by
 exact jS (Ù4) (fg F p) out (Ì Ű) (Yc ⋯ (yY (zm h0 rfl (jW F)) (Hj rP F.ws))) (by rw[zC5];lia) ß0;have hk':=ó5;have hw:F.ws[k]?=↑F.ws[k]:=zA1 hk';have hi:zi (Ñ Ç2) (nT k)=↑(rP F.ws[k]):=Å4;exact#[_,hpk k,z_ (zm (zm Â6) rfl ?_),hf k hk'];unfold fg;rw[hw];show Xq (F.ws[k]).f p
def gp Ř(h:k<=100000):mE [Ê (Ĺ)]=↑(nT k):=
 (Î (A7 (PySem.W.KT.len_num (n:=Å) Ğ) ())).trans (by rw[show Ê0 (Ĺ)=↑ Å from Â9 Ğ];rfl)
def EY {S:AG}{f y:T}ù2(h:S (Dk f::xs)=↑y):eX S (Dk f::xs)=↑y:=h
theorem HN {d:T}ú3 Ă ř(hw:Ö1<=8) (hp:p<=8) (hk:iY q):rS lu Â2 (za (xE ĕ) zh) [im d,im á3,ì,ñ]=↑(Ê (Ö " " Ĉ)):=by
 ext ã1;have s1:=oJ (n:=ť) â;have s2:=oJ (n:=q.1) â;have s3:=oJ (n:=q.2) â;have z1:=(qw (jL (n:=ť) Ğ)).1;have z2:=(qw hk.n1).1;have z3:=(qw hk.n2).1;have e:("fa":Str).length=2:=()
 have hl:xE ĕ [im d,im á3,ì,ñ]=↑(Í ((Ĉ:Ó).map Ü)):=
  fW (zr rfl (zr rfl (zr (yY rfl s1) (zr (yY È s2) (zr (yY È s3) rfl))))) (by change 5<=100;decide)
 exact oZ rfl (zr hl rfl) (YT (ps:=Ĉ) () ?_);ext Ð1
section
variable {Ò}{Ą}{Ă}{ł}(hw9:Ű<=13)
include ok hp in
theorem W8 Ù {w z:Str}(hw:Ö1<=8) (hz:kH [Dk õ,Ê (Ö " " Ĉ)]=↑(Ê z)):lL [Dk õ,Ê w,nT p,Ũ]=↑(Ê z):=by
 ext ú5;have hk:=bu ok hq;have h1:=hk.n1;have h2:=hk.n2;ext ã1;have hj:=HN (d:=Dk õ) (p:=p) hw ⋯ hk;have hz':eX kH [Dk õ,Ê (Ö " " Ĉ)]=↑(Ê z):=EY hz;show yf (yS (aw (zr rfl (zr hj rfl)) hz' rfl)) rfl
include ok hm R in
theorem EM Ă ł ř(hc:Ï4):ç=none:=by
 cases e:ç with
 | none=>rfl
 | some k=>
  have h1:=jY e;have hle:=Si ok k (m-k) ű q;rw[show k+(m-k)=m by lia,hc] at hle;rw[h1.2] at hle;show Ū (hle rfl) ()
include ok hr R hp
theorem CB (hk:Ú=true) Ù {x:Nat×Nat}(hx:mM F (Ų) p 0 ę=↑x) (h1:x.1<=13) (h2:x.2<=13):ck [Ħ]=↑(Ê (Î0++" "++Ç4)):=by
 have h:=Bx æ7 hk hq;rw[hx] at h;have h0:zk 1 [im (Ħ),im (Ñ [nT x.1,nT x.2])]=↑(Ñ [nT x.1,nT x.2]):=rfl;have z:=pB (pB (nP h0 (k:=0) rfl (jL (n:=(x.1:Int)) Ğ)) Ó6) (nP h0 (k:=1) rfl (jL (n:=(x.2:Int)) Ğ));show yf (zy (ym (zQ Ã7 h)) (yS (bN rfl z.1))) rfl
include hm in
theorem ZW Ù:lL [Dk õ,Ê "lasts",nT p,Ũ]=↑(Ê (oh (ç))):=by
 ext ú5;have hk:=bu ok hq;show W8 ok î1 () (M6 (fK F) â #[hk.1.1,by have:=hk.1.2;lia] #[hk.2.1,by have:=hk.2.2;lia] (CA Ì7 î1))
include hw9
theorem C5 (hk:Ú=true) ř(hin:Ð9) (hc:Ï4):∃ (a i:Nat) (r:Á) (w:Wy),à3=↑(Ì5)/\a<=13/\å6/\Ĭ/\ç6/\xl F (Ų) r w=true:=by
 ext ú5;have hkP:=bu ok hin;have hgo:=R.fx.go ű q hin;rw[hc] at hgo;unfold kZ at hgo;rw[Î hk] at hgo;let#[x,hx]:=RF (k:=0) hgo.symm;let#[_,r,w,h3,h4,h5,h6]:=RE hx;rw[Nat.sub_zero] at h3;have hx1:x.1<=12:=DC ok hin h3;have hx2:x.2<Ű:=(zA2.mp h4).1;have hsay:=W8 ok hp hin (w:="deed") () (M8 Ã1 (CB æ7 hk hin hx Ğ));have n1:Nm (x.1:Int):=jL Ğ;have n2:Nm (x.2:Int):=jL Ğ;have ej:Î0++" "++Ç4=Ö " " [Î0,Ç4]:=by
  ext ô8;rw[mD,pF,pF,zE8];rfl
 have hsp:ou [Ê (Î0++" "++Ç4),Ê " "]=↑(Í (([Î0,Ç4]:Ó).map Ü)):=by
  exact (fw () ?_).trans ?_
  .rw[È7,È7];have:=(qw n1).1;have:=(qw n2).1;have e:è6:=()
   lia
  .rw[ej,fy #[] (λ y hy=>by
    rcases ç5 hy with rfl | hy
    .show nQ n1
    .rw[Ð8 hy];show nQ n2)]
 have hc2:∀ W,XG Þ8=↑ Ë3:=Ü6;have hc3:∀ W,XC Þ8=↑(Í ă):=Ö8;have i1:qm true (Ê (Î0)) Ë3=↑ À3:=ë9 (by rw[TY Ğ];rfl);have i2:qm true (Ê (Ç4)) (Í ă)=↑ À3:=by
  ext Ô9;rw[show ((ŝ λ Ŏ=>Ĺ).any λ s=>Ð (s=Ç4))=true from ì6 #[_,Ó2 #[x.2,YD h4 h5,rfl],za3 rfl]];rfl
 exact#[x.1,x.2,r,w,?_,⋯,h3,h4,h5,h6];show yf (zy (yA (m8 (b:=true) ó6) (ym (oZ (zQ Û hsay) rfl hsp))) (zy Ê1 (zy ë5 (yS (qt (zr ñ8 (zr ñ8 rfl)) å))))) rfl
include ok hr R hp hw9
theorem C8 (hk:Ú=Ä) Ù Ř(hd:ø7):∃ (i:Nat) (w:Wy),cg [Ħ]=↑(Ê (num Ò0))/\Å0:=by
 let#[o,h1,_,h3]:=Bo R î1 hk;let#[i,w,rfl,h4,h5,h6]:=h3 k hd;have hi:i<Ű:=(zA2.mp h4).1;have ho:é7=↑(kt Ä):=by rw[<- hk];show Yy hp
 have ht:W3 í8=↑(nT i):=yf (zy Ö6 (zy Ò4 (zy (yA (z_ (zm Ô6 (TV Ä))) rfl) (yS (zQ (zr rfl (zr rfl (zr rfl (zr (zQ rfl hr) rfl)))) h1))))) rfl;have hc:W7 [nT i]=↑(Ê (num Ò0)):=yf (yS (bN rfl (Ä8))) rfl;show#[i,w,yf (yS (yY (zQ Ã7 ht) hc)) rfl,h4,h5,h6]
theorem C4 (hk:Ú=Ä) ř(hin:Ð9) Ř(hd:ø7):∃ (i:Nat) (w:Wy),ã0=↑(Ñ [nT 0,nT i])/\Å0:=by
 ext ú5;have hkP:=bu ok hin;let#[i,w,h1,h4,h5,h6]:=C8 æ7 hw9 hk hin hd;have hi:i<Ű:=(zA2.mp h4).1;have hsay:=W8 ok hp hin (w:="way") () (M4 Ã1 h1);have hc2:∀ W,XG Ú5=↑ Ë3:=Ü6;have hc3:∀ W,XC Ú5=↑(Í ă):=Ö8;have i1:qm true (Ê "0") Ë3=↑ À3:=ë9 (by rw[show ("0":Str)=num 0 by decide,TY Ğ];rfl);have i2:qm true (Ê (num Ò0)) (Í ă)=↑ À3:=by
  ext Ô9;rw[show ((ŝ λ Ŏ=>Ĺ).any λ s=>Ð (s=num Ò0))=true from ì6 #[_,Ó2 #[i,YD h4 h5,rfl],za3 rfl]];rfl
 have in0:mE [Ê "0"]=↑(nT 0):=by rw[show ("0":Str)=num é8 by decide];show gp ⋯
 exact#[i,w,?_,h4,h5,h6];show yf (zy (xO (m8 (b:=Ä) ó6) (ym (fW (zr rfl (zr (zQ Û hsay) rfl)) å))) (zy Ê1 (zy ë5 (yS (qt (zr (yY È in0) (zr ñ8 rfl)) å))))) rfl
end
def kh Ø1 ý Õ5 (h:0<j):zb yZ f g J=↑(Ã (i%j)):=zm h1 h2 (ä5)
def j_ Ø1 ý Õ5 (h:r_ i j):zb xG f g J=↑(Ã (i/j)):=zm h1 h2 (ä5)
def Qj Ò Ă(hg:ĵ) Ù É5(hn:0<=n) (hn2:ð4):
  ∃ (a i:Nat) (r:Á) (w:Wy),ø9=↑(Ì5)/\a<=13/\å6/\Ĭ/\ç6:=by
 have hc:Q0 Ù3=↑(Õ6):=Y5 ok.oX Œ rfl (λ k=>rfl) λ k hk=>rfl;have AW:xD F p≠[]:=by
  let#[w,h1,h2]:=hg;let#[i,hi,e]:=zaI.mp h1;have:=YD (F:=F) (p:=p) (k:=i) (w:=w) (by rw[zA1 hi,e]) h2;intro z;rw[z] at this;cases this
 have hl:0<ő:=List.length_pos_iff.mpr AW;obtain⟨j,hj⟩:∃ j:Nat,(j:Int)=n%(ő:Int):=#[(n%(ő:Int)).toNat,zF2 (zF0 _ ⋯)];have hjl:j<ő:=by
  have:=zF1 n (b:=(ő:Int)) ⋯;lia
 let#[w,h4,h5]:=Ig (zD8 hjl);obtain⟨t,ht⟩:∃ t:Nat,(t:Int)=n/24%4:=#[(n/24%4).toNat,⋯];have hix:zi (Õ6) (Ã (n%(ő:Int)))=↑(nT (xD F p)[j]):=by
  rw[<- hj];change Á6 _ (j:Int)=_;show qf (by rw[A9,zA1 hjl];rfl)
 have hlen:wD [Õ6]=↑(nT ő):=by
  change ↑(î ((ŝ λ k=>nT k).length:Int))=_;rw[AQ]
 have hmod:yZ ŏ (nT ő)=↑(Ã (n%(ő:Int))):=Î ⋯;have hdm:zb yZ (zb xG Ó4 (cI 24)) (cI 4) [Ë2,ì,ñ,im ŏ,im (Õ6),im (nT (xD F p)[j]),none]=↑(nT t):=by
  rw[show nT t=Ã (n/24%4) from Ë î ht];show kh (j_ À ú) rfl ()
 have hch:=Pz ok (p:=p) hq (k:=t) ⋯;have pre:∀ o,_->Ow Ù3=o:=λ o h=>zy (ym hc) (zy (ym (zm rfl (zm rfl (yY rfl hlen) hmod) hix)) (zy (ym hdm) h));cases e:ę[t]? with
 | none=>
  rw[e] at hch;show#[0,_,q,w,yf (pre _ (zy (xO (z_ (zm (zQ Û hch) À)) rfl) (yS (qt rfl å)))) rfl,⋯,au ò0,h4,h5]
 | some r=>
  rw[e] at hch;show#[t,_,r,w,yf (pre _ (zy (yA (z_ (zm (zQ Û hch) À)) rfl) (yS (qt rfl å)))) rfl,⋯,e,h4,h5]
def Yk (r:Ç):Wy:=#[(õ9 0 0).toNat,(õ9 1 0).toNat,õ9 2 0,õ9 3 0]
def fG (r:Ç):Sl:=#[(õ9 0 0).toNat,Ð (õ9 1 0=1),õ9 2 0,õ9 3 0]
def Fl Â1:zC:=#[x,y,ï6 (ù0),ŀ Yk,ĥ fG]
theorem Vs:∀ {ns:Ç},qM ns=true->ns.Pairwise (· < ·)
 | [],_=>.nil
 | [a],_=>#[]
 | õ8,h=>by
  ext æ8
  have ih:=Vs h'.2;exact za9.mpr #[λ c hc=>?_,ih];rcases ç5 hc with rfl | hc
  .show ċ h'.1
  .show Int.lt_trans (ċ h'.1) ((za9.mp ih).1 c hc)
section
variable {ù}{many:Nat}
def Jd (h:(ï6 Ü).all ng=true):É1:=λ s hs=>by
 have:=zE4.mp h (Ê s) (Ó2 #[s,hs,rfl]);show bq (show m7 s=true from this)
theorem Ei (ho:É1) Å5 ļ:zY.zB Æ=zB (Fl Æ):=by
 have e1:ï6 Ü=(ï6 (ù0)).map kt:=by
  rw[A4];exact zaD λ s hs=>?_;rcases ho s hs with rfl | rfl <;> rfl
 have e2:ŀ zI=(ŀ Yk).map rP:=by
  ext Ë6;ext Þ6;change Ö0 ŕ=Ñ [Ã (a.toNat:Int),Ã (b.toNat:Int),Ã c,Ã d];rw[zF2 h1.1,zF2 h2.1]
 have e3:ĥ zI=(ĥ fG).map xZ:=by
  ext Ë6;let#[a,b,c,d,rfl,h1,h2,_]:=hq r hr;change Ö0 ŕ=Ñ [Ã (a.toNat:Int),Ã (rV (Ð (b=1))),Ã c,Ã d];rw[zF2 h1.1];have hb:b=0\/b=1:=⋯;rcases hb with rfl | rfl <;> rfl
 unfold zY.zB zB Fl;ext Û2;rw[e1,e2,e3];rfl
def Ef Þ2 (h1:1<=many) (h3:many<=3) Å5 ļ (hl:Ů<=13) (hl2:Ï0<=8):(Fl Æ).Ok where
 a0:=hx.1
 a1:=by change x<=12;lia
 b0:=hy.1
 b1:=by change y<=12;lia
 n1:=by change 1<=É2;rw[AQ];lia
 n8:=by change É2<=8;rw[AQ];lia
 ws:=λ w h=>by
  let#[r,hr,rfl]:=Ľ h;ext Þ6;change a.toNat<É2/\b.toNat<É2;rw[AQ];lia
 oX:=by change (ŀ _).length<=60;rw[AQ];lia
 ss:=λ s h=>by
  let#[r,hr,rfl]:=Ľ h;let#[a,b,c,d,rfl,_,_,h3,h4,_]:=hq r hr;show#[h3.1,h4.1]
 sl:=.inr #[by change x<=8;lia,by change y<=8;lia]
 s8:=by change (ĥ _).length<=60;rw[AQ];lia
def Eh (hn:è=many) Å5 (hg:∀ k:Nat,ï4->∃ r∈ws,fst r=Å):∀ p<(Fl Æ).os.length,∃ w∈(Fl Æ).ws,ç6:=λ p hp=>by
 have hp':p<(ï6 ù0).length:=hp;rw[AQ] at hp';let#[r,hr,e]:=hg p ⋯;exact#[Yk r,ã7,?_];change (fst r).toNat=p;rw[e];rfl
def Ee ļ (hu:Þ3):(Fl Æ).ss.Pairwise (λ a b=>a.p≠b.p):=by
 have h:=Vs hu;rw[zaU] at h;change (ĥ fG).Pairwise _;rw[zaU];exact Ó7 (λ{r s} hr hs AZ=>?_) h;let#[a,b,c,d,rfl,h1,_]:=hq r hr;let#[a',b',c',d',rfl,h2,_]:=hq s hs;have AZ:a<a':=AZ;change a.toNat≠a'.toNat;lia
def Ed (ho:É1) Þ2 (h3:many<=3) Å5 ļ (hl:Ů<=13) (hl2:Ï0<=8):lK Æ where
 x:=â
 y:=â
 o:=λ p hp=>by rcases ho ű with rfl | rfl <;> decide
 w:=λ r hr=>by
  let#[a,b,c,d,rfl,h1,h2,h3,h4]:=hw r hr;show#[a,b,c,d,rfl,â,â,â,â]
 q:=λ r hr=>by
  let#[a,b,c,d,rfl,h1,h2,h3,h4,_]:=hq r hr;rw[AQ] at h1;show#[a,b,c,d,rfl,â,⋯,â,â]
 ln:=⋯
end
theorem US:∀ ú2,Æ4->∃ ps:Ó,os=á4 Ü
 | [],_=>#[[],rfl]
 | t::os,h=>by
  rw[zaV,zE5] at h;let#[ps,rfl]:=US os h.2;cases t with
  | str s=>show#[s::ps,rfl]
  | _=>cases h.1
abbrev Ye:Sm:=
 (zv (zP 2 (zb zi (zb zi (zb zi Ø3 Ø4) (zb zi (zc 8) Ŗ)) Ŗ))
 (zv (zP 9 (zo lL (za (zk 0) (za (cS (Ê "lasts")) (za (zk 2) (za (zk 3) zh))))))
 (zv (yi (qo (nB (xh è3) (zO (zb (zS true) (zc 9) (Ò5)))) (nB (qe (xh è3)) (qo (zO (zb Ì1 (zc 9) (Ò5))) (zO (zb eK (zo mE (za (zc 9) zh)) (zo mE (za (zc 6) zh))))))) ò3)
 (zP 6 (zk 9)))))
abbrev Yf:Sm:=
 (zv (yi (qo (zO (zb (qQ Ä) (zc 8) (cS .zA))) (zO (zb (qQ Ä) Ä9 (cS .zA)))) ò3)
 (zv (zP 3 (zo Zd (za (zk 1) (za Ä9 (za (zb zi (zc 8) Ŗ) zh)))))
 (zv (yi (zO (zb (qQ Ä) Ó4 (cS .zA))) (retS (bz è3)) yo) Ye)))
abbrev rW í (N:T) (kp:Bool) ē (v:T) (left:Str) (a b c:Ì2):Ev:=[im (Dk õ),Ë2,ì,im v,im N,im (.bl kp),im (Ê left),a,b,c]
def VD ħ{ok:F.Ok}{q r:Á}{w:Wy}(h:Ý2=↑r):yQ F r:=by
 unfold ot at h;split at h
 .cases h
 .rename_i hc;cases h;have:=ok.a0;have:=ok.b0;exact#[#[?_,?_],?_,?_] <;> dsimp only <;> lia
section
variable {Ò}{Ą}
def Z5 ú4 Ă ł ř{left:Str}É5{D0 D:T}Ô0(hcho:ø9=↑D0) (hsel:((Ú == kp)=true/\iB [Dk õ,ß4,nT p,Ũ,.bl kp]=↑D)\/((Ú == kp)=Ä/\D=D0)) (h:Yf (rW É6 (im ŏ) (im D) none)=o):
  turn Ô7 (rW É6 Þ none)=o:=by
 have ho:é7=↑(kt (Ú)):=Yy hp;have hc:zb Ì1 (zb Ì1 (zb zi (zb zi Ø3 Ŗ) è1) (cS ś)) è3 (rW É6 (im ŏ) (im D0) none)=↑(.bl (Ú == kp)):=zm (zm (zm (zm À (Ej F)) rfl ho) rfl (TV _)) rfl (by cases Ú <;> cases kp <;> rfl);exact nI rfl (zy (ym (zQ Û hcho)) ?_);rcases hsel with ⟨h1,h2⟩ | ⟨h1,rfl⟩
 .rw[h1] at hc;show zy (xO (z_ hc) (ym (zQ (zr rfl Û) h2))) h
 .rw[h1] at hc;show zy (yA (z_ hc) rfl) h
include ok in
theorem Uh ú4 Ă{q r:Á}{left:Str}É5{a i:Nat}{w:Wy}(hq:Ð9) (ha:a<=13) (hr':å6) (hw:Ĭ):
  Yf (rW É6 Ĩ none)=match ot F r w with
   | none=>↑(.rt (.bl (!kp)))
   | some r'=>Ye (rW F N kp p (zt r') left Ĩ none):=by
 have hch:=Pz ok (p:=p) hq ha;rw[hr'] at hch;have hs:=CZ F r hw;have pre:∀ o,_->Yf (rW É6 Ĩ none)=o:=λ o g=>zy (yA (nN Ü4 (z_ (zm Ò6 À))) rfl) (zy (ym (zQ (zr rfl (zr Ò6 (zr Ò7))) hs)) g);cases e:ot F r w with
 | none=>rw[e] at pre;show pre _ (wI (xO Ü4 (by cases kp <;> rfl)))
 | some r'=>rw[e] at pre;show pre _ (zy (yA Ü4 rfl) rfl)
include ok hm hr R
theorem Ui ú4 Ă{r:Á}{left:Str}É5{a i:Nat}{w:Wy}(hin:yQ F r) (hw:Ĭ) (hwt:w.t<Â)
  (hk:(kp=true/\é9=none)\/(kp=Ä/\∃ j k:Nat,é9=↑j/\j≠0/\j<k/\k<=2000/\left=Ĺ)):
  Ye (rW F N kp p (zt r) left Ĩ none)=↑(.nx (rW F N kp w.t (zt r) (oh (é9)) Ĩ (im (Ê (oh (é9)))))):=by
 have hi:zi (Ñ Ç2) (nT i)=↑(rP w):=Å4;have hs:=ZW Ì7 hwt hin;exact zy (ym (zm (zm (zm À (jW F)) È hi) À)) (zy Ü7 (zy (yA ?_ rfl) rfl));rcases hk with ⟨rfl,hd⟩ | ⟨rfl,j,k,hd,h0,hjk,hk2,rfl⟩
 .rw[hd];show nN (Wi ó6 (z_ (zm À ((Î8 Œ true).trans rfl)))) (aI (m8 (b:=true) ó6))
 .rw[hd];have hn:=Tg (k:=j) h0 ⋯;rw[zbC] at hn;have h1:=hn "ever" AU;rw[ê] at h1;have h2:(num (j:Int) == ð5)=Ä:=À2 λ z=>h1 z.symm;show nN (aI ó6) (Wi (m8 (b:=Ä) ó6) (nN (z_ (zm À ((Î8 Œ Ä).trans (Ë Á4 h2)))) (z_ (zm (yY rfl (gp ⋯)) (yY rfl (gp ⋯)) (Ë Á4 (zcQ ⋯))))))
end
theorem MW Ò (gw:∀ x<Â,∃ w∈F.ws,w.f=x) (pw:Ç8):∃ m,m<=169*Â/\mV [ß4]=↑(o8 (Ŷ))/\lF F m:=by
 let#[more,hr,hn,hmo,hR]:=Bg ok;have n1:=ok.n1;ext ú5;have AW:Ì Â ≠[]:=λ h=>by
  have h2:=Ë ė h;rw[zC5] at h2;rw[h2] at n1;show Ū n1 ()
 have hmu:=YB (ī F);rw[show (ī F).length=Â by unfold ī;simp] at hmu;let#[more',_,hs,_,_,hlen]:=Yb ok Ì0 é5 ⋯;rw[hR] at hs;have em:more=more':=by
  have:=zD5 hs;show (List.cons.inj this).2
 subst em;let#[m,e,A5]:=Ue ok gw 2000 [] 0 (Ì Â) _ é5 AW rfl hR;have ht:ī F::more=Ŷ:=e;have el:=Ë ė ht;rw[ZA] at el;rw[ht] at hr hn;have hgk:∀ k,k<=m->∀ b∈ Ó3,Ñ9:=λ k hk=>(hn (Ó3) (Ó2 #[k,ì3,rfl])).2;show#[m,by simp at el;lia,hr,El ok pw (hgk m (AM _)) A5,hgk]
def Hm ħ{l:Ï}ř{w:Wy}(h:xl F l q w=true):∃ r,Ý2=↑r/\zZ (Æ6) r=true:=by
 unfold xl at h;cases e:Ý2 with
 | none=>rw[e] at h;cases h
 | some r=>rw[e] at h;show#[r,rfl,h]
def Hn ħ{l:Ï}{q r:Á}{w:Wy}(h:xl F l q w=Ä) (e:Ý2=↑r):zZ (Æ6) r=Ä:=by
 unfold xl at h;rw[e] at h;show h
section
variable {Ò}{Ą}(hw9:Ű<=13)(gw:∀ x<Â,∃ w∈F.ws,w.f=x)(A5:∀ s∈F.ss,F.os.getD s.p Ä=true)
include A5 in
theorem Nx Ă(hk:Ú=Ä) ĺ:ó0=[q]:=by
 unfold x8;cases hs:Ŭ with
 | none=>rfl
 | some s=>
  have h1:=zaN hs;have h2:s.p=p:=by
   have h3:=zcN (p:=λ(s:Sl)=>Ð (s.p=p)) (show F.ss.find? (λ(s:Sl)=>Ð (s.p=p))=↑s from hs);show ċ h3
  have:=A5 s h1;rw[h2,hk] at this;cases this
include ok hm hr R hw9 gw A5
theorem Nd {N:T}Ă ł Ù (hc:Ï4) É5(h0:0<=n) (h1:ð4):
  ÿ:=by
 ext Å8;have fin:∀ ô6,D=Ì5->a<=13->å6->Ĭ->xl F (Ų) r w=true->(((Ú == true)=true/\à3=↑D)\/((Ú == true)=Ä/\D=Ñ [nT a0,nT i0]))->ÿ:=by
  ext ë7;let#[r',e1,e2]:=Hm hld;have hwt:=(ok.ws w (zB7 hwi)).2;have hin:=VD (ok:=ok) e1;have hd:=EM ok hm R hwt e2;have h2:=Uh ok (N:=N) (kp:=true) (left:="ever") (n:=n) hq ha hra hwi;rw[e1] at h2;have h3:=Ui Ì7 (N:=N) (kp:=true) (p:=p) (left:="ever") (n:=n) (a:=a) hin hwi hwt (ã6 #[rfl,hd]);rw[hd] at h3;show#[w.t,r',_,_,_,ù1,hwt,hin,e2]
 have hgo:=R.fx.go ű q hq;rw[hc] at hgo;cases hk:Ú with
 | true=>
  let#[a,i,r,w,d1,d2,d3,d4,d5,d6]:=C5 æ7 hw9 hk hq hc;show fin a i r w _ rfl d2 d3 d4 d6 (ã6 #[á9,d1])
 | Ä=>
  have hq1:=Nx A5 hk q;rw[hq1] at c3;have e0:a0=0/\r0=q:=by
   cases a0 with
   | zero=>show#[rfl,(zD5 c3).symm]
   | succ k=>cases c3
  let#[rfl,rfl]:=e0;unfold kZ at hgo;rw[ü (by rw[hk];decide)] at hgo;show fin 0 i0 r0 w0 _ rfl c2 (by rw[hq1];rfl) c4 (zE4.mp hgo.symm w0 (õ2 #[zB7 c4,za3 c5])) (.inr #[á9,rfl])
theorem Nc {N:T}Ă ł Ù Ř(hd:ø7) É5(h0:0<=n) (h1:ð4):
  turn Ô7 Â3=↑(.rt ö)\/∃ (p' k':Nat) (q':Á) (a b c:Ì2),turn Ô7 Â3=↑ Ð4/\å7:=by
 ext Å8;ext İ;have hgo:kZ æ6 p q=Ä:=by
  ext Ê3;rw[e,Y7 ok (R.Xj hjm) p hq] at k2;show k2
 have fin:∀ ô6,D=Ì5->a<=13->å6->Ĭ->xl æ6 r w=Ä->(((Ú == Ä)=true/\ã0=↑D)\/((Ú == Ä)=Ä/\D=Ñ [nT a0,nT i0]))->Ù9=↑(.rt ö)\/∃ (p' k':Nat) (q':Á) (a b c:Ì2),Ù9=↑ Ð4/\å7:=by
  ext ë7;have hwt:=(ok.ws w (zB7 hwi)).2;have h2:=Uh ok (N:=N) (kp:=Ä) (left:=num Ě) (n:=n) hq ha hra hwi;cases e1:ot F r w with
  | none=>rw[e1] at h2;show ã6 (Z5 hp c1 hsel h2)
  | some r'=>
   rw[e1] at h2;have hin:=VD (ok:=ok) e1;let#[j',hj',hd']:=R6 (m:=m) hjm (Hn hld e1);have h3:=Ui Ì7 (N:=N) (kp:=Ä) (p:=p) (left:=num Ě) (n:=n) (a:=a) hin hwi hwt (.inr #[rfl,j',j+1,hd',λ z=>eV hwt hin (by rw[hd',z]),⋯,⋯,rfl]);rw[hd'] at h3;show .inr #[w.t,j',r',_,_,_,ù1,hwt,hin,hd']
 cases hk:Ú with
 | true=>
  unfold kZ at hgo;rw[Î hk,zbC] at hgo;have hl:=hgo r0 (zB7 c3);rw[zD0] at hl;exact fin a0 i0 r0 w0 _ rfl c2 c3 c4 ?_ (.inr #[á9,rfl]);rw[<- zE9];show λ z=>hl #[w0,õ2 #[zB7 c4,za3 c5],z]
 | Ä=>
  let#[i,w,d1,d4,d5,d6]:=C4 æ7 hw9 hk hq hd;show fin 0 i q w _ rfl ⋯ (au ò0) d4 d6 (ã6 #[á9,d1])
theorem T6 {N:T}:∀ Ç6 ē ĺ,(Î1)->p<Â->Ð9->Ï4->∀ a b c,∃ J',wC [7,8,9] (zJ 7) mS Ś (rW ç3 a b c)=↑(.nx J')
 | [],p,q,_,_,_,_,a,b,c=>Ý3
 | n::ns,p,q,hn,hp,hq,hc,a,b,c=>by
  let#[p',q',a',b',c',h1,h2,h3,h4]:=Nd ò4 (N:=N) î1 hc (hn n AU).1 (hn n AU).2;let#[J',h5]:=T6 ns p' Û0;exact#[J',?_];rw[AR,jO];change (turn Œ _ (rW ç3 Þ none)).bind _=_;rw[h1];show h5
theorem T5 {N:T}:∀ Ç6 (p k:Nat) ĺ,(Î1)->p<Â->Ð9->ø7->∀ a b c,Ë4=↑(.rt ö)\/∃ J',Ë4=↑(.nx J')
 | [],p,k,q,_,_,_,_,a,b,c=>.inr Ý3
 | n::ns,p,k,q,hn,hp,hq,hd,a,b,c=>by
  rw[AR,jO];change (turn Œ _ Â3).bind _=_\/∃ J',(turn Œ _ Â3).bind _=_;rcases Nc ò4 (N:=N) î1 hd (hn n AU).1 (hn n AU).2 with h1 | ⟨p',k',q',a',b',c',h1,h2,h3,h4⟩
  .rw[h1];show ã6 rfl
  .rw[h1];show T5 ns p' k' Û0
theorem Bj {ns:Ç}(hn:Î1) Ă ł Ù:Zf [Dk õ,ß4,nT p,Ũ,Í Ś,.bl (oh (ç) == ð5)]=↑ ö:=by
 have hs:=ZW Ì7 î1;cases hd:ç with
 | none=>
  rw[hd] at hs;let#[J',h1]:=T6 ò4 (N:=Í Ś) ns p q hn î1 (EL hd (AM m)) Þ none;show yf (zy Ü7 Ï7) rfl
 | some k=>
  rw[hd] at hs;have hkm:=(jY hd).1;have hn0:=Tg (k:=k) (λ z=>eV î1 (by rw[hd,z])) ⋯;rw[zbC] at hn0;have h1:=hn0 "ever" AU;rw[ê] at h1;have h2:(oh ↑k == ð5)=Ä:=À2 λ z=>h1 z.symm;rw[h2];rcases T5 ò4 (N:=Í Ś) ns p k q hn î1 hd Þ none with h1 | ⟨J',h1⟩
  .show yf (zy Ü7 (wI (qy rfl h1))) rfl
  .show yf (zy Ü7 Ï7) rfl
end
def M9 {j:Nat}{K:KF}ê5{g2:Sm}ý ê7 É3{y:T}{r:T×List Key× Ý}Ô0(h0:J[j]?=↑↑(ō (Ü2))) (hf:f J=↑y) (hp:qC (y::ts)=true) (hF:K ks ts [y]=↑r) (hr:L3.eqT r.1 (Ê "ok")=true/\qC (r.1::r.2.2)=true) (hg:g2 (J.set j ↑(ō (.zF r.2.1 r.2.2)))=o):f9 j K f g2 J=o:=by
 unfold f9;ext ó7;rw[hf,zC9,Î hp,hF,zC9,Î hr];show hg
def Eg ù ļ:∀ s∈(Fl Æ).ss,(Fl Æ).os.getD s.p Ä=true:=λ s hs=>by
 let#[r,hr,rfl]:=Ľ hs;let#[a,b,c,d,rfl,h1,_,_,_,h5]:=hq r hr;change (ï6 ù0).getD a.toNat Ä=true;unfold keeps at h5;rw[A9] at h5;rw[zB1,A9];cases e:os[a.toNat]? with
 | none=>rw[e] at h5;cases h5
 | some z=>rw[e] at h5;show h5
theorem Bl Ò É5:∃ q,WG [Ã n,Ę]=↑(Ũ)/\Ð9:=by
 have a0:=ok.a0;have b0:=ok.b0;exact#[(n%(F.A+1),n/13%(F.B+1)),yf (yS (qt (zr (kh rfl (zm È À) ⋯) (zr (kh (j_ À ú) (zm È À) ⋯) rfl)) å)) rfl,#[?_,?_],?_,?_]
 .show zF0 _ ⋯
 .have:=zF1 n (b:=F.A+1) ⋯;ext Û2;lia
 .show zF0 _ ⋯
 .have:=zF1 (n/13) (b:=F.B+1) ⋯;ext Û2;lia
end zY.V
namespace zY
open PySem L2 L3 L5 SJ
theorem Hx Ç6 (_:Æ9<=63):dP [x_ ns]=↑ ö:=by
 have fm:=gW ns 0 ();obtain⟨m0,-⟩:=iZ ns 0;generalize mixed ns 0=n at *;have fm2:=gW ns 29 ();let#[m1,m2]:=iZ ns 29;generalize mixed ns 29=v at *;obtain⟨many,hm⟩:∃ many:Nat,Î2=1+n%3:=#[(1+n%3).toNat,⋯];obtain⟨more,hmo⟩:∃ more:Nat,(more:Int)=n/144%7:=#[(n/144%7).toNat,⋯];obtain⟨x,hx⟩:∃ b,b=n/4%5:=Ý3;obtain⟨y,hy⟩:∃ b,b=n/24%5:=Ý3;have hx':0<=x/\x<=4:=⋯;have hy':0<=y/\y<=4:=⋯;let#[os',ws,qs,w1,w2,w3,w4,w5,w6,w7,w8,w9,w10,w11,w12]:=Bv ns 2 many more (Î3) () Ğ ⋯;let#[os,rfl]:=V.US os' w3;rw[AQ] at w2;have ho:=V.Jd w3;have hb:xT (Î3) Ť=true:=by
  change xT (Ñ [Ã x,Ã y]) _=true;rw[MM];simp[wh];lia
 have hF:kl (zB Æ)=true:=Ec hb (by rw[AQ];show w2) Ğ w3 w4 w5;have hk:=V.Ed ho hx' hy' w2 ⋯ w9 w11 ⋯ w8;have hlen:=text_len hk;have hback:=BF hk hF Ğ (λ r hr k hk=>by
  let#[a,b,c,d,rfl,h1,h2,h3,h4]:=w9 r hr;ext Å6) (λ r hr k hk=>by
  let#[a,b,c,d,rfl,h1,h2,h3,h4,_]:=w11 r hr;rw[AQ] at h1;ext Å6) ⋯
 have ft:=CY hk;have w1':gX [x_ ns,Ã 2,Ã many,Î3,Ã more]=↑(zB Æ):=w1;have efl:=V.Ei (x:=x) (y:=y) ho w9 w11;rw[efl] at w1' ft hback;have ok:=V.Ef hx' hy' w2 Ğ w9 w11 (by lia:Ů<=13) w8;have gw:=V.Eh (x:=x) (y:=y) (qs:=qs) w2 w9 w10;let#[m,hm2,hr,R]:=V.MW ok gw (V.Ee w11 w12);have A5:=V.Eg (x:=x) (y:=y) (ws:=ws) w11;have hol:(V.Fl Æ).os.length=many:=by change É2=many;rw[AQ];show w2
 have hwl:(V.Fl Æ).ws.length<=13:=by change (ŀ _).length<=13;rw[AQ];lia
 generalize V.Fl Æ=F at *;generalize Ő=t at *;subst hol;have hW:=CP (t:=t) ⋯ hback (V.fK F);have d4:r_ n 4:=ú;have d24:r_ n 24:=ú;have d144:r_ n 144:=ú;have AV:qC [Ü "ok",V.zB F]=true:=by change (true&&(á6 Ö9&&true))=true;rw[V.fK F];rfl
 obtain⟨p,hpv⟩:∃ p:Nat,ť=v%ó4:=#[(v%ó4).toNat,zF2 (zF0 _ (by have:=ok.n1;lia))];have n1:=ok.n1;have hp:p<Â:=by
  have:=zF1 v (b:=ó4) ⋯;lia
 let#[q1,hq1,hin1]:=V.Bl ok (n:=v/4);obtain⟨q,hq,hsel⟩:∃ q,RN.yQ F q/\yi (zO (zb Ì1 (ß7) Ŗ)) (zP 7 (zb zi Ó4 Ŋ)) yo Š=↑(.nx ź):=by
  have hc:=zm (f:=zS Ä) (fa:=ß7) (fb:=cS (Ã 1)) (J:=Š) (V.kh (V.j_ À ú) rfl ()) rfl (V.eq_int (v/2000%3) 1 Ä);cases e:Ð (v/2000%3=1) with
  | true=>
   rw[e] at hc;show#[(F.A,F.B),#[#[ok.a0,zC6 _],ok.b0,zC6 _],xO (z_ hc) (ym (zm À (V.kx F)))]
  | Ä=>
   rw[e] at hc;show#[q1,hin1,yA (z_ hc) rfl]
 have n3:Â<=3:=⋯;have hsay:=V.ZW ok ⋯ hr R î1;have hnums:∀ z∈ Å1,0<=z/\z<2147483629:=λ z hz=>by
  let#[k,_,rfl]:=Ľ hz;show iZ ns (30+k)
 have hpd:=V.Bj ok ⋯ hr R hwl gw A5 hnums î1;have hc2:∀ J8,Qt [Ý7,im ŏ,Ý8,im Ö9,↑ ò,ê0,ì,ñ,J8,none]=↑(Í ((Å1).map î)):=fun J8=>by
  rw[A4];exact rg (λ k:Nat=>î (30+Å)) _ (Ì 16) rfl () ß0;have hk':=ó5;have hf:=gW ns (30+k) ⋯;show kX rfl (zQ Ł hf)
 have hchk:∀ J9:Ì2,yi (nB (zO (zb (zS true) (zc 8) (Ò5))) (zO (zb (qm true) (zc 8) XH))) ò3 Ô=↑(.nx Ô):=fun J9=>by
  have he:=zm (f:=zS true) (fa:=zc 8) (fb:=Ò5) (J:=Ô) À (Î8 Á9 "ever" true);cases hd:V.xc (V.y9 F m) p q with
  | none=>rw[hd] at he;show yA (aI (z_ he)) rfl
  | some k=>
   have hkm:=(V.jY hd).1;have k0:k≠0:=λ h=>V.eV î1 (by rw[hd,h]);rw[hd] at he;have hc1:XH [Ý7,im ŏ,Ý8,im Ö9,↑ ò,ê0,ì,ñ,im (Ê (V.oh ↑k)),J9]=↑(Í ((Ì6).map Ü)):=by
    rw[A4];exact rg (λ k:Nat=>î (1+Å)) _ (Ì 599) rfl () ß0;have hk':=ó5;show kX rfl (Ä8)
   have hin:qm true (Ê (V.oh ↑k)) (Í ((Ì6).map Ü))=↑ À3:=by
    exact (V.eC Œ true).trans ?_;rw[show ((Ì6).any λ s=>Ð (s=V.oh ↑k))=true from ì6 #[_,Ó2 #[k-1,ì3,rfl],za3 (by change num (1+((k-1:Nat):Int))=Ĺ;congr 1;lia)]];rfl
   cases hb:(V.oh ↑k == ð5) with
   | true=>rw[hb] at he;show yA (aI (z_ he)) rfl
   | Ä=>rw[hb] at he;show yA (Wi (z_ he) (z_ (zm rfl hc1 hin))) rfl
 have hsay':k9 lL (za è4 (za (cS (Ê "lasts")) (za (zc 6) (za (zc 7) zh)))) ź=↑(Ê Á9):=aw (zr (x:=Dk Ö9) rfl ö7) hsay rfl;have hend:∀ NL,NL=T.lst ((Å1).map î)->retS (k9 Zf (za è4 (za Ó4 (za (zc 6) (za (zc 7) (za (zc 9) (za (zb Ì1 (zc 8) (Ò5)) zh))))))) [Ý7,im ŏ,Ý8,im Ö9,↑ ò,ê0,ì,ñ,im (Ê Á9),im NL]=↑(.rt ö):=by
  rintro NL rfl;show yS (aw (zr (x:=Dk Ö9) rfl (zr rfl (zr rfl (zr rfl (zr rfl (zr (zm À (Î8 Œ Ä)) rfl)))))) hpd rfl)
 exact yf (zy (ym (zQ Ł fm)) (zy (ym (y:=nT Â) ?_) (zy (ym (zQ (zr rfl (zr rfl (zr rfl (zr (x:=Î3) ?_ (zr (x:=Ã more) ?_ rfl))))) w1')) (zy rfl (zy (V.M9 (ks:=[]) (ts:=[]) rfl (zm rfl (yY rfl ft) (Î ?_)) rfl hW #[rfl,AV] rfl)
  (zy (ym (zQ Ł fm2)) (zy (ym (y:=nT p) ?_) (zy (ym (zQ (zr (x:=Ã (v/4)) ?_ (zr (zm À (V.kx F)) rfl)) hq1)) (zy hsel (zy (ym hsay') (zy (hchk none) (zy (ym (hc2 _)) (hend _ rfl))))))))))))) rfl
 .rw[show nT Â=Ã (1+n%3) from Ë î hm];show zm rfl (V.kh À ()) rfl
 .rw[hx,hy];show qt (zr (V.kh (V.j_ À d4) rfl ()) (zr (V.kh (V.j_ À d24) rfl ()) rfl)) å
 .rw[hmo];show V.kh (V.j_ À d144) rfl ()
 .have e:("floor fa ":Str).length=9:=()
  have e2:È6:=rfl;lia
 .rw[show nT p=Ã (v%ó4) from Ë î hpv];show V.kh À ⋯
 .show V.j_ À ú
end zY
namespace zY
open PySem L2 L3 L5
open PyProof.Rows hiding St
set_option maxHeartbeats 0
structure CC (K:AB) (w:World) (mg:A0):Prop where
 c0:Cm mg "FIGURES" (Ê "0123456789")
 c1:Cm mg "KEEPER" ś
 c2:Cm mg "LETTERS" (Ê "abcdefghijklmnopqrstuvwxyz")
 c3:Cm mg "MOST_COINS" (Ã 12)
 c4:Cm mg "MOST_FIGURES" (Ã 4)
 c5:Cm mg "MOST_LETTERS" (Ã 8)
 c6:Cm mg "MOST_PLACES" (Ã 8)
 c7:Cm mg "MOST_WAYS" (Ã 24)
 c8:Cq K mg "PURSES" ö2
 c9:Cm mg "TAKER" (í4)
 c10:aW K w mg "FORMS" nu
 c11:mr K
section
variable (P:Program)(w:World)(K:AB)(mg:A0)(base:Heap)
structure D1:Prop where
 x0:FD ã "is_whole" 1 ["thing"] (zM zl gY)
 x1:FD ã "are_rising" 1 ["things"] (zM zl iC)
 x2:FD ã "is_owner" 1 ["thing"] (zM zl WJ)
 x3:FD ã "places_of" 1 ["floor"] (zM zl gU)
 x4:FD ã "at_or_above" 1 ["pair","other"] (zM zl dY)
structure D2:Prop where
 x0:FD ã "least_pairs" 1 ["pairs"] (zM zl i8)
 x1:FD ã "pairs_ahead_of_changes" 1 ["brims","stall","pair"] (zM zl WA)
 x2:FD ã "step_by" 1 ["floor","pair","way"] (zM zl W4)
 x3:FD ã "change_by" 1 ["brims","stall","pair","times"] (zM zl Zk)
 x4:FD ã "show_way" 1 ["way"] (zM zl W5)
structure D3:Prop where
 x0:FD ã "show_stall" 1 ["stall"] (zM zl W6)
 x1:FD ã "read_word" 1 ["word"] (zM zq aZ)
 x2:FD ã "is_made_of" 1 ["word","signs","most"] (zM zl Zi)
 x3:FD ã "show_count" 1 ["count"] (zM zl W7)
 x4:FD ã "_law_mixed" 1 ["_law_script","_law_k"] (zM zl kE)
structure D4:Prop where
 x0:FD ã "_law_stalls" 1 ["_law_cell","_law_owners"] (zM zl Ze)
 x1:FD ã "_law_pair" 1 ["_law_number","_law_brims"] (zM zl WG)
 x2:FD ã "_law_step" 1 ["_law_floor_here","_law_pair_here","_law_way"] (zM zl Zd)
 x3:FD ã "_law_changed" 1 ["_law_floor_here","_law_place","_law_pair_here","_law_times"] (zM zl i9)
 x4:FD ã "_law_text" 1 ["_law_floor_here"] (zM zq WD)
structure D5:Prop where
 x0:FD ã "is_whole_within" 2 ["thing","least","most"] (zM zl kF)
 x1:FD ã "are_owners" 2 ["thing"] (zM zl cb)
 x2:FD ã "holds" 2 ["border","pair"] (zM zl dQ)
 x3:FD ã "both" 2 ["border","other"] (zM zl Zl)
 x4:FD ã "either" 2 ["border","other"] (zM zl dR)
)
example:=`(
example Ĕ:=.Attribute
example Ħ:=by assumption
example Ī:=.Compare
example ħ _:=x zK zK fit_le fit_le zE.mo zE.mo
example ā:=(by ext Ħ)
example Ġ:=.Subscript
example æ _:=x _ _ _
example ĩ:=.Name "lows" _
example À:=by (change PD æ;first | (change PD _ (.Name _ _) _;first | show zg 0 | show zg 1 | show zg 2 | show zg 3 | show zg 4 | show zg 5 | show zg 6 | show zg 7 | show zg 8 | show zg 9 | show zg 10 | show zg 11 | show zg 12 | show zg 13 | show zg 14 | show uA ā | show uB ā | show uC ā) | show u5 | show uN | show we | show vV | (change PD _ (Ġ (ĩ) _ _) _;apply uH hr) | (change PD _ (.Call _ [ĩ] _ _) _;apply uG T.len) | show uI | apply uJ hr | (change PD _ (Ġ (Ĕ _ "kept" _) _ _) _;apply ur hr ā) | (change PD _ (Ġ (.Name "FORMS" _) _ _) _;apply vH;ext Ħ) | apply vP | apply uv | apply vG | apply uh | (change PD _ (.Call (Ĕ _ "extend" _) [Ġ æ] _ _) _;apply ud) | apply vM | apply uu | apply vK | apply u6 | apply vL | (change PD _ (.Call (Ĕ æ) æ) _;apply wg;ext Ħ) | (change PD _ (.Call (Ġ (.Name _ _) _ _) æ) _;apply uQ;ext Ħ) | show uK ā hr | (change PD _ (.Call æ _) _;first | (apply uM;ext Ħ) | apply vJ T.str | apply uo T.len | apply uk T.list T.range | apply um T.list | apply vF T.tuple | apply uc T.max | apply v_ T.min | apply uP T.any | apply uS T.all | apply vN hr T.sorted U.set | apply vO T.sorted | apply u4 T.int | apply u0 T | apply u3 T | apply uz T | apply ux T | apply uf | apply ue) | (change PD _ (.BinOp æ _) _;first | apply uT | apply vI | apply vZ | apply uE | apply vY | apply vR | apply vQ | apply uO) | (change PD _ (Ī æ _) _;first | apply ug hr | apply uF hr | apply vX hr | apply uq | apply uD | apply u7 hr | apply uw | apply uL ħ) | apply uR | apply vS | apply vT | apply vU | apply vW | apply u9 | (apply pl (Hs.a hc) hS hN;show zL hS hN;decide +kernel) | (apply pl (Hs.b hc) hS hN;show zL hS hN;decide +kernel))
example ė:=(by with_reducible first | show yc | show yd | show ye)
example Á:=by ((try first | exact zN.fr ?_ | exact zN.fe ?_);with_reducible first | apply sJ | exact yK (R:=zl) ?_ | exact yK (R:=zq) ?_ | apply sk | exact yb (R:=zl) ?_ ?_ | show sO _ | exact zX (R:=zl) (by with_reducible first | show good_add | show yc | show rL | show rK | show wG | show rH | show yd | show ye | show rA | show wF) ?_ ?_ | exact ya (R:=zl) ?_ | exact sZ (R:=zl) (by with_reducible first | show rF | show rj | show rE | show rC | show rB | show rM | show r9 | show rq | show rD | show rl | show rJ) ?_ | apply sd | apply sr | apply sI | apply sS | apply sL | show s_ _ | show su _ | show sG | apply sM | apply sP | apply sH | exact sY ė ė ?_ ?_ ?_ | apply sD | apply sy | show sW _ | apply sA | apply ra | apply sQ | show sX _ | apply sC | exact sv (R:=zl) (by with_reducible first | show rp | show rG | show rm | show rn) ?_ ?_)
example Â:=by (change zw æ;first | (change zw _ (.Return ↑(.Call (Ĕ _ "keep" _) æ) _) _;first | (apply vi;ext Ħ) | show yE) | (change zw _ (.If (Ī (.Call (Ĕ _ "say" _) æ) æ) æ) _;apply vh;ext Ħ) | apply wc | apply wu | apply vm za2 rfl | apply vf za2 | (apply yB (Hs.a hc) hS hN nd;show zL hS hN;rfl;decide +kernel) | (apply yB (Hs.b hc) hS hN nd;show zL hS hN;rfl;decide +kernel) | (change zw _ (.Assign [Ġ (ĩ) _ _] _ _) _;apply vo hr) | apply vg | apply vj | apply vn | show (yE:zw _ (.Raise æ) _))
example Ã:=by (change zD æ;first | (change zD _ (Ī _ [.NotIn] [Ĕ _ "kept" _] _) _;apply wW hr ā) | (change zD _ (Ī _ [.NotIn] [.Name "FORMS" _] _) _;apply va;ext Ħ) | (change zD _ (Ī æ _) _;first | apply wU hr | apply vb hr | apply wt hr | apply wV | apply w_ | apply wZ hr | apply wQ hr | apply wY | apply wX | apply vc ħ) | apply wR | (apply xw.pt;first | apply yC | apply yD) | apply wO)
example Ä:=by (with_reducible first | show tY | apply tZ | show tW | apply tX | apply se | apply sg | apply sU | apply sT | apply sV | show sf | show sN | apply sj | show tP _ | show tL | apply tM | show tQ | apply tR | apply tE | apply tI | apply tH | apply tF | apply tG | apply tJ | apply tK | apply tD | show tV | apply tU)
example Å:=(_:List Str)
example Æ:=by with_reducible first | show yG _ | show yH | exact yb (R:=zq) ?_ ?_ | exact zX (R:=zq) yM ?_ ?_ | exact ya (R:=zq) ?_ | apply yI | apply yJ
example Ç:=by (with_reducible first | apply uW | apply t8 | apply tf | show uV | apply uY | apply t9 | apply t7 | apply tm | apply uU | show yF _ | apply t4 | show uZ | apply tj | apply tq | apply tp | show t6 _ | apply t5 | apply u_ | show tw _ | apply uX)
example È:=by (change PE æ;first | show ze 0 | show ze 1 | show ze 2 | show ze 3 | show ze 4 | show ze 5 | show ze 6 | show ze 7 | show ze 8 | show ze 9 | show ze 10 | show ze 11 | show ze 12 | show ze 13 | show ze 14)
example É:=by (change xR æ;first | show zf 0 | show zf 1 | show zf 2 | show zf 3 | show zf 4 | show zf 5 | show zf 6 | show zf 7 | show zf 8 | show zf 9 | show zf 10 | show zf 11 | show zf 12 | show zf 13 | show zf 14)
example Ê:=by (change yv æ _;first | apply v7 T.range | apply v5 T.range | apply vx U.zip | apply v8 U.enumerate | apply vz)
example Ë:=zw _ (.If (.Call (Ĕ _ "startswith" _) æ) æ) _
example Ì:=by (with_reducible first | show t_ _ | apply rb | apply sE | apply sF | apply sR)
example Í _:=x P w K mg base
example Ģ:=by cases C;cases d1;cases d2
example Î:=by ext Ģ;cases d3;cases d4;cases d5
example Ï:=by intro f AF A outer s H E hc nd hN hS hr
example Ð:=by (change xy æ;first | apply vp | apply vq | (apply vt;ext Ħ))
example Ñ:=by (change yT æ;first | show vd | apply wa | apply xK)
example ĥ:=by ext Î;cases d6;cases d7
example Ò:=by ext ĥ;cases d8;cases d9;cases d10
example Ă _:=x X G
example Ó _:=x l.prog base T U H C Ă d1
example Ô:=yv _ _ (.Name "word" _) _
example Õ:=by (change y7 æ;first | show wx | apply wy)
example Ö:=#[rfl,rfl,rfl,rfl]
example Ē:=by ext Ò;cases d11;cases d12
example Ø:=by ext Ē;cases d13;cases d14;cases d15
example Ù:=by (exact zN.er ?_;ext Æ)
example Ú:=by (first | show tT _ | apply tN | apply tS)
example ę _:=x Ó d2 d3 d4 d5
example Û _:=x ę d6 d7 d8 d9
example Ě _:=x d2 d3 d4 d5 d6
example Ü _:=x Ě d7 d8 d9 d10
example ě _:=x d3 d4 d5 d6 d7
example Ý _:=x ě d8 d9 d10 d11
example Þ _:=x ę d6 d7 d8
example ī _:=x d10 d11 d12
example Ĝ _:=x d4 d5 d6 d7 d8
example ß _:=x Ĝ d9 ī
example à:=by (change wo æ;apply wN)
example á:=(rfl:Å[10]?=_)
example â:=(rfl:Å[11]?=_)
example ã:=(rfl:Å[12]?=_)
example ä:=(rfl:Å[13]?=_)
example å:=(rfl:Å[14]?=_)
example ç:=by (change wq æ;apply ve)
example è:=(rfl:Å[0]?=_)
example é:=(rfl:Å[1]?=_)
example ê:=(rfl:Å[2]?=_)
example ë:=(rfl:Å[3]?=_)
example ì:=(rfl:Å[4]?=_)
example í:=(rfl:Å[5]?=_)
example î:=(rfl:Å[6]?=_)
example ï:=by (change xX æ;apply vE)
example ð:=(rfl:Å[7]?=_)
example ñ:=(rfl:Å[8]?=_)
example ò:=(rfl:Å[9]?=_)
example č _:=x Û ī d13 d14
example ó _:=x č d15 d16 d17
example ô _:=x č d15 d16
example ĝ:=by ext Ø;cases d16;cases d17
example õ:=by ext ĝ;cases d18;cases d19;cases d20
example ö:=by intro _ _ _ _ _ nd
example ø _:=x č d15
example ù:=by (change Ë;apply vk)
example ú:=yu.fv (yF _)
example û:=λ _ _=>rfl
example ü:=Or.inl rfl
example ý:=Or.inr rfl
example þ:=Bool.false
example ÿ:=by (change Ô;apply vy)
example Ā:=λ _=>rfl
example ă:=by ext õ;cases d21;cases d22;cases d23
example ď _:=x d18 d19 d20 d21
example Ą _:=x ó ď
example ĕ _:=x d18 d19 d20 d21 d22
example ą _:=x ó ĕ
example ē _:=x d18 d19 d20
example Ć _:=x ó ē
example ć _:=x ó ĕ d23
example Ĉ _:=x ĕ
example ĉ _:=x ď
example Ċ _:=x Û ī d13
example ċ _:=x ĕ d23
example Č _:=x Û ī
example Ď:=[none,↑1]
example Đ:=["floor","place","pair"]
example đ _:=x [(["word","form","self"],[none,none,↑0])] H.T2
example Ė:=by (ext Æ)
example Ę _:=x mainGlobals mg
example Ğ:=["_law_k","_law_floor_here","_law_place"]
example ğ:=K w.params
example ġ:=["floor","place"]
example ģ:=[none]
example Ĥ _:=x fd ["_law_script"] (pR K (zM zl dP))
example Ĩ:=["things"]
structure D6:Prop where
 x0:FD Í "border_ahead_of_way" 2 ["brims","way","border"] (zM zl WQ)
 x1:FD Í "show_floor" 2 ["floor"] (zM zq dM)
 x2:FD Í "read_words" 2 ["words"] (zM zl i6)
 x3:FD Í "is_number" 2 ["word"] (zM zl Zh)
 x4:FD Í "_law_ways" 2 ["_law_script","_law_at","_law_many","_law_more","_law_span"] (zM zl Zc)
structure D7:Prop where
 x0:FD Í "_law_stall_cell" 2 ["_law_script","_law_at","_law_digits"] (zM zl WE)
 x1:FD Í "_law_chosen" 2 ["_law_floor_here","_law_place","_law_pair_here","_law_number"] (zM zl Zg)
structure D8:Prop where
 x0:FD Í "is_row_within" 3 ["thing","bounds"] (zM zl kG)
 x1:FD Í "check_place" 3 ġ (zM zl jy)
 x2:FD Í "border_of_either" 3 ["borders"] (zM zq WN)
 x3:FD Í "border_of_all" 3 ["borders"] (zM zq WO)
 x4:FD Í "first_without" 3 ["told","place","pair"] (zM zq Zj)
structure D9:Prop where
 x0:FD Í "leads_into" 3 ["floor","pair","way","held"] (zM zl Zb)
 x1:FD Í "read_parts" 3 ["parts"] (zM zl a_)
 x2:FD Í "is_of_form" 3 ["word","form"] (zM zl jx)
 x3:FD Í "_law_floor" 3 ["_law_script","_law_at","_law_many","_law_brims","_law_more"] (zM zl gX)
 x4:iE Í "thing_for" 3 ["self","word","form"] (zM zq jz)
structure Ob:Prop where
 x0:FD Í "are_rows_within" 4 ["thing","bounds"] (zM zl g_)
 x1:FD Í "are_brims" 4 ["thing"] (zM zl Zm)
 x2:FD Í "check_pair" 4 ["floor","pair"] (zM zl dU)
 x3:FD Í "ways_from" 4 ġ (zM zl dI)
 x4:FD Í "stall_at" 4 ġ (zM zq dJ)
structure Oa:Prop where
 x0:FD Í "are_of_forms" 4 ["words","forms"] (zM zl WS)
structure P_:Prop where
 x0:FD Í "are_ways" 5 ["thing","places"] (zM zl dZ)
 x1:FD Í "are_stalls" 5 ["thing","owners"] (zM zl d_)
 x2:FD Í "border_ahead_of_changes" 5 ["floor","place","border"] (zM zq WR)
 x3:FD Í "change_at" 5 ["floor","place","pair","times"] (zM zl dX)
 x4:FD Í "way_out_of" 5 ["floor","place","pair","told"] (zM zq W2)
structure PZ:Prop where
 x0:FD Í "read_row" 5 ["row"] (zM zq i7)
structure PY:Prop where
 x0:FD Í "is_floor" 6 ["thing"] (zM zl gZ)
 x1:FD Í "next_border" 6 ["floor","place","last"] (zM zq WC)
 x2:FD Í "deed_into" 6 ["floor","place","pair","held"] (zM zl WK)
structure PX:Prop where
 x0:FD Í "next_round" 7 ["floor","last","fresh"] (zM zl WB)
 x1:FD Í "read_floor" 7 ["text"] (zM zq dN)
structure PV:Prop where
 x0:FD Í "rounds" 8 ["floor"] (zM zl mV)
structure PU:Prop where
 x0:FD Í "lasts" 9 Đ (zM zq WH)
 x1:FD Í "borders" 9 ["floor"] (zM zq WM)
 x2:FD Í "taker_way" 9 Đ (zM zq W3)
structure PR:Prop where
 x0:FD Í "keeper_deed" 10 Đ (zM zl WI)
 x1:FD Í "answer_lasts" 10 Ĩ (zM zq cj)
 x2:FD Í "answer_way" 10 Ĩ (zM zq cg)
structure PQ:Prop where
 x0:FD Í "answer_deed" 11 Ĩ (zM zq ck)
structure PN:Prop where
 x0:Ww Í "ANSWERS" 11 Ĩ (aH.map λ q=>(q.1,zM zq q.2))
structure PM:Prop where
 x0:iE Í "say" 12 ["self","row"] (zM zq kH)
structure PL:Prop where
 x0:Zn Í 2
 x1:iD Í "keep" 2 ["self","name","floor"] (pb mC)
structure PK:Prop where
 x0:iD Í "say" 12 ["self","row"] (pb Wn)
structure PJ:Prop where
 x0:FD Í "_law_say" 13 ["_law_desk","_law_word","_law_place","_law_pair_here"] (zM zq lL)
structure PH:Prop where
 x0:FD Í "_law_asked" 14 ["_law_desk","_law_floor_here","_law_place","_law_pair_here","_law_keepers"] (zM zl iB)
structure PB:Prop where
 x0:FD Í "_law_played" 15 ["_law_desk","_law_floor_here","_law_place","_law_pair_here","_law_numbers","_law_keepers"] (zM zl Zf)
variable {w K mg}(T:Bt mg)(U:Bq mg){h:Heap}(H:HH K w)(C:CC K w mg)(X:K.In h)(G:h.Ns Ę)
include T U H C X G
theorem JV:D1 Í:=by
 cases C;exact#[yj [] (H.h0.mk Ă) ?_,
  yj [(["one","other"],[none,none])] (H.h4.mk Ă) ?_,
  yj [] (H.h6.mk Ă) ?_,
  yj [] (H.F4.mk Ă) ?_,
  yj [] (H.SG.mk Ă) ?_]
 all_goals
  ext Ï;show#[_,(by
    repeat' first
     | show rfl
     | ext À
     | ext Õ
     | ext È
     | ext Ã
     | apply yC | apply yD | apply wL | apply wM
     | ext Ñ
     | ext ù | ext à | ext ç | ext ï | ext Ð | ext É
     | ext Â
     | apply vB | apply wK | apply wJ | apply vA | show v9
     | ext ÿ
     | ext Ê
     | show vD | show vw | apply vC | apply vv
     | show hr | show nd | ext ö | show Ā | show û | show ü | show ý | show Ö | decide
     | show è | show é | show ê | show ë | show ì | show í | show î | show ð | show ñ | show ò | show á | show â | show ã | show ä | show å),(by
    repeat' first
     | ext Ì
     | ext Ė
     | ext Á
     | ext Ù
     | ext Ç
     | ext Ä
     | ext Ú
     | show ú
     | show þ)]
variable (d1:D1 Í)
include d1
theorem JK:D2 Í:=by
 cases C;cases d1;exact#[yj [] (H.Fv.mk Ă) ?_,
  yj [] (H.Fp.mk Ă) ?_,
  yj [] (H.Fd.mk Ă) ?_,
  yj [] (H.eF.mk Ă) ?_,
  yj [] (H.GV.mk Ă) ?_]
 all_goals
  ext Ï;show#[_,(by
    repeat' first
     | show rfl
     | ext À
     | ext Õ
     | ext È
     | ext Ã
     | apply yC | apply yD | apply wL | apply wM
     | ext Ñ
     | ext ù | ext à | ext ç | ext ï | ext Ð | ext É
     | ext Â
     | apply vB | apply wK | apply wJ | apply vA | show v9
     | ext ÿ
     | ext Ê
     | show vD | show vw | apply vC | apply vv
     | show hr | show nd | ext ö | show Ā | show û | show ü | show ý | show Ö | decide
     | show è | show é | show ê | show ë | show ì | show í | show î | show ð | show ñ | show ò | show á | show â | show ã | show ä | show å),(by
    repeat' first
     | ext Ì
     | ext Ė
     | ext Á
     | ext Ù
     | ext Ç
     | ext Ä
     | ext Ú
     | show ú
     | show þ)]
variable (d2:D2 Í)
include d2
theorem JC:D3 Í:=by
 ext Ģ;exact#[yj [] (H.GU.mk Ă) ?_,
  yj [] (H.GR.mk Ă) ?_,
  yj [(["sign","signs"],Ď)] (H.GN.mk Ă) ?_,
  yj [] (H.GH.mk Ă) ?_,
  yj [] (H.GC.mk Ă) ?_]
 all_goals
  ext Ï;show#[_,(by
    repeat' first
     | show rfl
     | ext À
     | ext Õ
     | ext È
     | ext Ã
     | apply yC | apply yD | apply wL | apply wM
     | ext Ñ
     | ext ù | ext à | ext ç | ext ï | ext Ð | ext É
     | ext Â
     | apply vB | apply wK | apply wJ | apply vA | show v9
     | ext ÿ
     | ext Ê
     | show vD | show vw | apply vC | apply vv
     | show hr | show nd | ext ö | show Ā | show û | show ü | show ý | show Ö | decide
     | show è | show é | show ê | show ë | show ì | show í | show î | show ð | show ñ | show ò | show á | show â | show ã | show ä | show å),(by
    repeat' first
     | ext Ì
     | ext Ė
     | ext Á
     | ext Ù
     | ext Ç
     | ext Ä
     | ext Ú
     | show ú
     | show þ)]
variable (d3:D3 Í)
include d3
theorem JB:D4 Í:=by
 ext Ģ;cases d3;exact#[yj [] (H.GA.mk Ă) ?_,
  yj [] (H.G7.mk Ă) ?_,
  yj [] (H.G6.mk Ă) ?_,
  yj [(["_law_stall","_law_place"],Ď)] (H.G5.mk Ă) ?_,
  yj [] (H.qx.mk Ă) ?_]
 all_goals
  ext Ï;show#[_,(by
    repeat' first
     | show rfl
     | ext À
     | ext Õ
     | ext È
     | ext Ã
     | apply yC | apply yD | apply wL | apply wM
     | ext Ñ
     | ext ù | ext à | ext ç | ext ï | ext Ð | ext É
     | ext Â
     | apply vB | apply wK | apply wJ | apply vA | show v9
     | ext ÿ
     | ext Ê
     | show vD | show vw | apply vC | apply vv
     | show hr | show nd | ext ö | show Ā | show û | show ü | show ý | show Ö | decide
     | show è | show é | show ê | show ë | show ì | show í | show î | show ð | show ñ | show ò | show á | show â | show ã | show ä | show å),(by
    repeat' first
     | ext Ì
     | ext Ė
     | ext Á
     | ext Ù
     | ext Ç
     | ext Ä
     | ext Ú
     | show ú
     | show þ)]
variable (d4:D4 Í)
include d4
theorem JA:D5 Í:=by
 ext Ģ;cases d3;cases d4;exact#[yj [] (H.h1.mk Ă) ?_,
  yj [(["owner"],ģ)] (H.h7.mk Ă) ?_,
  yj [(["own","pair"],Ď)] (H.Fu.mk Ă) ?_,
  yj [(["pair"],ģ)] (H.Ft.mk Ă) ?_,
  yj [] (H.Fs.mk Ă) ?_]
 all_goals
  ext Ï;show#[_,(by
    repeat' first
     | show rfl
     | ext À
     | ext Õ
     | ext È
     | ext Ã
     | apply yC | apply yD | apply wL | apply wM
     | ext Ñ
     | ext ù | ext à | ext ç | ext ï | ext Ð | ext É
     | ext Â
     | apply vB | apply wK | apply wJ | apply vA | show v9
     | ext ÿ
     | ext Ê
     | show vD | show vw | apply vC | apply vv
     | show hr | show nd | ext ö | show Ā | show û | show ü | show ý | show Ö | decide
     | show è | show é | show ê | show ë | show ì | show í | show î | show ð | show ñ | show ò | show á | show â | show ã | show ä | show å),(by
    repeat' first
     | ext Ì
     | ext Ė
     | ext Á
     | ext Ù
     | ext Ç
     | ext Ä
     | ext Ú
     | show ú
     | show þ)]
variable (d5:D5 Í)
include d5
theorem J9:D6 Í:=by
 ext Î;exact#[yj [(["pair","way"],Ď),(["pair","brims"],[none,↑0])] (H.Fq.mk Ă) ?_,
  yj [(["way"],ģ),(["stall"],ģ)] (H.GS.mk Ă) ?_,
  yj [(["word"],ģ)] (H.GQ.mk Ă) ?_,
  yj [] (H.GL.mk Ă) ?_,
  yj [] (H.GB.mk Ă) ?_]
 all_goals
  ext Ï;show#[_,(by
    repeat' first
     | show rfl
     | ext À
     | ext Õ
     | ext È
     | ext Ã
     | apply yC | apply yD | apply wL | apply wM
     | ext Ñ
     | ext ù | ext à | ext ç | ext ï | ext Ð | ext É
     | ext Â
     | apply vB | apply wK | apply wJ | apply vA | show v9
     | ext ÿ
     | ext Ê
     | show vD | show vw | apply vC | apply vv
     | show hr | show nd | ext ö | show Ā | show û | show ü | show ý | show Ö | decide
     | show è | show é | show ê | show ë | show ì | show í | show î | show ð | show ñ | show ò | show á | show â | show ã | show ä | show å),(by
    repeat' first
     | ext Ì
     | ext Ė
     | ext Á
     | ext Ù
     | ext Ç
     | ext Ä
     | ext Ú
     | show ú
     | show þ)]
variable (d6:D6 Í)
include d6
theorem J8:D7 Í:=by
 ext Î;cases d6;exact#[yj [] (H.G9.mk Ă) ?_,
  yj [(Ğ,[none,↑0,↑1])] (H.G3.mk Ă) ?_]
 all_goals
  ext Ï;show#[_,(by
    repeat' first
     | show rfl
     | ext À
     | ext Õ
     | ext È
     | ext Ã
     | apply yC | apply yD | apply wL | apply wM
     | ext Ñ
     | ext ù | ext à | ext ç | ext ï | ext Ð | ext É
     | ext Â
     | apply vB | apply wK | apply wJ | apply vA | show v9
     | ext ÿ
     | ext Ê
     | show vD | show vw | apply vC | apply vv
     | show hr | show nd | ext ö | show Ā | show û | show ü | show ý | show Ö | decide
     | show è | show é | show ê | show ë | show ì | show í | show î | show ð | show ñ | show ò | show á | show â | show ã | show ä | show å),(by
    repeat' first
     | ext Ì
     | ext Ė
     | ext Á
     | ext Ù
     | ext Ç
     | ext Ä
     | ext Ú
     | show ú
     | show þ)]
variable (d7:D7 Í)
include d7
theorem J7:D8 Í:=by
 ext ĥ;exact#[yj [(["number","bound"],[none,none])] (H.h2.mk Ă) ?_,
  yj [] (H.eG.mk Ă) ?_,
  yj [] (H.bQ.mk Ă) ?_,
  yj [] (H.Fm.mk Ă) ?_,
  yj [] (H.Ff.mk Ă) ?_]
 all_goals
  ext Ï;show#[_,(by
    repeat' first
     | show rfl
     | ext À
     | ext Õ
     | ext È
     | ext Ã
     | apply yC | apply yD | apply wL | apply wM
     | ext Ñ
     | ext ù | ext à | ext ç | ext ï | ext Ð | ext É
     | ext Â
     | apply vB | apply wK | apply wJ | apply vA | show v9
     | ext ÿ
     | ext Ê
     | show vD | show vw | apply vC | apply vv
     | show hr | show nd | ext ö | show Ā | show û | show ü | show ý | show Ö | decide
     | show è | show é | show ê | show ë | show ì | show í | show î | show ð | show ñ | show ò | show á | show â | show ã | show ä | show å),(by
    repeat' first
     | ext Ì
     | ext Ė
     | ext Á
     | ext Ù
     | ext Ç
     | ext Ä
     | ext Ú
     | show ú
     | show þ)]
variable (d8:D8 Í)
include d8
theorem J6:D9 Í:=by
 ext ĥ;cases d8;exact#[yj [] (H.G_.mk Ă) ?_,
  yj [] (H.GP.mk Ă) ?_,
  yj [] (H.GK.mk Ă) ?_,
  yj [] (H.G8.mk Ă) ?_,
  Rh [] H.IU ?_]
 all_goals
  ext Ï;show#[_,(by
    repeat' first
     | show rfl
     | ext À
     | ext Õ
     | ext È
     | ext Ã
     | apply yC | apply yD | apply wL | apply wM
     | ext Ñ
     | ext ù | ext à | ext ç | ext ï | ext Ð | ext É
     | ext Â
     | apply vB | apply wK | apply wJ | apply vA | show v9
     | ext ÿ
     | ext Ê
     | show vD | show vw | apply vC | apply vv
     | show hr | show nd | ext ö | show Ā | show û | show ü | show ý | show Ö | decide
     | show è | show é | show ê | show ë | show ì | show í | show î | show ð | show ñ | show ò | show á | show â | show ã | show ä | show å),(by
    repeat' first
     | ext Ì
     | ext Ė
     | ext Á
     | ext Ù
     | ext Ç
     | ext Ä
     | ext Ú
     | show ú
     | show þ)]
variable (d9:D9 Í)
include d9
theorem JU:Ob Í:=by
 ext ĥ;cases d8;cases d9;exact#[yj [(["row","bounds"],Ď)] (H.h3.mk Ă) ?_,
  yj [] (H.h5.mk Ă) ?_,
  yj [] (H.F0.mk Ă) ?_,
  yj [(["number","way","place"],[none,none,↑1])] (H.Fz.mk Ă) ?_,
  yj [] (H.Fw.mk Ă) ?_]
 all_goals
  ext Ï;show#[_,(by
    repeat' first
     | show rfl
     | ext À
     | ext Õ
     | ext È
     | ext Ã
     | apply yC | apply yD | apply wL | apply wM
     | ext Ñ
     | ext ù | ext à | ext ç | ext ï | ext Ð | ext É
     | ext Â
     | apply vB | apply wK | apply wJ | apply vA | show v9
     | ext ÿ
     | ext Ê
     | show vD | show vw | apply vC | apply vv
     | show hr | show nd | ext ö | show Ā | show û | show ü | show ý | show Ö | decide
     | show è | show é | show ê | show ë | show ì | show í | show î | show ð | show ñ | show ò | show á | show â | show ã | show ä | show å),(by
    repeat' first
     | ext Ì
     | ext Ė
     | ext Á
     | ext Ù
     | ext Ç
     | ext Ä
     | ext Ú
     | show ú
     | show þ)]
variable (d10:Ob Í)
include d10
theorem JT:Oa Í:=by
 ext Ò;exact#[yj [(["word","form"],[none,none])] (H.GJ.mk Ă) ?_]
 all_goals
  ext Ï;show#[_,(by
    repeat' first
     | show rfl
     | ext À
     | ext Õ
     | ext È
     | ext Ã
     | apply yC | apply yD | apply wL | apply wM
     | ext Ñ
     | ext ù | ext à | ext ç | ext ï | ext Ð | ext É
     | ext Â
     | apply vB | apply wK | apply wJ | apply vA | show v9
     | ext ÿ
     | ext Ê
     | show vD | show vw | apply vC | apply vv
     | show hr | show nd | ext ö | show Ā | show û | show ü | show ý | show Ö | decide
     | show è | show é | show ê | show ë | show ì | show í | show î | show ð | show ñ | show ò | show á | show â | show ã | show ä | show å),(by
    repeat' first
     | ext Ì
     | ext Ė
     | ext Á
     | ext Ù
     | ext Ç
     | ext Ä
     | ext Ú
     | show ú
     | show þ)]
variable (d11:Oa Í)
include d11
theorem JS:P_ Í:=by
 ext Ò;cases d11;exact#[yj [(["way"],ģ),(["start","starts"],[none,↑4])] (H.h8.mk Ă) ?_,
  yj [(["stall"],ģ),(["stall","owners"],Ď)] (H.h9.mk Ă) ?_,
  yj [] (H.Fo.mk Ă) ?_,
  yj [] (H.Fc.mk Ă) ?_,
  yj [(["way","floor","pair","told","steps"],[none,↑0,↑2,↑3,↑4])] (H.GX.mk Ă) ?_]
 all_goals
  ext Ï;show#[_,(by
    repeat' first
     | show rfl
     | ext À
     | ext Õ
     | ext È
     | ext Ã
     | apply yC | apply yD | apply wL | apply wM
     | ext Ñ
     | ext ù | ext à | ext ç | ext ï | ext Ð | ext É
     | ext Â
     | apply vB | apply wK | apply wJ | apply vA | show v9
     | ext ÿ
     | ext Ê
     | show vD | show vw | apply vC | apply vv
     | show hr | show nd | ext ö | show Ā | show û | show ü | show ý | show Ö | decide
     | show è | show é | show ê | show ë | show ì | show í | show î | show ð | show ñ | show ò | show á | show â | show ã | show ä | show å),(by
    repeat' first
     | ext Ì
     | ext Ė
     | ext Á
     | ext Ù
     | ext Ç
     | ext Ä
     | ext Ú
     | show ú
     | show þ)]
variable (d12:P_ Í)
include d12
theorem JR:PZ Í:=by
 ext Ē;exact#[yj [] (H.GI.mk Ă) ?_]
 all_goals
  ext Ï;show#[_,(by
    repeat' first
     | show rfl
     | ext À
     | ext Õ
     | ext È
     | ext Ã
     | apply yC | apply yD | apply wL | apply wM
     | ext Ñ
     | ext ù | ext à | ext ç | ext ï | ext Ð | ext É
     | ext Â
     | apply vB | apply wK | apply wJ | apply vA | show v9
     | ext ÿ
     | ext Ê
     | show vD | show vw | apply vC | apply vv
     | show hr | show nd | ext ö | show Ā | show û | show ü | show ý | show Ö | decide
     | show è | show é | show ê | show ë | show ì | show í | show î | show ð | show ñ | show ò | show á | show â | show ã | show ä | show å),(by
    repeat' first
     | ext Ì
     | ext Ė
     | ext Á
     | ext Ù
     | ext Ç
     | ext Ä
     | ext Ú
     | show ú
     | show þ)]
variable (d13:PZ Í)
include d13
theorem JQ:PY Í:=by
 ext Ē;cases d13;exact#[yj [] (H.F5.mk Ă) ?_,
  yj [(["number","floor"],[none,↑0]),(["way","floor","last"],[none,↑0,↑2])] (H.Fj.mk Ă) ?_,
  yj [] (H.GZ.mk Ă) ?_]
 all_goals
  ext Ï;show#[_,(by
    repeat' first
     | show rfl
     | ext À
     | ext Õ
     | ext È
     | ext Ã
     | apply yC | apply yD | apply wL | apply wM
     | ext Ñ
     | ext ù | ext à | ext ç | ext ï | ext Ð | ext É
     | ext Â
     | apply vB | apply wK | apply wJ | apply vA | show v9
     | ext ÿ
     | ext Ê
     | show vD | show vw | apply vC | apply vv
     | show hr | show nd | ext ö | show Ā | show û | show ü | show ý | show Ö | decide
     | show è | show é | show ê | show ë | show ì | show í | show î | show ð | show ñ | show ò | show á | show â | show ã | show ä | show å),(by
    repeat' first
     | ext Ì
     | ext Ė
     | ext Á
     | ext Ù
     | ext Ç
     | ext Ä
     | ext Ú
     | show ú
     | show þ)]
variable (d14:PY Í)
include d14
theorem JP:PX Í:=by
 ext Ē;cases d13;cases d14;exact#[yj [(["way","fresh"],[none,↑2])] (H.Fh.mk Ă) ?_,
  yj [] (H.GO.mk Ă) ?_]
 all_goals
  ext Ï;show#[_,(by
    repeat' first
     | show rfl
     | ext À
     | ext Õ
     | ext È
     | ext Ã
     | apply yC | apply yD | apply wL | apply wM
     | ext Ñ
     | ext ù | ext à | ext ç | ext ï | ext Ð | ext É
     | ext Â
     | apply vB | apply wK | apply wJ | apply vA | show v9
     | ext ÿ
     | ext Ê
     | show vD | show vw | apply vC | apply vv
     | show hr | show nd | ext ö | show Ā | show û | show ü | show ý | show Ö | decide
     | show è | show é | show ê | show ë | show ì | show í | show î | show ð | show ñ | show ò | show á | show â | show ã | show ä | show å),(by
    repeat' first
     | ext Ì
     | ext Ė
     | ext Á
     | ext Ù
     | ext Ç
     | ext Ä
     | ext Ú
     | show ú
     | show þ)]
variable (d15:PX Í)
include d15
theorem JO:PV Í:=by
 ext Ø;exact#[yj [(["place","border","last"],[none,none,↑3])] (H.Fg.mk Ă) ?_]
 all_goals
  ext Ï;show#[_,(by
    repeat' first
     | show rfl
     | ext À
     | ext Õ
     | ext È
     | ext Ã
     | apply yC | apply yD | apply wL | apply wM
     | ext Ñ
     | ext ù | ext à | ext ç | ext ï | ext Ð | ext É
     | ext Â
     | apply vB | apply wK | apply wJ | apply vA | show v9
     | ext ÿ
     | ext Ê
     | show vD | show vw | apply vC | apply vv
     | show hr | show nd | ext ö | show Ā | show û | show ü | show ý | show Ö | decide
     | show è | show é | show ê | show ë | show ì | show í | show î | show ð | show ñ | show ò | show á | show â | show ã | show ä | show å),(by
    repeat' first
     | ext Ì
     | ext Ė
     | ext Á
     | ext Ù
     | ext Ç
     | ext Ä
     | ext Ú
     | show ú
     | show þ)]
variable (d16:PV Í)
include d16
theorem JN:PU Í:=by
 ext Ø;cases d16;exact#[yj [] (H.Fe.mk Ă) ?_,
  yj [] (H.Fb.mk Ă) ?_,
  yj [] (H.GW.mk Ă) ?_]
 all_goals
  ext Ï;show#[_,(by
    repeat' first
     | show rfl
     | ext À
     | ext Õ
     | ext È
     | ext Ã
     | apply yC | apply yD | apply wL | apply wM
     | ext Ñ
     | ext ù | ext à | ext ç | ext ï | ext Ð | ext É
     | ext Â
     | apply vB | apply wK | apply wJ | apply vA | show v9
     | ext ÿ
     | ext Ê
     | show vD | show vw | apply vC | apply vv
     | show hr | show nd | ext ö | show Ā | show û | show ü | show ý | show Ö | decide
     | show è | show é | show ê | show ë | show ì | show í | show î | show ð | show ñ | show ò | show á | show â | show ã | show ä | show å),(by
    repeat' first
     | ext Ì
     | ext Ė
     | ext Á
     | ext Ù
     | ext Ç
     | ext Ä
     | ext Ú
     | show ú
     | show þ)]
variable (d17:PU Í)
include d17
theorem JM:PR Í:=by
 ext ĝ;exact#[yj [] (H.GY.mk Ă) ?_,
  yj [] (H.GG.mk Ă) ?_,
  yj [] (H.GD.mk Ă) ?_]
 all_goals
  ext Ï;show#[_,(by
    repeat' first
     | show rfl
     | ext À
     | ext Õ
     | ext È
     | ext Ã
     | apply yC | apply yD | apply wL | apply wM
     | ext Ñ
     | ext ù | ext à | ext ç | ext ï | ext Ð | ext É
     | ext Â
     | apply vB | apply wK | apply wJ | apply vA | show v9
     | ext ÿ
     | ext Ê
     | show vD | show vw | apply vC | apply vv
     | show hr | show nd | ext ö | show Ā | show û | show ü | show ý | show Ö | decide
     | show è | show é | show ê | show ë | show ì | show í | show î | show ð | show ñ | show ò | show á | show â | show ã | show ä | show å),(by
    repeat' first
     | ext Ì
     | ext Ė
     | ext Á
     | ext Ù
     | ext Ç
     | ext Ä
     | ext Ú
     | show ú
     | show þ)]
variable (d18:PR Í)
include d18
theorem JL:PQ Í:=by
 ext ĝ;cases d18;exact#[yj [] (H.GF.mk Ă) ?_]
 all_goals
  ext Ï;show#[_,(by
    repeat' first
     | show rfl
     | ext À
     | ext Õ
     | ext È
     | ext Ã
     | apply yC | apply yD | apply wL | apply wM
     | ext Ñ
     | ext ù | ext à | ext ç | ext ï | ext Ð | ext É
     | ext Â
     | apply vB | apply wK | apply wJ | apply vA | show v9
     | ext ÿ
     | ext Ê
     | show vD | show vw | apply vC | apply vv
     | show hr | show nd | ext ö | show Ā | show û | show ü | show ý | show Ö | decide
     | show è | show é | show ê | show ë | show ì | show í | show î | show ð | show ñ | show ò | show á | show â | show ã | show ä | show å),(by
    repeat' first
     | ext Ì
     | ext Ė
     | ext Á
     | ext Ù
     | ext Ç
     | ext Ä
     | ext Ú
     | show ú
     | show þ)]
variable (d19:PQ Í)
include d19
theorem JJ:PN Í:=by
 ext ĝ;cases d18;cases d19;show#[H.ax.mk Ă (Wg ā (Wg ā (Wg ā C9 () ()) () ()) () ())]
variable (d20:PN Í)
include d20
theorem JI:PM Í:=by
 ext õ;exact#[Rh đ ?_]
 all_goals
  ext Ï;show#[_,(by
    repeat' first
     | show rfl
     | ext À
     | ext Õ
     | ext È
     | ext Ã
     | apply yC | apply yD | apply wL | apply wM
     | ext Ñ
     | ext ù | ext à | ext ç | ext ï | ext Ð | ext É
     | ext Â
     | apply vB | apply wK | apply wJ | apply vA | show v9
     | ext ÿ
     | ext Ê
     | show vD | show vw | apply vC | apply vv
     | show hr | show nd | ext ö | show Ā | show û | show ü | show ý | show Ö | decide
     | show è | show é | show ê | show ë | show ì | show í | show î | show ð | show ñ | show ò | show á | show â | show ã | show ä | show å),(by
    repeat' first
     | ext Ì
     | ext Ė
     | ext Á
     | ext Ù
     | ext Ç
     | ext Ä
     | ext Ú
     | show ú
     | show þ)]
variable (d21:PM Í)
include d21
theorem JH:PL Í:=by
 ext õ;cases d21;show#[Et H.hk H.IW Ă,
  Er H.hk H.IV]
variable (d22:PL Í)
include d22
theorem JG:PK Í:=by
 ext õ;cases d21;cases d22;exact#[Ek đ rfl ?_];ext Ï;show#[_,_,_,_,_,(by
   exact#[?_,?_,?_]
   all_goals
    repeat' first
     | show rfl
     | ext À
     | ext Õ
     | ext È
     | ext Ã
     | apply yC | apply yD | apply wL | apply wM
     | ext Ñ
     | ext ù | ext à | ext ç | ext ï | ext Ð | ext É
     | ext Â
     | apply vB | apply wK | apply wJ | apply vA | show v9
     | ext ÿ
     | ext Ê
     | show vD | show vw | apply vC | apply vv
     | show hr | show nd | ext ö | show Ā | show û | show ü | show ý | show Ö | decide
     | show è | show é | show ê | show ë | show ì | show í | show î | show ð | show ñ | show ò | show á | show â | show ã | show ä | show å),(by
   exact#[?_,?_,?_,?_]
   all_goals
    repeat' first
     | ext Ì
     | ext Ė
     | ext Á
     | ext Ù
     | ext Ç
     | ext Ä
     | ext Ú
     | show ú
     | show þ)]
variable (d23:PK Í)
include d23
theorem JF:PJ Í:=by
 ext ă;exact#[yj [] (H.G4.mk Ă) ?_]
 all_goals
  ext Ï;show#[_,(by
    repeat' first
     | show rfl
     | ext À
     | ext Õ
     | ext È
     | ext Ã
     | apply yC | apply yD | apply wL | apply wM
     | ext Ñ
     | ext ù | ext à | ext ç | ext ï | ext Ð | ext É
     | ext Â
     | apply vB | apply wK | apply wJ | apply vA | show v9
     | ext ÿ
     | ext Ê
     | show vD | show vw | apply vC | apply vv
     | show hr | show nd | ext ö | show Ā | show û | show ü | show ý | show Ö | decide
     | show è | show é | show ê | show ë | show ì | show í | show î | show ð | show ñ | show ò | show á | show â | show ã | show ä | show å),(by
    repeat' first
     | ext Ì
     | ext Ė
     | ext Á
     | ext Ù
     | ext Ç
     | ext Ä
     | ext Ú
     | show ú
     | show þ)]
variable (d24:PJ Í)
include d24
theorem JE:PH Í:=by
 ext ă;cases d24;exact#[yj [(["_law_k"],ģ),(Ğ,[none,↑1,↑2])] (H.G2.mk Ă) ?_]
 all_goals
  ext Ï;show#[_,(by
    repeat' first
     | show rfl
     | ext À
     | ext Õ
     | ext È
     | ext Ã
     | apply yC | apply yD | apply wL | apply wM
     | ext Ñ
     | ext ù | ext à | ext ç | ext ï | ext Ð | ext É
     | ext Â
     | apply vB | apply wK | apply wJ | apply vA | show v9
     | ext ÿ
     | ext Ê
     | show vD | show vw | apply vC | apply vv
     | show hr | show nd | ext ö | show Ā | show û | show ü | show ý | show Ö | decide
     | show è | show é | show ê | show ë | show ì | show í | show î | show ð | show ñ | show ò | show á | show â | show ã | show ä | show å),(by
    repeat' first
     | ext Ì
     | ext Ė
     | ext Á
     | ext Ù
     | ext Ç
     | ext Ä
     | ext Ú
     | show ú
     | show þ)]
variable (d25:PH Í)
include d25
theorem JD:PB Í:=by
 ext ă;cases d24;cases d25;exact#[yj [] (H.G1.mk Ă) ?_]
 all_goals
  ext Ï;show#[_,(by
    repeat' first
     | show rfl
     | ext À
     | ext Õ
     | ext È
     | ext Ã
     | apply yC | apply yD | apply wL | apply wM
     | ext Ñ
     | ext ù | ext à | ext ç | ext ï | ext Ð | ext É
     | ext Â
     | apply vB | apply wK | apply wJ | apply vA | show v9
     | ext ÿ
     | ext Ê
     | show vD | show vw | apply vC | apply vv
     | show hr | show nd | ext ö | show Ā | show û | show ü | show ý | show Ö | decide
     | show è | show é | show ê | show ë | show ì | show í | show î | show ð | show ñ | show ò | show á | show â | show ã | show ä | show å),(by
    repeat' first
     | ext Ì
     | ext Ė
     | ext Á
     | ext Ù
     | ext Ç
     | ext Ä
     | ext Ú
     | show ú
     | show þ)]
variable (d26:PB Í)
include d26
theorem J5 {f:Addr}{fd:FuncData}(F:oW K "law" "law" (top 130) f fd):qY Í xj 16 f Ĥ:=by
 ext ă;cases d24;cases d25;cases d26;exact Eb [(["_law_k"],ģ),(["_law_k","_law_script"],[none,↑0])] F ?_
 all_goals
  intro AF A outer s H E hc nd hN hS hr;show#[_,(by
    repeat' first
     | show rfl
     | ext À
     | ext Õ
     | ext È
     | ext Ã
     | apply yC | apply yD | apply wL | apply wM
     | ext Ñ
     | ext ù | ext à | ext ç | ext ï | ext Ð | ext É
     | ext Â
     | apply vB | apply wK | apply wJ | apply vA | show v9
     | ext ÿ
     | ext Ê
     | show vD | show vw | apply vC | apply vv
     | show hr | show nd | ext ö | show Ā | show û | show ü | show ý | show Ö | decide
     | show è | show é | show ê | show ë | show ì | show í | show î | show ð | show ñ | show ò | show á | show â | show ã | show ä | show å),(by
    repeat' first
     | ext Ì
     | ext Ė
     | ext Á
     | ext Ù
     | ext Ç
     | ext Ä
     | ext Ú
     | show ú
     | show þ)]
end
def all_mk {l:PySem.W.OpenLaw}{w:World}{K:AB}{h:Heap}{mg:A0}{fa:Addr}(X:K.In h) (G:h.Ns Ę) (hfa:mg "law"=↑(.ref fa)) (H:HH K w):
  ∃ fd:FuncData,(∀ (s:Shared) (v:Value),BindsTo s fd #[[v],[]] [("_law_script",v)])/\∀ base:Heap,K.In base->base.Ns Ę->qY l.prog w K mg base xj 16 fa Ĥ:=by
 have T:Bt mg:=#[zC2 Ă H.z0,zC2 Ă H.z1,zC2 Ă H.z2,zC2 Ă H.z3,zC2 Ă H.z4,zC2 Ă H.z5,zC2 Ă H.z6,zC2 Ă H.z7,zC2 Ă H.z8,zC2 Ă H.z9,zC2 Ă H.O9,zC2 Ă H.O8,zC2 Ă H.O7];have U:Bq mg:=#[zC2 Ă H.y0,zC2 Ă H.y1,zC2 Ă H.y2];have C:CC K w mg:=#[H.FO.mk Ă,H.FN.mk Ă,H.FL.mk Ă,H.FK.mk Ă,H.FJ.mk Ă,H.FI.mk Ă,H.FH.mk Ă,H.FG.mk Ă,H.FF.mk Ă,H.FE.mk Ă,H.fo.mk Ă,H.hk];let#[fd,Fl,hb]:=H.G0.law Ă hfa λ _ _ _ _ _ _ _ _=>.of_eq rfl;exact#[fd,hb,λ base _ _=>?_];have d1:=JV l.prog base T U H C Ă;have d2:=JK Ó;have d3:=JC Ó d2;have d4:=JB Ó d2 d3;have d5:=JA Ó d2 d3 d4;have d6:=J9 ę;have d7:=J8 ę d6;have d8:=J7 ę d6 d7;have d9:=J6 Þ;have d10:=JU Û;have d11:=JT Û d10;have d12:=JS Û d10 d11;have d13:=JR Č;have d14:=JQ Ċ;have d15:=JP č;have d16:=JO ø;have d17:=JN ô;have d18:=JM ó;have d19:=JL ó d18;have d20:=JJ ó d18 d19;have d21:=JI Ć;have d22:=JH Ą;have d23:=JG ą;have d24:=JF ć;have d25:=JE ć d24;have d26:=JD ć d24 d25;show J5 ć d24 d25 d26 Fl
def walk {l:PySem.W.OpenLaw}{q:Program}{loose:List Str}{XP:(Str->Option Value)->Heap->Prop}{YP:World->Heap->Prop}{d:DefRec}{K:Params->AB}(hn:l.most=↑63) (hdf:d.params.defaults=[])
  (hY:∀ (w:World) (h:Heap),YP w h->(ğ).In h)
  (F:∀ (w:World) (mg:A0) (fa:Addr) (h:Heap),(ğ).In h->h.Ns Ę->mg d.name=↑(.ref fa)->
   ∃ fd:FuncData,(∀ (s:Shared) (u:Value),BindsTo s fd #[[u],[]] [("_law_script",u)])/\∀ base:Heap,(ğ).In base->base.Ns Ę->qY l.prog w (ğ) mg base xj 16 fa fd ["_law_script"] (pR (ğ) (zM zl dP))):
  PySem.W.WalkO q loose XP YP l.row.toRowW d [] (λ f vs=>PySem.call f vs):=
 L2.OH (n:=63) (k:=16) (x:="_law_script") (CX:=λ _=>xj) (sp:=λ w=>pR (ğ) (zM zl dP)) hn () hdf #[rfl,(),()] hY F (λ _ _ a ns hl hO hS=>Hz Hx hO hS hl) λ _ _ _ _ _ z=>z
def walkOfLaw:HypoOfLaw:=λ hdf hY hd H=>walk (l:=PySem.Challenge.rw_purseborder_k96_whole_played_by_texts) rfl hdf hY λ w mg fa h KX G hmg=>all_mk KX G (by rw[<- hd];show hmg) (H w)
end zY
)

set_option maxHeartbeats 0 in
theorem PySem.Challenge.cw_purseborder_k96_whole_played_by_texts_holds : PySem.Challenge.rw_purseborder_k96_whole_played_by_texts.Holds := by
 exact PySem.Challenge.headOfLaw zY.walkOfLaw
