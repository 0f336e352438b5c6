import PyProof.Rows.All
import Wide.All
import OpenK.AllK
import Wide.FinOn
import Lean
import PyProof.EqAt
import PyProof.EqKinds
import PyProof.TupleCall
import PySem.SetOps
import PyProof.SetScanFacts
import PyProof.TupleKey
import PyProof.SetKind
import PyProof.SetRoads
import PyProof.IsRules
import PyProof.ZipIter
import PyProof.TupleIter
import PyProof.ListMulRoad
import PyProof.FactsAll.tuple
import PyProof.ListRange
import PyProof.Draws
import PyProof.EnumFor
import PyProof.Rows.ListMul
import PyProof.AutoListH
import PyProof.ExcInit
import PyProof.ExcClass2
import PyProof.InstStore
import PyProof.InstStoreFacts
import PyProof.ExcArgsOwn
import PyProof.IsInstance
import PyProof.IsInstanceH
import PyProof.StationsW
import PyProof.Rows.CatchOwn
import PyProof.FactsAll.dict_1
import PyProof.Rows.Range3
import PyProof.FitsBits
import PyProof.MinMaxWalk
import PyProof.WalkInts
import PyProof.Rows.MinMaxN
import PyProof.EqKinds
import PyProof.StrCalls2
import PyProof.StrCalls6
import PyProof.CallStr
import PyProof.StrBlockG
import PyProof.SliceStr2
import PyProof.IsInstanceT
import PyProof.StrLawsReplace
import PyProof.Rows.StrSplitJoin
import PyProof.StrLoop
import PyProof.StrWalks
import PyProof.Rows.StrSplitMax
import KE.KIntText
import PyProof.StrBlock
import PyProof.StrCalls5
import PySem.Challenge.RW_purseborder_k94_whole_borders_by_texts
set_option Elab.async false
set_option linter.all false
set_option maxRecDepth 100000
set_option genSizeOf false
set_option compiler.extract_closed false
set_option bootstrap.genMatcherCode false
abbrev zVP:=PySem.Value->PySem.Shared->Prop
abbrev zLA:=List (PySem.Addr×PySem.Obj)
abbrev zLV:=List PySem.Value
abbrev zSV:=PySem.Str->Option PySem.Value
abbrev zAV:=Array PySem.Value
def zdK {p:Prop}[Decidable p](h:decide p=true:=by decide +kernel):p:=of_decide_eq_true h
noncomputable section
def zcO:=@PySem.wpAny_bind
def zcP:=@PySem.Heap.get?_push_of_some
def zcQ:=@PySem.PassesOwn.never
def zcR:=@decide_eq_false
def zcS:=@decide_eq_true
def zcT:=@PySem.wpAny_field
def zcU:=@PySem.wpAny_mono
def zcV:=@PySem.wpAny_holding
def zcW:=@PySem.wpAny_call_entry
def zcX:=@PySem.wpAny_truthy_bool
def zcY:=@PySem.wpAny_newObj_type
def zcZ:=@PySem.wpAny_setState_of
def zd0:=@PySem.wpAny_seqItems
def zd1:=@PySem.wpAny_callSpecial?_slot
def zd2:=@PySem.wpAny_typeOf
def zd3:=@PySem.wpAny_passesOwn
def zd4:=@PySem.Heap.get?_update_self
def zd5:=@PySem.wpAny_Call_method_late
def zd6:=@PySem.wpAny_setField_rec
def zd7:=@PySem.wpAny_execs_nil
def zd8:=@PySem.wpAny_Call_Name_kw
def zd9:=@PySem.wpAny_pyIter_list
def zdA:=@PySem.wpAny_askSetting
def zdB:=@PySem.wpAny_setField
def zdC:=@PySem.Heap.get?_update_other
def zdD:=@PySem.wpAny_pyIter_tuple
def zdE:=@PySem.Heap.get?_update_ne
def zdF:=@PySem.wpAny_getItem_str_slice
def za0:=@Option.bind_eq_some_iff
def za1:=@List.mem_cons_self
def za2:=@List.mem_cons_of_mem
def za3:=@Option.map_eq_some_iff
def za4:=@List.map_nil
def za5:=@List.not_mem_nil
def za6:=@Bool.false_ne_true
def za7:=@List.lookup_cons
def za8:=@Nat.lt_or_ge
def za9:=@List.pairwise_cons
def zaA:=@List.any_cons
def zaB:=@List.append_nil
def zaC:=@List.nodup_cons
def zaD:=@List.map_congr_left
def zaE:=@List.length_nil
def zaF:=@Nat.ne_of_gt
def zaG:=@Nat.lt_trans
def zaH:=@List.replicate_succ
def zaI:=@List.length_drop
def zaJ:=@List.mem_iff_getElem
def zaK:=@List.all_map
def zaL:=@List.find?_cons
def zaM:=@List.mem_flatMap
def zaN:=@Int.add_mul
def zaO:=@List.mem_append_left
def zaP:=@List.flatten_cons
def zaQ:=@List.foldl_cons
def zaR:=@Nat.lt_succ_of_lt
def zaS:=@List.mem_of_find?_eq_some
def zaT:=@List.getElem?_append_left
def zaU:=@Bool.and_false
def zaV:=@List.pairwise_map
def zaW:=@List.all_cons
def zaX:=@Array.getElem_toList
def zaY:=@Array.getElem?_eq_none
def zaZ:=@List.map_drop
def zb0:=@Nat.le_add_right
def zb1:=@Nat.zero_add
def zb2:=@List.sum_cons
def zb3:=@Int.mul_nonneg
def zb4:=@Int.natCast_succ
def zb5:=@List.getElem?_append_right
def zb6:=@List.getElem?_replicate
def zb7:=@List.forIn_cons
def zb8:=@List.ext_getElem
def zb9:=@Nat.mul_le_mul_right
def zbA:=@Nat.lt_trichotomy
def zbB:=@Int.toNat_natCast
def zbC:=@Int.zero_add
def zbD:=@List.any_map
def zbE:=@List.filterMap_cons
def zbF:=@List.of_mem_zip
def zbG:=@List.length_take
def zbH:=@List.length_set
def zbI:=@Nat.lt_of_le_of_lt
def zbJ:=@List.getElem?_eq_none
def zbK:=@Array.size_map
def zbL:=@List.pairwise_iff_getElem
def zbM:=@Bool.and_self
def zbN:=@Nat.mod_lt
def zbO:=@List.getElem?_cons_succ
def zbP:=@List.toList_toArray
def zbQ:=@List.foldl_append
def zbR:=@List.length_filter_le
def zbS:=@Nat.le_of_eq
def zbT:=@Option.isSome_iff_exists
def zbU:=@List.zip_cons_cons
def zbV:=@List.pairwise_append
def zbW:=@List.lookup_append
def zbX:=@List.getElem?_set
def zbY:=@Array.getD_eq_getD_getElem?
def zbZ:=@Option.isSome_map
def zc0:=@Nat.mul_comm
def zc1:=@List.take_append_drop
def zc2:=@Array.getElem?_setIfInBounds
def zc3:=@List.map_take
def zc4:=@List.length_zip
def zc5:=@List.zipIdx_cons
def zc6:=@List.cons_append
def zc7:=@Bool.not_eq_true'
def zc8:=@List.getElem?_cons_zero
def zc9:=@List.mem_filterMap
def zcA:=@List.any_eq_false
def zcB:=@List.pairwise_singleton
def zcC:=@List.getElem_range
def zcD:=@List.nodup_range
def zcE:=@List.mem_of_mem_drop
def zcF:=@List.getElem?_range
def zcG:=@List.find?_eq_none
def zcH:=@List.perm_ext_iff_of_nodup
def zcI:=@List.mem_iff_getElem?
def zcJ:=@List.take_of_length_le
def zcK:=@List.exists_cons_of_ne_nil
def zcL:=@Bool.beq_eq_decide_eq
def zcM:=@Int.min_eq_left
def zcN:=@List.mem_zipIdx_iff_getElem?
def zA0:=@List.size_toArray
def zA1:=@List.getElem?_eq_getElem
def zA2:=@List.getElem?_eq_some_iff
def zA3:=@List.getElem?_map
def zA4:=@Nat.le_refl
def zA5:=@List.mem_cons
def zA6:=@List.map_cons
def zA7:=@List.length_map
def zA8:=@PySem.Heap.lt_size
def zA9:=@PySem.Heap.get?_push_size
def zB0:=@List.mem_map
def zB1:=@List.getD_eq_getElem?_getD
def zB2:=@Bool.not_false
def zB3:=@Nat.ne_of_lt
def zB4:=@List.mem_append_right
def zB5:=@Bool.not_true
def zB6:=@List.mem_singleton
def zB7:=@List.mem_of_getElem?
def zB8:=@Array.getElem?_eq_getElem
def zB9:=@List.mem_append
def zC0:=@List.length_cons
def zC1:=@List.mem_range
def zC2:=@PySem.W.mg_none_of
def zC3:=@Nat.lt_of_lt_of_le
def zC4:=@Bool.false_eq_true
def zC5:=@List.length_range
def zC6:=@Int.le_refl
def zC7:=@Bool.eq_iff_iff
def zC8:=@List.mem_filter
def zC9:=@Option.bind_some
def zD0:=@List.any_eq_true
def zD1:=@PySem.wpAny_pure
def zD2:=@Array.length_toList
def zD3:=@Array.getElem?_toList
def zD4:=@Nat.zero_le
def zD5:=@Option.some.inj
def zD6:=@List.map_map
def zD7:=@List.length_append
def zD8:=@List.getElem_mem
def zE0:=@Nat.le_trans
def zE1:=@Nat.lt_irrefl
def zE2:=@Nat.lt_succ_self
def zE3:=@Nat.le_of_lt
def zE4:=@List.all_eq_true
def zE5:=@Bool.and_eq_true
def zE6:=@Bool.or_eq_true
def zE7:=@List.map_append
def zE8:=@List.append_assoc
def zE9:=@Bool.not_eq_true
def zF0:=@Int.emod_nonneg
def zF1:=@Int.emod_lt_of_pos
def zF2:=@Int.toNat_of_nonneg
section
theorem E_0_1{p:Prop}{G:Prop}(h:p) (f:p->G):G:=f h
theorem E_0_2{p q:Prop}{G:Prop}(h:p/\q) (f:p->q->G):G:=E_0_1 h.2 (f h.1)
theorem E_1_1{α:Sort _}{p:α->Prop}{G:Prop}(h:∃ a,p a) (f:∀ a,p a->G):G:=h.elim λ a h=>E_0_1 h (f a)
theorem E_0_3{p q r:Prop}{G:Prop}(h:p/\q/\r) (f:p->q->r->G):G:=E_0_2 h.2 (f h.1)
theorem E_1_2{α:Sort _}{p q:α->Prop}{G:Prop}(h:∃ a,p a/\q a) (f:∀ a,p a->q a->G):G:=h.elim λ a h=>E_0_2 h (f a)
theorem E_2_1{α β:Sort _}{p:α->β->Prop}{G:Prop}(h:∃ a b,p a b) (f:∀ a b,p a b->G):G:=h.elim λ a h=>E_1_1 h (f a)
theorem E_0_4{p q r s:Prop}{G:Prop}(h:p/\q/\r/\s) (f:p->q->r->s->G):G:=E_0_3 h.2 (f h.1)
theorem E_1_3{α:Sort _}{p q r:α->Prop}{G:Prop}(h:∃ a,p a/\q a/\r a) (f:∀ a,p a->q a->r a->G):G:=h.elim λ a h=>E_0_3 h (f a)
theorem E_2_2{α β:Sort _}{p q:α->β->Prop}{G:Prop}(h:∃ a b,p a b/\q a b) (f:∀ a b,p a b->q a b->G):G:=h.elim λ a h=>E_1_2 h (f a)
theorem E_3_1{α β γ:Sort _}{p:α->β->γ->Prop}{G:Prop}(h:∃ a b c,p a b c) (f:∀ a b c,p a b c->G):G:=h.elim λ a h=>E_2_1 h (f a)
theorem E_0_5{p q r s t:Prop}{G:Prop}(h:p/\q/\r/\s/\t) (f:p->q->r->s->t->G):G:=E_0_4 h.2 (f h.1)
theorem E_1_4{α:Sort _}{p q r s:α->Prop}{G:Prop}(h:∃ a,p a/\q a/\r a/\s a) (f:∀ a,p a->q a->r a->s a->G):G:=h.elim λ a h=>E_0_4 h (f a)
theorem E_2_3{α β:Sort _}{p q r:α->β->Prop}{G:Prop}(h:∃ a b,p a b/\q a b/\r a b) (f:∀ a b,p a b->q a b->r a b->G):G:=h.elim λ a h=>E_1_3 h (f a)
theorem E_3_2{α β γ:Sort _}{p q:α->β->γ->Prop}{G:Prop}(h:∃ a b c,p a b c/\q a b c) (f:∀ a b c,p a b c->q a b c->G):G:=h.elim λ a h=>E_2_2 h (f a)
theorem E_4_1{α β γ δ:Sort _}{p:α->β->γ->δ->Prop}{G:Prop}(h:∃ a b c d,p a b c d) (f:∀ a b c d,p a b c d->G):G:=h.elim λ a h=>E_3_1 h (f a)
theorem E_0_6{p q r s t u:Prop}{G:Prop}(h:p/\q/\r/\s/\t/\u) (f:p->q->r->s->t->u->G):G:=E_0_5 h.2 (f h.1)
theorem E_1_5{α:Sort _}{p q r s t:α->Prop}{G:Prop}(h:∃ a,p a/\q a/\r a/\s a/\t a) (f:∀ a,p a->q a->r a->s a->t a->G):G:=h.elim λ a h=>E_0_5 h (f a)
theorem E_2_4{α β:Sort _}{p q r s:α->β->Prop}{G:Prop}(h:∃ a b,p a b/\q a b/\r a b/\s a b) (f:∀ a b,p a b->q a b->r a b->s a b->G):G:=h.elim λ a h=>E_1_4 h (f a)
theorem E_3_3{α β γ:Sort _}{p q r:α->β->γ->Prop}{G:Prop}(h:∃ a b c,p a b c/\q a b c/\r a b c) (f:∀ a b c,p a b c->q a b c->r a b c->G):G:=h.elim λ a h=>E_2_3 h (f a)
theorem E_4_2{α β γ δ:Sort _}{p q:α->β->γ->δ->Prop}{G:Prop}(h:∃ a b c d,p a b c d/\q a b c d) (f:∀ a b c d,p a b c d->q a b c d->G):G:=h.elim λ a h=>E_3_2 h (f a)
theorem E_0_7{p q r s t u v:Prop}{G:Prop}(h:p/\q/\r/\s/\t/\u/\v) (f:p->q->r->s->t->u->v->G):G:=E_0_6 h.2 (f h.1)
theorem E_1_6{α:Sort _}{p q r s t u:α->Prop}{G:Prop}(h:∃ a,p a/\q a/\r a/\s a/\t a/\u a) (f:∀ a,p a->q a->r a->s a->t a->u a->G):G:=h.elim λ a h=>E_0_6 h (f a)
theorem E_2_5{α β:Sort _}{p q r s t:α->β->Prop}{G:Prop}(h:∃ a b,p a b/\q a b/\r a b/\s a b/\t a b) (f:∀ a b,p a b->q a b->r a b->s a b->t a b->G):G:=h.elim λ a h=>E_1_5 h (f a)
theorem E_3_4{α β γ:Sort _}{p q r s:α->β->γ->Prop}{G:Prop}(h:∃ a b c,p a b c/\q a b c/\r a b c/\s a b c) (f:∀ a b c,p a b c->q a b c->r a b c->s a b c->G):G:=h.elim λ a h=>E_2_4 h (f a)
theorem E_4_3{α β γ δ:Sort _}{p q r:α->β->γ->δ->Prop}{G:Prop}(h:∃ a b c d,p a b c d/\q a b c d/\r a b c d) (f:∀ a b c d,p a b c d->q a b c d->r a b c d->G):G:=h.elim λ a h=>E_3_3 h (f a)
theorem E_0_8{p q r s t u v w:Prop}{G:Prop}(h:p/\q/\r/\s/\t/\u/\v/\w) (f:p->q->r->s->t->u->v->w->G):G:=E_0_7 h.2 (f h.1)
theorem E_1_7{α:Sort _}{p q r s t u v:α->Prop}{G:Prop}(h:∃ a,p a/\q a/\r a/\s a/\t a/\u a/\v a) (f:∀ a,p a->q a->r a->s a->t a->u a->v a->G):G:=h.elim λ a h=>E_0_7 h (f a)
theorem E_2_6{α β:Sort _}{p q r s t u:α->β->Prop}{G:Prop}(h:∃ a b,p a b/\q a b/\r a b/\s a b/\t a b/\u a b) (f:∀ a b,p a b->q a b->r a b->s a b->t a b->u a b->G):G:=h.elim λ a h=>E_1_6 h (f a)
theorem E_3_5{α β γ:Sort _}{p q r s t:α->β->γ->Prop}{G:Prop}(h:∃ a b c,p a b c/\q a b c/\r a b c/\s a b c/\t a b c) (f:∀ a b c,p a b c->q a b c->r a b c->s a b c->t a b c->G):G:=h.elim λ a h=>E_2_5 h (f a)
theorem E_4_4{α β γ δ:Sort _}{p q r s:α->β->γ->δ->Prop}{G:Prop}(h:∃ a b c d,p a b c d/\q a b c d/\r a b c d/\s a b c d) (f:∀ a b c d,p a b c d->q a b c d->r a b c d->s a b c d->G):G:=h.elim λ a h=>E_3_4 h (f a)
theorem E_5_3{α β γ δ ε:Sort _}{p q r:α->β->γ->δ->ε->Prop}{G:Prop}(h:∃ a b c d e,p a b c d e/\q a b c d e/\r a b c d e) (f:∀ a b c d e,p a b c d e->q a b c d e->r a b c d e->G):G:=h.elim λ a h=>E_4_3 h (f a)
theorem E_1_8{α:Sort _}{p q r s t u v w:α->Prop}{G:Prop}(h:∃ a,p a/\q a/\r a/\s a/\t a/\u a/\v a/\w a) (f:∀ a,p a->q a->r a->s a->t a->u a->v a->w a->G):G:=h.elim λ a h=>E_0_8 h (f a)
theorem E_2_7{α β:Sort _}{p q r s t u v:α->β->Prop}{G:Prop}(h:∃ a b,p a b/\q a b/\r a b/\s a b/\t a b/\u a b/\v a b) (f:∀ a b,p a b->q a b->r a b->s a b->t a b->u a b->v a b->G):G:=h.elim λ a h=>E_1_7 h (f a)
theorem E_3_6{α β γ:Sort _}{p q r s t u:α->β->γ->Prop}{G:Prop}(h:∃ a b c,p a b c/\q a b c/\r a b c/\s a b c/\t a b c/\u a b c) (f:∀ a b c,p a b c->q a b c->r a b c->s a b c->t a b c->u a b c->G):G:=h.elim λ a h=>E_2_6 h (f a)
theorem E_4_5{α β γ δ:Sort _}{p q r s t:α->β->γ->δ->Prop}{G:Prop}(h:∃ a b c d,p a b c d/\q a b c d/\r a b c d/\s a b c d/\t a b c d) (f:∀ a b c d,p a b c d->q a b c d->r a b c d->s a b c d->t a b c d->G):G:=h.elim λ a h=>E_3_5 h (f a)
theorem E_6_3{α β γ δ ε ζ:Sort _}{p q r:α->β->γ->δ->ε->ζ->Prop}{G:Prop}(h:∃ a b c d e f,p a b c d e f/\q a b c d e f/\r a b c d e f) (f:∀ a b c d e f,p a b c d e f->q a b c d e f->r a b c d e f->G):G:=h.elim λ a h=>E_5_3 h (f a)
theorem E_2_8{α β:Sort _}{p q r s t u v w:α->β->Prop}{G:Prop}(h:∃ a b,p a b/\q a b/\r a b/\s a b/\t a b/\u a b/\v a b/\w a b) (f:∀ a b,p a b->q a b->r a b->s a b->t a b->u a b->v a b->w a b->G):G:=h.elim λ a h=>E_1_8 h (f a)
theorem E_4_6{α β γ δ:Sort _}{p q r s t u:α->β->γ->δ->Prop}{G:Prop}(h:∃ a b c d,p a b c d/\q a b c d/\r a b c d/\s a b c d/\t a b c d/\u a b c d) (f:∀ a b c d,p a b c d->q a b c d->r a b c d->s a b c d->t a b c d->u a b c d->G):G:=h.elim λ a h=>E_3_6 h (f a)
theorem E_5_5{α β γ δ ε:Sort _}{p q r s t:α->β->γ->δ->ε->Prop}{G:Prop}(h:∃ a b c d e,p a b c d e/\q a b c d e/\r a b c d e/\s a b c d e/\t a b c d e) (f:∀ a b c d e,p a b c d e->q a b c d e->r a b c d e->s a b c d e->t a b c d e->G):G:=h.elim λ a h=>E_4_5 h (f a)
theorem E_7_3{α β γ δ ε ζ η:Sort _}{p q r:α->β->γ->δ->ε->ζ->η->Prop}{G:Prop}(h:∃ a b c d e f g,p a b c d e f g/\q a b c d e f g/\r a b c d e f g) (f:∀ a b c d e f g,p a b c d e f g->q a b c d e f g->r a b c d e f g->G):G:=h.elim λ a h=>E_6_3 h (f a)
theorem E_3_8{α β γ:Sort _}{p q r s t u v w:α->β->γ->Prop}{G:Prop}(h:∃ a b c,p a b c/\q a b c/\r a b c/\s a b c/\t a b c/\u a b c/\v a b c/\w a b c) (f:∀ a b c,p a b c->q a b c->r a b c->s a b c->t a b c->u a b c->v a b c->w a b c->G):G:=h.elim λ a h=>E_2_8 h (f a)
theorem E_5_6{α β γ δ ε:Sort _}{p q r s t u:α->β->γ->δ->ε->Prop}{G:Prop}(h:∃ a b c d e,p a b c d e/\q a b c d e/\r a b c d e/\s a b c d e/\t a b c d e/\u a b c d e) (f:∀ a b c d e,p a b c d e->q a b c d e->r a b c d e->s a b c d e->t a b c d e->u a b c d e->G):G:=h.elim λ a h=>E_4_6 h (f a)
theorem E_6_5{α β γ δ ε ζ:Sort _}{p q r s t:α->β->γ->δ->ε->ζ->Prop}{G:Prop}(h:∃ a b c d e f,p a b c d e f/\q a b c d e f/\r a b c d e f/\s a b c d e f/\t a b c d e f) (f:∀ a b c d e f,p a b c d e f->q a b c d e f->r a b c d e f->s a b c d e f->t a b c d e f->G):G:=h.elim λ a h=>E_5_5 h (f a)
theorem E_8_3{α β γ δ ε ζ η θ:Sort _}{p q r:α->β->γ->δ->ε->ζ->η->θ->Prop}{G:Prop}(h:∃ a b c d e f g h,p a b c d e f g h/\q a b c d e f g h/\r a b c d e f g h) (f:∀ a b c d e f g h,p a b c d e f g h->q a b c d e f g h->r a b c d e f g h->G):G:=h.elim λ a h=>E_7_3 h (f a)
theorem E_4_8{α β γ δ:Sort _}{p q r s t u v w:α->β->γ->δ->Prop}{G:Prop}(h:∃ a b c d,p a b c d/\q a b c d/\r a b c d/\s a b c d/\t a b c d/\u a b c d/\v a b c d/\w a b c d) (f:∀ a b c d,p a b c d->q a b c d->r a b c d->s a b c d->t a b c d->u a b c d->v a b c d->w a b c d->G):G:=h.elim λ a h=>E_3_8 h (f a)
theorem E_9_3{α β γ δ ε ζ η θ ι:Sort _}{p q r:α->β->γ->δ->ε->ζ->η->θ->ι->Prop}{G:Prop}(h:∃ a b c d e f g h i,p a b c d e f g h i/\q a b c d e f g h i/\r a b c d e f g h i) (f:∀ a b c d e f g h i,p a b c d e f g h i->q a b c d e f g h i->r a b c d e f g h i->G):G:=h.elim λ a h=>E_8_3 h (f a)
end
open Lean in
def eKM (a:Array Term) (e:Term):MacroM (TSyntax `tactic):=do
 let n:=a.size
 if n<3||n>12 then Macro.throwUnsupported
 let f<-(List.range n).toArray.mapM λ k=>`(tacticSeq|refine $(mkIdent (.mkSimple s!"E_{n-1-k}_{k+1}")):ident $e ?_)
 let mut ts:=#[<-`(tactic|first $[|$f]*)]
 if e.raw.isIdent then ts:=ts.push (<-`(tactic|try clear $(⟨e.raw⟩):ident))
 let mut xs:Array Term:=#[]
 for x in a do
  if x.raw.isOfKind ``Lean.Parser.Term.hole||x.raw.isIdent&&x.raw.getId != `rfl then xs:=xs.push x
  else
   let y:Term<-withFreshMacroScope `(y)
   xs:=xs.push y
   ts:=ts.push (<-`(tactic|intro $xs:term*))
   xs:=#[]
   ts:=ts.push (<-if x.raw.isIdent then `(tactic|obtain $(⟨x.raw⟩):ident:=$y) else `(tactic|let $x:term:=$y))
 if xs.size>0 then ts:=ts.push (<-`(tactic|intro $xs:term*))
 `(tactic|($[$ts:tactic]*))
open Lean in
def czXX (T:NameMap (List Syntax)):Nat->Syntax->List Syntax
|0,s=>[s]
|n+1,s=>match s with
 |.ident _ _ v _=>(T.find? v).getD [s.setInfo .none]
 |.node i k a=>
  match if k== ``Lean.Elab.Tactic.Ext.ext then T.find? s[1][0][0][0].getId else if k== ``Lean.Parser.Term.implicitBinder&&s[2].getNumArgs==0 then T.find? s[1][0].getId else none with
  |some r=>if r.head!.isOfKind ``Lean.Parser.Term.byTactic then r.head![1][0][0].getArgs.toList else r
  |_=>let b:=a.toList.flatMap (czXX T n)
   [.node i k (match b with
    |[f,x]=>if k== ``Lean.Parser.Term.app&&f.isOfKind k then #[f[0],mkNullNode (f[1].getArgs++x.getArgs)] else b.toArray
    |_=>b.toArray)]
 |_=>[s.setInfo .none]
open Lean in
def czYY (q:Syntax):Array Syntax:=(q[1].getArgs.foldl (λ(T,a) c=>
 let e:=c[1]
 let z:=czXX T 9999
 if c.isOfKind ``Lean.Parser.Command.declaration&&e.isOfKind ``Lean.Parser.Command.example then
  let b:=e[1][0].getArgs
  let v:=e[2][1]
  (T.insert b[0]!.getId (if b.size==1 then z v else if b[1]!.isOfKind ``Lean.Parser.Term.hole then v[1].getArgs.toList.flatMap z else (b.toList.drop 1).flatMap z),a)
 else (T,a++z c)) ((∅:NameMap (List Syntax)),#[])).2
local macro_rules(kind:=Lean.Parser.Command.declaration)|s=>do
 unless s[1][2][1].isOfKind ``Lean.Parser.Command.quot do Lean.Macro.throwUnsupported
 return Lean.mkNullNode (czYY s[1][2][1])
open Lean in
def zRc:Nat->Term->MacroM (TSyntax `rcasesPat)
|0,_=>Macro.throwUnsupported
|n+1,t=>match t with
 |`(#[$xs,*])=>do let ys<-xs.getElems.mapM (zRc n);`(rcasesPat|⟨$[$ys:rcasesPat],*⟩)
 |`(_)=>`(rcasesPat|_)
 |`($x:ident)=>`(rcasesPat|$x:ident)
 |_=>Macro.throwUnsupported
local macro_rules|`(tactic|let $p:term:=$e)=>do let q<-zRc 9 p;`(tactic|obtain $q:rcasesPat:=$e)
local macro_rules|`(tactic|let #[$a,*]:=$e)=>do let q<-zRc 9 (<-`(#[$a,*]));let t<-eKM a.getElems e;`(tactic|first|$t:tactic|obtain $q:rcasesPat:=$e)
local macro_rules|`(tactic|simp! [$a,*] $[$l:location]?)=>`(tactic|simp only [$a,*] $[$l:location]?)
local macro_rules|`(tactic|exists $e)=>`(tactic|simpa using $e)
local macro_rules|`(tactic|show $e)=>`(tactic|refine $e)
local macro_rules|`(tactic|exact $e)=>`(tactic|refine $e)
local macro_rules|`(#[])=>`(by simp)|`(#[$xs,*])=>`(⟨$xs,*⟩)
local macro_rules|`(↑$x)=>`(some $x)
local macro_rules|`(⋯)=>`(by lia)
local macro_rules|`(())=>`(by decide)
abbrev zFr:=PySem.W.Frag
local macro_rules(kind:=Lean.Parser.Command.declaration)|s=>do
 if s[0][4].getNumArgs>0||![``Lean.Parser.Command.definition,``Lean.Parser.Command.abbrev].contains s[1].getKind then Lean.Macro.throwUnsupported
 return s.setArg 0 (s[0].setArg 4 (Lean.mkNullNode [Lean.mkNode ``Lean.Parser.Command.noncomputable [Lean.mkAtom "noncomputable"].toArray].toArray))
example:=`(
example À:=s.heap.objs.size
example Ñ _:=x X gV σ
example Á:=Inv Ñ H s
example Ā _:=x X.prog X.w
example Â _:=x (model Ā) X.A
example Ĕ(H:Hp):=0
example Ù:=Shared
example Ý6(s:Ù):=0
example Ã(gV:zLA) Ý6 (σ:St) Ĕ:=0
example â8:=env.kindOf
example Ò6:=.cell
example ť:=NameKind.free
example ë5:=.function
example Õ5:=env.scope.kind == ë5
example Ä:=(k == ť&&Õ5&&â8 n == ↑ Ò6)
example Ê:=.ref
example û6:=(Ê D)
example ë8:=J.iQ i H x H'
example Ü:=sizeLine
example ù9:=(i+1)
example ő:=.lst
example Ñ6:=ys.length
example í _:=x σ H
example Å:=∀ i m σ H,W i m í->(J.stop i H/\Q û6 H)\/(J.go i H/\∀ x H',ë8->g x σ H' fun σ2 H2=>tc σ2 H2 λ b H3=> if b=true then te σ2 H3 λ y H4=>∃ ys m',H4 D=↑(ő ys)/\Ñ6<Ü/\m'<m/\W ù9 m' σ2 (upd H4 D (ő (ys++[y]))) else ∃ m',m'<m/\W ù9 m' σ2 H3)
example ć:=scope
example Æ:=(xm X N' ć cl C s H fp)
example À4{σ:St}:=0
example Ý9{s:Ù}:=0
example í0{gV:zLA}:=0
example Ġ{H:Hp}:=0
example Ç í0 À4 Ġ Ý9:=0
example È _:=x gV s í
example Ö5(ha:PD X a ta):=0
example É Ö5 (hb:PD X b tb):=0
example ë1:=.type
example É7:=s.heap.push
example ì:=.int
example Ú7:=.fields [ì lo t,ì hi u,ì 1 v].toArray
example Ë:=É7 { cls:=ë1 "range",data:=Ú7 }
example Ì:=#[x,H1,I1,r1,q1]
example Í:=Value
example Ó7:=X.env.cells.lookup
example Î:=Ó7 x=↑c
example Ï:=(.ListComp elt [#[tg,iter,ifs,0]] ć pos)
example Ð:=by intro gV s σ H Q I h
example Ò:=List V
example į:=λ x S1 v H1 h1 q1 e1 p1=>?_
example Þ8 _:=x r1 r2
example ñ4:=zQ.go
example Ŏ:=by let#[L,S,r1,r2,h]:=hu
example Ó:=by ext Ŏ;exact ñ4 ha.mo Þ8 h į
example Ô:=Hp->Prop
example Ă:=X.env.scope.names.lookup
example ò3:=.local
example Ó3:=X.fn x=true\/Ă x=↑ ò3
example ŝ:=.inr
example Ć:=.inl
example ï3:=by first | show Ć rfl | show ŝ rfl | assumption
example Õ(hf:Ó3:=by ext ï3):=0
example Ö:=items.size
example Ø:=xs.length
example Ú:=false
example Û:=Option
example Ý:=X.env
example Þ _:=x _ _
example ß(K:zFr):=0
example à:=by simp![zj]
example ù4:=AllBare s'.gens
example ç3:=s'.heap
example í8:=Ê a
example Ì7:=s₁.heap
example ù6:=.bool
example Ð3:=ù6 true
example á _:=x callerA (.call (Ê fa) #[[í8],[]]) (λ r s'=>r=.ok (.ret (Ð3))/\OldK Ì7 ç3/\s'.os=s₁.os/\ù4) s₁
example â:=by intro X hP hw hK hc i gV s σ H E I hf st hg;subst hP hw hK
example ã:=Hp->VK->Prop
example ä:=by let#[L,S,r1,r2,z]:=hu
example ľ:=scope.names
example å:=(x,ť)∈ ľ
example æ:=s.heap.get?
example ç:=wpAny
example ï7:=Program
example è{P:ï7}{w:World}:=0
example ø:=X.env.locals
example ń:=X.s₀.heap.objs.size
example Ü1:=(∀ x c,Î->c≠b)/\∀ p∈X.pn++gV,p.1≠b
example é(hch:∀ b∈ch,(b∈X.ex\/ń<=b)/\b≠ ø/\Ü1):=0
example ê:=ë1 "list"
example ë(I:Á):=0
example Ç6:=zA9 _ rfl
example Þ6:=#[_,Ç6,rfl,rfl]
example Å8:=(I.ok.hd hc)
example ù:=its.toArray
example Æ9:=λ i=>bs.getD i true
example î:=#[À,_,_,_,_,_,Æ9,rfl,Walks.list (A:=X.A.in1) Å8 À p (zB3 hlt) ù,#[Þ6,pl.isList.push _],λ i v s' Q' E' hv hq'=>?_,λ h' tk hk=>?_]
example à0:=X.N[i]?=↑x
example Ð8:=X.env.scope
example ï(hN:X.N.Nodup) (hi:à0) (hx:Loc Ð8 x):=0
example ð:=(x == ("__debug__":Str))=Ú
example û3:=(n,k)
example ŧ:=NameKind.cell
example ñ:=(names.map λ û3=>if Ä then (n,ŧ) else û3).lookup x
example ò2 _:=x kV doc pm an cdv ct
example ç1:=.none
example ò:=PySem.W.fnOf x qual (nQ st) (xV st) (yk st) ç1 ò2
example Î7:=e1.trans
example È4:=r1.ext e1
example ó _:=x (È4) p1 z λ y S2 w H2 h2 q2 e2 p2=>h2 w H2 q2 (Î7 e2) p2
example ô(X:Cx):=0
example Ŕ:=outer
example Ó5:=List Env
example õ(A:Around) (Ŕ:Ó5) Ý6 Ĕ:=0
example ö:=by intro gV s σ H x y v u Q I rx ry h
example Ë9(ha:PE X a ta):=0
example ú Ë9 (hb:PE X b tb):=0
example û(hg:∀ cl C s H fp,PG Æ tg g) (hf:∀ cl C s H fp,PF Æ ifs tc) (he:∀ cl C s H fp,PE Æ elt te):=0
example ü:=by let#[f0,f1,f2,f3,f4,f5]:=hf it #[]
example É6:=List.lookup
example ý:=É6 x ((if Ä=true then (n,ŧ) else û3)::_)
example Ú0 _:=x σ H1
example þ _:=x gV s1 Ú0
example ÿ _:=x È _ I h
example ā _:=x (model prog w) A
example ă(hb:Binds X.K fd ps ds) (hd:Vals dvs ds) (hx:Passes CX X E):=0
example Ą:=by rw[show ox f v ((k,x)::r)=(if k=f then (k,v)::r else (k,x)::ox f v r) from rfl];by_cases hk:k=f
example ą:=List Str
example ĳ:=h.get?
example Ů:=h'.get?
example Ĉ:=ĳ b=↑u->Ů b=↑u
example ð6:=PySem.W.emptyDict
example ĉ:=É7 ð6
example Ċ{pos:Pos}:=0
example ċ:=scope.names.lookup
example Č{X:Cx}:=0
example č:=#[ok.mod,ok.kind,ok.glob,ok.blt,ok.above,ok.inj,ok.has,ok.dE,ok.hd,ok.frames,ok.cU,ok.Xt,ok.bs,ok.jw,ok.eB,ok.e_,ok.mj,ok.il]
example Ď:=False
example Š:=s.toks
example ď:=λ h' eb=>#[rfl,I.turned (t':=Š) (λ b o hb e=>eb b o hb e) f0 f1 f3 f4 f5]
example Đ:=fun σ H Q hu=>?_
example đ:=List Expr
example ù0:=X.calm=true
example Ē(hc:ù0):=0
example ē:=PySem.mem_of_lookup
example ĕ:=by intro gV s σ H xs us Q I r h
example Ė _:=x P w K mg base
example ė:=["enumerate","zip","dict_itemiterator","dict_reverseitemiterator","odict_iterator","itertools.zip_longest","itertools.pairwise"].contains n
example Ę:=if_neg
example Á1:=.builtin
example ę:=A.under (Á1 "type.__call__" #[Ê C::us,kw])
example Ě:=s3.heap.push { cls:=ë1 "slice",data:=.fields [vl,vu,ç1].toArray }
example ě _:=x K H
example Ĝ{K:zFr}:=0
example ĝ:=SS->Prop
example ë9:=I.list hq
example ë2:=zA8 e
example Ğ:=by let#[u,rfl,ru]:=vals1 r;cases ru;let#[its,rv,pl,hz]:=ë9;have hl:=rv.length;rw[zA7] at hl;have hlt:p<À:=by let#[o,n,e,_]:=pl;show ë2
example Û5:=(Ć rfl)
example ğ:=k Þ Û5 e
example ġ:=List Addr
example Ģ:=s.heap
example ģ:=(zA4 _)
example Ĥ:=(.refl H)
example ĥ(hi:∀ σ H Q,t' í Q->t í Q):=0
example î0:=#[z,H3,I3,r3,k,e,q3]
example Þ7 _:=x þ _ I1 q1
example Å2 _:=x gV s2 σ H2 x y v
example Å9:=#[y,H2,I2,r2,q2]
example Ħ:=(zH (hb Þ7) λ u s2 Å9=> zH (ho Å2 u _ I2 Þ8 q2) λ d s3 î0=>?_)
example ħ{A:Around}:=0
example ä5:=RelV x v
example Ò1(Q:VK):=0
example è7(xs:Ò):=0
example ł _:=x (EP Ñ Q) X.xe
example Á8:=Vals xs us
example Ü9(us:zLV):=0
example Ĩ:=∀ Ã (x:V) è7 (v:Í) Ü9 Ò1,Á->ä5->Á8->r x xs H Q-> ç Â (call (Á1 id) (v::us)) ł s
example ø1 _:=x #[_,ho,rfl] #[_,ho2,rfl]
example ĩ _:=x ø1 noFill_tuple_add seq_tuple_add PySem.F.slot_tuple_add PySem.F.entry_tuple_add (PySem.F.args_tuple_add_2 Þ)
example Í2:=(g i j)
example Ò0:=Int->Int->D
example Ī{g:Ò0}{g':Int->Int->V}(hg:∀ i j H,zj ě Í2 (g' i j)):=0
example ī:=by .show h.elim
example Ë4:=r.length
example î8:=by let#[j,h1,h2,h3,h4,h5]:=Wf he
example Ĭ:=by ext î8;let#[w,ew,rw']:=r.get h2;have hl:=Ë4;have hn:=ia;have fin:EP Ñ Q w s:=#[z,H,I,rw',q]
example ĭ:=if_pos
example Į{e:Expr}:=0
example İ{x:Str}:=0
example ı:=by rw[yx (oy q h (by intro z;cases z))];show q
example Ĳ:=decide
example Ĵ:=absurd
example ĵ _:=x L S Þ
example ß9:=(.tup xs)
example Ķ:=∀ b xs,H b=↑ ß9->H' b=↑ ß9
example Ô6:=Inv Ñ H { s with heap:=h' }
example ķ:=by have I1:Ô6:=I.turned (t':=Š) (λ b o hb e=>(sb.2 b hb).trans e) f0 f1 f3 f4 f5;let#[o,e,c,d]:=id st'
example ĸ:=envOfC qual ć À f cd
example Ø8:=yi Ö 0 lo
example è0:=yi Ö Ö hi
example Ĺ:=(items.toList.drop (Ø8)).take (è0-Ø8)
example ĺ{xs:Ò}:=0
example Ļ _:=x σ' H'
example Á0:=compareOp
example ļ(ho:yM X (Á0 op) r):=0
example Ó2:=o.data=.seq its n/\its.size<=Ü/\Vals xs its.toList
example ã0:=K.lookup
example ü2:=o.dict=none
example Ľ:=∃ (o:Obj) (its:zAV) (n:Nat),ã0 a=↑o/\o.cls=ê/\ü2/\Ó2
example Ŀ:=zt ě ds xs
example É1:=by let#[t,rfl]:=rx
example ŀ:=by ext É1;let#[t',rfl]:=ry
example è8 _:=x X.K X.mg X.base
example Ł(F:pA Ā è8 CX k f fd ps sp):=0
example Ń:=(∀ d S',Q d S'->Q' d S')
example Ņ:=by intro gV s σ H D I h
example ï9:=λ p hp=>?_
example ņ:=by let#[L,S,r1,r2,h']:=hu;exact rX.go h.mo Þ8 h' λ ds S1 xs H1 h1 q1 e1 p1=>#[by rw[<- q1.length];show h1.1,ï9]
example Ň:=H b=none
example ň:=behindInMarks op b=Ú
example ŉ:=∀ b∈fp,nW X gV H b
example Ŋ:=Ext H H'
example Ù6(w:World):=0
example ŋ(P:ï7) Ù6:=0
example Ō _:=x b o e
example ō _:=x ha.mo hb.mo
example ŏ:=∀ x,foldedSetIterable iter Ý x=pure x
example õ8 _:=x È Q I (hi í Q q)
example Ő:=λ gV s σ H Q I q=>h õ8
example Œ:=List (Û Nat)
example Ñ0:=λ b o e n hb hx=>?_
example Û8:=I.base.free
example œ:=#[Ñ0,Ñ0,Û8,λ b o e hx=>?_,I.base.lq,I.base.k7,I.base.kP]
example ŕ:=(hs.2 b (zB3 (zC3 (ë2) (I.ok.dE x c hfn hc)))).trans
example Ŗ:=sc.names.lookup x
example ŗ:=.BoolOp
example Ř:=s1.heap.objs.size
example ř:=by let#[x,hx,h1]:=h0.one;subst hx
example Ś:=[].toArray
example ś:=xF ě L σ
example Þ0:=by intro value slice gV s σ H x y v u Q I rx ry h hs
example Ŝ:=by ext Þ0;let#[p,xs,i,z,rfl,rfl,hq,he,q]:=h;cases rx;let#[t,rfl]:=ry
example Ş:=∀ b∈fp,H' b=none
example ô8:=λ ds S1 xs H1 h1 q1 e1 p1=>?_
example ş:=by ext ä;exact rX.go hm Þ8 z ô8
example š:=Û Int
example Ţ:=List D
example ţ:=h.objs.size
example Ť:=(.Name x pos)
example Ŧ:=cl.lookup x
example Ũ:=its.toArray.size
example ũ:=by let#[#[cls2,dd2,data2,sl2],ho2,hc2,n2,hd2]:=id hb;simp only at hc hd hc2 hd2;subst hc hd hc2 hd2
example Ū:=False.elim
example ū:=PySem.W.findIn
example Ŭ{us:zLV}:=0
example ã1:=.Compare
example ŭ _:=x X (ã1 a [op] [b] pos)
example ů:=yo ě S
example Ű:=by let#[its,r',pl,hz]:=ë9;have hlen:=r'.length
example ű _:=x (a::b::rest) pos
example Ų(he:zEE X e es:=by rfl) (hpl:zEB X pos es:=by rfl):=0
example ų:=by rw[e];show#[.bl _,H,I.kept (t':=tk) λ b o eo=>hk b o (by exists zB3 (zA8 eo)) (zcP _ eo),rfl,q]
example Ŵ:=PySem.W.instObj
example ŵ _:=x ě a xs
example Ŷ:=H2.objs.size
example ŷ:=List (Str×Addr)
example Ÿ:=by rw[List.getElem?_set_ne (Ne.symm hj)] at e2;let#[u',r',q]:=hl j y v' e1 e2 e3;exact#[u',r',?_]
example Ź:=(zH (h pos È _ I hq) λ us s1 #[xs,H1,I1,r,z,q]=>#[by rw[<- Ë4];show z,?_])
example ź _:=x ta tb
example Ż _:=x (b,o) (zB4 _ (zB4 _ (bR hb e)))
example ż:=by let#[x,r,h1,h2,h3]:=h
example Ž _:=x (fI.fits λ _ _ _=>à) fI.mo ha hb
example ž:=ë1 "tuple"
example ſ:=I.zI.fresh
example À0:=#[_,rfl]
example À1:=fun L5 S5 w5 σ5 H5 b1 b2 b3=>#[((x2.trans x3).trans a2).trans b2,L5,S5,b1,b3,w5]
example À2:=by ext Ð;let#[cl,hclos,c1,c2]:=Qx (ć:=ć) (env:=Ý) λ y hy hk=>I.ok.has y.1 (S.free y hy hk)
example À3:=(zH (hi ÿ) λ v s1 h1=>zH h1 λ itv s2 h2=>?_)
example À5:=.cons
example À6:=RelV v u
example À7:=∀ b o u,H b=↑(.pQ o u)->H' b=↑(.pQ o u)
example À8:=Ù->Prop
example À9:=Inv X gV Ļ s'
example ú3:=sp vs H Q E
example Ñ5:=ps.length
example à7:=vs.length
example Á2:=∀ vs H Q E,ú3->à7=Ñ5
example ú9:=ns.map
example Á3:=(ú9 V.int)
example Á4(he:∀ whole,isTrue a Ý whole=(do let v <- whole;standAt a.pos;holding [v] (truthy v))):=0
example Í0:=(n:Int)
example Á5:=if v<0 then (v+Í0).toNat else min v.toNat n
example Á6(hn:x≠"__name__":=by decide):=0
example Á7:=PyProof.Rows
example Á9:=λ _ _ q=>q
example Â0:=X.stack
example Â1:=assignEach
example Â2:=vs.toArray
example Â3:=by let#[_,_,_,_,o,_,_,e,_]:=x;show ë2
example Â4{x qual:Str}{st:Stmt}{f:Addr}:=0
example Ø3:=Heap->Prop
example Â5{q:ï7}{loose:ą}{XP:(Str->Û Í)->Ø3}{YP:World->Ø3}{d:DefRec}:=0
example Â6:=List (Str×V)
example Ò5:=by let#[a,xs,rfl,r1,r2]:=h1
example Û3:=by simp![zj] at h1 h2
example Â7:=by rename_i q;ext Û3;ext Ò5;let#[x',e1,e2]:=r2.yt q
example á9(mu:fq (H x)) (he:e=x\/H e=↑(.own x)):=0
example Â8 á9 (k:∀ b u,b≠e->Ĉ) (heo:∃ u,Ů e=↑u):=0
example ê8(E:zVP):=0
example Â9(i j:Int) (t u:Tok) Ý6 (Q:zVP) ê8:=0
example Û9:=I.tuple
example Ã0:=by cases rx;cases ry;let#[its,r1,p1,_]:=Û9 ha;let#[its2,r2,p2,_]:=Û9 hb
example Ã1:=by simpa only [zj] using h
example Ã2:=by ext ĕ;let#[i,j,rfl,q]:=h;let#[u,w',rfl,#[t,rfl],#[t',rfl]]:=vals2 r
example Ã3:=(X_ ha hb I h λ v u s2 x y H2 I2 rx ry q=>ho Å2 u Q I2 rx ry q)
example Ã4:=by let#[o',e1]:=I.base.there Ō hx
example é0(hg:Gl X x):=0
example Ã5 é0 (hm:X.mg x=none):=0
example Ã6 _:=x (zH (ha pos ÿ) λ us s1 #[vs,H1,I1,r1,q1]=>hc þ vs us Q I1 r1 q1) he hpl
example Ã7:=kvs.length<=Ü/\(a == sysModules)=Ú/\∃ vs,KV kvs vs/\h.DictOf (qw P w) a vs
example Ã8(ha:yA ta) (hb:yA tb):=0
example ú5:=(1:Int)
example Ã9:=(((Ø8:Nat):Int) == 0&&ú5 == 1&&(è0-Ø8) == Ö)=true
example Ä0 _:=x kindOf ((p,w)::P.zip vs) m
example Ä1(hd:ð:=by decide):=0
example Ó4:=.ins C dx fs
example Ä2(e:H a=↑(Ó4)) (c:mB X.K C):=0
example Ä3:=Builtin.Tuple.tupleExact _
example Ä4:=#[fun L S Q Q' hq z=>hm ĵ (λ ds S1 z=>?_) z,PI.imp h fun σ H R hu=>?_]
example Ò9 _:=x Q E s
example ð4:=ç Â (f (ì i t) (ì j u)) Ò9
example Ä5:=Q (ì Í2 Š) { s with toks:=Š+1 }->ð4
example Ä6:=#[L,S,r1,r2,mo ĵ (λ d S' q v H' a b c=>k d S' v H' q a b c) h]
example Ä7:=qY.go hb.mo (È4) p1 z λ y S2 H2 h2 e2 p2=>h2 H2 (Î7 e2) p2
example Ä8:=Builtin.Slice.slicePlaces
example ú7:=(λ z=>?_)
example Ä9:=ph ú7 ú7 h1
example û8:=yX->ĝ
example Å0:=∀ d L S (Q Q':û8),(∀ L S,Q L S->Q' L S)->t d L S Q->t d L S Q'
example Å1 _:=x (b::rest) pos
example Å3{H H':Hp}:=0
example Å4:=zF.fits λ _ _ _=>à
example Å5(i:Nat):=0
example Å6:=by let#[oc,od,kV,doc,pm,an,cdv,ct,osl,rfl,lk,hcd]:=F.ex
example ç4:=(ha ÿ)
example Å7:=zH ç4 λ v s1 Ì=>?_
example Æ0:=by let#[σ3,H3,I3,n3]:=q3;let#[m',hm,w3]:=hN σ3 H3 n3;show#[m',hm,σ3,H3,I3,w3]
example Æ1:=(hs.2 b (zB3 (zC3 (ë2) I.ok.above))).trans
example Ë2:=I.tok _
example ä4:=(by simp![zA0] <;> lia)
example Æ2 _:=x ä4 #[ì Ñ6,H,Ë2,#[Š+1,by rw[zA0,hlen]],q]
example Æ3:=List Int
example Æ4(a:Addr):=0
example Æ5:=æ p.1=↑p.2/\H p.1=none/\p.1≠ ø/\p.1∉X.fs/\∀ v,p.2.data≠ Ò6 v
example Ê1 _:=x A Ŕ s H
example Æ6:=(wc CX Ė N qual ć f cdv Ê1 E)
example Æ7{mg:zSV}{base:Heap}:=0
example Æ8{kindOf:Str->Û NameKind}:=0
example Ç0:=(zD1 #[_,rfl,zD1 h])
example Ç1(prog:ï7) Ù6:=0
example ø3:=by let#[u,rfl,rx]:=vals1 r;cases rx
example Ç2:=by ext ĕ;let#[p,ys,rfl,hq,q]:=h;ext ø3
example Ç3{f:x8}{r:R2}{ta tb:zy}:=0
example Ð7:=(e::es)
example Ç4:=(.Call (.Name x p) Ð7 [] pos)
example Ç5:=beq_eq_false_iff_ne.mpr
example Ç7:=X.base.get? b=↑o
example Ç8:=#[H1,I1,q1]
example Ç9:=binaryOp
example È0:=#[hp,g,d,tk,os]
example È1:=HT.yi Ø 0 lo
example È2:=ds.length
example È3:=hq Þ h
example È5:=λ D σ H hu=>?_
example È6{f:Í->Í->Sem Í}:=0
example È7(hm:lastMarks [op,op'] [b,c]=Ú:=by with_unfolding_all rfl):=0
example È8:=Inv Ñ H' { s with heap:=h',gens:=g',drawn:=d',toks:=t' }
example È9:=by let#[sl,e1]:=I.base.slot Ō n hb hx
example É0:=by let#[e,n,ne,nf,d]:=I.pin p hp
example É2:=by let#[it,fp,tn,J,H2,e,I2,T,st2,f2,rd]:=h2;subst e
example É3:=k b o (λ z=>hc (by simp[z])) e
example É4:=(ő xs)
example É5:=(model P w)
example É8{i:Nat}:=0
example É9 _:=x X (.UnaryOp .Not a pos)
example Ê0(X:K.In Ģ) (I:iE Ģ x dx C mA):=0
example Ê2 _:=x zF.mo ha hb (nh _)
example Ü4:=sliceBounds
example Ê3:=by simp![Ü4,HT.yi,Option.getD_none,show ú5>0 by decide,if_true];by_cases h:i<0
example Ê4:=List Stmt
example ô5:=s.heap.IsSliceOf sl vl vu ç1
example Ê5(hs:ô5) (pl:IsPart vl lo) (pu:IsPart vu hi):=0
example Ê6{a:Addr}:=0
example Ê7:=æ b=↑o
example Ê8:=(Â1 Ð7 Ý).map (·.2)=assign e Ý::(Â1 es Ý).map (·.2)
example Ê9(h:Heap):=0
example Ë0:=by subst hj;rw[hi] at e1;cases e1;rw[List.getElem?_set_self hiσ] at e2;cases e2
example Ë1:=(PySem.W.fnOf name qual params body ć dV ò2)
example Ë3:=bootBuiltins x
example à9:=(Ê C)
example Ë5:=ū K à9 "__setattr__"=↑↑(Á1 "object.__setattr__")
example Ë6:=Heap.size_push
example Ë7:=I.items.length
example Ë8:=by rcases kx hv with ⟨j,u,rfl,rfl⟩ | ⟨y,u,rfl,rfl⟩
example Õ1:=IntsAre
example Ì0(hi:Õ1 items.toList ns) (hj:Õ1 items2.toList ms):=0
example Ì1:=by let#[its,r',pl,hz]:=Û9 hq
example Ì2:=Value.ref
example Ì3:=(Ê f)
example Ì4:=∀ b ps,H b=↑(.zR ps)->∃ more,H' b=↑(.zR (ps++more))
example Ì5:=Inv Ñ H' s'
example Ì6:=((yi n 0 lo:Nat):Int)
example Ì8:=some (ő ds)
example Ì9:=env.cells.lookup
example Í1:=(zH h4 λ _ s5 #[x,H5,I5,r5,y5,st5,fr5]=>?_)
example Í3:=(own++cl).lookup
example Í4{E:zVP}:=0
example Í5(gV:zLA) (σ:St):=0
example Í6:=(zH (ha pos ÿ) λ us s1 #[vs,H1,I1,r1,q1]=>?_)
example Í7:=by let#[z,y,vs,r,ob,es,ep,e,c]:=x;show#[z,y,vs,r,ob,es,ep,ğ,c]
example Í8:=by simp![zj] at r;subst r
example Í9:=List (Str× Í)
example Î0{b:Addr}{o:Obj}:=0
example Î1{ta:TA}{p pos:Pos}(hg:Gl X "range") (hm:X.mg "range"=none):=0
example Î2:=ĳ b=↑o
example Î3:=PySem.W.codeIn K cdv qual=true
example Î4:=by rcases kx hb with ⟨j,u,rfl,e⟩ | ⟨y,u,rfl,e⟩
example Î5(mg:zSV) (base:Heap):=0
example ú1:=fs.lookup
example Î6:=∀ f,pW (ú1 f) (mA f)
example Î8:=Bool->Ô
example ó6:=ì i
example Î9:=[ó6,ì j]
example Ï0:=V->š->š->ã
example Ï1:=∀ Ý6 (u:Í),BindsTo s fd #[[u],[]] [(x,u)]
example Ï2:=λ gV s σ H v w Q I r q=>h È v w Q I r (hi v í Q q)
example Ï3{fd:FuncData}:=0
example Ï4 _:=x q loose XP YP l.row.toRowW d [] (λ f vs=>PySem.call f vs)
example Ï5:=List.range
example á5:=zt.ext
example Ü7:=(.new hl _)
example Ï6:=#[l,xs,rfl,yw.of yO,á5 Ü7 _ r2]
example Ï7{a b:Expr}:=0
example Ï8 _:=x he c1 c2 I2 T st2 f2 rd λ C D oC H' s' hC J' ho hn q=>?_
example Ï9:=by let#[o',es',ep',ho',r']:=hm;rw[ho] at ho';cases ho';show#[_,es',ep',hL,r']
example Ð0 _:=x ho hc hd (λ h' c' kp e=>fin its r' hz h' c' kp e) ä4
example Ð1:=List (Str×NameKind)
example Ð2:=by rcases zA5.mp hx with q | q
example Ð4:=xs[i]?=↑x
example Ð5:=Vals xs its
example Ð6:=mainGlobals
example Ð9:=I.ok.kind
example Ñ1:=St->Ô
example Ñ2:=PyProof.Rows.callWith_type1
example Ñ3:=pl.isList
example Ñ4:=(À+1)
example Ñ7:=compEnvC ć cl C Ý
example Ñ8:=kM X N' pick ć
example Ñ9:=zj ě d x
example Ò2(r1:ś) (r2:ů) (h:t L S R):=0
example Ò3 _:=x È x y v u Q I rx ry
example Ò4:=by let#[_,_,_,_,o,_,_,e,ex,_]:=I.zI p _ hk
example Ò7:=swapsWith e ↑(.Name x pos') pos.line Ý=pure Ú
example ã3:=z.length
example Ò8:=∃ z,xs=[.str z]/\ã3<=Ü/\Q (ì ã3) H
example Ó0(A:Around) Ý6 (a:Int) (t:Tok) (c:Int) (u:Tok):=0
example Ó1:=λ p hp=>Ĵ (show p∈([]:zLA) from hp) #[]
example Ó6:=starEach
example Ó8:=(start N vs)
example Ó9:=#[z.1,hq Þ z.2]
example Ô0{h:Heap}:=0
example Ô1{t':Nat}:=0
example ü7{u:Í}:=0
example Ô2{v:V}ü7:=0
example Ô3:=by intro wh gV s σ H Q I h
example Ô4(hdb:ð:=by decide):=0
example Ô5:=by simp![zj] at q1
example Ô7:=Turn Ā X.K tg J fp it tn
example Ô8:=I1.zI.fresh ģ
example Ô9:=Int->Int->Prop
example Õ0:=PySem.W.keepIn
example Õ2:=Builtin.Slice.sliceAdjust
example Õ3:=((i:Int)+(m:Int)*1).toNat
example Õ4:=s₁.heap.get?
example Õ6:=.tup ds
example Õ7 _:=x lo hi
example ü8 _:=x P w H h
example Õ8(x:xD ü8):=0
example Õ9(ha:PT X a tA):=0
example Ö0(he:PE X e te):=0
example Ö1(hp:PassesOwn Â Ý X.xe):=0
example Ö2 _:=x rfl hs hclos S.kind (λ y hy e=>e▸S.uniq y hy) À3
example Ö3(hr:wF X.K f r) (hf:qc f):=0
example Ö4 _:=x ha.pe hb.pe
example Ö6:=by rw[yx (mL q hn)];show q
example Ö7:=PySem.W.hasDictIn K C=true
example Ö8(n:Nat):=0
example Ö9:=I1.laid (t':=s1.toks) (λ b u e=>zcP _ e) ģ ?_
example Ø0:=y8 k (A.deeper (envOfC qual (yk st) À f cdv))
example Ø1:=by let#[c,rfl,q1]:=q1;cases r1
example Ø2:=PySem.Spec
example Ø4:=(I.base.keep Ō n hb hx)
example Ø5:=.Constant
example Ø6:=xs.isEmpty
example Ø7:=ns.length
example Ø9:=λ b ob q=>zcP _ q
example Ù0:=xs=[Ê p]
example Ù1:=Builtin.List.listTooLong
example Ù2:=(assign (.Name y py) Ý)
example Ù3:=t L S Q->t L S Q'
example Ù4:=yo K H' S'
example Ù5:=PE.imp
example Ù7:=by have e:b=it:=by exists hb
example Ù8(hcd:(x == ("__classdict__":Str))=Ú:=by decide):=0
example Ù9{op:CmpOp}:=0
example Ú1{ć:Scope}:=0
example Ú2:=by rw[yx (mL q h)];show q
example Ú3{n:Nat}:=0
example Ú4 _:=x (wc xn Ė N qual (yk st) f cdv Ê1 E).rl (xV st) t
example Ú5 _:=x (i:=i) (zaC.mp nd).2 (by exists h1) (by exists h2) hk
example Ú6:=by cases e;simp![zj] at r;let#[a,xs,h1,h2,h3]:=r
example Ú8:=(hg _ s5 σ3 H5 x u _ I5' r5 (step x H5 y5))
example Ú9:=by intro gV s σ H x v vl vu lo hi sl Q I rx hs pl pu h
example Û0:=by rename_i e;let#[a,ys,rfl,q,r]:=y4.sq h1 h2 e
example Û1:=by subst e;let#[o,e,c,d]:=st;show#[o,e,λ v z=>by rw[d] at z;cases z]
example Û2{k:Nat}:=0
example Û4:=(upd H a o)
example Û6:=.free
example Û7:=X.s₀.heap.get? b=↑o
example Ü0:=λ _ _ z=>Ū z
example Ü2:=∀ name,PySem.W.lookIn name od=↑(mA name)
example Ü3:=PySem.W.isFn K Ì3=true
example Ü5:=∀ l,H l=none->Q (Ê l) (upd H l (.tup ys))
example Ü6:=hfp b hb
example Ü8{Q:Unit->À8}:=0
example Ý0(hs:ŏ:=by intro _;rfl):=0
example Ý1{p:Addr}:=0
example Ý2(F:nC K x qual st f fd):=0
example Ý3:=s.heap.FunFrames
example Ý4:=Ò->ã
example Ý5:=PySem.W.plainGet
example Ý7 _:=x Â2 ws.toArray n n2 dd dd2 sl sl2 (by exists hv)
example Ý8:=by exact#[#[o,e,ex.1],λ a e2=>?_];cases e2;show#[o,e,ex.2.1]
example Þ1:=by simp![zj] at h ⊢;let#[a,xs,h1,h2,h3]:=h
example Þ2:=λ i j=>.bl (Ĳ (i<=j))
example Þ3:=λ i j=>.bl (Ĳ (j<=i))
example Þ4:=PySem.W.plainGet_of hg
example Þ5:=∀ l,H l=none->Q (Ê l) (upd H l (ő ys))
example Þ9 _:=x I3 (stat fr3) st3
example ß0:=swapsWithSole [tg] e pos.line Ý=pure Ú
example ß1:=λ i h h' st k=>st.at λ o e=>k it #[] o e
example ß2:=(-(2 ^ 62)<=i/\i<2 ^ 62/\-(2 ^ 62)<=j/\j<2 ^ 62)
example ß3:=(r.drop (È1)).take (HT.yi Ø Ø hi-È1)
example ß4:=É7 { cls:=ë1 "dict",data:=.dict Ś }
example ß5:=I1.kept (t':=s1.toks) λ b o eo=>zcP _ eo
example ß6:=by let#[m,#[o,es,ep,ho,r],_]:=id I.loc
example ö1:=congrArg
example ß7:=by have:its=its':=by exists ö1 Array.toList d1
example ß8:=.seq ù n
example à1:=I.cell
example à2:=(σ.set i ↑v)
example à3:=(Ê it)
example à4:=(((hi-lo).toNat:Nat):Int)-((0:Nat):Int)
example à5:=λ i j=>.bl (Ĳ (j<i))
example à6:=∃ kvs,H p=↑(.dK kvs)/\k=!kvs.isEmpty
example à8:=λ h' tk k=>#[_,H,I.kept k,?_,q]
example á0:=by simp at h
example á1:=(vs++dvs)
example á2:=(ù6 (lexLt ns ms))
example á3:=ForInStep.yield
example á4:=(nZ pick σ)
example á6:=λ gV s σ H Q I q=>h È Q I (hi Q í q)
example á7:=hq Þ z
example á8 _:=x x c e
example â0(ha:PA X Ð7 t):=0
example â1{S:SS}:=0
example â2 _:=x L S1 Þ
example â3:=by have e2:(op == CmpOp.NotIn)=Ú:=by cases op <;> first | rfl | show Ĵ rfl h2
example â4:=by simp![zt] at h
example â5:=ĳ a=↑{ cls:=ç1,data:=.fields ps }
example â6:=(Â1 [tg] Ý).map (·.2)=[assign tg Ý]
example â7:=RelV x u
example â9:=Vals vs us
example ã2:=t { nx:=λ _ H'=>Q .zC H',rt:=Q } Ó8 H
example ã4:=its.length
example ã5:=#[cl,?_,λ x d hx=>?_,λ x hx=>?_]
example ã6:=own.lookup
example ã7{xs ys:Ò}:=0
example ã8(e:Expr):=0
example ã9 _:=x (TP Ñ Q) X.xe s
example ä0 _:=x rfl rfl rfl hc i
example ä1(C:Addr):=0
example ä2(lo hi:š):=0
example ä3:=by have e1:(op == CmpOp.In)=Ú:=by cases op <;> first | rfl | show Ĵ rfl h
example ä6:=yx (hm b _ q λ z=>z)
example ä7:=æ b=↑u->Ů b=↑u
example ä8:=#[v,H,I,r,h]
example ä9:=(if v<0 then max (v+Í0) 0 else min v Í0)
example å0:=H q=↑(.dS a vs)->H' q=↑(.dS a vs)
example å1 _:=x Þ Þ
example å2(hi:PI X tg iter wi):=0
example å3:=by ext ö;let#[i,j,rfl,rfl,q]:=h;ext ŀ
example å4(h:yA to) (h':yA te):=0
example å5:=by ext ĕ;let#[p,bs,rfl,hq,q]:=h;ext Ğ
example å6:=.str x
example å7:=by rw[q];simp
example å8:=Inv Ñ H { s with heap:=h',toks:=t' }
example å9:=swapsWith e none pos.line Ý=pure Ú
example æ0:=List.replicate
example æ1:=λ v H2 r x q=>h v H2 r (e.trans x) q
example æ2:=by let#[t,rfl]:=r
example æ3:=by let#[od,J,hl]:=I.look
example û1:=λ _ _ _=>Ď
example æ4 _:=x [í8] H (λ v _=>v=.bl true) û1
example æ5{fp:ġ}{tn:Nat->Ø3}{J:It}{cl:ŷ}:=0
example æ6(e:Ŋ):=0
example æ7(he:PD X e te):=0
example æ8(hi:∀ v σ H Q,t' v í Q->t v í Q):=0
example æ9 _:=x (by simp![zA0];lia) #[H,Ë2,by rw[SH r];show q]
example ç0:=by have I5':=I5.pinned (stat fr5) (T.obj Þ st5)
example ç2:=λ x c e=>?_
example ç5:=λ b hb=>(hf b hb).1
example ç6:=y.length<=Ü/\k=((y.length:Int) != 0)
example ç7:=codeAny
example ç8:=(ĉ).push (Ŵ C À)
example ç9:=(ps.zip us)
example è1:=.str #[[c].toArray]
example è2:=Õ4 a=↑{ cls:=ê,data:=.seq Â2 }
example è3:=Option.none
example è4:=(.new hp _)
example è5:=λ _ _ h=>oO.ext e h
example è6(x:Str):=0
example è9{Q:zVP}:=0
example é1 _:=x X (ŗ .And Å1)
example é2 _:=x X.K H
example é3{es:đ}:=0
example é4 _:=x x y H Q
example é5 _:=x X.K H p
example é6{ds:Ţ}:=0
example é7:=by split at h
example é8 _:=x (È4) p1 h1 λ y S2 w H2 h2 q2 e2 p2=>?_
example é9:=(λ x y H Q=>r é4\/r' é4)
example ê0 _:=x þ Q I1 q1
example ê1{pl:Sem Bool}{Q:Í ×List Í->À8}:=0
example ê2:=by ext Ð;exact zd8 (ib I hg hm hv ?_ hn hdb)
example ê3 _:=x X.K H p ys
example ê4 _:=x (C,oC) (zB4 _ (zB4 _ (zB6.mpr rfl)))
example ê5 _:=x H1 e1 p1
example ê6:=(by rw[I.ok.glob];show I.mod.glob.keeps I.bk)
example ê7:=by rw[zA6] at h;simp![zt,zj] at h;ext ż;subst h1 h2
example ê9:=List (Key×V)
example ë0:=(·.1)
example ë3:=∀ x:Str,x≠"__name__"->mb x=Ë3
example ë4:=eval e Ý
example ë6:=λ _ _=>Ď
example ë7:=swappedStores [tg] e Ý=pure none
example ì0:=Nat->Nat->Ñ1
example ì1:=cellsFrom
example ì2:=Array (Û Í)
example ì3:=s.heap.update
example ì4:=(x,ŧ)∈ ľ
example ì5:=zj ě d v
example ì6:=#[h.1,hq Þ h.2]
example ì7:=h H Ĥ p
example ì8:=λ _=>True
example ì9(k:∀ b u,Ĉ):=0
example í1:=by cases b <;> simp[behindInMarks,e1,e2]
example í2{tg:Expr}:=0
example í3 _:=x (λ _ j=>0<=j) λ i j=>ì (i/2 ^ j.toNat)
example í4{env:Env}:=0
example í5(pick:Œ):=0
example í6{σ':St}{H':Hp}{s':Ù}{oC:Obj}:=0
example í7:=by ext Ô5;let#[a,xs,rfl,g1,g2]:=q1
example í9:=λ _ s6 #[σ6,H6,I6,q6]=>?_
example î1:=λ v hv=>(zaC.mp nd).1 (zbF hv).1
example î2:=if x=y then lexLt xs ys else Ĳ (x<y)
example î3(zI:xD Ā H' h') (hg:AllBare g'):=0
example î4 _:=x X (ŗ .And ű)
example î5 _:=x X (ŗ .Or Å1)
example î6 _:=x (λ _ s'=>∃ σ' H',À9/\Q Ļ) X.xe s
example î7:=by let#[mA,O,r,_,_,_]:=gD I.zI e
example î9:=by let#[z,its,n,r,hl,e]:=I.bZ hH
example ï0:=by simp![zj] at r;let#[a,xs,rfl,r1,r2]:=r
example ï1:=λ _=>none
example ï2:=List Bool
example ï4:=.nil
example ï5:=PySem.W.methodObj
example ï6:=∃ sl,Ů b=↑{ o with slots:=sl }
example ï8:=I.ok.bs Ō
example ð0:=λ b hb=>?_
example ð1:=(zH (ha È Q I h) λ c s1 e=>?_)
example ð2:=(.Tuple es k pos)
example ð3:=.Subscript
example ð5:=y.size<=Ü/\k=((y.size:Int) != 0)
example ð7:=.Attribute
example ð8:=PyProof.Rows.slot_tuple_getitem
example ð9:=s3.heap.objs.size
example ñ0:=Obj.mapSeq
example ñ1:=K w.params
example ñ2:=Ŧ=↑c
example ñ3:=Inv X (gV++[(C,oC)]) σ H' s'
example ñ5:=h1.elim
example ñ6:=Q (!ds.isEmpty) S
example ñ7:=λ l hl=>h Þ ?_ Ü7 (h2.new hl)
example ñ8:=λ v σ H Q hu=>?_
example ñ9 _:=x c o (I.i0 á8) hc nch ho (I.lD á8)
example ò0(s':Ù):=0
example ò1 _:=x (x:=u) (by exists hu) λ h' st' sb=>?_
example ò4:=I.free
example ò5:=Heap.SameBut
example ò6:=(.Assign [.Name x pos'] e pos)
example ò7:=λ i j=>ì (Builtin.bitAnd i j)
example ò8:=(ã1 a [op,op'] [b,c] pos)
example ò9:=codeAny_mono
example ó0:=SS->DK->Prop
example ó1:=(Ext.refl H)
example ó2:=λ x H' q=>?_
example ó3:=(((Î7 x2).trans x3).trans a2)
example ó4(sp:Sp) (dvs:Ò) (E:XK) (t:TA):=0
example ó5(hi:∀ D σ H,t' D í->t D í):=0
example ó7:=X.env.scope.kind
example ó8:=(zB9.mp hp).elim
example ó9:=ç M A (storeName Ý x u) Ò9
example ô0:=λ b o e=>zcP _ e
example ô1:=#[ì Í2,H,Ë2,À0,q]
example ô2:=ū K à9 "__init__"=↑↑ Ì3
example ô3:=beq_iff_eq.mpr h
example ô4:=wc CX Ė N qual ć f cd Ê1 E
example ô6:=æ p=↑{ cls:=ê,data:=ß8 }
example ô7:=by rw[r2.isEmpty]
example ô9:=by let#[_,o,ho,_]:=I.ok.mj.mem hb
example õ0:=List (Key×D)
example õ1:=(show s.heap.IsTuple a ù from p)
example õ2:=by rcases q with q | q
example õ3:=(Â1 es Ý).findIdx? ë0=none
example õ4:=æ l=↑{ cls:=ê,data:=ß8 }
example õ5 _:=x X (ŗ .Or ű)
example õ6:=by intro gV s σ H x vs v us Q I rx rv h
example õ7(hn:l.most=↑n):=0
example õ9:=PySem.Within mA (fs.map ë0)
example ö0:=λ z=>(hch c z).2.2.1 á8 rfl
example ö2:=(λ v H2=>v=.zC/\Q (Ê x) H2)
example ö3:=zcO (m:=Ä3) (zcY Ç0 htake)
example ö4:=zcO (wpAny_standAt (zcO ?_))
example ö5:=by simpa only [za4,zt] using h
example ö6:=Bool->ĝ
example ö7:=zj K H' d v->Ŋ->Ù4->Q v H'
example ö8{c:Expr}:=0
example ö9:=by let#[u,hu,ru]:=rv.get hx;ext ü
example ø0:=by ext Ð;exact zd8 (gy I hg hm ?_ hdb)
example ø2:=by rw[zA0,<- hl]
example ø4:=Sum.inl
example ø5:=Sum.inr
example ø6:=String
example ø7:=ĳ a=↑o
example ø8:=fs.length
example ø9:=(kz h H).get? b
example ù1:=(neC Ō hx)
example ù2:=I.bare
example ù3:=Unit.unit
example ù5:=Û Addr
example ù7:=(zH (hc ÿ) λ d s1 Ç8=>?_)
example ù8:=letOwnedTupleGo
example ú0:=PySem.W.takerIn
example ú2:=(Ê p)
example ú4:=wpAny_loadPart'
example ú6:=lI xs Õ7
example ú8:=(upd H p (ő (xs.set j v)))
example û0:=Õ1 vs ns
example û2:=(Ŧ).isSome
example û4:=pushCells_keeps
example û5:=Inv Æ [] Ļ s'
example û7:=(upd H p u)
example û9:=(yT f ź)
example ü0:=(by rw[hk];show#[_,I',q])
example ü1:=by rcases e2 x d hx with q | ⟨q1,q2⟩
example ü3:=Ó6 es Ý
example ü4:=h x' H e2 Ĥ h3
example ü5:=(rX X.K tA)
example ü6(i:Int):=0
example ü9{M:Model}:=0
example ý0{tg e:Expr}:=0
example ý1:=by let#[o,e,d]:=T.obj Þ st5 b hb
example ý2(f:Str):=0
example ý3 _:=x (ì a t) (ì c u)
example ý4:=by cases rx;let#[u,rfl,ru]:=rv.one
example ý5{pick:Œ}:=0
example ý6{d:D}:=0
example ý7(t:y6):=0
example ý8:=by have:x≠n:=by rintro rfl;show h v za1
example ý9:=by rcases I.ok.cU with e | ⟨e,hf⟩
example þ0:=by subst z;rw[r] at mu;show mu
example þ1:=Ĵ (show b∈([]:ġ) from z) #[]
namespace L2
open PySem Ø2 Á7
abbrev Key:=Sum Int Str
def gA:Key->Í->Bool
 | Ć k,v=>Value.isInt k v
 | ŝ x,v=>Value.isStrOf x v
def Gx Ù6:Key->Int
 | Ć k=>hashInt k
 | ŝ x=>hashStr w x
theorem kx:∀ {k:Key}{v:Í},gA k v=true->(∃ i t,k=ø4 i/\v=Value.int i t)\/(∃ x t,k=ø5 x/\v=Value.str x t)
 | Ć i,v,h=>by
  let#[t,e]:=Value.isInt_shape (k:=i) (v:=v) h;show Ć #[i,t,rfl,e]
 | ŝ x,v,h=>by
  let#[t,e]:=Value.isStrOf_shape (x:=x) (v:=v) h;show ŝ #[x,t,rfl,e]
def Gw ü6 (t:Tok):gA (Ć i) (ì i t)=true:=by simp[gA,Value.isInt]
def eI è6 (t:Tok):gA (ŝ x) (.str x t)=true:=by simp[gA,Value.isStrOf]
def Gv (a b:Int):Ĳ ((ø4 a:Key)=ø4 b)=(a == b):=by
 by_cases e:a=b
 .subst e;simp
 .have h:¬ (ø4 a:Key)=ø4 b:=λ q=>e (Sum.inl.inj q);rw[zcR h];show (Ç5 e).symm
def Gr (a b:Str):Ĳ ((ø5 a:Key)=ø5 b)=Ĳ (a=b):=by
 by_cases e:a=b
 .subst e;simp
 .have h:¬ (ø5 a:Key)=ø5 b:=λ q=>e (Sum.inr.inj q);rw[zcR h,zcR e]
def Gu (a:Int) (b:Str):Ĳ ((ø4 a:Key)=ø5 b)=Ú:=zcR (λ q=>nomatch q)
def Gs (a:Str) (b:Int):Ĳ ((ø5 a:Key)=ø4 b)=Ú:=zcR (λ q=>nomatch q)
def qw Ç1:PySem.KeyKind prog w Key where
 is:=gA
 hash:=Gx w
 inj:=λ v a b ha hb=>by
  rcases kx ha with ⟨i,t,rfl,rfl⟩ | ⟨x,t,rfl,rfl⟩
  .ext Î4
   .injection e with e1 _;rw[e1]
   .show nomatch e
  .ext Î4
   .show nomatch e
   .injection e with e1 _;rw[e1]
 byValue:=λ k v h=>by
  rcases kx h with ⟨i,t,rfl,rfl⟩ | ⟨x,t,rfl,rfl⟩ <;> rfl
 pyHash:=λ hv h=>by
  rcases kx hv with ⟨i,t,rfl,rfl⟩ | ⟨x,t,rfl,rfl⟩
  .show wpAny_pyHash_int h
  .show wpAny_pyHash_str h
 eqBool:=λ hu hv h=>by
  rcases kx hu with ⟨i,t,rfl,rfl⟩ | ⟨x,t,rfl,rfl⟩
  .ext Ë8
   .rw[Gv] at h;show wpAny_eqBool_int h
   .rw[Gu] at h;show SeqAt.EqAt.int_str i t y u å1 h
  .ext Ë8
   .rw[Gs] at h;show SeqAt.EqAt.str_int x t j u å1 h
   .rw[Gr] at h;show wpAny_eqBool_str h
 «strs»:=λ k x t v h=>by
  rcases kx h with ⟨i,u,rfl,e⟩ | ⟨y,u,rfl,e⟩
  .show nomatch e
  .injection e with e1 _
   subst e1;cases v <;> rfl
def Hx Ç1 ü6 (t:Tok):(qw prog w).is (Ć i) (ì i t)=true:=Gw i t
def Hw Ç1 è6 (t:Tok):(qw prog w).is (ŝ x) (.str x t)=true:=eI x t
inductive V where
 | zC | bl (b:Bool) | int ü6 | str è6 | dG (b:Array UInt8) | Xr (b:UInt64) | ref Æ4 | ty (n:ø6)
 deriving DecidableEq
def RelV:V->Í->Prop
 | .zC,u=>u=Value.none
 | .bl b,u=>u=Value.bool b
 | ó6,u=>∃ t,u=Value.int i t
 | å6,u=>∃ t,u=Value.str x t
 | .dG b,u=>∃ t,u=Value.bytes b t
 | .Xr b,u=>∃ t,u=Value.float b t
 | í8,u=>u=Ì2 a
 | .ty n,u=>u=Value.type n
abbrev Vals:Ò->List Í->Prop:=Paired RelV
theorem Vals.length ĺ Ŭ(r:Á8):Ø=us.length:=Paired.length r
theorem Vals.get:∀ ĺ Ŭ É8{x:V},Á8->Ð4->∃ u,us[i]?=↑u/\â7
 | _,_,_,_,ï4,e=>by simp at e
 | _,_,0,_,À5 r _,e=>by simp at e;subst e;show#[_,rfl,r]
 | _,_,i+1,x,À5 _ t,e=>by
  let#[u,h1,h2]:=Vals.get (i:=i) (x:=x) t (by exists e);show#[u,by simpa using h1,h2]
theorem Vals.set {x:V}ü7(r:â7):∀ ĺ Ŭ Å5,Á8->Vals (xs.set i x) (us.set i u)
 | _,_,_,ï4=>ï4
 | _,_,0,À5 _ t=>À5 r t
 | _,_,i+1,À5 q t=>À5 q (Vals.set r i t)
theorem Vals.append:∀ ã7{us ws:zLV},Á8->Vals ys ws->Vals (xs++ys) (us++ws)
 | _,_,_,_,ï4,s=>s
 | _,_,_,_,À5 r t,s=>À5 r (Vals.append t s)
theorem Vals.take:∀ ĺ Ŭ Ö8,Á8->Vals (xs.take n) (us.take n)
 | _,_,0,_=>ï4
 | _,_,_+1,ï4=>ï4
 | _,_,n+1,À5 r t=>À5 r (Vals.take n t)
theorem Vals.drop:∀ ĺ Ŭ Ö8,Á8->Vals (xs.drop n) (us.drop n)
 | _,_,0,r=>r
 | _,_,_+1,ï4=>ï4
 | _,_,n+1,À5 _ t=>Vals.drop n t
def pW:Û V->Û Í->Prop
 | some v,↑u=>À6
 | none,none=>True
 | _,_=>Ď
def KV {κ:Type}:List (κ × V)->List (κ × Í)->Prop:=Paired λ(p:κ × V) (q:κ × Í)=>p.1=q.1/\RelV p.2 q.2
def kV:Key->V
 | Ć i=>ó6
 | ŝ x=>å6
inductive HO where
 /-- a list -/
 | lst è7
 /-- a tuple (never changes) -/
 | tup è7
 /-- a dict whose keys are ints and texts;one whose keys are tuples of ints and texts (the empty one is both) -/
 | dK (kvs:ê9) | dT (kvs:List (List Key×V))
 /-- a dict that the instance at x alone holds -/
 | dS (x:Addr) (kvs:ê9)
 /-- a set of ints: its members,its size -/
 | set (S:Int->Bool) Ö8
 /-- an instance of the class at C,its dict at dx,its attributes -/
 | ins (C dx:Addr) (fs:Â6)
 /-- the dict of the instance at x -/
 | own (x:Addr)
 /-- the dict of an exception -/
 | xd (fs:Â6)
 /-- a bound method,f of x -/
 | met (f x:Addr)
 /-- a range object lo,lo+1,.. below hi -/
 | Yk (lo hi:Int)
 /-- a thing that is known to the object (the script;a dict while a loop walks it): read,never written while it is so -/
 | pQ (o:Obj) (u:HO)
 /-- a code object's table -/
 | zR (ps:zAV)
 /-- any other thing,by what is true of its one object (a def of one's own: xO a S n:=HO.ext λ h=>..) -/
 | ext (φ:Ø3)
abbrev Hp:=Addr->Û HO
def upd Ĕ Æ4 (o:HO):Hp:=λ b=>if b=a then ↑o else H b
def yO Ġ Ê6{o:HO}:upd H a o a=↑o:=by unfold upd;rw[ĭ rfl]
def yx Ġ{a b:Addr}{o:HO}(h:b≠a):upd H a o b=H b:=by unfold upd;rw[Ę h]
def Vx Ġ Ê6{o u:HO}:upd Û4 a u=upd H a u:=by
 funext b;unfold upd;split <;> rfl
def oy Ġ{a b:Addr}{o u:HO}(h:H a=↑o) (h':H b=↑u) (d:o≠u):a≠b:=by
 intro e;subst e;rw[h] at h';show d (zD5 h')
def mL Ġ{a b:Addr}{o:HO}(h:H a=↑o) (h':Ň):a≠b:=by
 intro e;subst e;rw[h] at h';cases h'
def Wz Ê9 Æ4:Prop:=∃ o,ø7/\ü2
def Wz.new Ê9 {d:zAV}Ú3:Wz (h.push { cls:=ž,data:=.seq d n }) ţ:=#[_,Ç6,rfl]
section
variable {ŋ}
def xQ Ĕ Ê9 Æ4:HO->Prop
 | ő xs=>Ø<=Ü/\∃ (its:zLV) (n:Nat),Ð5/\ĳ a=↑{ cls:=ê,data:=ß8 }
 | .tup xs=>(Ø<=Ü/\Wz h a)/\∃ its:List Í,Ð5/\IsTup h a ù
 | .dK kvs=>Ã7
 | .dT kvs=>kvs.length<=Ü/\(a == sysModules)=Ú/\∃ xs:List (List Key×Addr× Í),
   Paired (λ(p:List Key×V) (q:List Key×Addr× Í)=>p.1=q.1/\H q.2.1=↑(.tup (p.1.map kV))/\RelV p.2 q.2.2) kvs xs/\
   ∃ o es ep,ø7/\o.ExactDict/\o.data=.dict es ep/\es.toList=xs.map (entryOfKey (tupleKind (qw P w)))/\(xs.map ë0).Nodup
 | .dS _ kvs=>Ã7
 | .set S n=>h.SetOf (intKind P w) a S n
 | Ó4=>H dx=↑(.own a)/\ø8<=1000/\dx≠a/\ĳ a=↑(Ŵ C dx)/\
   ∃ mA,h.Ns1 dx mA/\(Î6)/\õ9
 | .own _=>∃ o,ø7
 | .xd fs=>∃ mA,h.Ns1 a mA/\Î6
 | .Yk Õ7=>∃ t u v,ĳ a=↑{ cls:=ë1 "range",data:=Ú7 }
 | .pQ o u=>ø7/\xQ H h a u
 | .zR ps=>â5
 | .met f x=>ĳ a=↑(ï5 Ì3 (Ê x))
 | .ext φ=>φ h/\(∃ o,ø7)/\∀ h1 h2:Heap,φ h1->(∀ o,h1.get? a=↑o->h2.get? a=↑o)->φ h2
def xD Ĕ Ê9:Prop:=∀ a o,H a=↑o->xQ ü8 a o
end
section
variable {è}{Å3}{h h':Heap}{Ê6}{o:HO}
theorem xQ.lt (x:xQ ü8 a o):a<ţ:=by
 cases o with
 | lst xs=>let#[_,_,_,_,e]:=x;show ë2
 | tup xs=>let#[_,_,_,p]:=x;show p.lt
 | dK kvs=>ext Â3
 | dT kvs=>ext Â3
 | dS _ kvs=>ext Â3
 | set S n=>let#[o,_,_,_,e,_]:=x;show ë2
 | ins C dx fs=>let#[_,_,_,e,_]:=x;show ë2
 | own y=>let#[_,e]:=x;show ë2
 | xd fs=>let#[_,#[_,_,_,e,_],_]:=x;show ë2
 | Yk lo hi=>let#[_,_,_,e]:=x;show ë2
 | pQ ob u=>let#[e,_]:=x;show ë2
 | zR ps=>show zA8 (show ĳ a=↑_ from x)
 | met f y=>show zA8 (show ĳ a=↑_ from x)
 | ext φ=>let#[_,#[_,e],_]:=x;show ë2
theorem Paired.bV {α β:Type}{F G:α->β->Prop}:∀ {l₁:List α}{l₂:List β},Paired F l₁ l₂->(∀ a b,F a b->G a b)->Paired G l₁ l₂
 | _,_,ï4,_=>ï4
 | _,_,À5 r t,f=>À5 (f Þ r) (Paired.bV t f)
def xQ.lZ (x:xQ ü8 a o) (k:∀ b u,(b=a\/H b=↑(.own a))->Ĉ)
  (ho:∀ b,H b=↑(.own a)->H' b=↑(.own a)) (ht:Ķ):xQ P w H' h' a o:=by
 induction o with
 | lst xs=>let#[z,its,n,r,e]:=x;show#[z,its,n,r,ğ]
 | tup xs=>let#[#[z,y,u,v],its,r,ob,e,c]:=x;show#[#[z,y,k Þ Û5 u,v],its,r,ob,ğ,c]
 | dK kvs=>ext Í7
 | dT kvs=>
  let#[z,y,xs,r,ob,es,ep,e,c]:=x;show#[z,y,xs,Paired.bV r λ p q z=>#[z.1,ht Þ z.2.1,z.2.2],ob,es,ep,ğ,c]
 | dS _ kvs=>ext Í7
 | set S n=>let#[ob,es,ep,t,e,c]:=x;show#[ob,es,ep,t,ğ,c]
 | ins C dx fs=>
  let#[d,z,ne,e,mA,#[od,es,ep,e2,c],r]:=x;show#[ho _ d,z,ne,ğ,mA,#[od,es,ep,k Þ (ŝ d) e2,c],r]
 | own y=>let#[ob,e]:=x;show#[ob,ğ]
 | xd fs=>let#[mA,#[od,es,ep,e,c],r]:=x;show#[mA,#[od,es,ep,ğ,c],r]
 | Yk lo hi=>let#[t,u,v,e]:=x;show#[t,u,v,ğ]
 | pQ ob u ih=>let#[e,q]:=x;show#[ğ,ih q]
 | zR ps=>
  have e:â5:=x;change Ů a=↑{ cls:=ç1,data:=.fields ps };show k a _ Û5 e
 | met f y=>
  have e:ĳ a=↑(ï5 Ì3 (Ê y)):=x;change Ů a=↑(ï5 Ì3 (Ê y));show k a _ Û5 e
 | ext φ=>let#[p,#[o,e],st]:=x;show#[st Þ p λ o q=>k Þ Û5 q,#[o,ğ],st]
theorem xD.lt Õ8 (e:H a=↑o):a<ţ:=(x a o e).lt
def xD.fresh Õ8 (e:ţ<=a):H a=none:=by
 cases q:H a with
 | none=>rfl
 | some u=>show Ĵ (zC3 (x.lt q) e) (zE1 _)
def xD.kept Õ8 ì9:xD P w H h':=λ a o e=>
 (x a o e).lZ (λ b u _ q=>k b u q) (λ _ q=>q) Á9
def xD.laid Õ8 ì9 (hp:ţ<=a) (new:xQ P w Û4 h' a o):xD P w Û4 h':=λ b u e=>by
 have hn:=x.fresh hp;by_cases hb:b=a
 .subst hb;rw[yO] at e;cases e;show new
 .rw[yx hb] at e;show (x b u e).lZ (λ c v _ q=>k c v q) (λ c q=>Ö6) λ c xs q=>Ö6
end
def Rd Ĕ Æ4 (u:HO):Prop:=H a=↑u\/∃ o,H a=↑(.pQ o u)
def Rd.ok è Ġ Ô0 Ê6{u:HO}(r:Rd H a u) Õ8:xQ ü8 a u:=by
 rcases r with r | ⟨o,r⟩
 .show x a u r
 .let#[_,q]:=x a _ r;show q
def fq:Û HO->Prop
 | some (ő _)=>True
 | some (.dK _)=>True
 | some (.dT _)=>True
 | some (.dS Þ)=>True
 | some (.set Þ)=>True
 | some (.ins Þ _)=>True
 | some (.ext _)=>True
 | _=>Ď
section
variable {è}{Ġ}{h h':Heap}{x e:Addr}{o':HO}
def xD.write (ok:xD ü8) Â8
  (new:xQ P w (upd H x o') h' x o'):xD P w (upd H x o') h':=λ b u q=>by
 have nown:∀ c y,H c=↑(.own y)->c≠x:=λ c y r z=>þ0
 have ntup:∀ c xs,H c=↑ ß9->c≠x:=λ c xs r z=>þ0
 by_cases hb:b=x
 .subst hb;rw[yO] at q;cases q;show new
 .rw[yx hb] at q;by_cases hbe:b=e
  .have q':H b=↑(.own x):=by
    rcases he with z | z
    .show Ĵ (hbe.trans z) hb
    .rw[hbe];show z
   rw[q] at q';cases q';let#[v,hv]:=heo;show#[v,by rw[hbe];show hv]
  .exact (ok b u q).lZ (λ c v hc r=>k c v ?_ r) (λ c r=>by rw[yx (nown c b r)];show r) λ c xs r=>by rw[yx (ntup c xs r)];show r
   rcases hc with rfl | hc
   .show hbe
   .rintro rfl;rcases he with z | z
    .show nown c b hc z
    .rw[hc] at z;cases z;show hb rfl
end
structure Un (fs ex:ġ) (H H':Hp) (h h':Heap):Prop where
 keep:∀ b o,Î2->Ň->b∉fs->b∉ex->Ů b=↑o
 slot:∀ b o,Î2->Ň->b∈fs->b∉ex->ï6
 free:∀ b o,Î2->Ň->b∉ex->H' b=none
 there:∀ b o,Î2->b∉ex->∃ o',Ů b=↑o'
 lq:Ķ
 k7:À7
 kP:Ì4
section
variable {fs ex:ġ}{H H1:Hp}{h h1 h':Heap}{a x e:Addr}{o:HO}
def Un.any (u:Un fs ex H H1 h h1) {b:Addr}{ob:Obj}(q:ĳ b=↑ob) (n:Ň) (hx:b∉ex):∃ sl,h1.get? b=↑{ ob with slots:=sl }:=by
 by_cases hb:b∈fs
 .show u.slot b ob q n hb hx
 .show#[ob.slots,u.keep b ob q n hb hx]
def Un.kept ì9:Un fs ex H H h h':=
 #[λ b ob q _ _ _=>k b ob q,λ b ob q _ _ _=>#[ob.slots,k b ob q],λ _ _ _ n _=>n,λ b ob q _=>#[ob,k b ob q],Á9,λ _ _ _ q=>q,λ _ ps q=>#[Ś,å7]]
def Un.refl:Un fs ex H H h h:=Un.kept Á9
def Un.laid ì9 (hp:ţ<=a) (hn:H a=none):Un fs ex H Û4 h h' where
 keep:=λ b u q _ _ _=>k b u q
 slot:=λ b u q _ _ _=>#[u.slots,k b u q]
 free:=λ b u q n _=>by rw[yx (zB3 (zC3 (zA8 q) hp))];show n
 there:=λ b u q _=>#[u,k b u q]
 lq:=λ b xs q=>Ö6
 k7:=λ b u xs q=>Ö6
 kP:=λ b ps q=>#[Ś,by rw[yx (mL q hn),q];simp]
def Un.write Â8:Un fs ex H (upd H x o) h h':=by
 have hx:∀ b,Ň->b≠x:=λ b n z=>by subst z;rw[n] at mu;show mu
 have hb:∀ b,Ň->b≠e:=λ b n z=>by
  subst z;rcases he with r | r
  .show hx b n r
  .rw[n] at r;cases r
 have hm:∀ b u,H b=↑u->¬ fq ↑u->b≠x:=λ b u q nm z=>by subst z;rw[q] at mu;show nm mu
 exact#[λ b u q n _ _=>k b u (hb b n) q,λ b u q n _ _=>#[u.slots,k b u (hb b n) q],λ b u q n _=>by rw[yx (hx b n)];show n,λ b u q _=>?_,
  λ b xs q=>by rw[ä6];show q,λ b u xs q=>by rw[ä6];show q,λ b ps q=>#[Ś,by rw[ä6,q];simp]]
 by_cases hbe:b=e
 .subst hbe;show heo
 .show#[u,k b u hbe q]
end
def cN Ê9 Ĕ:ġ:=(Ï5 ţ).filter λ a=>(H a).isSome
def kz Ê9 Ĕ:Heap:=PySem.W.hideAll h (cN h H)
def GW Ê9 Ĕ:(kz h H).objs.size=ţ:=PySem.W.hideAll_size Þ
def GX Ô0 Ġ Î0(e:Î2) (n:Ň):ø9=↑o:=
 PySem.W.hideAll_get _ e λ hm=>by
  have q:(H b).isSome=true:=(zC8.mp hm).2;rw[n] at q;simp at q
def IH Ô0 Ġ Î0(e:ø9=↑o):Î2/\Ň:=by
 have e':Î2:=PySem.W.of_hideAll (cN h H) e;exact#[e',?_];cases q:H b with
 | none=>rfl
 | some x=>
  have hm:b∈cN h H:=zC8.mpr #[zC1.mpr (zA8 e'),by simp[q]];have z:ø9=none:=PySem.W.hideAll_none (cN h H) hm;rw[z] at e;cases e
structure Mod ß Î5:Prop where
 g9:K.In base
 glob:base.Ns Ð6 mg
 blt:∃ mb,base.Ns builtinsNs mb/\ë3
 nolimit:base.NoLimit
structure Cx where
 prog:ï7
 w:World
 K:zFr
 mg:Str->Û Í
 base:Heap
 A:Around
 N:ą
 s₀:Ù
 H₀:Hp
 env:Env
 Ŕ:Ó5
 stack:Ó5
 ex:ġ
 fn:Str->Bool
 calm:Bool
 pn:zLA
 xe:zVP
def nK (l:Ó5):ġ:=l.filterMap (·.frame)
abbrev zEE ô ã8 (es:đ):Prop:=Ó6 Ð7 Ý=(Ú,ë4)::ü3
abbrev zEB ô (p:Pos) (es:đ):Prop:=(backTo p (ü3)).any ë0=Ú
abbrev Cx.fs ô:ġ:=nK X.outer
def i8 (sc:Scope) è6:Prop:=Ŗ=↑ ò3\/Ŗ=↑ Ò6\/Ŗ=↑ Û6
def Loc (sc:Scope) è6:Prop:=Ŗ=↑ ò3\/Ŗ=↑ Ò6
def Look (env:Env) Ê9 (m:zSV) è6 (u:Í):Prop:=
 (â8 x=↑ ò3/\m x=↑u)\/((â8 x=↑ Ò6\/â8 x=↑ Û6)/\∃ c,Ì9 x=↑c/\h.IsCell c ↑u)
structure Cx.Ok ô:Prop where
 mod:Mod è8
 kind:ó7=ë5
 glob:X.env.globals=Ð6
 blt:X.env.builtins=builtinsNs
 above:ń<=ø
 inj:∀ x y c,Î->Ó7 y=↑c->x=y
 has:∀ x,(X.env.kindOf x=↑ Ò6\/X.env.kindOf x=↑ Û6)->∃ c,Î
 dE:∀ x c,X.fn x=true->Î->ń<=c
 hd:ù0->X.A.handled=none
 frames:X.A.frames=↑ Â0
 cU:Â0=X.outer\/(Â0=Ý::X.outer/\X.env.frame=↑ ø)
 Xt:∀ b∈X.ex,b≠ ø/\∀ x c,Î->c≠b
 bs:∀ b o,Ç7->Û7/\X.H₀ b=none
 jw:X.base.objs.size<=ń
 eB:∀ b o,Ç7->b∉X.ex
 e_:∀ b∈X.ex,b∉X.fs
 mj:X.s₀.heap.FunFrames X.base X.outer
 il:∀ b∈X.fs,X.H₀ b=none
structure Inv ô (gV:zLA) (σ:List (Û V)) Ĕ Ý6:Prop where
 ok:X.Ok
 os:s.os=X.s₀.os
 bare:AllBare s.gens
 base:Un X.fs X.ex X.H₀ H X.s₀.heap Ģ
 loc:∃ m,s.heap.Ns ø m/\∀ Å5 è6 (v:V),à0->σ[i]?=↑↑v->i8 Ð8 x->∃ u,À6/\Look Ý Ģ m x u
 cell:∀ x c,Î->∃ v,s.heap.IsCell c v
 free:H ø=none
 lD:∀ x c,Î->H c=none
 pin:∀ p∈X.pn++gV,Æ5
 zI:xD Ā H Ģ
 len:σ.length=X.N.length
section
variable {Č}{í0}{σ:List (Û V)}{Å3}{Ý9}{h':Heap}
def Cx.Ok.IU (ok:X.Ok) Î0(e:Ç7):b∉X.fs:=λ hb=>by
 have:=(ok.mj.mem hb).1;rw[e] at this;cases this
theorem Inv.bs ë:∀ b o,Ç7->Ê7/\Ň:=λ b o e=>
 #[I.base.keep b o (ï8).1 (ï8).2 (I.ok.IU e) (I.ok.eB Ō),Û8 b o (ï8).1 (ï8).2 (I.ok.eB Ō)]
def Inv.bk ë:∀ b o,Ç7->Ê7:=λ b o e=>(I.bs Ō).1
theorem Inv.mod ë:Mod è8:=I.ok.mod
def Inv.r_ ë:X.K.In Ģ:=I.ok.mod.g9.keeps I.bk
theorem Inv.lt ë:ø<À:=let #[_,hn,_]:=I.loc;hn.lt
def Inv.sz ë:ń<=À:=zE0 I.ok.above (zE3 I.lt)
def Inv.T3 ë Ê6(h:À<=a):a∉X.fs:=λ hb=>by
 ext ô9;show Ĵ (zC3 (zA8 ho) (zE0 I.sz h)) (zE1 _)
def Inv.i0 ë:∀ x c,Î->c≠ ø:=λ x c e z=>by
 let#[v,o,ho,hd]:=à1 á8;let#[m,#[o',es,ep,ho',hd',_],_]:=I.loc;rw[z,ho'] at ho;cases ho;rw[hd'] at hd;cases hd
theorem Inv.mj ë:Ý3 X.base X.outer:=by
 have all:∀ (l:Ó5),(∀ b∈nK l,b∈X.fs)->X.s₀.heap.FunFrames X.base l->Ý3 X.base l:=by
  intro l
  induction l with
  | nil=>intro _ _;trivial
  | cons env r ih=>
   intro hs hl;let#[hk,#[L,o,hf,hn,ho,hd],hr]:=hl;have hL:L∈X.fs:=hs L (by unfold nK;rw[zbE,hf];show za1);let#[sl,e]:=I.base.slot L o ho (I.ok.il L hL) hL λ z=>I.ok.e_ L z hL;show#[hk,#[L,_,hf,hn,e,hd],ih (λ b hb=>hs b (by unfold nK;rw[zbE,hf];show za2 _ hb)) hr]
 show all X.outer (λ _ hb=>hb) I.ok.mj
theorem Inv.stack ë:Ý3 X.base Â0:=by
 ext ý9
 .rw[e];show I.mj
 .rw[e];let#[m,hn,_]:=I.loc;exact À5 (by rw[Ð9];decide) hf hn ?_ I.mj;show Heap.get?_none_of_le (zE0 I.ok.jw I.ok.above)
def Inv.ZV ë:∀ b∈nK Â0,b∈ ø::X.fs:=λ b hb=>by
 ext ý9
 .rw[e] at hb;show za2 _ hb
 .rw[e] at hb;unfold nK at hb;rw[zbE,hf] at hb;show hb
def Inv.VM ë:∀ b∈nK Â0,Ň:=λ b hb=>by
 rcases zA5.mp (I.ZV b hb) with e | hb
 .rw[e];show ò4
 .ext ô9;show Û8 b o ho (I.ok.il b hb) λ z=>I.ok.e_ b z hb
def Inv.step {g':Array GenState}Ô1{d':Drawn}{ch:ġ}ë
  é
  (keep:∀ b o,b≠ ø->b∉X.fs->b∉ch->Ê7->Ň->Ů b=↑o)
  (slot:∀ b o,b≠ ø->b∈X.fs->b∉ch->Ê7->Ň->ï6) (free:∀ b o,b∉ch->Ê7->Ň->H' b=none)
  (there:∀ b o,b∉ch->Ê7->∃ o',Ů b=↑o')
  (lq:Ķ) (k7:À7) (kP:Ì4)
  (ns:∀ m,s.heap.Ns ø m->h'.Ns ø m) î3:
  È8:=by
 have neL:∀ b o,Û7->b≠ ø:=λ b o e=>zB3 (zC3 (ë2) I.ok.above);have neC:∀ b o,Û7->b∉X.ex->b∉ch:=λ b o e hx hb=>by
  rcases (hch b hb).1 with z | z
  .show hx z
  .show Ĵ (zC3 (ë2) z) (zE1 _)
 have cellK:∀ x c,Î->∀ v,s.heap.IsCell c v->h'.IsCell c v:=λ x c e v #[o,ho,hd]=>by
  have nch:c∉ch:=ö0;by_cases hc:c∈X.fs
  .let#[sl,q]:=slot ñ9;show#[_,q,hd]
  .show#[o,keep ñ9,hd]
 exact#[I.ok,I.os,hg,#[Ñ0,Ñ0,λ b o e n hx=>?_,λ b o e hx=>?_,λ b xs e=>lq b xs (I.base.lq b xs e),λ b o xs e=>k7 b o xs (I.base.k7 b o xs e),λ b ps e=>?_],?_,ç2,?_,ç2,ï9,zI,I.len]
 .show keep b o (neL Ō) hb ù1 Ø4 (Û8 Ō n hx)
 .ext È9;let#[sl',e2]:=slot b _ (neL Ō) hb ù1 e1 (Û8 Ō n hx);show#[sl',e2]
 .ext Ã4;show free b o' ù1 e1 (Û8 Ō n hx)
 .ext Ã4;show there b o' ù1 e1
 .let#[m1,e1]:=I.base.kP b ps e;let#[m2,e2]:=kP b _ e1;show#[m1++m2,by rw[e2,Array.append_assoc]]
 .let#[m,hn,hl]:=I.loc;exact#[m,ns m hn,λ i x v e1 e2 e3=>?_];let#[u,r,l]:=hl i x v e1 e2 e3;exact#[u,r,?_];rcases l with l | ⟨k,c,e,z⟩
  .show Ć l
  .show ŝ #[k,c,e,cellK á8 _ z]
 .let#[v,z]:=à1 á8;show#[v,cellK á8 v z]
 .let#[m,#[o,_,_,ho,_],_]:=I.loc;show free _ o (λ z=>(hch _ z).2.1 rfl) ho ò4
 .let#[v,o,ho,hd]:=à1 á8;show free c o (ö0) ho (I.lD á8)
 .ext É0;have nch:p.1∉ch:=λ z=>(hch p.1 z).2.2.2 p hp rfl;show#[keep p.1 p.2 ne nf nch e n,free p.1 p.2 nch e n,ne,nf,d]
theorem Inv.un Ô1 ë (u:Un X.fs [] H H' Ģ h') (zI:xD Ā H' h'):Inv Ñ H' { s with heap:=h',toks:=t' }:=by
 ext ß6;let#[sl,hL]:=u.any ho ò4 #[];show I.step (g':=s.gens) (d':=s.drawn) (ch:=[]) (λ _ z=>nomatch z) (λ b o _ hb _ e n=>u.keep Ō n hb #[]) (λ b o _ hb _ e n=>u.slot Ō n hb #[]) (λ b o _ e n=>u.free Ō n #[]) (λ b o _ e=>u.there Ō #[]) u.lq u.k7 u.kP (λ m' hm=>by
  ext Ï9) zI ù2
def Inv.call {g':Array GenState}Ô1{d':Drawn}{ch:ġ}ë (u:Un (nK Â0) ch H H' Ģ h') î3
  é:
  È8:=by
 ext ß6;let#[sl,hL]:=u.any ho ò4 λ z=>(hch _ z).2.1 rfl;show I.step (ch:=ch) hch (λ b o hL hb hc e n=>u.keep Ō n (λ z=>(zA5.mp (I.ZV b z)).elim hL hb) hc) (λ b o _ _ hc e n=>u.any e n hc) (λ b o hc e n=>u.free Ō n hc) (λ b o hc e=>u.there Ō hc) u.lq u.k7 u.kP (λ m' hm=>by
  ext Ï9) zI hg
def Inv.turned Ô1{it:Addr}ë (k:∀ b o,b≠it->Ê7->Ů b=↑o) (hn:H it=none) (hL:it≠ ø)
  (h1:it∈X.ex\/ń<=it) (h2:∀ x c,Î->c≠it) (h3:∀ p∈X.pn++gV,p.1≠it):å8:=by
 have nit:∀ b u,H b=↑u->b≠it:=λ b u e z=>by rw[z,hn] at e;cases e
 exact I.step (g':=s.gens) (d':=s.drawn) (ch:=[it]) (ð0) (λ b o _ _ hc e _=>É3) (λ b o _ _ hc e _=>#[o.slots,É3]) (λ _ _ _ _ n=>n)
  (λ b o hc e=>#[o,É3]) (λ _ _ e=>e) (λ _ _ _ e=>e) (λ b ps e=>#[Ś,by rw[e];simp]) (λ m hm=>?_) (λ b u e=>?_) ù2
 .ext Ù7
  subst e;show#[h1,hL,h2,h3]
 .let#[o,es,ep,ho,r]:=hm;show#[o,es,ep,k _ o (Ne.symm hL) ho,r]
 .exact (I.zI b u e).lZ (λ c v hc q=>k c v ?_ q) (λ _ q=>q) Á9;rcases hc with z | z
  .rw[z];show nit b u e
  .show nit c _ z
def Inv.tok ë (t:Nat):Inv Ñ H { s with toks:=t }:=I.un (h':=Ģ) (t':=t) Un.refl I.zI
theorem Inv.kept Ô1 ë (k:∀ b u,ä7):å8:=I.un (Un.kept k) (I.zI.kept k)
theorem Inv.laid Ê6{o:HO}Ô1 ë (k:∀ b u,ä7) (hp:À<=a) (new:xQ Ā Û4 h' a o):
  Inv Ñ Û4 { s with heap:=h',toks:=t' }:=I.un (Un.laid k hp (ſ hp)) (I.zI.laid k hp new)
theorem Inv.write {x e:Addr}{o:HO}Ô1 ë á9 (k:∀ b u,b≠e->ä7) (heo:∃ u,Ů e=↑u)
  (new:xQ Ā (upd H x o) h' x o):Inv Ñ (upd H x o) { s with heap:=h',toks:=t' }:=I.un (Un.write mu he k heo) (I.zI.write mu he k heo new)
def Inv.Yx {pins':zLA}ë (h:∀ p∈pins',Æ5):Inv X pins' í s:=
 #[I.ok,I.os,ù2,I.base,I.loc,à1,ò4,I.lD,λ p hp=>ó8 (λ z=>I.pin p (zaO _ z)) (h p),I.zI,I.len]
def T5 {N:ą}(hN:N.Nodup) {i j:Nat}İ(a:N[i]?=↑x) (b:N[j]?=↑x):i=j:=by
 let#[h1,e1]:=zA2.mp a;let#[h2,e2]:=zA2.mp b;show (List.getElem_inj hN).mp (Î7 e2.symm)
def Mr ü9 ħ Í4 É8 İ Ô2 Ü8 ë ï (r:À6)
  (h:∀ s',Inv X gV à2 H s'->(∃ a,ò5 a Ģ ç3/\(a=ø\/Ó7 x=↑a))->Q ù3 s') Õ:ó9:=by
 let#[m,hn,hl]:=id I.loc;have hcls:(ó7 == .class||(ó7 == .module&&ø != X.env.globals))=Ú:=by rw[Ð9];rfl
 have hiσ:i < σ.length:=by rw[I.len];show (zA2.mp hi).1
 have i0:=I.i0;have tracked:∀ Ê6{h':Heap},(∃ o,æ a=↑o/\H a=none)->ò5 a Ģ h'->xD Ā H h':=λ{a h'} ha hs b ob e=>by
  let#[_,_,hfree]:=ha;exact (I.zI b ob e).lZ (λ c w' hc q=>(hs.2 c ?_).trans q) (λ _ q=>q) Á9;rintro rfl;rcases hc with rfl | hc
  .rw[hfree] at e;cases e
  .rw[hfree] at hc;cases hc
 rcases hx with hk | hk
 .exact wpAny_storeName_local hk hn (λ h' hn' hs=>?_) hcls;let#[oL,_,_,hoL,_]:=id hn;exact h _ #[I.ok,I.os,ù2,œ,#[_,hn',λ j y v' e1 e2 e3=>?_],λ y c e=>?_,ò4,I.lD,ï9,tracked #[oL,hoL,ò4] hs,by exists I.len] #[_,hs,Ć rfl]
  .show Æ1 Ø4
  .ext È9;show#[sl,Æ1 e1]
  .ext Ã4;show#[o',Æ1 e1]
  .by_cases hj:j=i
   .ext Ë0;show#[u,r,Ć #[hk,#[]]]
   .ext Ÿ;rcases q with ⟨k,e⟩ | ⟨k,c,e,z⟩
    .exact Ć #[k,?_];have:y≠x:=λ e=>hj (T5 hN e1 (e▸hi));simp[this,e]
    .show ŝ #[k,c,e,z.sameBut hs (i0 y c e)]
  .let#[w',z]:=à1 y c e;show#[w',z.sameBut hs (i0 y c e)]
  .ext É0;show#[(hs.2 p.1 ne).trans e,n,ne,nf,d]
 .have hfn:X.fn x=true:=by
   rcases hf with z | z
   .show z
   .rw[z] at hk;cases hk
  let#[c,hc]:=I.ok.has x (Ć hk);let#[w',z]:=à1 x c hc;exact wpAny_storeName_cell Ð9 hk hc z (λ h' hc' hs=>?_);let#[oc,hoc,hocd]:=id z;exact h { s with heap:=h' } #[I.ok,I.os,ù2,œ,#[m,hn.sameBut hs (Ne.symm (i0 x c hc)),λ j y v' e1 e2 e3=>?_],λ y c' e=>?_,ò4,I.lD,ï9,tracked #[oc,hoc,I.lD x c hc] hs,by exists I.len] #[c,hs,ŝ hc]
  .show ŕ Ø4
  .ext È9;show#[sl,ŕ e1]
  .ext Ã4;show#[o',ŕ e1]
  .by_cases hj:j=i
   .ext Ë0;show#[u,r,ŝ #[Ć hk,c,hc,hc']]
   .ext Ÿ;rcases q with q | ⟨k,c',e,z'⟩
    .show Ć q
    .exact ŝ #[k,c',e,z'.sameBut hs ?_];rintro rfl;show hj (T5 hN e1 (I.ok.inj Þ _ e hc▸hi))
  .by_cases hcc:c'=c
   .subst hcc;show#[_,hc']
   .let#[w2,z2]:=à1 y c' e;show#[w2,z2.sameBut hs hcc]
  .ext É0;exact#[(hs.2 p.1 ?_).trans e,n,ne,nf,d];intro q;rw[q,hoc] at e;have q':oc=p.2:=zD5 e;show d w' (by rw[<- q'];show hocd)
def ZU ü9 ħ Í4 É8 İ Ô2 Ü8 ë ï (r:À6)
  (h:∀ s',Inv X gV à2 H s'->Q ù3 s') Õ:ó9:=
 Mr I hN hi hx r (λ s' I' _=>h s' I') hf
def Inv.CM {s':Ù}{ch:ġ}ë (ho:s'.os=s.os) (u:Un (nK Â0) ch H H' Ģ ç3) (zI:xD Ā H' ç3) (hg:ù4)
  é:Ì5:=by
 let#[h',g',d',t',o']:=s';have e:o'=s.os:=ho;subst e;show I.call (g':=g') (t':=t') (d':=d') u zI hg hch
end
abbrev XK:=Í->ù5->Ô
abbrev St:=List (Û V)
abbrev VK:=V->Ô
abbrev TE:=St->ã
abbrev TT:=St->Hp->(Î8)->Prop
abbrev TA:=St->Hp->(Ò->Ô)->Prop
structure Ends where
 nx:Ñ1
 rt:VK
 bk:Ñ1:=ë6
 ct:Ñ1:=ë6
abbrev TS:=Ends->Ñ1
def EP ô Í5 Ò1 (u:Í) ò0:Prop:=∃ v H',Ì5/\À6/\Q v H'
def TP ô Í5 (Q:Î8) (b:Bool) ò0:Prop:=∃ H',Ì5/\Q b H'
def AP ô Í5 (Q:Ò->Ô) Ü9 ò0:Prop:=∃ vs H',Ì5/\â9/\Q vs H'
def SP ô (gV:zLA) (D:Ends) (f:Flow) ò0:Prop:=
 match f with
 | .next=>∃ σ' H',À9/\D.nx Ļ
 | .brk=>∃ σ' H',À9/\D.bk Ļ
 | .cont=>∃ σ' H',À9/\D.ct Ļ
 | .ret u=>∃ v σ' H',À9/\À6/\D.rt v H'
def PE ô ã8 (t:TE):Prop:=
 ∀ Ã Ò1,Á->t í Q->ç Â (ë4) ł s
def PT ô ã8 (t:TT):Prop:=
 ∀ Ã (Q:Î8),Á->t í Q->ç Â (isTrue e Ý (ë4)) ã9
def PW ô ã8 (t:TT):Prop:=
 ∀ (whole:Sem Í) Ã (Q:Î8),Á->t í Q->ç Â (isTrue e Ý whole) ã9
def PW.pt Č Į{t:TT}(h:PW X e t):PT X e t:=h _
def PA ô (es:đ) (t:TA):Prop:=
 ∀ (pos:Pos) Ã (Q:Ò->Ô),Á->t í Q->ç Â (spliced (backTo pos (ü3))) (AP Ñ Q) X.xe s
def PS ô (st:Stmt) (t:TS):Prop:=
 ∀ Ã (D:Ends),Á->t D í->ç Â (exec st Ý) (SP X gV D) X.xe s
def qW ô (st:Ê4) (t:TS):Prop:=
 ∀ Ã (D:Ends),Á->t D í->ç Â (execs st Ý) (SP X gV D) X.xe s
def zH {α:Type}{t:Sem α}{Q Q':α->À8}ü9 ħ Í4 Ý9(h:ç M A t Ò9) (hQ:∀ a s,Q a s->Q' a s):ç M A t Q' E s:=zcU h hQ λ _ _ x=>x
section
variable {Č}
def oW Å5:TE:=fun σ H Q=>∃ v,σ[i]?=↑↑v/\Q v H
def tC (v:V):TE:=λ _ H Q=>Q v H
def Y0 É8 İ Ċ(hN:à0) (hv:i8 Ð8 x) Ä1 Ù8:PE X Ť (oW i):=by
 ext Ð;let#[v,e,h]:=h;let#[m,hn,hl]:=I.loc;let#[u,r,l]:=hl i x v hN e hv;have fin:EP Ñ Q u s:=ä8;rcases l with ⟨hk,hm⟩ | ⟨hk,c,hc,hcell⟩
 .show wpAny_Name (wpAny_loadName_local Ð9 hk hn hm fin) hd
 .rcases hk with hk | hk
  .show wpAny_Name (wpAny_loadName_cell Ð9 hk hc hcell fin) hd
  .show wpAny_Name (wpAny_loadName_free Ð9 hk hc hcell fin hcd) hd
def KU {i j pos}:PE X (Ø5 (ó6) j pos) (tC (ó6)):=λ _ _ _ H _ I h=>wpAny_Constant_int #[ó6,H,Ë2,À0,h]
def Jd {b j pos}:PE X (Ø5 (ù6 b) j pos) (tC (.bl b)):=λ _ _ _ H _ I h=>Constant_bool #[.bl b,H,I,rfl,h]
def KO {j pos}:PE X (Ø5 ç1 j pos) (tC .zC):=λ _ _ _ H _ I h=>Constant_none #[.zC,H,I,rfl,h]
def KG {x j pos}:PE X (Ø5 (å6) j pos) (tC (å6)):=λ _ _ _ H _ I h=>Calls.Constant_str #[å6,H,Ë2,À0,h]
def Gl ô è6:Prop:=X.env.kindOf x=↑.globalImplicit
def gy Í4 í0 Ý9 À4 Ġ İ ü7 Ċ è9 ë é0 (hm:X.mg x=↑u) (h:Q u s)
  Ä1:ç Â (eval Ť Ý) Ò9:=
 Calls.Name_function_global Ð9 hg (Calls.loadGlobal_global ê6 hm h) hd
def ib Í4 í0 Ý9 À4 Ġ İ ü7 Ċ è9 ë Ã5 (hv:Ë3=↑u) (h:Q u s)
  Á6 Ä1:ç Â (eval Ť Ý) Ò9:=by
 let#[mb,h1,h2]:=I.mod.blt;show Calls.Name_function_global Ð9 hg (Calls.loadGlobal_builtin ê6 hm (by rw[I.ok.blt];show h1.keeps I.bk) ((h2 x hn).trans hv) h) hd
def Y1 İ Ô2 Ċ é0 (hm:X.mg x=↑u) (r:À6) Ä1:PE X Ť (tC v):=
 λ _ _ _ H _ I h=>gy I hg hm ä8 hd
def Jc İ Ô2 Ċ Ã5 (hv:Ë3=↑u) (r:À6) Á6 Ä1:PE X Ť (tC v):=
 λ _ _ _ H _ I h=>ib I hg hm hv ä8 hn hd
variable {Ï7}{ta tb:TE}{Ċ}
def PC ô (op:CmpOp) (a b:Expr) (t:TE):Prop:=
 ∀ Ã Ò1,Á->t í Q->
  ç Â (eval a Ý) (λ v s₁=>ç Â (eval b Ý) (λ u s₂=>ç Â (Á0 op v u) ł s₂) X.xe s₁) X.xe s
def IV (b:Expr) Ù9(h:op≠.In) (h2:op≠.NotIn):ň:=by
 ext ä3
 ext â3
 ext í1
def tB (t:TE):TT:=fun σ H Q=>t í λ x H1=>∃ c,x=.bl c/\Q c H1
theorem UJ Ù9{t:TE}(h:PC X op a b t) (h1:ň:=by first | show IV _ () () | rfl):PT ŭ (tB t):=by
 intro gV s σ H Q I hw;exact wpAny_isTrue_Compare1 (zH (h È _ I hw) λ v s1 h1=>zH h1 λ u s2 h2=>zH h2 λ c s3 Ì=>?_) h1;let#[d,rfl,q]:=q1;cases r1;show zcX #[H1,I1,q]
variable {tA tB':TT}{rest:đ}
def Mp (t u:TT):TT:=fun σ H Q=>t í λ c H1=>if c=true then u Ú0 Q else Q Ú H1
def NZ (t u:TT):TT:=fun σ H Q=>t í λ c H1=>if c=true then Q true H1 else u Ú0 Q
def Ma (t:TT):TT:=fun σ H Q=>t í λ c H1=>Q (!c) H1
def LJ Õ9:PW X (ŗ .And [a] pos) tA:=by
 ext Ô3;exact isTrue_and ð1;cases c with
 | true=>show isTrue_and_nil e
 | Ú=>show e
def LH Õ9:PW X (ŗ .Or [a] pos) tA:=by
 ext Ô3;exact isTrue_or ð1;cases c with
 | Ú=>show isTrue_or_nil e
 | true=>show e
def LK Õ9 (hb:PW é1 tB'):PW î4 (Mp tA tB'):=by
 ext Ô3;exact isTrue_and (zH ç4 λ c s1 Ç8=>?_);cases c with
 | true=>show hb wh ê0
 | Ú=>show Ç8
def LI Õ9 (hb:PW î5 tB'):PW õ5 (NZ tA tB'):=by
 ext Ô3;exact isTrue_or (zH ç4 λ c s1 Ç8=>?_);cases c with
 | true=>show Ç8
 | Ú=>show hb wh ê0
def LR Õ9:PT É9 (Ma tA):=by
 ext Ð;show isTrue_not (ha È (λ c H1=>Q (!c) H1) I h)
def Mo (ta tb:TE):TE:=fun σ H Q=>ta í λ x H1=>∃ c,x=.bl c/\if c=true then tb Ú0 Q else Q (.bl Ú) H1
def NY (ta tb:TE):TE:=fun σ H Q=>ta í λ x H1=>∃ c,x=.bl c/\if c=true then Q (.bl true) H1 else tb Ú0 Q
def N_ (ta:TE):TE:=fun σ H Q=>ta í λ x H1=>∃ c,x=.bl c/\Q (.bl (!c)) H1
def KL {op} {t:TE}(h:PE X a t):PE X (ŗ op [a] pos) t:=λ gV s σ H Q I hw=>BoolOp_one (h È Q I hw)
def Je Ë9 (hb:PE é1 tb):PE î4 (Mo ź):=by
 ext Ð;exact BoolOp_and (Å7);ext Ø1;exact zcX ?_;cases c with
 | true=>show hb ê0
 | Ú=>show#[.bl Ú,H1,I1,rfl,q1]
def KI Ë9 (hb:PE î5 tb):PE õ5 (NY ź):=by
 ext Ð;exact BoolOp_or (Å7);ext Ø1;exact zcX ?_;cases c with
 | Ú=>show hb ê0
 | true=>show#[.bl true,H1,I1,rfl,q1]
def KN Ë9:PE É9 (N_ ta):=by
 ext Ð;exact UnaryOp_ (Å7);ext Ø1;show not_of (zcX #[.bl (!c),H1,I1,rfl,q1])
def Mf (t:TT) (ta tb:TE):TE:=fun σ H Q=>t í λ c H1=>if c=true then ta Ú0 Q else tb Ú0 Q
def KY ö8(hc:PT X c tA) ú:PE X (.IfExp c a b pos) (Mf tA ź):=by
 ext Ð;exact wpAny_IfExp ù7;cases d with
 | true=>show ha ê0
 | Ú=>show hb ê0
end
def y7 ß Ĕ Æ4 è7:Prop:=
 Rd H a É4\/
  Ľ
def yw ß Ĕ Æ4 è7:Prop:=
 Rd H a ß9\/
  ∃ (o:Obj) (its:zAV) (n:Nat),ã0 a=↑o/\(o.cls=ž/\ü2)/\Ó2
def B2:Í->Û V
 | ç1=>↑.zC
 | ù6 b=>↑(.bl b)
 | ì i _=>↑(ó6)
 | .str x _=>↑(å6)
 | .bytes b _=>↑(.dG b)
 | .float b _=>↑(.Xr b)
 | í8=>↑(í8)
 | ë1 n=>↑(.ty n)
 | _=>none
def RelV.abs {x:V}ü7(r:â7):B2 u=↑x:=by
 cases x with
 | zC=>cases r;rfl
 | bl _=>cases r;rfl
 | ref _=>cases r;rfl
 | ty _=>cases r;rfl
 | _=>ext æ2;rfl
theorem RelV.inj {x y:V}ü7(r:â7) (q:RelV y u):x=y:=zD5 (r.abs.symm.trans q.abs)
theorem Vals.inj:∀ ã7 Ŭ,Á8->Vals ys us->xs=ys
 | _,_,_,ï4,ï4=>rfl
 | _,_,_,À5 r t,À5 r' t'=>by rw[r.inj r',Vals.inj t t']
section
variable {Č}{Ç}{Ê6}{ã7}
def y7.of Ĝ(h:H a=↑ É4):y7 ŵ:=Ć (Ć h)
def yw.of Ĝ(h:H a=↑ ß9):yw ŵ:=Ć (Ć h)
def Inv.list ë (h:y7 é2 a xs):∃ its:List Í,Ð5/\PlainL Ģ a ù/\Ø<=Ü:=by
 rcases h with h | ⟨o,its,n,hk,hc,hd,hs,hz,r⟩
 .let#[z,its,n,r,e]:=h.ok I.zI;show#[its,r,#[_,n,e,rfl,rfl,rfl],z]
 .exact#[its.toList,r,#[o,n,I.r_ a o hk,hc,hd,by exists hs],?_];have e:=Ë4;simp![zD2] at e;lia
def Inv.tuple ë (h:yw é2 a xs):∃ its:List Í,Ð5/\IsTup Ģ a ù/\Ø<=Ü:=by
 rcases h with h | ⟨o,its,n,hk,hc,hs,hz,r⟩
 .let#[z,its,r,p]:=h.ok I.zI;show#[its,r,p,z.1]
 .exact#[its.toList,r,#[o,I.r_ a o hk,hc.1,n,by exists hs],?_];have e:=Ë4;simp![zD2] at e;lia
def Inv.YJ ë (h:y7 é2 a xs) (h':y7 é2 a ys):xs=ys:=by
 let#[its,r,#[o,n,e,_,_,d],_]:=I.list h;let#[its',r',#[o',n',e',_,_,d'],_]:=I.list h';rw[e] at e';cases e';rw[d] at d'
 injection d' with d1 _
 ext ß7
 subst this;show r.inj r'
def Inv.ZJ ë (h:yw é2 a xs) (h':yw é2 a ys):xs=ys:=by
 let#[its,r,#[o,e,_,n,d],_]:=Û9 h;let#[its',r',#[o',e',_,n',d'],_]:=Û9 h';rw[e] at e';cases e';rw[d] at d'
 injection d' with d1 _
 ext ß7
 subst this;show r.inj r'
end
abbrev Cx.ll ô ê8:Cx:={ X with xe:=E }
abbrev Cx.rl ô:Cx:=X.ll ë6
theorem Cx.Ok.ll Č(ok:X.Ok) ê8:(X.ll E).Ok:=
 č
def Cx.Ok.iR Č Í4(ok:(X.ll E).Ok):X.Ok:=
 č
section
variable {Č}{Ç}{Í4}
theorem Inv.ll ë ê8:Inv (X.ll E) gV í s:=#[I.ok.ll E,I.os,ù2,I.base,I.loc,à1,ò4,I.lD,I.pin,I.zI,I.len]
theorem Inv.iR (I:Inv (X.ll E) gV í s):Á:=#[I.ok.iR,I.os,ù2,I.base,I.loc,à1,ò4,I.lD,I.pin,I.zI,I.len]
theorem SP.iR {D:Ends}{f:Flow}{s':Ù}(h:SP (X.ll E) gV D f s'):SP X gV D f s':=by
 cases f with
 | ret u=>let#[v,σ',H',I,r,q]:=h;show#[v,σ',H',I.iR,r,q]
 | _=>let#[σ',H',I,q]:=h;show#[σ',H',I.iR,q]
theorem qW.rl {st:Ê4}{t:TS}(h:qW X.rl st t):qW X st t:=λ gV s σ H D I hw=>
 zcU (h È D (I.ll _) hw) (λ _ _ q=>q.iR) Ü0
end
section
variable {Č}{st:Stmt}{rest:Ê4}{t u:TS}{Į}{te:TE}{Ċ}
def Mc:TS:=λ D σ H=>D.nx í
def NU (t u:TS):TS:=λ D σ H=>t { D with nx:=u D } í
def LW:qW X [] Mc:=λ _ _ σ H _ I h=>zd7 #[σ,H,I,h]
def LX (h1:PS X st t) (h2:qW X rest u):qW X (st::rest) (NU t u):=by
 ext Ņ;exact wpAny_execs_cons (zH (h1 È { D with nx:=u D } I h) λ f s1 q=>?_);cases f with
 | next=>
  let#[σ',H',I',q]:=q;show h2 gV s1 Ļ D I' q
 | ret v=>show q
 | _=>show q
def LV (h1:PS X st t):qW X [st] t:=by
 ext Ņ;exact wpAny_execs_cons (zH (h1 È D I h) λ f s1 q=>?_);cases f with
 | next=>show zd7 q
 | ret v=>show q
 | _=>show q
def Inv.quiet Ç ë:interactive Ý=Ú:=by simp[interactive,Ð9]
def VG (te:TE):TS:=λ D σ H=>te í λ _ H1=>D.nx Ú0
def Kh Ö0 (hs:å9:=by rfl):PS X (.Expr e pos) (VG te):=by
 ext Ņ;show wpAny_Expr_any (zH (he ÿ) λ v s1 Ì=>#[σ,H1,I1,q1]) I.quiet hs
def NV (te:TE):TS:=λ D σ H=>te í D.rt
def Kb Ö0:PS X (.Return ↑e pos) (NV te):=by
 ext Ņ;show wpAny_Return_some (zH (he ÿ) λ v s1 Ì=>#[x,σ,H1,I1,r1,q1])
def VF (c:TT) (t u:TS):TS:=λ D σ H=>c í λ b H1=>if b=true then t D Ú0 else u D Ú0
def Ke ö8{a b:Ê4}{tc:TT}(hc:PT X c tc) (ha:qW X a t) (hb:qW X b u):PS X (.If c a b pos) (VF tc t u):=by
 ext Ņ;exact wpAny_If ù7;cases d with
 | true=>show ha þ D I1 q1
 | Ú=>show hb þ D I1 q1
end
abbrev TG:=V->St->Hp->(Ñ1)->Prop
abbrev kG:=Ò->St->Hp->(Ñ1)->Prop
def PG ô (target:Expr) (t:TG):Prop:=
 ∀ Ã (v:V) (u:Í) (Q:Ñ1),Á->À6->t v í Q->
  ç Â (assign target Ý u) î6
def lN ô (ts:đ) (t:kG):Prop:=
 ∀ Ã (vs:Ò) Ü9 (Q:Ñ1),Á->â9->t vs í Q->
  ç Â (assignInOrder ((Â1 ts Ý).map (·.2)) us) î6
abbrev Wu:=V->V->V->Hp->(Ô)->Prop
def PM ô (t:Wu):Prop:=
 ∀ Ã (o i v:V) (ov iv u:Í) (Q:Ô),Á->RelV o ov->RelV i iv->À6->t o i v H Q->
  ç Â (setItem ov iv u) (λ _ s'=>∃ H',Ì5/\Q H') X.xe s
section
variable {Č}{Ċ}
def gO Å5:TG:=λ v σ H Q=>Q à2 H
def K2 É8 İ ï Õ:PG X Ť (gO i):=by
 intro gV s σ H v u Q I r h;show wpAny_assign_Name (ZU I hN hi hx r (λ s' I'=>#[_,H,I',h]) hf)
def E7:kG:=λ vs σ H Q=>vs=[]/\Q í
def E8 (t:TG) (u:kG):kG:=λ vs σ H Q=>∃ v r,vs=v::r/\t v í fun σ' H'=>u r Ļ Q
def Ky:lN X [] E7:=by
 intro gV s σ H vs us Q I r h;let#[e,h]:=h;subst e;cases r;show assignInOrder_nil #[σ,H,I,h]
def Kz Į é3{t:TG}{u:kG}(h1:PG X e t) (h2:lN X es u)
  (hs:Ê8:=by rfl):lN X Ð7 (E8 t u):=by
 intro gV s σ H vs us Q I r h;let#[v,vr,e1,h]:=h;subst e1;cases r with
 | cons r rr=>
  rw[hs];exact assignInOrder_cons (zH (h1 È Þ _ I r h) λ _ s1 #[σ1,H1,I1,q1]=>?_);show h2 gV s1 σ1 H1 Þ Q I1 rr q1
def Rh ß Ö8 (t:kG):TG:=λ v σ H Q=>∃ a xs,v=í8/\yw ŵ/\Ø=n/\t xs í Q
def K0 é3 Û2{t:kG}Ú3 Ē (h:lN X es t)
  (hn:(Â1 es Ý).length=n:=by rfl) (hst:õ3:=by rfl):PG X ð2 (Rh X.K n t):=by
 intro gV s σ H v u Q I r hw;let#[a,xs,e1,hq,hl,hw]:=hw;subst e1;cases r;let#[its,rv,ht,hz]:=Û9 hq;exact assign_Tuple_tuple Å8 ht (by simp[hn,<- hl,rv.length]) hst λ h' hx=>?_;have I1:Ô6:=I.kept (t':=Š) λ b o e=>hx b o (zB3 (ë2)) e;show h gV _ í xs _ Q I1 (by exists rv) hw
def E6 (to ti:TE) (t:Wu):TG:=λ v σ H Q=>to í λ o H1=>ti Ú0 λ i H2=>t o i v H2 λ H3=>Q σ H3
def K1 {o i:Expr}{to ti:TE}{t:Wu}(ho:PE X o to) (hi:PE X i ti) (hs:PM X t)
  (ha:∀ v,assign (ð3 o i pos) Ý v=(do
   let ov <- holding [v] (eval o Ý)
   let iv <- holding [v,ov] (eval i Ý)
   standAt pos
   holding [v,ov,iv] (setItem ov iv v)
   release [v,ov,iv] []):=by intro _;rfl):PG X (ð3 o i pos) (E6 to ti t):=by
 intro gV s σ H v u Q I r h;rw[ha];exact zcO (zcV (zH (ho ÿ) λ ov s1 Ì=>?_));exact zcO (zcV (zH (hi Þ7) λ iv s2 Å9=>?_));exact zcO (wpAny_standAt (zcO (zcV (zH (hs Å2 ov iv u _ I2 Þ8 r q2) λ _ s3 #[H3,I3,q3]=>?_))));show wpAny_release #[σ,H3,I3,q3]
def fJ (te:TE) (g:TG):TS:=λ D σ H=>te í λ x H1=>g x Ú0 D.nx
def UL ý0{te:TE}{g:TG}Ö0 (hg:PG X tg g) (hs:ß0:=by rfl) (hw:ë7:=by rfl)
  (h1:â6:=by rfl):PS X (.Assign [tg] e pos) (fJ te g):=by
 ext Ņ;exact wpAny_Assign_stores (zH (he ÿ) λ v s1 Ì=>?_) hs hw;rw[h1];show zH (hg þ x v _ I1 r1 q1) λ _ s2 q=>q
def Ka É8 İ Į{te:TE}{pos':Pos}ï Ö0 (hs:Ò7:=by rfl) Õ:
  PS X ò6 (fJ te (gO i)):=by
 ext Ņ;exact wpAny_Assign_Name (zH (he ÿ) λ v s1 #[y,H1,I1,r1,q1]=>?_) hs;show ZU I1 hN hi hx r1 (λ s2 I2=>#[_,H1,I2,q1]) hf
def NQ (c:TT) (tb:TS):TS:=λ D σ H=>∃ W:Nat->Ñ1,(∃ m,W m í)/\∀ m σ H,W m í->
 c í λ b H1=>if b=true then ∃ N:Ñ1,(∀ σ' H',N Ļ->∃ m',m'<m/\W m' Ļ)/\tb { D with nx:=N,ct:=N,bk:=D.nx } Ú0 else D.nx Ú0
def LZ ö8{body:Ê4}{tc:TT}{tb:TS}Ö1 (hc:PT X c tc) (hb:qW X body tb):PS X (.While c body [] pos) (NQ tc tb):=by
 ext Ņ;let#[W,#[m0,w0],turn]:=h;exact wpAny_While (codeAny_whileLoop (λ n s'=>∃ σ' H',À9/\W n Ļ) ?_ m0 #[σ,H,I,w0]);rintro n s1 ⟨σ1,H1,I1,w1⟩;exact zd3 hp (zH (hc gV s1 σ1 H1 _ I1 (turn n σ1 H1 w1)) λ b s2 #[H2,I2,q2]=>?_);cases b with
 | true=>
  let#[N,hN,q2]:=q2;rw[ĭ rfl];exact zd3 hp (zH (hb gV s2 σ1 H2 _ I2 q2) λ f s3 q3=>?_);cases f with
  | next=>
   ext Æ0
  | cont=>
   ext Æ0
  | brk=>show q3
  | ret v=>show q3
 | Ú=>
  rw[Ę za6];show zd7 #[σ1,H2,I2,q2]
end
structure It where
 go:Nat->Ô
 iQ:Nat->Hp->V->Ô
 stop:Nat->Ô
def nW ô (gV:zLA) Ĕ (b:Addr):Prop:=
 Ň/\b≠ ø/\b∉X.fs/\(b∈X.ex\/ń<=b)/\Ü1
theorem Inv.eW Č í0 À4 Å3 Ý9{b:Addr}ë (hb:À<=b) (hn:H' b=none):nW X gV H' b:=by
 exact#[hn,zaF (zC3 I.lt hb),I.T3 hb,ŝ (zE0 I.sz hb),λ x c e z=>?_,λ p hp z=>?_]
 .let#[v,q]:=à1 á8;show Ĵ (zC3 q.lt (by rw[z];show hb)) (zE1 _)
 .show Ĵ (zC3 (zA8 (I.pin p hp).1) (by rw[z];show hb)) (zE1 _)
structure Turn ŋ ß (tg:Expr) (J:It) (fp:ġ) (it:Addr) (tn:Nat->Ø3):Prop where
 mem:it∈fp
 obj:∀ i h,tn i h->∀ b∈fp,∃ o,Î2/\∀ v,o.data≠ Ò6 v
 keep:∀ i h h',tn i h->(∀ b∈fp,∀ o,Î2->Ů b=↑o)->tn i h'
 item:∀ ô,X.prog=P->X.w=w->X.K=K->ù0->∀ Å5 Ã ê8,Á->(ŉ)->tn i Ģ->J.go i H->
  ç É5 X.A (pyNext à3) (λ r s1=>∃ u,r=↑u/\
   ç É5 X.A (ù8 tg à3 u) (λ _ s2=>∃ x H',Inv Ñ H' s2/\â7/\ë8/\tn ù9 s2.heap/\Ş) E s1) E s
 done:∀ ô,X.prog=P->X.w=w->X.K=K->ù0->∀ Å5 Ã ê8,Á->(ŉ)->tn i Ģ->J.stop i H->
  ç É5 X.A (pyNext à3) (λ r s1=>r=none/\Inv Ñ H s1) E s
 self:∀ (A:Around) Å5 Ý6 (Q:zVP) ê8,tn i Ģ->Q à3 s->ç É5 A (pyIter à3) Ò9
abbrev TI:=St->Hp->(It->Ô)->Prop
def PN ô Í5 (tg:Expr) (R:It->Ô) (itv:Í) (s2:Ù):Prop:=
 ∃ (it:Addr) (fp:ġ) (tn:Nat->Ø3) (J:It) (H':Hp),itv=Ê it/\Inv Ñ H' s2/\Ô7/\tn 0 s2.heap/\(∀ b∈fp,nW X gV H' b)/\R J H'
def PI ô (tg iter:Expr) (wi:TI):Prop:=
 ∀ Ã (R:It->Ô),Á->wi í R->
  ç Â (eval iter Ý) (λ v s1=>ç Â (pyIter v) (PN Ñ tg R) X.xe s1) X.xe s
def ar ü9 ħ Í4 Ý9 í2{it:Addr}ü7{o:Obj}{n:ø6}{vs:zAV}Ü8(ho:æ it=↑o) (hc:o.cls=ë1 n) (hd:o.data=.fields vs)
  (hn:ė=Ú) (hQ:Q ù3 s):ç M A (ù8 tg à3 u) Ò9:=by
 unfold ù8;cases tg <;> first
  | show zD1 hQ
  | (cases u <;> first
    | show zD1 hQ
    | (exact zcO (wpAny_load ho ?_)
       rw[hc,hd];change ç M A (if (ė&&vs[0]? == ↑(rawInt _))=true then _ else _) Ò9;rw[Ę (by intro h;rw[hn,Bool.false_and] at h;cases h)];show zD1 hQ))
def PY ß Æ4:It:=
 #[λ i H=>∃ xs x,y7 ŵ/\Ð4,λ i H x H'=>H'=H/\∀ xs,y7 ŵ->Ð4,λ i H=>∃ xs,y7 ŵ/\Ø<=i]
def PX ß Æ4:It:=
 #[λ i H=>∃ xs x,yw ŵ/\Ð4,λ i H x H'=>H'=H/\∀ xs,yw ŵ->Ð4,λ i H=>∃ xs,yw ŵ/\Ø<=i]
def dY (lo:Int) Ö8:It:=#[λ i _=>i<n,λ i H x H'=>H'=H/\x=ì (lo+i),λ i _=>n<=i]
def N7 è Ĝ í2(a it:Addr):Turn P w K tg (PY K a) [it] it (λ i h=>h.IsListIter it a i) where
 mem:=#[]
 obj:=λ i h st b hb=>by
  ext Ù7
  ext Û1
 keep:=ß1
 item:=by
  ext â;let#[xs,x,hq,hx]:=hg;let#[its,rv,p,hz]:=ë9;ext ö9;exact wpAny_pyNext_list_item st p.isList ò1;ext ķ;show#[u,rfl,ar (s:={ s with heap:=h' }) e c d () #[x,H,I1,ru,#[rfl,λ ys hy=>by rw[I.YJ hy hq];show hx],st',ç5]]
 done:=by
  ext â;let#[xs,hq,hx]:=hg;let#[its,rv,p,hz]:=ë9;ext ü;have hl:=rv.length;show wpAny_pyNext_list_end Å8 st p.isList (by simp;lia) ď
 self:=λ _ _ _ _ _ st h=>wpAny_pyIter_listiter st h
def N4 è Ĝ í2(a it:Addr):Turn P w K tg (PX K a) [it] it (λ i h=>h.IsTupleIter it a i) where
 mem:=#[]
 obj:=λ i h st b hb=>by
  ext Ù7
  ext Û1
 keep:=ß1
 item:=by
  ext â;let#[xs,x,hq,hx]:=hg;let#[its,rv,p,hz]:=Û9 hq;ext ö9;exact wpAny_pyNext_tuple_item st õ1 ò1;ext ķ;show#[u,rfl,ar (s:={ s with heap:=h' }) e c d () #[x,H,I1,ru,#[rfl,λ ys hy=>by rw[I.ZJ hy hq];show hx],st',ç5]]
 done:=by
  ext â;let#[xs,hq,hx]:=hg;let#[its,rv,p,hz]:=Û9 hq;ext ü;have hl:=rv.length;show wpAny_pyNext_tuple_end Å8 st õ1 (by simp;lia) ď
 self:=λ _ _ _ _ _ st h=>wpAny_pyIter_tupleiter st h
def N6 è Ĝ í2(it:Addr) (lo:Int) Ö8:Turn P w K tg (dY lo n) [it] it (λ i h=>IsRangeIter h it (lo+(i:Nat)*1) (Í0-(i:Nat)) 1) where
 mem:=#[]
 obj:=λ i h st b hb=>by
  ext Ù7
  subst e;show#[_,st,λ v z=>by
   have z':Data.fields _=Data.cell v:=z;cases z']
 keep:=λ i h h' st k=>k it #[] _ st
 item:=by
  ext â;ext ü;have W:=Walks.range (prog:=X.prog) (w:=X.w) Å8 it lo 1 n;exact W.item i s Þ hg st λ v h' tk hv st' kk=>?_;let#[t,rfl]:=hv;have I1:Inv Ñ H { s with heap:=h',toks:=tk }:=I.turned (λ b o hb e=>kk b o (by exists hb) e) f0 f1 f3 f4 f5;exact#[_,rfl,ar (s:={ s with heap:=h',toks:=tk }) (n:="range_iterator") st' rfl rfl () #[ì (lo+i),H,I1,#[t,?_],#[rfl,rfl],st',ç5]];rw[Int.mul_one]
 done:=by
  ext â;ext ü;show wpAny_pyNext_range_end Å8 st (by have:n<=i:=hg;lia) ď
 self:=λ _ _ _ _ _ st h=>wpAny_pyIter_rangeiter st h
section
variable {Č}{í2}
def Uv Ç{R:It->Ô}Í4{lo hi:Int}{t u v:Tok}{tk:Nat}ë (h1:-(2 ^ 62)<=lo) (h2:lo<2 ^ 62) (h3:-(2 ^ 62)<=hi) (h4:hi<2 ^ 62)
  (q:R (dY lo (hi-lo).toNat) H):ç Â (pyIter (Ê À)) (PN Ñ tg R) E { s with heap:=Ë,toks:=tk }:=by
 exact wpAny_pyIter_range (IsRange.new ..) (small_one h1 h2 h3 h4) ?_;have I1:Inv Ñ H { s with heap:=Ë,toks:=tk }:=I.kept ô0;exact#[(Ë).objs.size,[(Ë).objs.size],_,_,H,rfl,
  I1.kept (t':=tk) ô0,N6 _ lo (hi-lo).toNat,?_,ð0,q]
 .have e1:lo+((0:Nat):Int)*1=lo:=#[];have e2:à4=Builtin.Range.rangeSize Õ7 1:=by rw[rangeSize_one];split <;> lia
  change IsRangeIter Þ (lo+((0:Nat):Int)*1) (à4) 1;rw[e1,e2];show Ç6
 .have e:b=(Ë).objs.size:=by exists hb
  subst e;show I1.eW ģ (Ô8)
def SY (ta:TA):TI:=fun σ H R=>ta í λ vs H1=>∃ j:Int,vs=[ì j]/\-(2 ^ 62)<=j/\j<2 ^ 62/\R (dY 0 j.toNat) H1
def SX (ta:TA):TI:=fun σ H R=>ta í λ vs H1=>∃ i j:Int,vs=Î9/\ß2/\R (dY i (j-i).toNat) H1
theorem Kw {a:Expr}Î1 (ha:PA X [a] ta) (hs:Ó6 [a] Ý=[(Ú,eval a Ý)]:=by rfl):PI X tg (.Call (.Name "range" p) [a] [] pos) (SY ta):=by
 intro gV s σ H R I h;exact Call_ (ib I hg hm boot_range (Ñ2 Í6 hs rfl));let#[j,e,q1,q2,q]:=q1;subst e;cases r1 with
 | cons r rr=>
  cases rr;ext æ2;show call_range_1 (Uv I1 ⋯ ⋯ q1 q2 (by exists q))
theorem Kv Ï7 Î1 (ha:PA X [a,b] ta) (hs:Ó6 [a,b] Ý=[(Ú,eval a Ý),(Ú,eval b Ý)]:=by rfl) (hs2:Ó6 [b] Ý=[(Ú,eval b Ý)]:=by rfl):
  PI X tg (.Call (.Name "range" p) [a,b] [] pos) (SX ta):=by
 intro gV s σ H R I h;exact Call_ (ib I hg hm boot_range (Ñ2 Í6 (by rw[hs,hs2]) (by rw[hs2];rfl)));let#[i,j,e,#[q1,q2,q3,q4],q]:=q1;subst e;cases r1 with
 | cons r rr=>
  cases rr with
  | cons r' rr=>
   cases rr;ext æ2;let#[t',rfl]:=r';show call_range_2 (Uv I1 q1 q2 q3 q4 q)
def Mh (wi:TI) (g:TG) (tb:TS):TS:=λ D σ H=>wi í λ J H1=>∃ W:ì0,(∃ m,W 0 m Ú0)/\∀ i m σ H,W i m í->
 (J.stop i H/\D.nx í)\/(J.go i H/\∃ N:Ñ1,(∀ σ' H',N Ļ->∃ m',m'<m/\W ù9 m' Ļ)/\∀ x H',ë8->g x σ H' fun σ2 H2=>tb { D with nx:=N,ct:=N,bk:=D.nx } σ2 H2)
def fW (fp:ġ) Ê9:zLA:=fp.filterMap λ b=>(ĳ b).map λ o=>(b,o)
def bR {fp:ġ}Ô0 Î0(hb:b∈fp) (e:Î2):(b,o)∈fW fp h:=zc9.mpr #[b,hb,by rw[e];rfl]
def IG {fp:ġ}Ô0{p:Addr×Obj}(hp:p∈fW fp h):p.1∈fp/\ĳ p.1=↑p.2:=by
 let#[b,hb,e]:=zc9.mp hp;cases q:ĳ b with
 | none=>rw[q] at e;cases e
 | some o=>
  rw[q] at e;have e':(b,o)=p:=zD5 e;subst e';show#[hb,q]
def Inv.pinned Ç{fp:ġ}ë (hf:ŉ) (ho:∀ b∈fp,∃ o,Ê7/\∀ v,o.data≠ Ò6 v):Inv X (gV++fW fp Ģ) í s:=
 I.Yx λ p hp=>ó8 (λ z=>I.pin p (zB4 _ z)) λ z=>by
  let#[hb,e]:=IG z;let#[f0,f1,f2,_]:=hf p.1 hb;let#[o,e',d]:=ho p.1 hb;rw[e] at e';cases e';show#[e,f0,f1,f2,d]
def Inv.fF {gV pl:zLA}À4 Ġ Ý9(I:Inv X (gV++pl) í s):Á:=I.Yx λ p hp=>I.pin p (zB4 _ (zaO _ hp))
def Kf {iter:Expr}{body:Ê4}{wi:TI}{g:TG}{tb:TS}Ċ Ö1 Ē å2 (hg:PG X tg g) (hb:qW X body tb)
  Ý0:PS X (.For tg iter body [] pos) (Mh wi g tb):=by
 ext Ņ;exact wpAny_For À3 hs;let#[it,fp,tn,J,H2,e,I2,T,st2,f2,W,#[m0,w0],turn]:=h2;subst e;have stat:∀ {H':Hp},(Ş)->∀ b∈fp,nW X gV H' b:=λ hn b hb=>#[hn b hb,(f2 b hb).2];exact codeAny_forLoop_any (λ n s'=>∃ i σ' H',À9/\tn i ç3/\(Ş)/\W i n Ļ) ?_ m0 #[0,σ,H2,I2,st2,λ b hb=>(f2 b hb).1,w0];rintro n s3 ⟨i,σ3,H3,I3,st3,fr3,w3⟩;rcases turn i n σ3 H3 w3 with ⟨stop,qn⟩ | ⟨go,N,hN,step⟩
 .exact zd3 hp (zH (T.done X ä0 gV s3 σ3 H3 X.xe Þ9 stop) λ r s4 #[hr,I4]=>?_);subst hr;show zd7 #[σ3,H3,I4,qn]
 .exact zd3 hp (zH (T.item X ä0 gV s3 σ3 H3 X.xe Þ9 go) λ r s4 #[u,hr,h4]=>?_);subst hr;exact zd3 hp Í1;ext ç0;exact zd3 hp (zH Ú8 í9);exact zd3 hp (zH (hb _ s6 σ6 H6 _ I6 q6) λ f s7 q7=>?_);have again:∀ {σ7:St}{H7:Hp},Inv X (gV++fW fp s5.heap) σ7 H7 s7->N σ7 H7->∃ m,m<n/\∃ i σ' H',Inv X gV Ļ s7/\tn i s7.heap/\(Ş)/\W i m Ļ:=λ{σ7 H7} I7 n7=>by
   let#[m',hm,w7]:=hN σ7 H7 n7;exact#[m',hm,i+1,σ7,H7,I7.fF,T.keep Þ _ st5 λ b hb o e=>(I7.pin Ż).1,ð0,w7];ext ý1;show (I7.pin Ż).2.1
  cases f with
  | brk=>let#[σ7,H7,I7,q7]:=q7;show#[σ7,H7,I7.fF,q7]
  | ret v=>let#[x7,σ7,H7,I7,r7,q7]:=q7;show#[x7,σ7,H7,I7.fF,r7,q7]
  | _=>let#[σ7,H7,I7,n7]:=q7;show again I7 n7
end
abbrev R2:=V->V->ã
def yM ô (f:Í->Í->Sem Í) (r:R2):Prop:=
 ∀ Ã (x y:V) (v u:Í) Ò1,Á->ä5->RelV y u->r é4->
  ç Â (f v u) ł s
def Ws ô (f:Í->Sem Í) (r:V->ã):Prop:=
 ∀ Ã (x:V) (v:Í) Ò1,Á->ä5->r x H Q->
  ç Â (f v) ł s
def xA ô (f:Í) (r:Ý4):Prop:=
 ∀ Ã è7 Ü9 Ò1,Á->Á8->r xs H Q->
  ç Â (call f us) ł s
def B4 ô (r:V->Hp->(Î8)->Prop):Prop:=
 ∀ Ã (x:V) (v:Í) (Q:Î8),Á->ä5->r x H Q->
  ç Â (truthy v) ã9
def fG (r:R2) (ta tb:TE):TE:=fun σ H Q=>ta í λ x H1=>tb Ú0 λ y H2=>r x y H2 Q
def NR (r:V->ã) (ta:TE):TE:=fun σ H Q=>ta í λ x H1=>r x H1 Q
def rI (C:Ô9) (g:Int->Int->V):R2:=λ x y H Q=>∃ i j,x=ó6/\y=ì j/\C i j/\Q Í2 H
def ou (g:Int->Int->V):R2:=λ x y H Q=>∃ i j,x=ó6/\y=ì j/\Q Í2 H
def rU (g:Int->V):V->ã:=λ x H Q=>∃ i,x=ó6/\Q (g i) H
section
variable {Č}{Ï7}{ta tb:TE}{Ċ}
def X_ ú í0 Ý9 À4 Ġ{R:V->V->Ô}ë
  (h:ta í λ x H1=>tb Ú0 λ y H2=>R x y H2) è9 È6
  (hf:∀ v u s2 x y H2,Inv Ñ H2 s2->ä5->RelV y u->R x y H2->ç Â (f v u) Q X.xe s2):
  ç Â (eval a Ý) (λ v s₁=>ç Â (eval b Ý) (λ u s₂=>ç Â (f v u) Q X.xe s₂) X.xe s₁) X.xe s:=by
 exact Å7;exact zH (hb Þ7) λ u s2 Å9=>?_;show hf v u s2 x y H2 I2 Þ8 q2
def KJ {op:Operator}{r:R2}(ho:yM X (Ç9 op) r) ú:PE X (.BinOp a op b pos) (fG r ź):=by
 ext Ð;show wpAny_BinOp Ã3
def KC {op:UnaryOp}{r:V->ã}(ho:Ws X (unaryOp op) r) Ë9:PE X (.UnaryOp op a pos) (NR r ta):=by
 ext Ð;show UnaryOp_ (zH ç4 λ v s1 Ì=>ho þ x v Q I1 r1 q1)
def eA È6{C:Ô9}{g:Int->Int->Int}
  (rule:∀ Â9,C i j->Ä5):
  yM X f (rI C λ i j=>ì Í2):=by
 ext ö;let#[i,j,rfl,rfl,hc,q]:=h;ext ŀ;show rule i j t t' s Þ hc ô1
def Y5 È6{g:Int->Int->Int}
  (rule:∀ Â9,Ä5):
  yM X f (ou λ i j=>ì Í2):=by
 ext å3;show rule i j t t' s Þ ô1
def bH È6{g:Int->Int->Bool}
  (rule:∀ Â9,Q (ù6 Í2) s->ð4):
  yM X f (ou λ i j=>.bl Í2):=by
 ext å3;show rule i j t t' s Þ #[.bl Í2,H,I,rfl,q]
def qd (i j:Int):Prop:=0<j/\j<1073741824
def jI (i j:Int):Prop:=0<=j/\j<=1000000/\i.natAbs<2 ^ 64
def oj (i j:Int):Prop:=(-(2 ^ 64)<i/\i<2 ^ 64)\/(-(2 ^ 64)<j/\j<2 ^ 64)
def oj.ok {i j:Int}(h:oj i j):IntMulOk i j:=by
 rcases h with ⟨h1,h2⟩ | ⟨h1,h2⟩
 .show .of_left (intBits_le_64 h1 h2)
 .show .of_right (intBits_le_64 h1 h2)
def N2 (k:Nat):(0:Int)<=2 ^ k:=by
 rw[two_pow_cast];show Int.natCast_nonneg _
def JW:yM X (Ç9 .Add) (ou λ i j=>ì (i+j)):=Y5 λ _ _ _ _ _ _ _ q=>add_int q
def JD:yM X (Ç9 .Sub) (ou λ i j=>ì (i-j)):=Y5 λ _ _ _ _ _ _ _ q=>sub_int q
def JJ:yM X (Ç9 .Mult) (rI oj λ i j=>ì (i*j)):=eA λ _ _ _ _ _ _ _ hc q=>mul_int q hc.ok
def JQ:yM X (Ç9 .FloorDiv) (rI qd λ i j=>ì (i/j)):=eA λ i j _ _ _ _ _ hc q=>by
 have h1:(0:Int)<j:=hc.1;have h2:j<1073741824:=hc.2;show floordiv_int ⋯ (by rw[Int.fdiv_eq_ediv_of_nonneg i ⋯];show q) (Ć (PyProof.noPylong_small ⋯))
def JK:yM X (Ç9 .Mod) (rI (λ _ j=>0<j) λ i j=>ì (i%j)):=eA λ i j _ _ _ _ _ hc q=>by
 have h1:(0:Int)<j:=hc;show mod_int' ⋯ (by rw[Int.fmod_eq_emod_of_nonneg i ⋯];show q)
def JF:yM X (Ç9 .Pow) (rI jI λ i j=>ì (i ^ j.toNat)):=eA λ _ _ _ _ _ _ _ hc q=>pow_int_small hc.1 hc.2.1 hc.2.2 q
def JE:yM X (Ç9 .RShift) (rI í3):=eA λ i j _ _ _ _ _ hc q=>
 rshift_int hc (by rw[Int.fdiv_eq_ediv_of_nonneg i (N2 _)];show q)
def JU:yM X (Ç9 .BitAnd) (ou ò7):=Y5 λ _ _ _ _ _ _ _ q=>and_int q
def Nz {f:Í->Sem Í}{g:Int->Int}
  (rule:∀ ü6 (t:Tok) Ý6 (Q:zVP) ê8,Q (ì (g i) Š) { s with toks:=Š+1 }->ç Â (f (ì i t)) Ò9):
  Ws X f (rU λ i=>ì (g i)):=by
 intro gV s σ H x v Q I rx h;let#[i,rfl,q]:=h;ext É1;show rule i t s Þ #[ì (g i),H,Ë2,À0,q]
def Ny:Ws X (unaryOp .USub) (rU λ i=>ì (-i)):=Nz λ _ _ _ _ _ q=>neg_int q
end
section
variable {Č}{a b c:Expr}{ta tb tc:TE}{Ċ}
def Rz Ç{Q:VK}{k k':Bool}ë (q:Q (.bl k) H) (e:k=k'):EP Ñ Q (ù6 k') s:=by
 subst e;show#[.bl k,H,I,rfl,q]
def JM:yM X (Á0 .Lt) (ou λ i j=>.bl (Ĳ (i<j))):=bH λ _ _ _ _ _ _ _ q=>lt_int q
def zL:yM X (Á0 .LtE) (ou Þ2):=bH λ _ _ _ _ _ _ _ q=>le_int q
def JP:yM X (Á0 .Gt) (ou à5):=bH λ _ _ _ _ _ _ _ q=>gt_int q
def Ts:yM X (Á0 .GtE) (ou Þ3):=bH λ _ _ _ _ _ _ _ q=>ge_int q
def JN:yM X (Á0 .Is) (λ x y H Q=>y=.zC/\Q (.bl (Ĳ (x=.zC))) H):=by
 ext ö;let#[rfl,q]:=h;cases ry;exact is_none_gen (Rz I q ?_);cases x <;> first
  | (cases rx;rfl)
  | (ext É1;rfl)
def Th:yM X (Á0 .IsNot) (λ x y H Q=>y=.zC/\Q (.bl (! Ĳ (x=.zC))) H):=by
 ext ö;let#[rfl,q]:=h;cases ry;exact isnot_none_gen (Rz I q ?_);cases x <;> first
  | (cases rx;rfl)
  | (ext É1;rfl)
def yM.or È6{r r':R2}(h:yM X f r) (h':yM X f r'):yM X f é9:=by
 intro gV s σ H x y v u Q I rx ry q;ext õ2
 .show h Ò3 q
 .show h' Ò3 q
def nh (b:Expr) Ù9(h:op≠.In:=by decide) (h2:op≠.NotIn:=by decide):ň:=by
 ext ä3
 ext â3
 ext í1
def K_ Ù9{r:R2}ļ ú (hm:ň):PE ŭ (fG r ź):=by
 ext Ð;show wpAny_Compare1 Ã3 hm
def VE (t:TE):TT:=fun σ H Q=>t í λ x H'=>∃ k,x=.bl k/\Q k H'
def LS Ù9{r:R2}ļ ú (hm:ň):PT ŭ (VE (fG r ź)):=by
 ext Ð;exact wpAny_isTrue_Compare1 (zH ç4 λ v s1 Ì=>zH (hb Þ7) λ u s2 Å9=>
  zH (ho Å2 u _ I2 Þ8 q2) λ c s3 î0=>?_) hm
 subst e;cases r3;show zcX #[H3,I3,q3]
def ZR (r r':R2) (ta tb tc:TE):TE:=fun σ H Q=>ta í λ x H1=>tb Ú0 λ y H2=>r x y H2 λ z H3=>∃ k,z=.bl k/\
 (if k=true then tc σ H3 λ w' H4=>r' y w' H4 Q else Q (.bl Ú) H3)
def Ja {op op':CmpOp}{r r':R2}ļ (ho':yM X (Á0 op') r') ú (hc:PE X c tc)
  È7:PE X ò8 (ZR r r' ź tc):=by
 ext Ð;exact Compare_chain (zH ç4 λ v s1 Ì=>chain_link Ħ) hm
 subst e;cases r3;exact zcX ?_;cases k with
 | Ú=>show ite_ff #[.bl Ú,H3,I3,rfl,q3]
 | true=>show ite_tt (chain_last (zH (hc gV s3 σ H3 _ I3 q3) λ w' s4 #[z',H4,I4,r4,q4]=>ho' gV s4 σ H4 y z' u w' Q I4 r2 r4 q4))
def LU {op op':CmpOp}{r r':R2}ļ (ho':yM X (Á0 op') r') ú (hc:PE X c tc)
  È7:PT X ò8 (VE (ZR r r' ź tc)):=by
 ext Ð;exact isTrue_chain (zH ç4 λ v s1 Ì=>test_link Ħ) hm
 subst e;cases r3;exact zcX ?_;cases k with
 | Ú=>
  let#[k',e',q']:=q3;cases e';show ite_ff #[H3,I3,q']
 | true=>
  exact ite_tt (test_last (zH (hc gV s3 σ H3 _ I3 q3) λ w' s4 #[z',H4,I4,r4,q4]=>zH (ho' gV s4 σ H4 y z' u w' _ I4 r2 r4 q4) λ d' s5 #[z2,H5,I5,r5,k2,e2,q5]=>?_));subst e2;cases r5;show zcX #[H5,I5,q5]
def Wt ß (x:V) Ĕ (k:Bool):Prop:=
 match x with
 | .zC=>k=Ú
 | .bl b=>k=b
 | ó6=>k=(i != 0)
 | .str y=>ç6
 | .dG y=>ð5
 | Ê p=>(∃ xs,y7 ě p xs/\k=! Ø6)\/(∃ xs,yw ě p xs/\k=! Ø6)\/à6
 | _=>Ď
def GD {κ:Type}{kvs:List (κ × V)}{vs:List (κ × Í)}(r:KV kvs vs):(!vs.isEmpty)=!kvs.isEmpty:=by
 cases r <;> rfl
def SH ĺ{its:zLV}(r:Ð5):(!its.toArray.isEmpty)=! Ø6:=by
 cases r <;> simp
def ia:(Ü:Nat)<2 ^ 63:=by rw[sizeLine_eq];decide
theorem NC:B4 X (λ x H Q=>∃ k,Wt X.K x H k/\Q k H):=by
 intro gV s σ H x v Q I rx h;let#[k,e,q]:=h;have hl:=ia;have hs:Ü=16777216:=sizeLine_eq;cases x with
 | zC=>
  cases rx;have e':k=Ú:=e;subst e';show truthy_none #[H,I,q]
 | bl b=>
  cases rx;have e':k=b:=e;subst e';show zcX #[H,I,q]
 | int i=>
  ext É1;have e':k=(i != 0):=e;subst e';show PySem.P.truthy_int #[H,I,q]
 | str y=>
  ext É1;obtain⟨hy,e'⟩:ç6:=e;subst e';show PySem.P.truthy_str ⋯ #[H,Ë2,q]
 | dG y=>
  ext É1;obtain⟨hy,e'⟩:ð5:=e;subst e';show PySem.W.truthy_bytes ⋯ #[H,Ë2,q]
 | ref p=>
  cases rx;have e':(∃ xs,y7 é5 xs/\k=! Ø6)\/(∃ xs,yw é5 xs/\k=! Ø6)\/à6:=e;rcases e' with ⟨xs,hx,e'⟩ | ⟨xs,hx,e'⟩ | ⟨kvs,hx,e'⟩
  .subst e';let#[its,r,pl,hz]:=I.list hx;have hlen:=Ë4;show wpAny_truthy_list Ñ3 æ9
  .subst e';let#[its,r,pl,hz]:=Û9 hx;have hlen:=Ë4;show truthy_tuple pl æ9
  .subst e';obtain⟨hz,hS,vs,r,m⟩:kvs.length<=Ü/\(p == sysModules)=Ú/\∃ vs,KV kvs vs/\s.heap.DictOf (qw Ā) p vs:=I.zI p _ hx;have hlen:kvs.length=à7:=Paired.length r;show wpAny_truthy_dict hS m ⋯ #[H,Ë2,by rw[GD r];show q]
 | _=>show (show Ď from e).elim
def LQ Ë9 Á4:
  PT X a (fun σ H Q=>ta í λ x H'=>∃ k,Wt X.K x H' k/\Q k H'):=by
 ext Ð;show isTrue_plain (zH ç4 λ v s1 Ì=>NC þ x v Q I1 r1 q1) (he _)
def JV:yM X (Ç9 .Add) (λ x y H Q=>∃ i j,x=.str i/\y=.str j/\i.length+j.length<=Ü/\Q (.str (i++j)) H):=by
 ext ö;let#[i,j,rfl,rfl,hz,q]:=h;ext ŀ;show add_str (λ t' tk=>#[.str (i++j),H,Ë2,À0,q]) hz
def vals1 {x:V}Ŭ(r:Vals [x] us):∃ u,us=[u]/\â7:=by
 cases r with
 | cons r1 r2=>cases r2;show#[_,rfl,r1]
def vals2 {x y:V}Ŭ(r:Vals [x,y] us):∃ u w',us=[u,w']/\â7/\RelV y w':=by
 cases r with
 | cons r1 r2=>
  cases r2 with
  | cons r3 r4=>cases r4;show#[_,_,rfl,r1,r3]
def CA Ē:xA X (Á1 "max") (λ xs H Q=>∃ i j,xs=Î9/\Q (ì (if j>i then j else i)) H):=by
 ext Ã2;exact max_two_ints Å8 à8;by_cases hj:j>i
 .rw[ĭ hj,ĭ hj];show À0
 .rw[Ę hj,Ę hj];show À0
def C9 Ē:xA X (Á1 "min") (λ xs H Q=>∃ i j,xs=Î9/\Q (ì (if j<i then j else i)) H):=by
 ext Ã2;exact min_two_ints Å8 à8;by_cases hj:j<i
 .rw[ĭ hj,ĭ hj];show À0
 .rw[Ę hj,Ę hj];show À0
end
structure iE Ê9 (x dx C:Addr) (mA:zSV):Prop where
 obj:ĳ x=↑(Ŵ C dx)
 ns:h.Ns1 dx mA
 ne:dx≠x
def HN Ô0{dx:Addr}{mA:zSV}(n:h.Ns1 dx mA):∃ od,ĳ dx=↑od/\Ü2:=by
 let#[o,es,ep,ho,hd,hk,_,hm]:=n;exact#[o,ho,λ name=>?_];have e:=hm name;unfold nsFind findBy at e;rw[<- Array.find?_toList] at e;unfold PySem.W.lookIn;rw[hd];dsimp only;split
 .rename_i y q;rw[q] at e;show ö1 some e
 .rename_i q;rw[q] at e;have a:es.toList.any (·.refKey)=Ú:=by
   rw[zcA];intro y hy;let#[z,t,hkey]:=hk y (Array.mem_toList_iff.mp hy);simp[DictEntry.refKey,hkey]
  have a':¬ es.toList.any (·.refKey)=true:=by rw[a];show za6
  rw[Ę a'];show ö1 some e
def iE.look Ô0{x dx C:Addr}{mA:zSV}(I:iE h x dx C mA):∃ od,PySem.W.InstAt h x (Ŵ C dx) C ↑od/\Ü2:=
 let #[od,ho,hl]:=HN I.ns
 #[od,#[I.obj,rfl,rfl,ho],hl]
section
variable {prog:ï7}{w:World}{ħ}{Í4}{Ý9}{Ĝ}{x dx C f:Addr}{mA:zSV}{name:Str}{v:Í}
def get_map {expr:Bool}è9 Ê0 (hg:Ý5 K C name=true) (hh:Ö7)
  (ha:ū K à9 name=↑none) (hv:mA name=↑v) (hv':PySem.W.handedIn v=true) (h:Q v { s with toks:=Š+1 }):
  ç ā (getAttr (Ê x) name expr) Ò9:=by
 ext æ3;show PySem.W.get_value X J (Þ4).1 (PySem.W.findObj_own hh ha rfl (by rw[hl,hv])) hv' h
def Eo ê1 Ê0 (hg:Ý5 K C name=true)
  (hf:ū K à9 name=↑↑ Ì3) (ht:Ü3) (hv:mA name=none) (h:Q (Ê f,[Ê x]) s):
  ç ā (getMethod (Ê x) name pl) Ò9:=by
 ext æ3;show PySem.W.method_fn X J (Þ4).1 (Þ4).2 hf (beq_iff_eq.mp ht) (by change (PySem.W.lookIn name od).map (·.isSome)=↑ Ú;rw[hl,hv];rfl) h
def MK {ns:ą}Ü8 Ê0
  (hs:Ë5) (hp:PySem.W.plainOver K C=true) (ht:ú0 K C name=↑none) (hh:Ö7)
  (hw:PySem.Within mA ns) (hsz:Ø7<=Ü)
  (h:∀ h',iE h' x dx C (λ y=>if y=name then ↑v else mA y)->ò5 dx Ģ h'->Q ù3 { s with heap:=h',toks:=Š+2 }):
  ç ā (setAttr (Ê x) name v) Ò9:=by
 ext æ3;exact PySem.W.set_plain X J hs (PySem.W.osa_open (s:={ s with toks:=Š+1 }) (r:=none) X J hp ht λ b=>?_);let#[cd,hc,hd']:=PySem.W.any_some hh;have hx:æ x=↑#[Ê C,↑dx,.plain,Ś]:=I.obj;exact zcO (zD1 (zcO (zcO (wpAny_loadPart hx (zcO (PySem.W.Looks.here (s:={ s with toks:=Š+1 }) (PySem.W.looks_clsIn X hc) ?_))))));rw[hd'];exact zD1 (a:=↑dx) (zcO (zD1 (zcO ?_)));exact wpAny_nsSet1 (s:={ s with toks:=Š+1 }) I.ns λ h' hn2 hs2=>?_;let#[oD,esD,epD,hoD,hdD,hcD]:=hn2.count (PySem.Within.cons name v hw);exact zcO (wpAny_lookBehind hoD (by rw[hdD];show pastItsLine_dict (zE0 hcD (by rw[zC0];lia))) ?_);show zD1 (h _ #[(hs2.2 _ (Ne.symm I.ne)).trans I.obj,hn2,I.ne] hs2)
def HD {R:Result->À8}{vs:zLV}{kw:Í9}(X:K.In Ģ) (hm:PySem.W.makesIn K C=true)
  (hi:ô2) (hf:PySem.W.typeIn K Ì3=↑(ë1 "function"))
  (h:ç7 (model prog w) (A.under (Á1 "type.__call__" #[Ê C::vs,kw])) (.call Ì3 #[Ê Ñ4::vs,kw]) (PySem.W.InitBack Ñ4 R)
   { s with heap:=ç8 }):
  ç7 ā (.call à9 #[vs,kw]) R s:=by
 let#[hh,g,d,t,os]:=s;show PySem.W.make_core (PySem.W.makes_of X hm) (PySem.W.looks_findIn X hi) (λ self=>PySem.W.bind_fn X self hf) Û5 h
end
def ox ý2 (v:V):Â6->Â6
 | []=>[(f,v)]
 | (g,x)::r=>if g=f then (g,v)::r else (g,x)::ox f v r
theorem TV (f g:Str) (v:V):∀ fs:Â6,(ox f v fs).lookup g=if g=f then ↑v else ú1 g
 | []=>by
  change É6 g [(f,v)]=_;by_cases h:g=f
  .have hb:(g == f)=true:=ô3;simp![É6,hb,ĭ h]
  .have hb:(g == f)=Ú:=Ç5 h;simp![É6,hb,Ę h]
 | (k,x)::r=>by
  have ih:=TV f g v r;ext Ą
  .rw[ĭ hk];by_cases h:g=k
   .have hb:(g == k)=true:=ô3;simp![É6,hb,ĭ (h.trans hk)]
   .have hb:(g == k)=Ú:=Ç5 h;simp![É6,hb,Ę (λ e:g=f=>h (e.trans hk.symm))]
  .rw[Ę hk];by_cases h:g=k
   .have hb:(g == k)=true:=ô3;simp![É6,hb,Ę (λ e:g=f=>hk (h.symm.trans e))]
   .have hb:(g == k)=Ú:=Ç5 h;simp![É6,hb];show ih
theorem YT ý2 (v:V):∀ fs:Â6,f∈(ox f v fs).map ë0/\∀ g,g∈fs.map ë0->g∈(ox f v fs).map ë0
 | []=>#[by simp[ox],λ g h=>á0]
 | (k,x)::r=>by
  let#[i1,i2]:=YT f v r;ext Ą
  .rw[ĭ hk];subst hk;show#[#[],λ g h=>by exists h]
  .rw[Ę hk];exact#[?_,λ g h=>?_]
   .rw[zA6];show za2 _ i1
   .rw[zA6] at h ⊢;rcases zA5.mp h with e | e
    .show zA5.mpr (Ć e)
    .show za2 _ (i2 g e)
theorem TZ ý2 (v:V):∀ fs:Â6,(ox f v fs).length<=ø8+1
 | []=>by simp[ox]
 | (k,x)::r=>by
  have ih:=TZ f v r;ext Ą
  .rw[ĭ hk,zC0,zC0];lia
  .rw[Ę hk,zC0,zC0];lia
def pW.some_of {v:V}{o:Û Í}(r:pW ↑v o):∃ u,o=↑u/\À6:=by
 cases o with
 | none=>show (show Ď from r).elim
 | some u=>show#[u,rfl,r]
def pW.none_of {o:Û Í}(r:pW none o):o=none:=by
 cases o with
 | none=>rfl
 | some u=>show (show Ď from r).elim
def G_ Ô2(r:À6):PySem.W.handedIn u=true:=by
 cases v with
 | zC=>cases (show u=Value.none from r);rfl
 | bl b=>cases (show u=Value.bool b from r);rfl
 | int i=>let#[t,e]:=(show ∃ t,u=Value.int i t from r);cases e;rfl
 | str x=>let#[t,e]:=(show ∃ t,u=Value.str x t from r);cases e;rfl
 | dG b=>let#[t,e]:=(show ∃ t,u=Value.bytes b t from r);cases e;rfl
 | Xr b=>let#[t,e]:=(show ∃ t,u=Value.float b t from r);cases e;rfl
 | ref a=>cases (show u=Ì2 a from r);rfl
 | ty n=>cases (show u=Value.type n from r);rfl
section
variable {è}{Ġ}{Ô0}{a C dx:Addr}{fs:Â6}
def gD (zI:xD ü8) (e:H a=↑(Ó4)):∃ mA,iE h a dx C mA/\(Î6)/\õ9/\ø8<=1000/\H dx=↑(.own a):=by
 let#[d,z,ne,ob,mA,n,r,q]:=(show xQ ü8 a (Ó4) from zI a _ e)
 show#[mA,#[ob,n,ne],r,q,z,d]
end
structure mB ß ä1:Prop where
 pg:Ý5 K C Str.empty=true
 hd:Ö7
 po:PySem.W.plainOver K C=true
 sa:Ë5
def mB.get Ĝ{C:Addr}(c:mB K C) ý2:Ý5 K C f=true:=c.pg
def j9 ß ä1 ý2:Prop:=ū K à9 f=↑none
def j9.taker Ĝ{C:Addr}{f:Str}(n:j9 K C f):ú0 K C f=↑none:=by
 unfold ú0;rw[show ū K à9 f=↑none from n];rfl
structure Meth ß ä1 (m:Str) (f:Addr):Prop where
 at_:ū K à9 m=↑↑ Ì3
 fn:Ü3
 kp:Õ0 K Ì3=true
section
variable {Č}{Ç}{a C dx:Addr}{fs:Â6}{f:Str}{v:V}{ħ}{Í4}
def En {b:Bool}è9 ë Ä2 (n:j9 X.K C f) (l:ú1 f=↑v)
  (h:∀ u s',Inv Ñ H s'->À6->Q u s'):ç (model Ā) A (getAttr (í8) f b) Ò9:=by
 ext î7;let#[u,hu,ru]:=pW.some_of (v:=v) (o:=mA f) (by rw[<- l];show r f);show get_map I.r_ O (c.get f) c.hd n hu (G_ ru) (h u _ (Ë2) ru)
def Em {m:Str}{g:Addr}ê1 ë Ä2 (k:Meth X.K C m g) (l:ú1 m=none)
  (h:Q (Ê g,[í8]) s):ç (model Ā) A (getMethod (í8) m pl) Ò9:=by
 ext î7;have hn:mA m=none:=pW.none_of (by rw[<- l];show r m);show Eo I.r_ O (c.get m) k.at_ k.fn hn h
def MI {y:V}ü7 Ü8 ë Ä2 (n:j9 X.K C f) (hl:ø8<1000) (ry:RelV y u)
  (h:∀ s',Inv Ñ (upd H a (.ins C dx (ox f y fs))) s'->Q ù3 s'):ç (model Ā) A (setAttr (í8) f u) Ò9:=by
 let#[mA,O,r,wi,_,ho]:=gD I.zI e;have hz:(fs.map ë0).length<=Ü:=by rw[zA7,sizeLine_eq];lia
 exact MK I.r_ O c.sa c.po n.taker c.hd wi hz λ h' O' sb=>h _ ?_;have hd:∃ o,Ů dx=↑o:=let #[o,_,_,e',_]:=O'.ns;#[o,e']
 exact I.write (x:=a) (e:=dx) (by rw[e];show True.intro) (ŝ ho) (λ b q hb z=>(sb.2 b hb).trans z) hd ?_;exact#[by rw[yx O.ne];show ho,?_,O.ne,O'.obj,_,O'.ns,λ g=>?_,λ g hg=>?_]
 .have:=TZ f y fs;lia
 .change pW ((ox f y fs).lookup g) (if g=f then ↑u else mA g);rw[TV];by_cases q:g=f
  .rw[ĭ q,ĭ q];show ry
  .rw[Ę q,Ę q];show r g
 .by_cases q:g=f
  .rw[q];show (YT f y fs).1
  .exact (YT f y fs).2 g (wi g λ z=>hg ?_);change (if g=f then ↑u else mA g)=none;rw[Ę q];show z
def Inv.made ë:Inv Ñ (upd (upd H À (.own Ñ4)) Ñ4 (.ins C À []))
  { s with heap:=ç8 }:=by
 have e1:(ĉ).get? À=↑ ð6:=zA9 Ģ rfl;have e2:(ç8).get? Ñ4=↑(Ŵ C À):=by
  have:=zA9 (ĉ) (o:=Ŵ C À) rfl
  rwa [Ë6] at this
 have e3:(ĉ).Ns À (ï1):=#[ð6,Ś,_,e1,rfl,(λ e he=>Ĵ he #[]),λ _=>rfl];have I1:=I.laid (a:=À) (o:=.own Ñ4) (h':=ĉ) (t':=Š) (λ b u q=>zcP _ q) ģ #[_,e1];exact I1.laid (a:=À+1) (o:=.ins C À []) (t':=Š) (λ b u q=>zcP _ q) (zbS (Ë6 Þ)) ?_;have ne:À ≠ À+1:=zB3 (zE2 _);exact#[by rw[yx ne,yO],zD4 _,ne,e2,ï1,(Heap.Ns1.of_empty e3).at λ o q=>zcP _ q,λ _=>True.intro,λ y hy=>Ĵ rfl hy]
def Bh {prog:ï7}{w:World}í4 Į{f:Str}Ċ Ý9 è9(hb:attributeBase e f env (eval e env)=eval e env)
  (h:ç ā (eval e env) (λ o s₁=>ç ā (getAttr o f true) Q E s₁) E s):ç ā (eval (ð7 e f pos) env) Ò9:=
 Attribute_any_ h (by rw[arm_eval_Attribute,hb])
end
def Mi ß (ta:TE) ý2:TE:=fun σ H Q=>ta í λ x H1=>∃ a C dx fs v,x=í8/\H1 a=↑(Ó4)/\mB K C/\j9 K C f/\ú1 f=↑v/\Q v H1
def Lb ß (ta tv:TE) ý2:TS:=λ D σ H=>tv í λ y H1=>ta Ú0 λ x H2=>∃ a C dx fs,x=í8/\H2 a=↑(Ó4)/\mB K C/\j9 K C f/\ø8<1000/\
 D.nx σ (upd H2 a (.ins C dx (ox f y fs)))
section
variable {Č}{o e value:Expr}{f:Str}{pos pos':Pos}{ta tv:TE}
def Y2 (he:PE X e ta) (hb:attributeBase e f Ý (ë4)=ë4):PE X (ð7 e f pos) (Mi X.K ta f):=by
 ext Ð;exact Bh hb (zH (he ÿ) λ u s1 #[x,H1,I1,rx,a,C,dx,fs,v,ex,ea,c,n,l,q]=>?_);subst ex;obtain rfl:u=Ì2 a:=rx;show En I1 ea c n l λ u' s2 I2 ru=>#[v,H1,I2,ru,q]
def Kg (ha:PE X o ta) (hv:PE X value tv) (hs:swapsWith value ↑(ð7 o f pos') pos.line Ý=pure Ú):PS X (.Assign [ð7 o f pos'] value pos) (Lb X.K ta tv f):=by
 ext Ņ;exact plainObj_wpAny_Assign_Attribute (zH (hv ÿ) λ u s1 #[y,H1,I1,ry,q]=>zH (ha þ _ I1 q) λ ov s2 #[x,H2,I2,rx,a,C,dx,fs,ex,ea,c,n,l,q2]=>?_) hs;subst ex;obtain rfl:ov=Ì2 a:=rx;show MI I2 ea c n l ry λ s3 I3=>#[σ,_,I3,q2]
end
structure y8 (k:Nat) (A:Around):Prop where
 hd:A.handled=none
 dp:A.depth+3*k+5<recursionLimit
 un:A.units+16*k+200<cLine
def y8.mono {j k:Nat}ħ(r:y8 k A) (h:j<=k):y8 j A:=#[r.hd,by have:=r.dp;lia,by have:=r.un;lia]
theorem y8.deeper Û2 ħ(r:y8 (k+1) A) (env:Env):y8 k (A.deeper env):=
 #[r.hd,by have:=r.dp;change A.depth+1+3*k+5<_;lia,by have:=r.un;change A.units+3+16*k+200<_;lia]
def HE ħ{C:Addr}Ŭ{kw:Í9}:(ę).depth=A.depth+1:=by
 first | rfl | simp[Around.under,Code.weight,Code.isCreation,Code.isGuard,Code.isCaller,Code.frames,Code.isFrame,guardIds]
def HC ħ{C:Addr}Ŭ{kw:Í9}:(ę).units=A.units+1:=by
 first | rfl | simp[Around.under,Code.cUnits,Code.frames,Code.isFrame]
def y8.make Û2 ħ(r:y8 (k+1) A) ä1 Ü9 (kw:Í9):y8 k (ę):=
 #[r.hd,by have:=r.dp;rw[HE];lia,by have:=r.un;rw[HC];lia]
theorem y8.depth Û2 ħ(r:y8 k A):A.depth<recursionLimit:=by have:=r.dp;lia
theorem y8.units Û2 ħ(r:y8 k A):A.units+64<cLine:=by have:=r.un;lia
def iT:TA:=λ _ H Q=>Q [] H
def fH (ta:TE) (tr:TA):TA:=fun σ H Q=>ta í λ x H1=>tr Ú0 λ xs H2=>Q (x::xs) H2
section
variable {Č}{Į}{é3}{te:TE}{t:TA}{Ċ}
def ki:PA X [] iT:=λ _ _ _ _ H Q I h=>Calls.spliced_nil #[[],H,I,ï4,h]
def kj (ha:PE X e te) (hr:PA X es t) (hs:zEE X e es:=by rfl):PA X Ð7 (fH te t):=by
 intro pos gV s σ H Q I h;rw[hs];change ç Þ (spliced ((Ú,ë4)::backTo pos (ü3))) Þ s;exact Calls.spliced_cons (zH ç4 λ u s1 Ì=>?_);show zH (hr pos Þ7) λ us s2 #[xs,H2,I2,r2,q2]=>#[x::xs,H2,I2,À5 Þ8,q2]
def NS (t:TA):TE:=fun σ H Q=>t í λ xs H1=>Ø<=Ü/\∀ p,H1 p=none->Q ú2 (upd H1 p ß9)
def Me (t:TA):TE:=fun σ H Q=>t í λ xs H1=>Ø<=Ü/\∀ p,H1 p=none->Q ú2 (upd H1 p É4)
def KD {x1} (h:PA X es t):PE X (.Tuple es x1 pos) (NS t):=by
 intro gV s σ H Q I hq;exact wpAny_Tuple_spliced Ź;have hf:H1 Ř=none:=Ô8;exact#[Ê Ř,upd H1 Ř ß9,Ö9,rfl,q _ hf];show#[#[z,.new _],us,r,#[_,Ç6,rfl,_,rfl]]
def KQ (h:PA X es t):PE X (.List es pos) (Me t):=by
 intro gV s σ H Q I hq;exact wpAny_List_spliced Ź;have hf:H1 Ř=none:=Ô8;exact#[Ê Ř,upd H1 Ř É4,Ö9,rfl,q _ hf];show#[z,us,0,r,Ç6]
end
abbrev Sp:=Ò->Hp->VK->XK->Prop
abbrev mC:=Ó5->Hp->Ù->XK->Í->À8
structure iP ŋ ß Î5 õ:Prop where
 frames:A.frames=↑ Ŕ
 mod:Mod K mg base
 bs:∀ b o,base.get? b=↑o->Ê7/\Ň
 jw:base.objs.size<=À
 mj:Ý3 base Ŕ
 il:∀ b∈nK Ŕ,Ň
 zI:xD P w H Ģ
 bare:AllBare s.gens
def CE (Ŕ:Ó5) ŋ Ĕ Ý6 Ò1 (u:Í) ò0:Prop:=
 ∃ v H',s'.os=s.os/\ù4/\Un (nK Ŕ) [] H H' Ģ ç3/\xD P w H' ç3/\À6/\Q v H'
def CR (CX:mC) (Ŕ:Ó5) ŋ Ĕ Ý6 Ò1 (E:XK) (r:Result) ò0:Prop:=
 match r with
 | .ok (.ret u)=>CE Ŕ P w H s Q u s'
 | .ok _=>Ď
 | .error e=>CX Ŕ H s E e s'
structure pA ŋ ß Î5 (CX:mC) (k:Nat) (f:Addr) (fd:FuncData) (ps:ą) (sp:Sp):Prop where
 len:Á2
 run:∀ õ (args:Args) Ü9 (vs:Ò) Ò1 (E:XK),y8 k A->iP Ė Ê1->BindsTo s fd args ç9->â9->ú3->
  ç7 É5 A (.call Ì3 args) (CR CX Ŕ P w H s Q E) s
def iP.make è Ĝ Æ7 ħ{Ŕ:Ó5}Ý9 Ġ(e:iP Ė Ê1) ä1 Ü9 (kw:Í9):
  iP Ė (ę) Ŕ s H:=#[by first | show e.frames | (simpa [Around.under,Code.envs,Code.isFrame,pushEnvs] using e.frames),e.mod,e.bs,e.jw,e.mj,e.il,e.zI,e.bare]
section
variable {Č}{í0}{À4}{Ġ}{s s':Ù}
def Inv.RA ë:iP Ā è8 X.A Â0 s H:=
 #[I.ok.frames,I.ok.mod,I.bs,zE0 I.ok.jw I.sz,I.stack,I.VM,I.zI,ù2]
theorem Inv.after {Q:VK}ü7 ë (h:CE Â0 Ā H s Q u s'):EP Ñ Q u s':=by
 let#[v,H',os,bare,un,zI,r,q]:=h;let#[hh,g,d,t,os']:=s';obtain rfl:os'=s.os:=os;show#[v,H',I.call (h':=hh) (g':=g) (d':=d) (t':=t) (ch:=[]) un zI bare (λ b z=>Ĵ z #[]),r,q]
end
def cR ó4:TE:=fun σ H Q=>t í λ vs H1=>sp á1 H1 Q E
def Md ä1 ó4:TE:=fun σ H Q=>t í λ vs H1=>∀ x dx,H1 x=none->H1 dx=none->dx≠x->
 sp (Ê x::á1) (upd (upd H1 dx (.own x)) x (.ins C dx [])) ö2 E
def Binds ß (fd:FuncData) (ps:ą) (ds:zLV):Prop:=
 ∀ Ý6 Ü9,K.In Ģ->(us++ds).length=Ñ5->BindsTo s fd #[us,[]] (ps.zip (us++ds))
def Binds.all Ĝ Ï3{ps:ą}(h:∀ us:List Í,us.length=Ñ5->bindArgs fd #[us,[]]=pure ç9):Binds K fd ps []:=λ s us _ hl=>by
 rw[zaB] at hl ⊢;show .of_eq (h us hl)
def Passes (CX:mC) ô (E:XK):Prop:=∀ Í5 Ĕ Ý6 (e:Í) ò0,Á->CX Â0 H s E e s'->X.xe e s'
section
variable {Č}{CX:mC}{Û2}{f C:Addr}{Ï3}{ps:ą}{sp:Sp}{dvs:Ò}{ds:zLV}{E:XK}{İ}{p pos:Pos}{Į}{é3}{t:TA}
def bg Ç{Q:VK}Ŭ{vs:Ò}Ł (hr:y8 k X.A) ă
  ë (r:â9) (h:sp á1 H Q E):ç Â (call Ì3 us) ł s:=by
 have r2:Vals á1 (us++ds):=r.append hd;have hl:(us++ds).length=Ñ5:=by rw[<- r2.length];show F.len å1 h
 exact wpAny_call (ò9 (F.run X.A Â0 s H #[us,[]] (us++ds) á1 Q E hr I.RA (hb s us I.r_ hl) r2 h) λ r s' hq=>?_);cases r with
 | error e=>show hx gV í s e s' I hq
 | ok fl=>
  cases fl with
  | ret u=>show I.after hq
  | _=>show Ū hq
def Jb Ł (hr:y8 k X.A) é0 (hm:X.mg x=↑ Ì3) (hk:Õ0 X.K Ì3=true) ă
  â0 Ô4 Ų:
  PE X Ç4 (cR sp dvs E t):=by
 ext ø0;exact PySem.W.callWith_K (h₀:=X.base) I.ok.mod.g9 hk (zH (ha pos ÿ) λ us s1 #[vs,H1,I1,r,q]=>#[I1.r_,?_]) he hpl;show bg F hr hb hd hx I1 r q
structure Mk ß (C f:Addr):Prop where
 makes:PySem.W.makesIn K C=true
 init:ô2
 fn:Ü3
 kp:Õ0 K à9=true
def Ld Ç{Q:VK}Ŭ{vs:Ò}(M:Mk X.K C f) Ł (hr:y8 (k+1) X.A) ă ë (r:â9)
  (h:∀ x dx,H x=none->H dx=none->dx≠x->sp (Ê x::á1) (upd (upd H dx (.own x)) x (.ins C dx [])) ö2 E):
  ç Â (call à9 us) ł s:=by
 have hq:=h Ñ4 À (ſ (Nat.le_succ _)) (ſ ģ) (zB3 (zE2 _));have I2:=Inv.made (C:=C) I;have r2:Vals (V.ref Ñ4::á1) (Ì2 Ñ4::(us++ds)):=À5 rfl (r.append hd);have hl:(Ì2 Ñ4::us++ds).length=Ñ5:=by
  have e:=r2.length;rw[F.len å1 hq] at e;show e.symm
 exact wpAny_call (HD (f:=f) I.r_ M.makes M.init (beq_iff_eq.mp M.fn) (ò9 (F.run _ Â0 Þ #[Ì2 Ñ4::us,[]] (Ì2 Ñ4::(us++ds)) Þ E (hr.make C us [])
  (I2.RA.make C us []) (hb _ (Ì2 Ñ4::us) I2.r_ hl) r2 hq) λ r s' hq'=>?_))
 cases r with
 | error e=>show hx gV σ Þ e s' I2 hq'
 | ok fl=>
  cases fl with
  | ret u=>
   let#[v,H',I3,rv,ev,q3]:=I2.after hq';subst ev;show#[rv,#[V.ref Ñ4,H',I3,rfl,q3]]
  | _=>show Ū hq'
def KP (M:Mk X.K C f) Ł (hr:y8 (k+1) X.A) é0 (hm:X.mg x=↑ à9) ă
  Ô4:PE X (.Call (.Name x p) [] [] pos) (Md C sp dvs E iT):=by
 ext ø0;show PySem.W.callWith_K0 I.r_ M.kp (Ld (us:=[]) M F hr hb hd hx I ï4 h)
end
structure pX (N P:ą) (sc:Scope):Prop where
 kind:sc.kind=ë5
 co:sc.isCoroutine=Ú
 gen:sc.isGenerator=Ú
 nd:N.Nodup
 pre:N.take P.length=P
 par:∀ x∈P,Ŗ=↑ ò3\/Ŗ=↑ Ò6
 IT:∀ y∈sc.names,y.2≠ Û6
theorem QW Æ8 İ:∀ {binds:Í9}{m:zSV},(∀ v,(x,v)∉binds)->bindL kindOf binds m x=m x
 | [],_,_=>rfl
 | (n,v)::r,m,h=>by
  unfold bindL;rw[QW λ w hw=>h w (za2 _ hw)];split
  .ext ý8
   simp[this]
  .rfl
theorem QY Æ8 İ:∀ {binds:Í9}{m:zSV},(∀ v,(x,v)∉binds)->bindC kindOf binds m x=m x
 | [],_,_=>rfl
 | (n,v)::r,m,h=>by
  unfold bindC;rw[QY λ w hw=>h w (za2 _ hw)];split
  .rfl
  .ext ý8
   simp[this]
theorem QX Æ8 İ{v:Í}:∀ {P:ą}{vs:zLV}É8{m:zSV},P.Nodup->P[i]?=↑x->vs[i]?=↑v->kindOf x=↑ ò3->
  bindL kindOf (P.zip vs) m x=↑v
 | [],_,_,_,_,h,_,_=>á0
 | _::_,[],_,_,_,_,h,_=>á0
 | p::P,w::vs,0,m,nd,h1,h2,hk=>by
  simp at h1 h2;subst h1;subst h2;change bindL Ä0 p=_;unfold bindL;rw[QW î1,ĭ hk];simp
 | p::P,w::vs,i+1,m,nd,h1,h2,hk=>by
  change bindL Ä0 x=_;unfold bindL;show QX Ú5
theorem QZ Æ8 İ{v:Í}:∀ {P:ą}{vs:zLV}É8{m:zSV},P.Nodup->P[i]?=↑x->vs[i]?=↑v->kindOf x≠↑ ò3->
  bindC kindOf (P.zip vs) m x=↑v
 | [],_,_,_,_,h,_,_=>á0
 | _::_,[],_,_,_,_,h,_=>á0
 | p::P,w::vs,0,m,nd,h1,h2,hk=>by
  simp at h1 h2;subst h1;subst h2;change bindC Ä0 p=_;unfold bindC;rw[QY î1,Ę hk];simp
 | p::P,w::vs,i+1,m,nd,h1,h2,hk=>by
  change bindC Ä0 x=_;unfold bindC;show QZ Ú5
def start (N:ą) (vs:Ò):St:=vs.map some++æ0 (N.length-à7) none
def wc (CX:mC) ŋ ß Î5 (N:ą) (qual:Str) (ć:Scope) (f:Addr) (cd:Í) õ (E:XK):Cx where
 prog:=P
 w:=w
 K:=K
 mg:=mg
 base:=base
 A:=A.deeper (ĸ)
 N:=N
 s₀:=s
 H₀:=H
 env:=ĸ
 Ŕ:=Ŕ
 stack:=ĸ::Ŕ
 ex:=[]
 calm:=true
 fn:=λ _=>true
 pn:=[]
 xe:=λ e s'=>ç É5 (A.deeper (ĸ)) (leaving (ĸ) e) (λ _ s''=>CX Ŕ H s E e s'') (λ e' s''=>CX Ŕ H s E e' s'') s'
def Q5 {sc:Scope}Ú3 İ(h:Ŗ=↑ Ò6):∃ c,(ì1 n sc.names []).lookup x=↑c:=by
 have q:=PySem.W.cellsFrom_some sc.names n [] (Ć h);show zbT.mp q
def GH {CX:mC}è Ĝ Æ7{N ps:ą}{qual:Str}Ú1{f:Addr}{cd:Í}ħ{Ŕ:Ó5}{s s1:Ù}Ġ{E:XK}Ŭ{vs:Ò}
  (S:pX N ps ć) (hd:A.handled=none) (e0:iP Ė Ê1) (hl:à7=Ñ5) (r:â9)
  (x:InCallC s À (bindL (ĸ).kindOf ç9 ï1) (ì1 Ñ4 ľ []) (bindC (ĸ).kindOf ç9 ï1) s1):
  Inv (ô4) [] Ó8 H s1:=by
 have hpl:Ñ5<=N.length:=by have:=ö1 List.length S.pre;rw[zbG] at this;lia
 let#[h1,tk,rfl,hk]:=x.done;have noA:∀ b:Addr,b∉(ô4).ex:=λ b z=>þ1;exact#[#[e0.mod,S.kind,rfl,rfl,zA4 _,λ y z c h1 h2=>?_,λ y hy=>?_,λ y c _ h=>?_,λ _=>hd,Around.frames_deeper e0.frames,ŝ #[rfl,rfl],λ b z=>Ĵ z (noA b),e0.bs,e0.jw,λ b _ _=>noA b,λ b z=>Ĵ z (noA b),e0.mj,e0.il],
  rfl,e0.bare,Un.kept hk,#[_,x.toInCall.ns,λ i y v h1 h2 h3=>?_],λ y c h=>#[_,x.cell y c h],e0.zI.fresh ģ,λ y c h=>?_,Ó1,e0.zI.kept hk,?_]
 .show name_of_addr x.apart (ē h1) (ē h2)
 .have hy:ċ y=↑ Ò6\/ċ y=↑ Û6:=hy;rcases hy with hy | hy
  .show Q5 hy
  .show Ĵ rfl (S.IT _ (ē hy))
 .show zE3 (x.above y c (ē h))
 .have hi:i<à7:=by
   unfold start at h2;by_cases hi:i<à7
   .show hi
   .rw[zb5 (by exists hi)] at h2;rw[zb6] at h2;split at h2 <;> cases h2
  have ha:vs[i]?=↑v:=by
   unfold start at h2;rw[zaT (by exists hi),zA3] at h2;cases e:vs[i]? with
   | none=>rw[e] at h2;cases h2
   | some a=>rw[e] at h2;cases h2;rfl
  let#[u,hu,rv]:=r.get ha;have hp:ps[i]?=↑y:=by
   rw[<- S.pre,List.getElem?_take_of_lt ⋯];show h1
  have ndP:ps.Nodup:=by rw[<- S.pre];show S.nd.sublist (List.take_sublist Þ)
  exact#[u,rv,?_];rcases S.par y (zB7 hp) with k | k
  .show Ć #[k,QX ndP hp hu k]
  .let#[c,e]:=Q5 (n:=À+1) k;exact ŝ #[Ć k,c,e,?_];have q:=x.cell y c e;rw[QZ ndP hp hu (by change ċ y≠_;rw[k];decide)] at q;show q
 .show e0.zI.fresh (zE3 (x.above y c (ē h)))
 .unfold start;change _=N.length;rw[zD7,zA7,List.length_replicate];lia
def EG {CX:mC}è Ĝ Æ7 Û2{f:Addr}{name qual:Str}{params:Arguments}{body:Ê4}Ú1{dV kV doc pm cdv ct oc:Í}{an od:ù5}
  {osl:ì2}{N ps:ą}{sp:Sp}(lk:ã0 f=↑#[oc,od,.func Ë1,osl]) (hcd:Î3) (S:pX N ps ć)
  (len:Á2)
  (hbody:∀ õ (vs:Ò) Ò1 (E:XK),y8 k (A.deeper (envOfC qual ć À f cdv))->ú3->
   ∃ t,qW Æ6 body t/\ã2):
  pA Ė CX (k+1) f Ë1 ps sp:=by
 exact#[len,λ A Ŕ s H args us vs Q E hr e0 hb r hsp=>?_];have hl:=len å1 hsp;have KX:K.In Ģ:=e0.mod.g9.keeps λ b o e=>(e0.bs Ō).1;have lim:s.heap.NoLimit:=e0.mod.nolimit.keeps λ b o e=>(e0.bs Ō).1;have hkind:∀ y∈ps.zip us,ċ y.1=↑ ò3\/(ċ y.1=↑ Ò6/\((ì1 Ñ4 ľ []).lookup y.1).isSome=true):=λ#[n,v] hy=>by
  rcases S.par n (zbF hy).1 with q | q
  .show Ć q
  .show ŝ #[q,PySem.W.cellsFrom_some Þ _ (Ć q)]
 exact codeAny_call_function hr.depth (KX Þ lk) rfl S.co S.gen rfl (PySem.W.codeRec_of KX hcd) (hb å1 ?_);exact wpAny_newFunctionEnv_cells S.kind hkind λ env he s1 x=>?_;subst he;exact#[lim.keeps x.toInCall.keep,codeAny_func ?_];let#[t,ht,hq]:=hbody Ê1 vs Q E (hr.deeper _) hsp;have I:Inv Æ6 [] Ó8 H s1:=GH S hr.hd e0 hl r x;exact zcU (ht [] s1 Ó8 H _ I hq) (λ fl s' hs=>?_) λ e s' hs=>hs;have fin:∀ {σ':St}{H':Hp}Ô2,Inv Æ6 [] Ļ s'->À6->Q v H'->CE Ŕ P w H s Q u s':=
  λ{σ' H' v u} J rv q=>#[v,H',J.os,J.bare,J.base,J.zI,rv,q]
 cases fl with
 | ret u=>
  let#[v,σ',H',J,rv,q]:=hs;show fin J rv q
 | next=>
  let#[σ',H',J,q]:=hs;show fin (v:=V.zC) (u:=Value.none) J rfl q
 | brk=>
  let#[_,_,_,q]:=hs;show Ū q
 | cont=>
  let#[_,_,_,q]:=hs;show Ū q
section
variable {Č}{İ}{p pos:Pos}{Į}{é3}{t:TA}{id T:ø6}{r:Ý4}
def cT (r:Ý4) (t:TA):TE:=fun σ H Q=>t í λ vs H1=>r vs H1 Q
def l7 (hc:xA X (Á1 id) r) Ã5 (hv:Ë3=↑(Á1 id)) â0 Á6 Ô4
  Ų:PE X Ç4 (cT r t):=by
 ext ê2;show PyProof.Rows.callWith_builtin1 Ã6
def jT (hc:xA X (ë1 T) r) Ã5 (hv:Ë3=↑(ë1 T)) â0 Á6 Ô4
  Ų:PE X Ç4 (cT r t):=by
 ext ê2;show Ñ2 Ã6
end
end L2
namespace HT
open PySem Á7
def lexLt:Æ3->Æ3->Bool
 | [],[]=>Ú
 | [],_::_=>true
 | _::_,[]=>Ú
 | x::xs,y::ys=>î2
def k_ (x y:Int) (xs ys:Æ3):lexLt (x::xs) (y::ys)=î2:=rfl
def HU:lexLt [] []=Ú:=rfl
def HV (y:Int) (ys:Æ3):lexLt [] (y::ys)=true:=rfl
def HW (x:Int) (xs:Æ3):lexLt (x::xs) []=Ú:=rfl
def Dt Ó0:∃ e,SeqAt.EqAt A s ý3 e/\(e=true↔a=c):=
 #[(a == c),SeqAt.EqAt.int_int a t c u,#[]]
def L9 Ó0 Ç1 ê8 (Q:zVP) (h:Q (ù6 (Ĳ (a<c))) s):
  ç ā (richCompare .Lt ý3) Ò9:=
 (PyProof.Rows.lt_int h:ç ā (Á0 .Lt ý3) Ò9)
section
open PySem.SeqAt
open PySem.AutoSeq1 (ú4)
open PySem.MeetsSeq PySem.MeetsSeq2 PySem.MeetsSeq3
def N9 (l b:Addr) (items items2:zAV) (n n2:Nat) (dd dd2:ù5) (sl sl2:ì2) (ns ms:Æ3) Ì0:
  Meets (Builtin.«tuple.__lt__» #[[Ê l,Ê b],[]])
   (λ _ R s=>æ l=↑{ cls:=ž,dict:=dd,data:=.seq items n,slots:=sl }/\æ b=↑{ cls:=ž,dict:=dd2,data:=.seq items2 n2,slots:=sl2 }/\
    R (.ok (.ret á2)) s):=
 .of_wp λ prog w A R s h=>by
  let#[hp,g,d,tk,os]:=s;let#[hl,hb,h]:=h
  have f2:=AutoSeq1.sub_tuple_tuple;have z1:Ö=Ø7:=by rw[<- hi.length];simp
  have z2:items2.size=ms.length:=by rw[<- hj.length];simp
  wp_walk using ú4 hl,ú4 hb,wpAny_forIn_list _ (λ rest b s'=>b.1=none/\s'=È0/\∃ (vs ws:zLV) (ns' ms':Æ3),rest=vs.zip ws/\
   Õ1 vs ns'/\Õ1 ws ms'/\ns'.length+items2.size=ms'.length+Ö/\R (.ok (.ret (ù6 (lexLt ns' ms')))) È0) _
  case turn=>
   rintro⟨y,x⟩ rest b s' ⟨hb',rfl,vs,ws,ns',ms',hz,hvi,hwi,hlen,hR⟩;cases hvi with
   | nil=>rw[List.zip_nil_left] at hz;cases hz
   | cons a t hvi'=>
    cases hwi with
    | nil=>rw[List.zip_nil_right] at hz;cases hz
    | cons c u hwi'=>
     rw[zbU] at hz
     injection hz with hyx hrest
     injection hyx with hy hx
     subst hy hx;rw[k_] at hR;simp![zC0] at hlen;let#[e,he,hiff]:=Dt A.in1 È0 a t c u;exact zcO (he prog w Þ ?_);cases e with
     | true=>
      rw[ĭ (hiff.mp rfl)] at hR
      wp_walk
      show#[rfl,rfl,_,_,_,_,hrest,hvi',hwi',⋯,hR]
     | Ú=>
      rw[Ę (λ q=>Ĵ (hiff.mpr q) za6)] at hR;have hri:=L9 A.in1 È0 a t c u prog w
      wp_walk using hri
      show#[_,rfl,by exists hR]
  case fin=>
   rintro⟨b1,b2⟩ s' ⟨hb',rfl,vs,ws,ns',ms',hz,hvi,hwi,hlen,hR⟩;simp only at hb';subst hb';have hv:lexLt ns' ms'=Ĳ (Ö<items2.size):=by
    cases hvi with
    | nil=>
     cases hwi with
     | nil=>
      simp![zaE] at hlen;rw[HU];show (zcR ⋯).symm
     | cons c u hw=>
      simp![zaE,zC0] at hlen;rw[HV];show (zcS ⋯).symm
    | cons a t hv=>
     cases hwi with
     | nil=>
      simp![zaE,zC0] at hlen;rw[HW];show (zcR ⋯).symm
     | cons c u hw=>
      rw[zbU] at hz;cases hz
   rw[hv] at hR
   wp_walk
   show#[_,rfl,by simpa [Builtin.Tuple.tupleCompareSizes] using hR]
  case h=>
   show#[rfl,rfl,items.toList,items2.toList,ns,ms,rfl,hi,hj,⋯,h]
end
section
variable {prog:ï7}{w:World}{ħ}{Í4}{Ý9}
def HK {l b:Addr}{items items2:zAV}{ns ms:Æ3}è9(hl:IsTup Ģ l items) (hb:IsTup Ģ b items2) Ì0
  (hu:A.units<cLine) (h:Q á2 s):ç ā (Á0 .Lt (Ê l) (Ê b)) Ò9:=by
 let#[#[cls,dd,data,sl],ho,hc,n,hd]:=id hl;ext ũ;show richCompare_meets_room (op:=.Lt) ø1 PySem.F.slot_tuple_lt PySem.F.entry_tuple_lt (PySem.F.args_tuple_lt_2 Þ) (N9 l b items items2 n n2 dd dd2 sl sl2 ns ms hi hj)
  #[ho,ho2,show Value.bool (lexLt ns ms)≠Value.notImplemented/\Q á2 s from #[(λ x=>nomatch x),h]] hu
def Cw {t b:Addr}{vs ws:zLV}è9(ht:IsTup Ģ t Â2) (hb:IsTup Ģ b ws.toArray) (hv:vs≠[])
  (h1:ws=[]->Q (Ê t) s) (h2:ws≠[]->Q (Ê À) { s with heap:=É7 { cls:=ž,data:=.seq (vs++ws).toArray } })
  (hsz:à7+ws.length<=Ü):ç ā (Ç9 .Add (Ê t) (Ê b)) Ò9:=by
 let#[#[cls,dd,data,sl],ho,hc,n,hd]:=id ht;ext ũ;have e:Â2++ws.toArray=(vs++ws).toArray:=#[];by_cases hw:ws=[]
 .show concat_meets ĩ
   (tuple_addW1 t b Ý7 (by simp[hw])) #[ho,ho2,h1 hw]
 .exact concat_meets ĩ
   (tuple_addW2 t b Ý7 (by exists hw) (by rw[zA0,zA0];show hsz)) #[ho,ho2,?_]
  rw[e];show h2 hw
def yi (n d:Nat):š->Nat
 | none=>d
 | some v=>Á5
def La (n d:Nat) (hd:d<=n) (o:š):yi n d o<=n:=by
 cases o with
 | none=>show hd
 | some v=>
  change (Á5)<=n;by_cases hv:v<0
  .rw[ĭ hv];lia
  .rw[Ę hv];show Nat.min_le_right Þ
def Qy (v:Int) (n d:Nat):ä9=((yi n d ↑v:Nat):Int):=by
 change ä9=(((Á5):Nat):Int)
 by_cases hv:v<0
 .simp![ĭ hv];lia
 .simp![Ę hv];lia
theorem B0 ä2 Ö8:Õ2 Õ7 1 Í0=(Ì6,((yi n n hi:Nat):Int)):=by
 have h1:¬ (ú5<0):=⋯;unfold Õ2;simp![h1,if_false];exact Prod.ext ?_ ?_
 .cases lo with
  | none=>rfl
  | some v=>show Qy v n 0
 .cases hi with
  | none=>rfl
  | some v=>show Qy v n n
theorem Ko (i j:Nat):Ä8 (i:Int) (j:Int) 1=j-i:=by
 unfold Ä8;have h1:ú5>0:=⋯;simp![h1,if_true,Int.ediv_one];split <;> lia
def VY {v:Í}{o:š}{Q:š->À8}(p:IsPart v o) (h:Q o s):ç ā (Builtin.Slice.slicePartIndex v) Ò9:=by
 cases p with
 | none=>show slicePart_none h
 | int i t=>show slicePart_int h
def VZ {sl:Addr}{vl vu:Í}{lo hi:š}Ú3{Q:Int×Int×Nat->À8}Ê5
  (h:Q (Ì6,1,yi n n hi-yi n 0 lo) s):ç ā (Builtin.Slice.sliceApplied (Ê sl) (pure Í0)) Ò9:=by
 let#[os,hos,hcs,hds]:=id hs;unfold Builtin.Slice.sliceApplied Builtin.Slice.sliceFields;exact zcO (zcO (zcT hos hds (x:=vl) rfl (zcO (zcT hos hds (x:=vu) rfl (zcO (zcT hos hds (x:=ç1) rfl (zD1 ?_)))))));exact zcO (slicePart_none ?_);change ç Þ (if (ú5 == 0)=true then _ else _) Þ s;rw[Ę ()];exact zcO (VY pl (zcO (VY pu (zcO (zD1 ?_)))));change ç Þ (match Õ2 Õ7 1 Í0 with | (lo,hi)=>pure (lo,ú5,Ä8 Õ7 1)) Þ s;rw[B0 Õ7 n];change ç Þ (pure (Ì6,ú5,Ä8 Ì6 ((yi n n hi:Nat):Int) 1)) Þ s;rw[Ko];show zD1 h
theorem Kq (xs:zAV) (i k:Nat):((Ï5 k).filterMap λ(m:Nat)=>xs[Õ3]?).toArray=((xs.toList.drop i).take k).toArray:=by
 have e:(λ(m:Nat)=>xs[Õ3]?)=λ m=>xs[i+m]?:=by
  funext m;have:Õ3=i+m:=⋯;rw[this]
 rw[e];have:=pick_run xs i k;rw[List.filterMap_map] at this;have e2:((λ x=>xs[x]?) ∘ λ x=>i+x)=λ m=>xs[i+m]?:=rfl;rw[e2] at this;rw[this]
def Ep {t sl:Addr}{items:zAV}{vl vu:Í}{lo hi:š}è9(ht:IsTup Ģ t items) Ê5
  (hw:¬ (Ø8=0/\è0=Ö))
  (h:Q (Ê À) { s with heap:=É7 { cls:=ž,data:=.seq (Ĺ).toArray } })
  (hsz:Ö<=Ü):ç ā (getItem (Ê t) (Ê sl)) Ò9:=by
 have htake:sizeOk (.seq (Ĺ).toArray):=by
  change (Ĺ).toArray.size<=Ü;rw[zA0,zbG,zaI,zD2];lia
 have hj:è0<=Ö:=La Þ ģ hi;let#[os,hos,hcs,hds]:=id hs;have hTs:s.TypeIs (Ê sl) "slice":=#[os,hos,hcs];unfold getItem
 try with_reducible exact zcV ?_
 first | exact zcO (zD1 ?_) | skip
 exact zcO (wpAny_sequenceKey ht.typeIs () ?_);exact zcO (zd1 (name:=Str.ofString "__getitem__") ht.typeIs ð8
  (zcW ð8 ht.typeIs entry_tuple_getitem ?_ (args_tuple_getitem Þ)))
 change ç Þ (Builtin.Tuple.tupleItemsOf (Ê t) >>= _) Þ s;exact zcO (tupleItemsOf_ ht ?_);exact zcO (zd2 hTs ?_);rw[ĭ ()];exact zcO (VZ hs pl pu ?_);have hno:¬ (Ã9):=by
  intro q;rw[zE5,zE5] at q;have q1:((Ø8:Nat):Int)=0:=eq_of_beq q.1.1;have q2:è0-Ø8=Ö:=eq_of_beq q.2;show hw #[⋯,⋯]
 change ç Þ (if Ã9 then _ else _) Þ s;rw[Ę hno,Kq]
 first
  | show ö3
  | show zcO (m:=Ä3) (zcY (zcO (zD1 Ç0)) htake)
  | show zcO (zcO (m:=Ä3) (zcY (zD1 Ç0) htake))
  | show zcO (ö3)
end
end HT
namespace L2
open PySem Ø2 Á7
abbrev TO:=St->Hp->(š->Ô)->Prop
def PO ô (e:Û Expr) (t:TO):Prop:=
 ∀ Ã (Q:š->Ô),Á->t í Q->
  ç Â (evalPart e Ý) (λ u s'=>∃ o H',Ì5/\IsPart u o/\Q o H') X.xe s
def Mb:TO:=λ _ H Q=>Q none H
def NX (t:TE):TO:=fun σ H Q=>t í λ x H1=>∃ i,x=ó6/\Q ↑i H1
def intsAre_of {ns:Æ3}:∀ Ŭ,Vals Á3 us->Õ1 us ns:=by
 induction ns with
 | nil=>intro us r;rw[za4] at r;cases r;show ï4
 | cons n ns ih=>
  intro us r;rw[zA6] at r;cases r with
  | cons r1 r2=>
   let#[t,e]:=r1;subst e;show À5 n t (ih r2)
section
variable {Č}{Į}{te:TE}{lo hi:Û Expr}{tl th:TO}{pos p2:Pos}
def Km:PO X none Mb:=by
 ext Ð;rw[evalPart_none];show zD1 #[none,H,I,ç1,h]
def Kl (h:PE X e te):PO X ↑e (NX te):=by
 intro gV s σ H Q I hw;rw[evalPart_some];exact zH (h È _ I hw) λ u s1 Ì=>?_;let#[i,rfl,q]:=q1;let#[t,rfl]:=r1;show#[↑i,H1,I1,ì i t,q]
def kH ô (r:Ï0):Prop:=
 ∀ Ã (x:V) (v vl vu:Í) ä2 (sl:Addr) Ò1,Á->ä5->ô5->IsPart vl lo->IsPart vu hi->r x Õ7 H Q->
  ∃ T id,typeLookup (ë1 T) "__getitem__"=pure ↑(Á1 id)/\s.TypeIs v T/\ç Â (getItem v (Ê sl)) ł s
def kH.or {r r':Ï0}(h:kH X r) (h':kH X r'):kH X (λ x lo hi H Q=>r x Õ7 H Q\/r' x Õ7 H Q):=by
 intro gV s σ H x v vl vu lo hi sl Q I rx hs pl pu q;ext õ2
 .show h È x v vl vu Õ7 sl Q I rx hs pl pu q
 .show h' È x v vl vu Õ7 sl Q I rx hs pl pu q
def NT (r:Ï0) (te:TE) (tl th:TO):TE:=fun σ H Q=>te í λ x H1=>tl Ú0 λ l H2=>th σ H2 λ u H3=>r x l u H3 Q
theorem KH {r:Ï0}(hr:kH X r) Ö0 (hl:PO X lo tl) (hu:PO X hi th):PE X (ð3 e (.Slice Õ7 none p2) pos) (NT r te tl th):=by
 ext Ð;exact Subscript_ (zH (he ÿ) λ v s1 Ì=>?_);exact wpAny_Slice (zH (hl Þ7) λ vl s2 #[l,H2,I2,pl,q2]=>zH (hu gV s2 σ H2 _ I2 q2) λ vu s3 #[u,H3,I3,pu,q3]=>?_);rw[evalPart_none];exact zD1 ?_;have I4:Inv Ñ H3 { s3 with heap:=Ě }:=I3.kept (t':=s3.toks) Ø9;let#[T,id,hT,ht,hg]:=hr gV { s3 with heap:=Ě } σ H3 x v vl vu l u ð9 Q I4 r1 (Heap.IsSliceOf.new ..) pl pu q3;change ç Â (subscriptTail e (.Slice Õ7 none p2) v (Ê ð9)) ł { s3 with heap:=Ě };show tail_any (ops:=[Ê ð9,v]) ht hT hg (by with_unfolding_all rfl)
def lI è7 ä2:Ò:=(xs.drop (È1)).take (HT.yi Ø Ø hi-È1)
def Qs è7 ä2:(ú6).length<=Ø:=by
 unfold lI;rw[zbG,zaI];lia
def U1 ß:Ï0:=λ x lo hi H Q=>∃ a xs,x=í8/\yw ŵ/\
 ¬ (È1=0/\HT.yi Ø Ø hi=Ø)/\∀ p,H p=none->Q ú2 (upd H p (.tup (ú6)))
theorem MC:kH X (U1 X.K):=by
 ext Ú9;let#[a,xs,rfl,hx,hw,q]:=h;cases rx;let#[its,r,ht,hz]:=Û9 hx;have hlen:Ũ=Ø:=by rw[zA0];show r.length.symm
 exact#["tuple",_,PyProof.Rows.slot_tuple_getitem.lookup,ht.typeIs,?_];exact HT.Ep ht hs pl pu (by rw[hlen];show hw) ?_ (by rw[hlen];show hz);rw[hlen];exact#[Ê À,_,I.laid (t':=Š) (o:=.tup (ú6)) (Ø9) ģ ?_,rfl,q _ (ſ ģ)];show#[#[zE0 (Qs xs Õ7) hz,.new _],_,ß3,IsTup.new Þ]
def Ys ß:R2:=λ x y H Q=>∃ a b ns ms,x=í8/\y=Ê b/\yw ě a Á3/\yw ě b (ms.map V.int)/\Q (.bl (HT.lexLt ns ms)) H
def JL (hu:X.A.units<cLine):yM X (Á0 .Lt) (Ys X.K):=by
 ext ö;let#[a,b,ns,ms,rfl,rfl,ha,hb,q]:=h;ext Ã0;have i1:Õ1 its.toArray.toList ns:=intsAre_of r1;have i2:Õ1 its2.toArray.toList ms:=intsAre_of r2;show HT.HK p1 p2 i1 i2 hu #[.bl (HT.lexLt ns ms),H,I,rfl,q]
def UE ß:R2:=λ x y H Q=>∃ a b xs ys,x=í8/\y=Ê b/\yw ŵ/\yw ě b ys/\xs≠[]/\Ø+Ñ6<=Ü/\
 (ys=[]->Q (í8) H)/\(ys≠[]->∀ p,H p=none->Q ú2 (upd H p (.tup (xs++ys))))
def Vals.eC ĺ Ŭ(r:Á8):us=[]↔xs=[]:=by
 cases r with
 | _=>simp
theorem JS:yM X (Ç9 .Add) (UE X.K):=by
 ext ö;let#[a,b,xs,ys,rfl,rfl,ha,hb,hx,hz,q1,q2]:=h;ext Ã0;exact HT.Cw p1 p2 (λ z=>hx (r1.eC.mp z)) (λ z=>#[í8,H,I,rfl,q1 (r2.eC.mp z)]) ú7 (by rw[<- r1.length,<- r2.length];show hz);exact#[Ê À,_,I.laid (t':=Š) (o:=.tup (xs++ys)) (Ø9) ģ ?_,rfl,q2 (λ w=>z (r2.eC.mpr w)) _ (ſ ģ)];show#[#[by rw[zD7];show hz,.new _],_,r1.append r2,IsTup.new Þ]
end
def qj Ö8 ü6:Û Nat:=if 0<=i then (if i<n then ↑i.toNat else none) else if -Í0<=i then ↑(i+n).toNat else none
def yt {α:Type}(xs:List α) ü6:Û α:=(qj Ø i).bind λ j=>xs[j]?
theorem S8 Ú3{i:Int}{j:Nat}(h:qj n i=↑j):seqIndex? i n=↑j/\j<n/\-Í0<=i/\i<n:=by
 unfold qj at h;by_cases h0:0<=i
 .rw[ĭ h0] at h;by_cases h1:i<n
  .rw[ĭ h1] at h;have e:i.toNat=j:=zD5 h;show#[by rw[seqIndex_of h0 h1,e],⋯,⋯,h1]
  .rw[Ę h1] at h;cases h
 .rw[Ę h0] at h;by_cases h1:-Í0<=i
  .rw[ĭ h1] at h;have e:(i+n).toNat=j:=zD5 h;show#[by rw[seqIndex_neg ⋯ h1,e],⋯,h1,⋯]
  .rw[Ę h1] at h;cases h
def Wf {α:Type}{xs:List α}{i:Int}{v:α}(h:yt xs i=↑v):∃ j,seqIndex? i Ø=↑j/\xs[j]?=↑v/\j<Ø/\-(Ø:Int)<=i/\i<Ø:=by
 unfold yt at h;cases e:qj Ø i with
 | none=>rw[e] at h;cases h
 | some j=>
  rw[e] at h;let#[h1,h2,h3,h4]:=S8 e;show#[j,h1,h,h2,h3,h4]
def PL (b:Expr):Prop:=∀ o i,subscripted b Ú o i=operate [o,i] (getItem o i)
def kI ô (r:R2):Prop:=
 ∀ (value slice:Expr) Ã (x y:V) (v u:Í) Ò1,Á->ä5->RelV y u->r é4->
  subscripted slice Ú v u=operate [v,u] (getItem v u)->ç Â (subscriptTail value slice v u) ł s
def lg ô (id:ø6) (r:V->Ý4):Prop:=
 Ĩ
section
variable {Č}{Ï7}{ta tb:TE}{Ċ}
def kI.or {r r':R2}(h:kI X r) (h':kI X r'):kI X é9:=by
 intro value slice gV s σ H x y v u Q I rx ry q hs;ext õ2
 .show h value slice Ò3 q hs
 .show h' value slice Ò3 q hs
def KS {r:R2}(hr:kI X r) ú (hs:PL b):PE X (ð3 a b pos) (fG r ź):=by
 ext Ð;show Subscript_ (X_ ha hb I h λ v u s2 x y H2 I2 rx ry q=>hr a b Å2 u Q I2 rx ry q (hs Þ))
def U8 ß:R2:=λ x y H Q=>∃ p xs i v,x=Ê p/\y=ó6/\y7 ě p xs/\yt xs i=↑v/\Q v H
def U6 ß:R2:=λ x y H Q=>∃ p xs i v,x=Ê p/\y=ó6/\yw ě p xs/\yt xs i=↑v/\Q v H
def U7:R2:=λ x y H Q=>∃ z i c,x=.str z/\y=ó6/\ã3<=Ü/\yt z.cps.toList i=↑c/\Q (è1) H
theorem G5:kI X (U8 X.K):=by
 ext Ŝ;let#[its,r,pl,hz]:=ë9;ext Ĭ;by_cases h0:0<=i
 .have hj:i.toNat=j:=by
   rw[seqIndex_of h0 h5] at h1;show zD5 h1
  show item_listR Ñ3 h0 ⋯ (by rw[hj];exists ew) fin hs
 .have hj:(i+(Ũ:Int)).toNat=j:=by
   rw[seqIndex_neg ⋯ h4] at h1;ext ø2;show zD5 h1
  show subscriptTail_builtinR (x:=w) pl.isList.typeIs slot_list_getitem.lookup
   (wpAny_getItem_list_neg (Q:=λ r s'=>r=w/\EP Ñ Q r s') Ñ3 ⋯ (by rw[zA0] <;> lia) ⋯ (by rw[hj];exists ew) #[rfl,fin]) hs
theorem G2:kI X (U6 X.K):=by
 ext Ŝ;let#[its,r,pl,hz]:=Û9 hq;ext Ĭ;show subscriptTail_builtinR (x:=w) pl.typeIs slot_tuple_getitem.lookup
  (getItem_tuple (j:=j) (Q:=λ r s'=>r=w/\EP Ñ Q r s') pl ⋯ ⋯ (by ext ø2;show h1) (by exists ew) #[rfl,fin]) hs
theorem G3:kI X U7:=by
 ext Þ0;let#[z,i,c,rfl,rfl,hz,he,q]:=h;ext ŀ;ext î8;have hl:z.cps.toList.length=ã3:=by simp[Str.length]
 rw[hl] at h1 h4 h5;have hn:=ia;show tail_any (typeIs_str s z t) slot_str_getitem.lookup (getItem_str (c:=c) (by
  have e1:Ĳ (i < -(2 ^ 63:Int))=Ú:=zcR ⋯;have e2:Ĳ (i≥2 ^ 63)=Ú:=zcR ⋯;rw[e1,e2,Bool.or_false]) (by rw[h1];exists h2) #[è1,H,Ë2,À0,q]) hs
def U9 ß:R2:=λ x y H Q=>U8 K é4\/U6 K é4\/U7 é4
def G4:kI X (U9 X.K):=G5.or (G2.or G3)
def HB (its:zLV) (n j:Nat) (u:Í):ñ0 (·.setIfInBounds j u) { cls:=ê,data:=ß8 }={ cls:=ê,data:=.seq (its.set j u).toArray n }:=by
 simp[ñ0]
theorem Inv.lst Ç Ý1 ĺ ë (h:H p=↑ É4):
  ∃ (its:zLV) (n:Nat),Ð5/\ô6/\Ø<=Ü:=by
 let#[z,its,n,r,e]:=I.zI p _ h;show#[its,n,r,e,z]
def Inv.HL Ç Ý1 ã7{its its':zLV}{n n':Nat}{f:Obj->Obj}ë (h:H p=↑ É4)
  (ho:ô6) (hf:f { cls:=ê,data:=ß8 }={ cls:=ê,data:=.seq its'.toArray n' }) (r:Vals ys its') (hz:Ñ6<=Ü) (t:Nat):
  Inv Ñ (upd H p (ő ys)) { s with heap:=ì3 p f,toks:=t }:=by
 have e:(ì3 p f).get? p=↑{ cls:=ê,data:=.seq its'.toArray n' }:=by
  rw[zd4 f ho (by rw[hf] <;> rfl),hf]
 exact I.write (x:=p) (e:=p) (by rw[h];trivial) Û5 (λ b u hb q=>(zdC Þ (Ne.symm hb)).trans q) #[_,e] ?_;show#[hz,its',n',r,e]
def LD:V->V->V->Hp->(Ô)->Prop:=λ o i v H Q=>∃ p xs k j,o=Ê p/\i=ì k/\H p=↑ É4/\qj Ø k=↑j/\Q ú8
theorem set_list:PM X LD:=by
 intro gV s σ H o i v ov iv u Q I ro ri rv h;let#[p,xs,k,j,rfl,rfl,hp,hj,q]:=h;cases ro;let#[t,rfl]:=ri;let#[its,n,r,ho,hz]:=I.lst hp;let#[h1,h2,h3,h4]:=S8 hj;have hl:=Ë4;have hn:=ia;have I':Inv Ñ ú8 { s with heap:=ì3 p (ñ0 (·.setIfInBounds j u)) }:=
  I.HL hp ho (HB its n j u) (r.set rv j) (by rw[zbH];show hz) Š
 by_cases h0:0<=k
 .have hk:k.toNat=j:=by
   rw[seqIndex_of h0 h4] at h1;show zD5 h1
  show PySem.W.ki_setAt ho h0 ⋯ (by ext ø2;show h4) ü0
 .have hk:(k+(Ũ:Int)).toNat=j:=by
   rw[seqIndex_neg ⋯ h3] at h1;ext ø2;show zD5 h1
  show PySem.W.ki_setBack ho ⋯ (by ext ø2;show h3) ⋯ ü0
def M9 ä2 Ö8:(Ü4 Õ7 none n).1=((HT.yi n 0 lo:Nat):Int)/\(Ü4 Õ7 none n).2.1=((HT.yi n n hi:Nat):Int)/\(Ü4 Õ7 none n).2.2=1:=by
 exact#[?_,?_,rfl]
 .cases lo with
  | none=>simp[Ü4,HT.yi]
  | some i=>
   ext Ê3
   .simp![h,if_true] <;> lia
   .simp![h,if_false] <;> lia
 .cases hi with
  | none=>simp[Ü4,HT.yi]
  | some i=>
   ext Ê3
   .simp![h,if_true] <;> lia
   .simp![h,if_false] <;> lia
def MA (its:zLV) ä2:slicePick ù Õ7 none=((its.drop (HT.yi ã4 0 lo)).take (HT.yi ã4 ã4 hi-HT.yi ã4 0 lo)).toArray:=by
 let#[h1,h2,h3]:=M9 Õ7 Ũ;unfold slicePick;rw[h1,h2,h3];simp![sliceRange_one,pick_run,zA0] <;> rfl
def U4 ß:Ï0:=λ x lo hi H Q=>∃ a xs,x=í8/\y7 ŵ/\∀ p,H p=none->Q ú2 (upd H p (ő (ú6)))
theorem ME:kH X (U4 X.K):=by
 ext Ú9;let#[a,xs,rfl,hx,q]:=h;cases rx;let#[its,r,ht,hz]:=I.list hx;have hlen:=Ë4;exact#["list",_,slot_list_getitem.lookup,ht.isList.typeIs,?_];exact wpAny_getItem_list_slice ht.isList hs pl pu ç1 #[] ?_ (by rw[zA0] <;> lia);rw[MA,<- hlen];exact#[Ê À,_,I.laid (t':=Š) (o:=ő (ú6)) (Ø9) ģ ?_,rfl,q _ (ſ ģ)];show#[zE0 (Qs xs Õ7) hz,_,0,ß3,Ç6]
theorem CG:xA X (Á1 "len") (λ xs H Q=>∃ p ys,Ù0/\(y7 ê3\/yw ê3)/\Q (ì Ñ6) H):=by
 ext Ç2;have hn:=ia;rcases hq with hq | hq
 .ext Ű;show Calls.call_len_list Ñ3 Æ2
 .ext Ì1;have hlen:=r'.length;show len_tuple pl Æ2
theorem CF:xA X (Á1 "len") (λ xs H Q=>Ò8):=by
 ext ĕ;let#[z,rfl,hz,q]:=h;let#[u,rfl,t,rfl]:=vals1 r;have hn:=ia;show len_str ⋯ #[ì ã3,H,Ë2,À0,q]
def xA.or {f:Í}{r r':Ý4}(h:xA X f r) (h':xA X f r'):xA X f (λ xs H Q=>r xs H Q\/r' xs H Q):=by
 intro gV s σ H xs us Q I rs q;ext õ2
 .show h È xs us Q I rs q
 .show h' È xs us Q I rs q
theorem CB:xA X (ê) (λ xs H Q=>∃ p ys,Ù0/\(y7 ê3\/yw ê3)/\Þ5):=by
 ext Ç2;have fin:∀ (its:zLV),Vals ys its->Ñ6<=Ü->∀ (h':Heap) (c':Nat),(∀ b o',æ b=↑o'->Ů b=↑o')->
   Ů À=↑{ cls:=ê,dict:=none,data:=.seq ù c',slots:=Ś }->EP Ñ Q (Ê À) { s with heap:=h' }:=λ its r' hz h' c' kp e=>
  #[Ê À,_,I.laid (t':=Š) kp ģ (show xQ Ā _ h' _ (ő ys) from #[hz,its,c',r',e]),rfl,q _ (ſ ģ)]
 rcases hq with hq | hq
 .ext Ű;let#[o,ho,hc,n,hd]:=Ñ3;show call_list_seq p Û5 Ð0
 .ext Ì1;have hlen:=r'.length;let#[o,ho,hc,n,hd]:=pl;show call_list_seq p (ŝ rfl) Ð0
theorem Cy:xA X (ž) (λ xs H Q=>∃ p ys,Ù0/\((y7 ê3/\Ü5)\/(yw ê3/\Q ú2 H))):=by
 ext ĕ;let#[p,ys,rfl,h]:=h;ext ø3;rcases h with ⟨hq,q⟩ | ⟨hq,q⟩
 .ext Ű;exact call_tuple_list Ñ3 (λ h' kp=>?_) ä4;have I1:Ô6:=I.kept (t':=Š) kp;have I2:Inv Ñ (upd H h'.objs.size (.tup ys)) { s with heap:=h'.push { cls:=ž,data:=.seq ù } }:=
   I1.laid (t':=Š) (ô0) ģ (show xQ Ā Þ _ (.tup ys) from #[#[hz,.new _],its,r',IsTup.new Þ])
  show#[Ê h'.objs.size,_,I2,rfl,q _ (Ô8)]
 .ext Ì1;show call_tuple_same pl #[Ê p,H,I,rfl,q]
def V6 ß (T:ø6) (x:V) Ĕ:Prop:=match x with
 | .str _=>T="str"
 | ì _=>T="int"
 | Ê p=>(T="list"/\∃ xs,y7 ě p xs)\/(T="tuple"/\∃ o,ã0 p=↑o/\o.cls=ž/\ü2)\/
   (T="dict"/\((∃ kvs,H p=↑(.dK kvs))\/∃ kvs,H p=↑(.dT kvs)))\/(T="set"/\∃ S n,H p=↑(.set S n))
 | _=>Ď
def ZI Ç{T:ø6}{x:V}{v:Í}ë (r:ä5) (ty:V6 X.K T x H):
  s.TypeIs v T/\∀ a,v=í8->∃ ob,æ a=↑ob/\ob.dict=none:=by
 cases x with
 | str z=>
  ext æ2;cases (show T="str" from ty);show#[typeIs_str s z t,λ _ e=>nomatch e]
 | int i=>
  ext æ2;cases (show T="int" from ty);show#[typeIs_int s i t,λ _ e=>nomatch e]
 | ref p=>
  cases r;rcases ty with ⟨rfl,xs,hq⟩ | ⟨rfl,o,hk,hc,hd⟩ | ⟨rfl,hk⟩ | ⟨rfl,S,n,hk⟩
  .let#[its,_,pl,_]:=ë9;exact#[pl.isList.typeIs,λ a e=>?_];cases e;let#[o,n,e,c,hd,_]:=pl;show#[o,e,hd]
  .exact#[#[o,I.r_ p o hk,hc],λ a e=>?_];cases e;show#[o,I.r_ _ o hk,hd]
  .have z:∃ o,æ p=↑o/\o.ExactDict:=by
    rcases hk with ⟨kvs,hk⟩ | ⟨kvs,hk⟩
    .ext Ò4;show#[o,e,ex]
    .ext Ò4;show#[o,e,ex]
   let#[o,e,ex]:=z;ext Ý8
  .let#[o,_,_,_,e,ex,_]:=I.zI p _ hk;ext Ý8
 | _=>show Ū ty
def jP ß (T:ø6) (r:V->Ý4) (to:TE) (t:TA):TE:=fun σ H Q=>to í λ x H1=>V6 K T x H1/\t Ú0 λ xs H2=>r x xs H2 Q
variable {o e:Expr}{é3}{to:TE}{t:TA}{name:Str}{apos cpos:Pos}{T id:ø6}{r:V->Ý4}
def bC (pa:PlainAttrs T) (slot:Slot T name id) (hty:typeOf (Á1 id)=pure (ë1 "method_descriptor")) (hm:lg X id r) (ho:PE X o to) â0
  (hbase:attributeBase o name Ý (eval o Ý)=eval o Ý:=by rfl)
  (hfew:((backTo cpos (Ó6 Ð7 Ý)).all (λ x=>!x.1)&&(backToKw cpos (keywordEach [] Ý)).all (λ x=>x.1.isSome)
   && Ĳ ((e::es).length+([]:List Keyword).length+(if ([]:List Keyword).isEmpty then 0 else 1)<30))=true:=by rfl)
  (hline:(apos.endLine == cpos.line)=true:=by rfl) (hs:zEE X e es:=by rfl) (hplain:zEB X cpos es:=by rfl):
  PE X (.Call (ð7 o name apos) Ð7 [] cpos) (jP X.K T r to t):=by
 ext Ð;exact zd5 hbase hfew hline rfl (zH (ho ÿ) λ v s1 #[x,H1,I1,r1,ty,q1]=>?_);let#[h1,h2]:=ZI I1 r1 ty;exact#[T,id,pa,slot,hty,h1,h2,?_];have hA:=ha cpos Þ7;rw[hs] at hA ⊢;exact Calls.callWith_builtin (by change (Ú||(backTo cpos (ü3)).any ë0)=Ú;rw[hplain] <;> rfl) (Calls.evalArgs_plain ?_);show zH hA λ us s2 #[vs,H2,I2,r2,q2]=>hm gV s2 σ H2 x vs v us Q I2 Þ8 q2
end
def PQ ô (id:ø6) (r:V->Ý4):Prop:=
 Ĩ
theorem Vals.one:∀ {x:V}Ŭ,Vals [x] us->∃ u,us=[u]/\â7
 | _,_,À5 r ï4=>#[_,rfl,r]
theorem Vals.rep ĺ Ŭ(h:Á8):∀ k:Nat,Vals (æ0 k xs).flatten (æ0 k us).flatten
 | 0=>ï4
 | k+1=>by
  rw[zaH,zaH,zaP,zaP];show Vals.append h (Vals.rep h k)
section
variable {Č}{Ç}{l:Addr}{ã7}
def Inv.YH {its its':zLV}Ú3{f:Array Í->Array Í}Ô1 ë (hH:H l=↑ É4)
  (e:õ4) (hf:f ù=its'.toArray) (hv:Vals ys its') (hz:Ñ6<=Ü):
  Inv Ñ (upd H l (ő ys)) { s with heap:=ì3 l (ñ0 f),toks:=t' }:=by
 have q:=PySem.IsL.update e f;rw[hf] at q;exact I.write (x:=l) (e:=l) (by rw[hH];show trivial) Û5 (λ b' u hb hu=>(zdC Ģ (ñ0 f) (Ne.symm hb)).trans hu) #[_,q] ?_;show#[hz,its',_,hv,q]
def Inv.HP {its:zLV}Ô1 ë (hv:Vals ys its) (hz:Ñ6<=Ü):
  Inv Ñ (upd H À (ő ys)) { s with heap:=É7 { cls:=ê,data:=.seq ù },toks:=t' }:=
 I.laid (λ _ _ q=>zcP _ q) ģ #[hz,its,0,hv,Ç6]
theorem Inv.fresh ë:H À=none:=ſ ģ
def Inv.bZ ë (hH:H l=↑ É4):Ø<=Ü/\∃ (its:zLV) (n:Nat),Ð5/\Ø=ã4/\õ4:=by
 let#[z,its,n,r,e]:=I.zI l _ hH;show#[z,its,n,r,Ë4,e]
theorem Tz Ú3(h:n<=Ü):Ù1 n=Ú:=by
 unfold Ù1;show zcR ⋯
def Yu:V->Ý4:=λ x vs H Q=>∃ l xs y,x=Ê l/\vs=[y]/\H l=↑ É4/\Ø<Ü/\Q .zC (upd H l (ő (xs++[y])))
theorem YE:PQ X "list.append" Yu:=by
 ext õ6;let#[l,xs,y,rfl,rfl,hH,hz,q]:=h;ext ý4;ext î9;exact call_meets F.slot_list_append #[_,e,rfl] F.entry_list_append (F.args_list_append_2 Þ) (PySem.list_append l ù n u (by rw[zA0];lia)) #[e,?_];exact#[.zC,_,I.YH (its':=its++[u]) hH e #[] (r.append (À5 ru ï4)) ?_,rfl,q];rw[zD7,List.length_singleton];lia
def UC:V->Ý4:=λ x vs H Q=>∃ l b xs zs,x=Ê l/\vs=[Ê b]/\H l=↑ É4/\H b=↑(ő zs)/\Ø+zs.length<=Ü/\Q .zC (upd H l (ő (xs++zs)))
theorem Hu:PQ X "list.extend" UC:=by
 ext õ6;let#[l,b,xs,zs,rfl,rfl,hH,hB,hz,q]:=h;ext ý4;cases ru;ext î9;let#[z2,its2,n2,r2,hl2,e2]:=I.bZ hB;have hsz:Ũ+its2.toArray.size<=Ü:=by rw[zA0,zA0];lia
 have hlong:¬ (!its.toArray.isEmpty&&Ù1 (Ũ+its2.toArray.size))=true:=by
  rw[Tz hsz,zaU];show za6
 exact call_meets F.slot_list_extend #[_,e,rfl] F.entry_list_extend (F.args_list_extend_2 Þ)
  (AutoSeq1.list_extend_list_list_0 l ù n b its2.toArray n2 hlong (by rw[zA0];lia) ⋯) #[e,e2,?_]
 exact#[.zC,_,I.YH (its':=its++its2) hH e #[] (r.append r2) ?_,rfl,q];rw[zD7];lia
end
end L2
namespace OZ
open PySem PySem.W PySem.Calls Á7
def GJ {P:Params}Ô0:∀ (ns:Æ3) (vs:zLV),WellAll P h vs (ú9 WData.int)->û0:=by
 intro ns
 induction ns with
 | nil=>
  intro vs w;rw[za4] at w;cases w;show ï4
 | cons n ns ih=>
  intro vs w;rw[zA6] at w;cases w with
  | cons a b=>
   cases a;show À5 Þ (ih _ b)
def MR {l:OpenLaw}Ú3 õ7 {P:Params}Ô0{args:List WData}{vals:zLV}
  (hpre:l.row.toRowW.claim.pre args=true) (hwl:WellAll P h vals args):
  ∃ a vs ns,vals=[Ì2 a]/\args=[WData.list (ú9 WData.int)]/\ĳ a=↑{ cls:=ê,data:=.seq Â2 }/\û0/\Ø7<=n:=by
 have hsh:WShape.hasAll [] args [.list ì]=true:=(pre_splitW hpre).1;have hc:l.pre.holds [] { args:=args }=true:=(pre_splitW hpre).2;let#[d,r,rfl,h1,h2]:=hasAllW_cons hsh;obtain rfl:=hasAllW_nil h2;let#[xs,rfl,h3]:=hasW_list h1;let#[ns,rfl]:=items_int h3;have hlen:Ø7<=n:=by
  unfold OpenLaw.pre at hc;have h4:(WTm.not (.lt (.lit (ì Í0)) (.len (.arg 0)))).holds [] { args:=[.list (ú9 ì)] }=true:=by
   have h4:=(holds_andW hc).1;rw[hn] at h4;show h4
  have h5:=condW_of h4 (w_not (w_lt w_lit (w_len_list (w_arg rfl))));rw[zA7] at h5;exact Nat.le_of_not_lt λ q=>?_;have q':Í0<((Ø7:Nat):Int):=⋯
  first
   | (rw[zcS q'] at h5;show Ĵ h5 ())
   | (simp at h5;lia)
 cases hwl with
 | cons w1 w2=>
  cases w2;cases w1 with
  | list ho hall=>show#[_,_,ns,rfl,rfl,ho,GJ ns _ hall,hlen]
def Kk (l:OpenLaw) (args:List WData):l.row.toRowW.claim.post args (Ð3) args=true:=
 postW_of (r:=l.row.toRowW) (X:=(true == true))
  (show WShape.has [] (Ð3) ù6=true by first | rfl | decide | simp[WShape.has,WShape.arms,WShape.armsAll])
  (show (WTm.eq .res (.lit (Ð3))).value [] { args:=args,res:=↑(Ð3),after:=args }=↑(ù6 (true == true)) from w_eq_bool (w_res rfl) w_lit) rfl
def Bi {l:OpenLaw}Ú3 Â5
  õ7 (hdf:d.params.defaults=[])
  (call:∀ Ù6 (s₀ s₁:Ù) (mg mb:zSV) (fa:Addr) (o:Obj) (pm cd doc:Í) Æ4 (vs:zLV) (ns:Æ3),
   Ground q loose [] XP w s₀ mg mb Ì7->YP w Ì7->
   Õ4 fa=↑o->o.data=.func (docDef d.name d.params d.body d.scope pm cd doc)->s₁.heap.CodeRec cd d.name->mg d.name=↑(Ê fa)->
   è2->û0->Ø7<=n->s₁.gens=Ś->
   ç7 (model l.prog w) á):
  WalkO Ï4:=by
 intro w s₀ s₁ mg mb G Y fa o pm cd doc dV kV ho hd hcd hD hmg hg args vals as hpre hlay hrd hwl hlo;obtain rfl:dV=ç1:=Dflts.none hD hdf;obtain rfl:kV=ç1:=Dflts.noKw hD;let#[a,vs,ns,rfl,rfl,hobj,hints,hlen]:=MR hn hpre hwl;exact enter_call (ò9 (call w s₀ s₁ mg mb fa o pm cd doc a vs ns G Y ho (fd_plain hd) hcd hmg hobj hints hlen hg) λ r s' hq=>?_);let#[rfl,h2,h3,h4]:=hq;show#[Ć #[Ð3,Ð3,[],rfl,λ _=>rfl,Ð3,Kk l _,λ _=>#[List.Pairwise.nil,λ _ hm=>(nomatch hm)]],h2,h3,h4]
end OZ
namespace L2
open PySem Ø2 Á7
theorem Vq:∀ {vs:zLV}{ns:Æ3},û0->Vals Á3 vs
 | _,_,ï4=>ï4
 | _,_,À5 n t h=>À5 #[t,rfl] (Vq h)
def Zd Ĕ:Prop:=∀ b,Ň\/∃ o xs,H b=↑(.pQ o É4)
def Gk è Ĝ{mg mb:zSV}{CX:mC}Û2{fa a:Addr}Ï3 İ{sp:Sp}{s₁:Ù}{vs:zLV}{ns:Æ3}
  (KX:K.In Ì7) (hns:s₁.heap.Ns Ð6 mg) (hb:s₁.heap.Ns builtinsNs mb) (hbb:ë3) (hlim:s₁.heap.NoLimit) (hg:s₁.gens=Ś)
  (ha:è2) (hi:û0) (hl:Ø7<=Ü) (hr:y8 k callerA)
  (F:∀ base:Heap,K.In base->base.Ns Ð6 mg->pA Ė CX k fa fd [x] sp) (hbind:Ï1)
  (hsp:∀ H:Hp,Zd H->y7 ě a Á3->sp æ4)
  (hCX:∀ H e s',CX [] H s₁ (û1) e s'->Ď):
  ç7 É5 á:=by
 have rv:=Vq hi;have lenV:=hi.length;have core:∀ H:Hp,Zd H->y7 ě a Á3->xD P w H Ì7->(∀ b,H b≠none->b=a)->(H a≠none->ã0 a=none)->
   ç7 É5 á:=by
  intro H hO hS zI hA hK;have base_of:∀ Î0,Õ4 b=↑o->Ň->(kz Ì7 H).get? b=↑o:=λ e n=>GX e n;have noA:∀ Î0{es:Array DictEntry}{ep:Nat},Õ4 b=↑o->o.data=.dict es ep->Ň:=λ{b o es ep} e d=>by
   cases q:H b with
   | none=>rfl
   | some u=>
    have e':b=a:=hA b (å7);subst e';rw[ha] at e;cases e;have d':Data.seq Â2 _=Data.dict es ep:=d;cases d'
  have nsK:∀ {b:Addr}{m:zSV},s₁.heap.Ns b m->(kz Ì7 H).Ns b m:=λ{b m} #[o,es,ep,e,d,r]=>#[o,es,ep,base_of e (noA e d),d,r];have hKb:K.In (kz Ì7 H):=λ b o e=>base_of (KX Ō) (by
   cases q:H b with
   | none=>rfl
   | some u=>
    have e':b=a:=hA b (å7);subst e';rw[hK (å7)] at e;cases e)
  have hM:Mod K mg (kz Ì7 H):=#[hKb,nsK hns,#[mb,nsK hb,hbb],let #[mc,h1,h2]:=hlim;#[mc,nsK h1,h2]];have e0:iP P w K mg (kz Ì7 H) callerA [] s₁ H:=#[rfl,hM,λ b o e=>IH e,zbS (GW Þ),trivial,λ b hb=>Ĵ (show b∈([]:ġ) from hb) #[],zI,.of_eq hg];exact ò9 ((F _ hKb (nsK hns)).run callerA [] s₁ H #[[í8],[]] [í8] [í8] Þ hr e0 (hbind s₁ (í8)) (À5 rfl ï4) (hsp H hO hS)) λ r s' h=>?_;cases r with
  | error e=>show (hCX H e s' h).elim
  | ok fl=>
   cases fl with
   | ret u=>
    let#[v,H',os,bare,un,hok',r',q]:=h;have q':v=.bl true:=q;subst q';obtain rfl:u=Value.bool true:=r';exact#[rfl,OldK.of_keep λ b o e=>?_,os,bare];cases q:H b with
    | none=>show un.keep Ō q (by intro z;show þ1) #[]
    | some u=>
     rcases hO b with z | ⟨ob,xs,z⟩
     .rw[q] at z;cases z
     .have z2:=un.k7 b ob _ z;let#[e1,_]:=zI b _ z;let#[e2,_]:=hok' b _ z2;rw[e] at e1;cases e1;show e2
   | _=>show Ū h
 cases hk:ã0 a with
 | some o=>
  have e:=KX a o hk;rw[ha] at e;cases e;exact core (ï1) (λ _=>Ć rfl) (ŝ #[_,Â2,_,hk,rfl,rfl,rfl,by rw[zA0,lenV];show hl,by exists rv]) (λ b u z=>by have z':(none:Û HO)=↑u:=z;cases z') (λ b z=>Ĵ rfl z) λ z=>Ĵ rfl z
 | none=>
  exact core (λ b=>if b=a then ↑(.pQ { cls:=ê,data:=.seq Â2 } (ő Á3)) else none) (λ b=>?_) (Ć (ŝ #[{ cls:=ê,data:=.seq Â2 },ĭ rfl])) (λ b u z=>?_) (λ b z=>?_) λ _=>hk
  .by_cases hb:b=a
   .show ŝ #[_,_,ĭ hb]
   .show Ć (Ę hb)
  .by_cases hb:b=a
   .have z':=(ĭ hb).symm.trans z;cases z';subst hb;show#[ha,by rw[zA7];show hl,vs,_,rv,ha]
   .have z':=(Ę hb).symm.trans z;cases z'
  .by_cases hb:b=a
   .show hb
   .show Ĵ (Ę hb) z
def Nl {l:PySem.W.OpenLaw}{n k:Nat}Â5{K:Params->zFr}{CX:World->mC}{sp:World->Sp}İ
  õ7 (hn2:n<=Ü) (hdf:d.params.defaults=[]) (hr:y8 k callerA)
  (hY:∀ Ù6 Ê9,YP w h->(ñ1).In h)
  (F:∀ Ù6 (mg:zSV) (fa:Addr) Ê9,(ñ1).In h->h.Ns Ð6 mg->mg d.name=↑(Ê fa)->
   ∃ fd:FuncData,(Ï1)/\
    ∀ base:Heap,(ñ1).In base->base.Ns Ð6 mg->pA l.prog w (ñ1) mg base (CX w) k fa fd [x] (sp w))
  (hsp:∀ Ù6 Ĕ Æ4 (ns:Æ3),Ø7<=n->Zd H->y7 (ñ1) H a Á3->sp w æ4)
  (hCX:∀ Ù6 Ĕ Ý6 (e:Í) ò0,CX w [] H s (û1) e s'->Ď):
  PySem.W.WalkO Ï4:=by
 exact OZ.Bi hn hdf λ w s₀ s₁ mg mb fa o pm cd doc a vs ns G Y ho hd hcd hmg hobj hints hlen hg=>?_;have KX:=hY w _ Y;let#[fd,hb,hF]:=F w mg fa _ KX G.T.g hmg;show Gk KX G.T.g G.T.b G.T.builtins G.T.nolimit hg hobj hints (zE0 hlen hn2) hr hF hb (λ H hO hS=>hsp w H a ns hlen hO hS) λ H e s'=>hCX w H s₁ e s'
def nQ (s:Stmt):Arguments:=match s with
 | .FunctionDef _ a å1 å1=>a
 | _=>{ posonlyargs:=[],args:=[],vararg:=none,kwonlyargs:=[],kw_defaults:=[],kwarg:=none,defaults:=[] }
def xV (s:Stmt):Ê4:=match s with
 | .FunctionDef Þ b å1 Þ _=>b
 | _=>[]
def yk (s:Stmt):Scope:=match s with
 | .FunctionDef å1 Þ sc Þ _=>sc
 | _=>{ kind:=ë5,names:=[],isGenerator:=Ú,isCoroutine:=Ú }
abbrev xn:mC:=λ _ _ _ _ _ _=>Ď
abbrev E0:XK:=û1
def fY Č:Passes xn X E0:=λ _ _ _ _ _ _ _ h=>h.elim
structure nC ß (x qual:Str) (st:Stmt) (f:Addr) (fd:FuncData):Prop where
 ex:∃ (oc:Í) (od:ù5) (kV doc pm:Í) (an:ù5) (cdv ct:Í) (osl:ì2),
  fd=ò/\ã0 f=↑#[oc,od,.func fd,osl]/\Î3
 kp:Õ0 K Ì3=true
section
variable {è}{Ĝ}{Æ7}
def nC.ok Â4 Ï3{N ps:ą}Û2{sp:Sp}Ý2 (S:pX N ps (yk st)) (len:Á2)
  (hbody:∀ (cdv:Í) õ (vs:Ò) Ò1 (E:XK),Ø0->ú3->
   ∃ t,qW Ú4/\ã2):pA Ė xn (k+1) f fd ps sp:=by
 ext Å6;exact EG lk hcd S len λ A Ŕ s H vs Q E hr hsp=>?_;let#[t,h,q]:=hbody cdv Ê1 vs Q E hr hsp;show#[t,h.rl,q]
def nC.binds Â4 Ï3{ps:ą}Ý2
  (h:∀ (kV doc pm:Í) (an:ù5) (cdv ct:Í) Ü9,us.length=Ñ5->bindArgs (ò) #[us,[]]=pure ç9):Binds K fd ps []:=by
 ext Å6;show .all (h ò2)
def az Â4{oc:Í}{od an:ù5}{osl:ì2}{kV doc pm cdv ct:Í}(l:ã0 f=↑#[oc,od,.func (ò),osl])
  (c:Î3) (k:Õ0 K Ì3=true):nC K x qual st f (ò):=#[#[oc,od,kV,doc,pm,an,cdv,ct,osl,rfl,l,c],k]
end
def gG ħ Û2(hr:y8 k A):A.units+1<cLine:=zbI (Nat.add_le_add_left (by decide:1<=64) _) hr.units
section
variable {Č}
def pv Å5 İ Ċ(hN:à0:=by rfl) (hv:i8 Ð8 x:=by first | show Or.inl rfl | show Or.inr (Or.inl rfl) | show Or.inr (Or.inr rfl)) Ä1
  Ù8:PE X Ť (oW i):=Y0 hN hv hd hcd
end
end L2
namespace PySem
theorem X8 í4:∀ (l:Ð1) (acc:ŷ),(∀ y∈l,y.2=Û6->∃ c,Ì9 y.1=↑c)->
  ∃ cl,(forIn l acc (λ(x:Str×NameKind) r=>if (x.2 == ť)=true then do let a <- cellOf env x.1;pure (á3 ((x.1,a)::r)) else pure (á3 r)):Sem (ŷ))=pure cl/\
   (∀ x c,ñ2->acc.lookup x=↑c\/((x,ť)∈l/\Ì9 x=↑c))/\(∀ x,(x,ť)∈l\/(acc.lookup x).isSome->û2)
 | [],acc,_=>#[acc,rfl,λ x c h=>Ć h,λ x h=>by exists h]
 | û3::l,acc,h=>by
  by_cases hk:k=Û6
  .subst hk;let#[c,hc]:=h (n,Û6) za1 rfl;let#[cl,e1,e2,e3]:=X8 l ((n,c)::acc) λ y hy=>h y (za2 _ hy);exact ã5
   .rw[zb7];simp![beq_self_eq_true,if_true,cellOf,hc];show e1
   .ext ü1
    .rw[za7] at q;cases hxn:x == n with
     | true=>
      rw[hxn] at q;have:x=n:=by exists hxn
      subst this;exact ŝ #[za1,?_];rw[hc];show q
     | Ú=>rw[hxn] at q;show Ć q
    .show ŝ #[za2 _ q1,q2]
   .exact e3 x ?_;rcases hx with hx | hx
    .ext Ð2
     .have:x=n:=ö1 Prod.fst q;subst this;show ŝ (by simp[za7])
     .show Ć q
    .exact ŝ ?_;rw[za7];cases x == n <;> simp[hx]
  .have hb:(k == ť)=Ú:=by exists hk
   let#[cl,e1,e2,e3]:=X8 l acc λ y hy=>h y (za2 _ hy);exact ã5
   .rw[zb7];simp![hb,zC4,if_false];show e1
   .ext ü1
    .show Ć q
    .show ŝ #[za2 _ q1,q2]
   .exact e3 x ?_;rcases hx with hx | hx
    .ext Ð2
     .show Ĵ (ö1 Prod.snd q).symm hk
     .show Ć q
    .show ŝ hx
def Qx Ú1 í4(h:∀ y∈ ľ,y.2=Û6->∃ c,Ì9 y.1=↑c):
  ∃ cl,closureFor ć env=pure cl/\(∀ x c,ñ2->å/\Ì9 x=↑c)/\∀ x,å->û2:=by
 let#[cl,e1,e2,e3]:=X8 (env:=env) ľ [] h;exact#[cl,?_,λ x c hx=>?_,λ x hx=>e3 x (Ć hx)]
 .simp![closureFor];rw[e1];rfl
 .rcases e2 x c hx with q | q
  .simp at q
  .show q
theorem TU í4:∀ {names:Ð1}İ,names.lookup x=↑ Û6->
  ñ=↑ Ò6\/
  ñ=↑ Û6
 | [],_,h=>á0
 | û3::r,x,h=>by
  have ih:=@TU env r x;change ý=_\/ý=_;cases hx:x == n with
  | true=>
   simp![za7,hx] at h;cases h;by_cases hc:(ť == ť&&Õ5&&â8 n == ↑ Ò6)=true
   .rw[ĭ hc];simp[za7,hx]
   .rw[Ę hc];simp[za7,hx]
  | Ú=>
   simp![za7,hx] at h;by_cases hc:Ä=true
   .rw[ĭ hc];simp![za7,hx];show ih h
   .rw[Ę hc];simp![za7,hx];show ih h
theorem Us í4:∀ {names:Ð1}İ,
  (ñ=↑ Ò6\/
  ñ=↑ Û6)->(x,ť)∈names\/(x,ŧ)∈names
 | [],_,h=>á0
 | û3::r,x,h=>by
  have ih:=@Us env r x;have h':ý=↑ Ò6\/ý=↑ Û6:=h;cases hx:x == n with
  | true=>
   have hxn:x=n:=by exists hx
   subst hxn;by_cases hc:(k == ť&&Õ5&&â8 x == ↑ Ò6)=true
   .simp![zE5] at hc;have:k=Û6:=by exists hc.1.1
    subst this;show Ć za1
   .rw[Ę hc] at h';simp![za7,beq_self_eq_true] at h';rcases h' with q | q
    .cases zD5 q;show ŝ za1
    .cases zD5 q;show Ć za1
  | Ú=>
   exact (ih ?_).imp (za2 _) (za2 _);by_cases hc:Ä=true
   .rw[ĭ hc] at h';simp![za7,hx] at h';show h'
   .rw[Ę hc] at h';simp![za7,hx] at h';show h'
theorem XD:∀ (names:Ð1) Ê9 (acc:ŷ),∃ own,ì1 ţ names acc=own++acc/\(∀ p∈own,(p.1,ŧ)∈names/\ţ<=p.2/\(pushCells h names).IsCell p.2 none)/\
  (own.Pairwise λ x y=>x.2≠y.2)/\∀ x,(x,ŧ)∈names->(ã6 x).isSome
 | [],h,acc=>#[[],rfl,λ _ hp=>(by cases hp),ï4,λ _ hx=>(by cases hx)]
 | û3::r,h,acc=>by
  unfold ì1 pushCells;split
  .rename_i hk;have hk':k=Ò6:=by exists hk
   subst hk';let#[own,e1,e2,e3,e4]:=XD r (h.push { cls:=ë1 "cell",data:=Ò6 none }) ((n,ţ)::acc);rw[Ë6] at e1 e2;exact#[own++[(n,ţ)],by rw[e1,zE8];rfl,ï9,?_,λ x hx=>?_]
   .rcases zB9.mp hp with q | q
    .let#[f1,f2,f3]:=e2 p q;show#[za2 _ f1,⋯,f3]
    .cases zB6.mp q;show#[za1,zA4 _,_,û4 å1 (Ç6),rfl]
   .exact zbV.mpr #[e3,zcB Þ,λ a ha b hb=>?_];cases zB6.mp hb;show zaF (e2 a ha).2.1
   .rw[zbW,Option.isSome_or];ext Ð2
    .cases q;simp[za7]
    .rw[e4 x q];rfl
  .rename_i hk;let#[own,e1,e2,e3,e4]:=XD r h acc;exact#[own,e1,λ p hp=>#[za2 _ (e2 p hp).1,(e2 p hp).2],e3,λ x hx=>?_];ext Ð2
   .cases q;simp at hk
   .show e4 x q
def Ha ü9 ħ Í4 Ý9 Ú1{globals:Addr}{closure:ŷ}{qual:Str}í4{Q:Env->À8}
  (hQ:∀ h',h'=pushCells (ß4) ľ->Q (newEnv ć À globals (ì1 Ñ4 ľ closure) qual none ç1 ↑env builtinsNs) { s with heap:=h' }):
  ç M A (newFunctionEnv ć globals closure [] qual none ç1 ↑env) Ò9:=by
 simp![newFunctionEnv,Option.isSome_some,if_true];exact zcO (wpAny_alloc ?_);exact zcO (wpAny_layCells _ (λ name kind cells=>by cases hkc:kind == ŧ <;> simp[hkc]) å1 ?_);rw[show ({ s with heap:=ß4 }:Ù).heap.objs.size=À+1 from Ë6 ..];simp![List.forIn_nil];show zcO (zD1 (zD1 (hQ _ rfl)))
end PySem
namespace L2
open PySem Ø2 Á7
def nZ í5 (σ:St):St:=pick.map λ o=>o.bind λ i=>(σ[i]?).join
def xm ô (N':ą) (ć:Scope) (cl:ŷ) ä1 Ý6 Ĕ (ex:ġ):Cx:=
 { X with N:=N',s₀:=s,H₀:=H,env:=Ñ7,Ŕ:=Â0,stack:=Â0,ex:=ex,fn:=λ x=>Ĳ (ċ x=↑ Ò6),pn:=[],xe:=ë6 }
def gj (N N':ą) í5 (ć:Scope):Bool:=(N'.zip pick).all λ p=>match p.2 with
 | none=>true
 | some j=>Ĳ (N[j]?=↑p.1)&&Ĳ (ċ p.1=↑ Û6)
structure kM ô (N':ą) í5 (ć:Scope):Prop where
 kind:scope.kind=ë5
 uniq:∀ y∈ ľ,ċ y.1=↑y.2
 free:∀ y∈ ľ,y.2=Û6->Ă y.1=↑ Ò6\/Ă y.1=↑ Û6
 len:pick.length=N'.length
 ok:gj X.N N' pick ć=true
def gj.get {N N':ą}ý5 Ú1(h:gj N N' pick ć=true) {i j:Nat}İ(h1:N'[i]?=↑x) (h2:pick[i]?=↑↑j):N[j]?=↑x/\ċ x=↑ Û6:=by
 unfold gj at h;have hm:(x,↑j)∈N'.zip pick:=by
  exact zB7 (i:=i) ?_;rw[List.getElem?_zip_eq_some];show#[h1,h2]
 have q:=zE4.mp h _ hm;simp![zE5,decide_eq_true_eq] at q;show q
def nZ.get ý5 À4 É8{v:V}(h:á4[i]?=↑↑v):∃ j,pick[i]?=↑↑j/\σ[j]?=↑↑v:=by
 unfold nZ at h;rw[zA3] at h;cases e:pick[i]? with
 | none=>rw[e] at h;cases h
 | some o=>
  rw[e] at h;cases o with
  | none=>simp at h
  | some j=>
   exact#[j,rfl,?_];simp![Option.map_some,Option.some.injEq,zC9] at h;cases q:σ[j]? with
   | none=>rw[q] at h;simp at h
   | some w=>rw[q] at h;simp at h;rw[h]
def PF ô (ifs:đ) (t:TT):Prop:=∀ Ã (Q:Î8),Á->t í Q->
 ç Â (forIn ifs true λ c r=>if r=true then do let ok <- isTrue c Ý (eval c Ý);pure (á3 ok) else pure (á3 r)) ã9
def K4 Č:PF X [] (λ _ H Q=>Q true H):=λ _ _ _ H _ I h=>wpAny_tests_nil #[H,I,h]
def K3 Č ö8{t:TT}(h:PT X c t):PF X [c] t:=λ gV s σ H Q I q=>wpAny_tests_one (h È Q I q)
def ZQ í5 (wi:TI) (g:TG) (tc:TT) (te:TE):TE:=fun σ H Q=>wi í λ J H1=>∀ D,H1 D=none->∃ W:ì0,(∃ m,W 0 m á4 (upd H1 D (ő [])))/\
 Å
section
variable {Č}{Ç}{N':ą}{ý5}{Ú1}{cl:ŷ}{C:Addr}{fp:ġ}
def GI (S:Ñ8) ë (hfp:ŉ) (hlt:∀ b∈fp,b<À)
  {h1:Heap}(c1:∀ x c,ñ2->(å/\Î)\/(ì4/\C<c/\h1.IsCell c none)) (c2:∀ x,å\/ì4->û2) (c3:∀ x y c,ñ2->cl.lookup y=↑c->x=y)
  {m1:zSV}Ô1(hC:À<C) (old:∀ b o,Ê7->h1.get? b=↑o) (hns:h1.Ns C m1)
  (hD:h1.get? À=↑{ cls:=ê,data:=.seq Ś 0 }):
  Inv Æ [] á4 (upd H À (ő [])) { s with heap:=h1,toks:=t' }:=by
 have hDn:H À=none:=ſ ģ;have hCn:H C=none:=ſ (zE3 hC);have cf:∀ x c,ñ2->(∃ v,h1.IsCell c v)/\(c<À\/C<c)/\upd H À (ő []) c=none:=λ x c e=>by
  rcases c1 á8 with ⟨_,q⟩ | ⟨_,q1,q2⟩
  .let#[v,o,z1,z2]:=à1 x c q;have hl:=zA8 z1;show#[#[v,o,old Þ z1,z2],Ć hl,by rw[yx (zB3 hl)];show I.lD x c q]
  .show#[#[_,q2],ŝ q1,by rw[yx (zaF (zaG hC q1))];show ſ (zE3 (zaG hC q1))]
 exact#[#[I.ok.mod,S.kind,I.ok.glob,I.ok.blt,zE3 hC,c3,λ x hx=>?_,λ x c hf e=>?_,I.ok.hd,I.ok.frames,Ć rfl,
  λ b hb=>#[zB3 (zaG (hlt b hb) hC),ç2],I.bs,zE0 I.ok.jw I.sz,λ b o e hb=>?_,λ b hb z=>?_,I.stack,I.VM],
  rfl,ù2,Un.laid old ģ hDn,#[m1,hns,λ i x v e1 e2 e3=>?_],ç2,?_,ç2,Ó1,I.zI.laid old ģ ?_,?_]
 .show zbT.mp (c2 x (Us hx))
 .have hf':=of_decide_eq_true (show Ĳ (ċ x=↑ Ò6)=true from hf);rcases c1 á8 with ⟨q,_⟩ | ⟨_,q,_⟩
  .rw[S.uniq _ q] at hf';cases hf'
  .show zE3 (zaG hC q)
 .rcases c1 á8 with ⟨_,q⟩ | ⟨_,q,_⟩
  .show (Ü6).2.2.2.2.1 x c q
  .show zaF (zaG (zaG (hlt b hb) hC) q)
 .rcases (Ü6).2.2.2.1 with z | z
  .show I.ok.eB Ō z
  .show Ĵ (zC3 (zA8 (ï8).1) z) (zE1 _)
 .rcases zA5.mp (I.ZV b z) with q | q
  .show (Ü6).2.1 q
  .show (Ü6).2.2.1 q
 .let#[j,p1,p2]:=nZ.get e2;let#[q1,q2]:=gj.get S.ok e1 p1;let#[m0,n0,l0]:=I.loc;have hm:å:=ē q2;have hk:Ă x=↑ Ò6\/Ă x=↑ Û6:=S.free _ hm rfl;let#[u,r,l]:=l0 j x v q1 p2 (ŝ hk);exact#[u,r,ŝ #[TU q2,?_]];rcases l with ⟨k,_⟩ | ⟨_,c,e,z⟩
  .have k':Ă x=↑ ò3:=k;rcases hk with hk | hk <;> (rw[k'] at hk;cases hk)
  .let#[c',e']:=zbT.mp (c2 x (Ć hm));have e'':Ó7 x=↑c':=by
    rcases c1 x c' e' with ⟨_,q⟩ | ⟨q,_⟩
    .show q
    .have:=S.uniq _ q;rw[q2] at this;cases this
   rw[e] at e'';cases e'';let#[o,z1,z2]:=z;show#[c,e',o,old Þ z1,z2]
 .show (cf á8).1
 .change upd H À (ő []) C=none;rw[yx (zaF hC)];show hCn
 .show (cf á8).2.2
 .show#[zD4 _,[],0,ï4,hD]
 .change (nZ pick σ).length=N'.length;unfold nZ;rw[zA7];show S.len
def GG í6 ë (hfp:ŉ) (hC:À<C)
  (I':û5) (hoC:s'.heap.get? C=↑oC):ñ3:=by
 have J:Ì5:=I.CM (ch:=fp) I'.os I'.base I'.zI I'.bare λ b hb=>#[(Ü6).2.2.2.1,(Ü6).2.1,(Ü6).2.2.2.2.1,(Ü6).2.2.2.2.2];exact J.Yx λ p hp=>ó8 (λ z=>J.pin p (zB4 _ z)) λ z=>?_;obtain rfl:p=(C,oC):=zB6.mp z;exact#[hoC,I'.free,zaF (zaG I.lt hC),I.T3 (zE3 hC),λ v hv=>?_];let#[m,#[o,es,ep,ho,hd,_],_]:=I'.loc;have ho':s'.heap.get? C=↑o:=ho;rw[hoC] at ho';cases ho';rw[hd] at hv;cases hv
def SN í6{h':Heap}ë (hC:À<C) (J:Inv X (gV++[(C,oC)]) Ļ s') (hs:ò5 C ç3 h'):Inv X gV Ļ { s' with heap:=h' }:=by
 have J':=J.fF;have hp:=J.pin ê4;have lt:∀ c,c<À->c≠C:=λ c h=>zB3 (zaG h hC);exact J'.turned (t':=s'.toks) (it:=C) (λ b o hb e=>hs.extBut b o hb e) hp.2.1 hp.2.2.1 (ŝ (zE0 I.sz (zE3 hC))) (λ x c e z=>?_) (λ p hq z=>?_)
 .let#[v,q]:=à1 á8;show lt c q.lt z
 .show lt p.1 (zA8 (I.pin p hq).1) z
end
section
variable {Č}{N':ą}{ý5}{Ú1}{elt iter tg:Expr}{ifs:đ}{Ċ}{wi:TI}{g:TG}{tc:TT}{te:TE}
def Gb Ç{it C:Addr}æ5{W:ì0}{Q:V->Ô}{R:Result->À8}{D:Addr}
  Ē (hg:PG Æ tg g) (hf:PF Æ ifs tc) (he:PE Æ elt te)
  (T:Ô7) (hfp:ŉ) (hstat:∀ b∈fp,b≠C/\b∉nK Â0/\∀ x c,ñ2->c≠b)
  (turn:Å)
  (fin:∀ σ' H' s',û5->Q û6 H'->R (.ok .next) s')
  {m0:Nat}{σ0:St}{H0:Hp}{s0:Ù}(I0:Inv Æ [] σ0 H0 s0) (t0:tn 0 s0.heap) (f0:∀ b∈fp,H0 b=none) (w0:W 0 m0 σ0 H0):
  ç7 Â (.compLoop Ï 0 à3 û6 (Ñ7)) R s0:=by
 have stat:∀ {H':Hp},(Ş)->∀ b∈fp,nW Æ [] H' b:=λ hn b hb=>#[hn b hb,(hstat b hb).1,(hstat b hb).2.1,Ć hb,(hstat b hb).2.2,Ó1];exact codeAny_loop rfl (λ n s'=>∃ i σ' H',û5/\tn i ç3/\(Ş)/\W i n Ļ) (λ n s3 hI=>?_) m0 #[0,σ0,H0,I0,t0,f0,w0];let#[i,σ3,H3,I3,st3,fr3,w3]:=hI;change ç _ X.A ((compTurn Ï 0 à3 û6 (Ñ7)).onRaise (λ x=>do noteFrame x (Ñ7);theTreesLotGoes x)) Þ s3;exact wpAny_noted ?_;rw[compTurn_list];exact ö4;rcases turn i n σ3 H3 w3 with ⟨stop,qn⟩ | ⟨go,step⟩
 .exact zH (T.done Æ ä0 [] s3 σ3 H3 _ Þ9 stop) λ r s4 #[hr,I4]=>?_;subst hr;show zD1 (fin σ3 H3 s4 I4 qn)
 .exact zH (T.item Æ ä0 [] s3 σ3 H3 _ Þ9 go) λ r s4 #[u,hr,h4]=>?_;subst hr;exact zcO Í1;ext ç0;exact zcO (zcU Ú8 (í9) Ü0);exact zcO (zcU (hf _ s6 σ6 H6 _ I6 q6) (λ ok s7 #[H7,I7,q7]=>?_) Ü0);have back:∀ {H8:Hp}{s8:Ù},Inv Æ ([]++fW fp s5.heap) σ6 H8 s8->(∃ m',m'<n/\W ù9 m' σ6 H8)->∃ m,m<n/\∃ i σ' H',Inv Æ [] Ļ s8/\tn i s8.heap/\(Ş)/\W i m Ļ:=λ{H8 s8} I8 #[m',hm,w8]=>by
   exact#[m',hm,i+1,σ6,H8,I8.fF,T.keep Þ _ st5 λ b hb o e=>(I8.pin Ż).1,ð0,w8];ext ý1;show (I8.pin Ż).2.1
  cases ok with
  | Ú=>
   rw[Ę za6] at q7;show zD1 #[rfl,back I7 q7]
  | true=>
   rw[ĭ rfl] at q7;exact zcO (zcO (zcU (he _ s7 σ6 H7 _ I7 q7) (λ uy s8 #[y,H8,I8,r8,ys,m',e8,z8,hm,w8]=>?_) Ü0));exact zcO (zcU (YE (X:=xm X N' ć cl C s H fp) _ s8 σ6 H8 û6 [y] û6 [uy] (λ _ H9=>W ù9 m' σ6 H9) I8 rfl (À5 r8 ï4) #[D,ys,y,rfl,rfl,e8,z8,w8]) (λ _ s9 #[_,H9,I9,_,q9]=>?_) Ü0);show zD1 (zD1 #[rfl,back I9 #[m',hm,q9]])
def Sg Ç{it:Addr}æ5{Q:V->Ô}Í4{RR:Í->Addr->Result->À8}
  (S:Ñ8) Ē û
  (c1:∀ x c,ñ2->å/\Î) (c2:∀ x,å->û2)
  ë (T:Ô7) (t0:tn 0 Ģ) (hfp:ŉ)
  (rd:∀ D,H D=none->∃ W:ì0,(∃ m,W 0 m á4 (upd H D (ő [])))/\
   Å)
  (fin:∀ C D oC H' s',À<C->ñ3->s'.heap.get? C=↑oC->(∃ m,s'.heap.Ns C m)->Q û6 H'->RR û6 C (.ok .next) s'):
  ç Â (newList []) (λ acc s₃=>ç Â (newFunctionEnv ć X.env.globals cl [] X.env.qual none ç1 ↑ Ý) (λ cenv s₄=>
   ç7 Â (.compStart Ï 0 à3 acc { cenv with ć:=relabel ć Ý }) (RR acc cenv.locals) s₄) E s₃) E s:=by
 exact zcY (Ha λ h₁ eh=>?_);dsimp only at eh ⊢;generalize hH2:É7 { cls:=ê,dict:=none,data:=.seq ([]:zLV).toArray }=H2 at eh ⊢;have hC:Ŷ=À+1:=by rw[<- hH2,Ë6]
 have hlt:À<Ŷ:=by rw[hC];show zE2 _
 have up:∀ b o,H2.get? b=↑o->h₁.get? b=↑o:=λ b o e=>by rw[eh];show û4 å1 (zcP _ e)
 have old:∀ b o,Ê7->h₁.get? b=↑o:=λ b o e=>up b o (hH2▸zcP _ e);have hacc:h₁.get? À=↑{ cls:=ê,data:=.seq Ś 0 }:=up Þ (hH2▸ Ç6);have hns₁:h₁.Ns Ŷ ï1:=by rw[eh];show (Heap.Ns.new H2 (ë1 "dict")).keeps (û4 Þ)
 let#[own,o1,o2,o3,o4]:=XD ľ (H2.push { cls:=ë1 "dict",data:=.dict Ś }) cl;rw[Ë6] at o1 o2;rw[<- eh] at o2;rw[o1];have d1:∀ x c,Í3 x=↑c->(å/\Î)\/(ì4/\Ŷ<c/\h₁.IsCell c none):=λ x c e=>by
  rw[zbW] at e;cases q:ã6 x with
  | some c'=>
   rw[q] at e;cases e;show ŝ (o2 _ (ē q))
  | none=>rw[q] at e;show Ć (c1 á8)
 have d2:∀ x,å\/ì4->(Í3 x).isSome:=λ x hx=>by
  rw[zbW,Option.isSome_or];rcases hx with hx | hx
  .rw[c2 x hx,Bool.or_true]
  .rw[o4 x hx];rfl
 have d3:∀ x y c,Í3 x=↑c->Í3 y=↑c->x=y:=λ x y c e1 e2=>by
  rw[zbW] at e1 e2;have low:∀ x c,ñ2->c<Ŷ:=λ x c e=>by
   let#[v,q]:=à1 x c (c1 á8).2;show zaG q.lt hlt
  have hi:∀ x c,ã6 x=↑c->Ŷ<c:=λ x c e=>(o2 _ (ē e)).2.1;cases q1:ã6 x with
  | some c1'=>
   rw[q1] at e1;cases e1;cases q2:ã6 y with
   | some c2'=>rw[q2] at e2;cases e2;show PySem.name_of_addr o3 (ē q1) (ē q2)
   | none=>rw[q2] at e2;show Ĵ (low y _ e2) (Nat.lt_asymm (hi x _ q1))
  | none=>
   rw[q1] at e1;cases q2:ã6 y with
   | some c2'=>rw[q2] at e2;cases e2;show Ĵ (low x _ e1) (Nat.lt_asymm (hi y _ q2))
   | none=>rw[q2] at e2;show I.ok.inj x y c (c1 x c e1).2 (c1 y c e2).2
 have hflt:∀ b∈fp,b<À:=λ b hb=>by
  let#[o,e,_]:=T.obj Þ t0 b hb;show ë2
 have hDn:H À=none:=ſ ģ;let#[W,#[m0,w0],turn]:=rd À hDn;have I0:=GI (t':=Š) S I hfp hflt d1 d2 d3 hlt old hns₁ hacc;have t1:tn 0 h₁:=T.keep Þ _ t0 λ b _ o e=>old Ō;have hst:∀ b∈fp,b≠ Ŷ/\b∉nK Â0/\∀ x c,Í3 x=↑c->c≠b:=λ b hb=>I0.ok.Xt b hb |> λ q=>#[q.1,I0.ok.e_ b hb,q.2]
 have loop:ç7 Â (.compLoop Ï 0 à3 (Ê À) (compEnvC ć (own++cl) Ŷ Ý)) (RR (Ê À) Ŷ) { s with heap:=h₁ }:=by
  exact Gb (σ:=σ) hc (hg å1 _) (hf å1 _) (he å1 _) T hfp hst turn (fun σ' H' s' I' q=>?_) I0 t1 (ð0) w0
  .let#[m,hn,_]:=I'.loc;have hn':s'.heap.Ns Ŷ m:=hn;let#[oC,es,ep,ho,hr]:=id hn';show fin Þ oC H' s' hlt (GG I hfp hlt I' ho) ho #[m,hn'] q
  .change upd H À (ő []) b=none;rw[yx (zB3 (hflt b hb))];show (Ü6).1
 show codeAny_compStart_list loop (T.self _ 0 Þ _ t1 loop)
def KR (S:Ñ8) Ē å2 û
  Ý0:PE X Ï (ZQ pick wi g tc te):=by
 ext À2;rw[eval_ListComp];exact wpAny_comprehension_free (use:=none) Ö2;ext É2;exact Sg (RR:=λ acc C=>compPost Â X.xe none (EP Ñ Q) acc C) S hc hg hf Ï8;let#[m,hn]:=hn;show#[m,hn,λ h' hs'=>#[Ê D,H',SN I2 hC J' hs',rfl,q]]
def L_ É8{y:Str}{py spos:Pos}(S:Ñ8) Ē å2 û
  (hN:X.N.Nodup) (hy:X.N[i]?=↑y) (hx:Loc Ð8 y)
  (hsw:swapsWith Ï ↑(.Name y py) spos.line Ý=pure true:=by rfl)
  (hfn:X.fn y=true\/Ă y=↑ ò3:=by ext ï3)
  Ý0:PS X (.Assign [.Name y py] Ï spos) (fJ (ZQ pick wi g tc te) (gO i)):=by
 ext À2;rw[exec_Assign_Name_used å1 hsw];exact ö4;change ç _ X.A (do let _ <- comprehension Ï ć Ý _ (newList []) Ú (eval iter Ý) ↑ Ù2) Þ s;exact zcO (zcU (wpAny_comprehension_free (use:=↑ Ù2) (Q:=λ _ s'=>SP X gV Q .next s') Ö2) (λ _ s' hq=>zD1 (zD1 hq)) λ _ _ e=>e)
 ext É2;exact Sg (Q:=λ x H1=>gO i x Ú0 Q.nx) (RR:=λ acc C=>compPost Â X.xe ↑ Ù2 (λ _ s'=>SP X gV Q .next s') acc C) S hc hg hf Ï8;change ç _ X.A (assign (.Name y py) Ý û6) Þ _;exact wpAny_assign_Name (ZU J' hN hy hx (v:=Ê D) rfl (λ s3 J3=>?_) hfn);have hp:=(J3.pin ê4).1;let#[m,o,es,ep,ho',hr]:=hn;have:o=oC:=zD5 (ho'.symm.trans ho);subst this;show#[m,#[o,es,ep,hp,hr],λ h' hs'=>#[_,H',SN I2 hC J3 hs',q]]
end
end L2
namespace L3
open PySem Ø2 L2
open Á7 hiding St
inductive D where
 | zC | bl (b:Bool) | int ü6 | str è6 | tup (ds:Ţ) | qC (ds:Ţ) | ref Æ4
def fh ß Ĕ Æ4 è7:Prop:=
 (∃ o,H a=↑(.pQ o É4))\/
  Ľ
def fh.sq Ĝ Ġ Ê6 ĺ(h:fh ŵ):y7 ŵ:=by
 rcases h with h | h
 .show Ć (ŝ h)
 .show ŝ h
mutual
def zj ß Ĕ:D->V->Prop
 | .zC,v=>v=.zC
 | .bl b,v=>v=.bl b
 | ó6,v=>v=ó6
 | å6,v=>v=å6
 | Õ6,v=>∃ a xs,v=í8/\yw ŵ/\Ŀ
 | .qC ds,v=>∃ a xs,v=í8/\fh ŵ/\Ŀ
 | í8,v=>v=í8
def zt ß Ĕ:Ţ->Ò->Prop
 | [],xs=>xs=[]
 | d::ds,xs=>∃ x r,xs=x::r/\Ñ9/\zt ě ds r
end
structure Ext (H H':Hp):Prop where
 tup:Ķ
 pQ:À7
 ext:∀ b φ,H b=↑(.ext φ)->H' b=↑(.ext φ)
 ds:∀ b x vs,H b=↑(.dS x vs)->∃ us,H' b=↑(.dS x us)
def Ext.refl Ĕ:Ext H H:=#[λ _ _ h=>h,λ _ _ _ h=>h,λ _ _ h=>h,λ _ _ _ h=>#[_,h]]
def Ext.trans {H H1 H2:Hp}(a:Ext H H1) (b:Ext H1 H2):Ext H H2:=#[λ c xs h=>b.tup c xs (a.tup c xs h),λ c o u h=>b.pQ c o u (a.pQ c o u h),λ c u h=>b.ext c u (a.ext c u h),λ c x u h=>by let#[_,h]:=a.ds c x u h;show b.ds c x _ h]
def Ext.new Ġ Ý1(h:H p=none) (o:HO):Ext H (upd H p o):=
 #[λ b xs q=>Ú2,λ b ob u q=>Ú2,λ b u q=>Ú2,λ b x u q=>#[u,Ú2]]
theorem Ext.lst Ġ Ý1 ĺ(h:H p=↑ É4) (o:HO):Ext H (upd H p o):=
 #[λ b ys q=>ı,λ b ob u q=>ı,λ b u q=>ı,λ b x u q=>#[u,ı]]
def Ext.cW Ĝ Å3 Ê6 ĺ æ6 (h:yw ŵ):yw K H' a xs:=by
 rcases h with (h | ⟨o,h⟩) | h
 .show Ć (Ć (e.tup Þ h))
 .show Ć (ŝ #[o,e.pQ Þ _ h])
 .show ŝ h
def Ext.cX Ĝ Å3 Ê6 ĺ æ6 (h:fh ŵ):fh K H' a xs:=by
 rcases h with ⟨o,h⟩ | h
 .show Ć #[o,e.pQ Þ _ h]
 .show ŝ h
section
variable {Ĝ}{Å3}
mutual
theorem zj.ext æ6:∀ (d:D) {v:V},ì5->zj K H' d v
 | .zC,v,h=>Ã1
 | .bl b,v,h=>Ã1
 | ó6,v,h=>Ã1
 | å6,v,h=>Ã1
 | í8,v,h=>Ã1
 | Õ6,v,h=>by
  ext Þ1;show#[a,xs,h1,e.cW h2,á5 e ds h3]
 | .qC ds,v,h=>by
  ext Þ1;show#[a,xs,h1,e.cX h2,á5 e ds h3]
theorem á5 æ6:∀ (ds:Ţ) ĺ,Ŀ->zt K H' ds xs
 | [],xs,h=>by simpa only [zt] using h
 | d::ds,xs,h=>by
  simp![zt] at h ⊢;ext ż;show#[x,r,h1,zj.ext e d h2,á5 e ds h3]
end
theorem zt.length:∀ é6 ĺ,Ŀ->È2=Ø
 | [],xs,h=>by ext â4;subst h;rfl
 | d::ds,xs,h=>by
  ext â4;let#[x,r,h1,_,h3]:=h;subst h1;simp[zt.length h3]
theorem zt.get:∀ é6 ĺ É8 ý6,Ŀ->ds[i]?=↑d->∃ x,Ð4/\Ñ9
 | [],_,i,d,_,e=>by simp at e
 | c::ds,xs,i,d,h,e=>by
  ext â4;ext ż;subst h1;cases i with
  | zero=>simp at e;subst e;show#[x,rfl,h2]
  | succ i=>
   let#[y,e1,e2]:=zt.get (i:=i) h3 (by exists e);show#[y,by simpa using e1,e2]
theorem zt.append:∀ {ds es:Ţ}ã7,Ŀ->zt ě es ys->zt ě (ds++es) (xs++ys)
 | [],es,xs,ys,h,h'=>by ext â4;subst h;exists h'
 | d::ds,es,xs,ys,h,h'=>by
  ext â4;ext ż;subst h1;change zt ě (d::(ds++es)) (x::(r++ys));simp![zt];show#[x,r++ys,rfl,h2,zt.append h3 h']
def zt.nil:zt ě [] []:=by simp![zt]
def zt.cons ý6 é6{x:V}ĺ(h:Ñ9) (h':Ŀ):zt ě (d::ds) (x::xs):=by
 simp![zt];show#[x,xs,rfl,h,h']
def zt.snoc ý6 é6{x:V}ĺ(h':Ŀ) (h:Ñ9):zt ě (ds++[d]) (xs++[x]):=h'.append (À5 h ï4)
theorem zt.ints:∀ {ns:Æ3}ĺ,zt ě (ú9 D.int) xs->xs=ú9 V.int
 | [],xs,h=>ö5
 | n::ns,xs,h=>by
  ext ê7;rw[zA6,zt.ints h3]
theorem zt.Y7:∀ (ns:Æ3),zt ě (ú9 D.int) Á3
 | []=>ï4
 | n::ns=>À5 (à) (zt.Y7 ns)
theorem zt.bools:∀ {ns:ï2}ĺ,zt ě (ú9 D.bl) xs->xs=ú9 V.bl
 | [],xs,h=>ö5
 | n::ns,xs,h=>by
  ext ê7;rw[zA6,zt.bools h3]
end
inductive O where
 | lst (ds:Ţ)
 | xa (kvs:õ0)
 | kX
 /-- an instance of Desk and its dict -/
 | zK (kvs:õ0)
abbrev SS:=Addr->Û O
def xG ß Ĕ:õ0->ê9->Prop:=Paired λ p q=>p.1=q.1/\zj ě p.2 q.2
def lj ß (c:Str) ä1:Prop:=PySem.W.nsIn K Ð6 c=↑↑ à9
def lL ß Ĕ Æ4:O->Prop
 | ő ds=>∃ xs,H a=↑ É4/\Ŀ
 | .xa kvs=>∃ vs,H a=↑(.dK vs)/\xG ě kvs vs
 | .kX=>∃ C dx,lj K "Desk" C/\H a=↑(.ins C dx [])
 | .zK kvs=>∃ C dx q vs,lj K "Desk" C/\H a=↑(.ins C dx [("kept",Ê q)])/\H q=↑(.dS a vs)/\xG ě kvs vs
def yo ß Ĕ (S:SS):Prop:=∀ a o,S a=↑o->lL ě a o
def ups (S:SS) Æ4 (o:O):SS:=λ b=>if b=a then ↑o else S b
def mF â1 Ê6{o:O}:ups S a o a=↑o:=by unfold ups;rw[ĭ rfl]
def lp â1{a b:Addr}{o:O}(h:b≠a):ups S a o b=S b:=by unfold ups;rw[Ę h]
def Sx (S S':SS):Prop:=∀ b o,S b=↑o->S' b=↑o
def Sx.refl (S:SS):Sx S S:=λ _ _ h=>h
def Sx.trans {S S1 S2:SS}(a:Sx S S1) (b:Sx S1 S2):Sx S S2:=λ c o h=>b c o (a c o h)
def Sx.new â1 Ý1(h:S p=none) (o:O):Sx S (ups S p o):=λ b u q=>by
 rw[lp (by intro z;subst z;rw[h] at q;cases q)];show q
theorem Sx.none {S S':SS}(e:Sx S S') Ý1(h:S' p=è3):S p=è3:=by
 cases q:S p with
 | none=>rfl
 | some o=>rw[e p o q] at h;cases h
section
variable {Ĝ}{Å3}{â1}
def lL.has Ê6{o:O}(h:lL ě a o):H a≠none:=by
 cases o with
 | lst ds=>let#[xs,h,_]:=h;rw[h];simp
 | xa kvs=>let#[xs,h,_]:=h;rw[h];simp
 | kX=>let#[C,dx,_,h]:=h;rw[h];simp
 | zK kvs=>let#[C,dx,q,vs,_,h,_]:=h;rw[h];simp
theorem yo.none (r:ů) Ý1(h:H p=è3):S p=è3:=by
 cases q:S p with
 | none=>rfl
 | some o=>show Ĵ h (r p o q).has
theorem xG.ext æ6 {kvs:õ0}{vs:ê9}(h:xG ě kvs vs):xG K H' kvs vs:=
 Paired.bV h λ p q z=>#[z.1,zj.ext e p.2 z.2]
def lL.keep Ê6{o:O}æ6 (k:∀ u,H a=↑u->H' a=↑u) (kd:∀ q vs,å0) (h:lL ě a o):lL K H' a o:=by
 cases o with
 | lst ds=>let#[xs,h1,h2]:=h;show#[xs,k _ h1,á5 e ds h2]
 | xa kvs=>let#[xs,h1,h2]:=h;show#[xs,k _ h1,h2.ext e]
 | kX=>let#[C,dx,h0,h1]:=h;show#[C,dx,h0,k _ h1]
 | zK kvs=>let#[C,dx,q,vs,h0,h1,h2,h3]:=h;show#[C,dx,q,vs,h0,k _ h1,kd Þ h2,h3.ext e]
theorem yo.keep æ6 (k:∀ a u o,S a=↑o->H a=↑u->H' a=↑u) (kd:∀ q a vs,å0) (r:ů):yo K H' S:=λ a o h=>(r a o h).keep e (λ u q=>k a u o h q) λ q vs z=>kd q a vs z
theorem yo.new Ý1{u:HO}(hp:H p=è3) (r:ů):yo K û7 S:=
 r.keep (Ext.new hp u) (λ a v o _ q=>by rw[yx (mL q hp)];show q) λ _ _ _ q=>by rw[yx (mL q hp)];show q
theorem yo.ups Ý1{u:HO}{o:O}(e:Ext H û7) (hn:lL K û7 p o) (r:ů) (hu:∀ x us,u≠.dS x us:=by show λ _ _=>nofun):yo K û7 (ups S p o):=λ a o' h=>by
 by_cases ha:a=p
 .subst ha;rw[mF] at h;cases h;show hn
 .rw[lp ha] at h;exact (r a o' h).keep e (λ v q=>by rw[yx ha];show q) λ q vs z=>?_;have hq:q≠p:=λ y=>by
   subst y;let#[us,e1]:=e.ds Þ _ z;rw[yO] at e1;show hu Þ (zD5 e1)
  rw[yx hq];show z
end
abbrev yX:=List (Û D)
def xF ß Ĕ (L:yX) (σ:St):Prop:=L.length=σ.length/\∀ Å5 (d:D),L[i]?=↑↑d->∃ v,σ[i]?=↑↑v/\ì5
theorem xF.ext Ĝ Å3{L:yX}À4 æ6 (r:ś):xF K H' L σ:=#[r.1,λ i d h=>by
 let#[v,h1,h2]:=r.2 i d h;show#[v,h1,zj.ext e d h2]]
theorem xF.set Ĝ Ġ{L:yX}À4 Å5 ý6{v:V}(r:ś) (h:ì5):xF ě (L.set i ↑d) à2:=by
 exact#[by rw[zbH,zbH];show r.1,λ j c hc=>?_];rw[zbX] at hc ⊢;by_cases hj:i=j
 .subst hj;rw[ĭ rfl] at hc ⊢;by_cases hl:i < L.length
  .rw[ĭ hl] at hc;rw[ĭ (by rw[<- r.1];show hl)];cases hc;show#[v,rfl,h]
  .rw[Ę hl] at hc;cases hc
 .rw[Ę hj] at hc ⊢;show r.2 j c hc
abbrev DK:=D->ĝ
abbrev zy:=yX->ó0
abbrev xf:=yX->SS->(ö6)->Prop
abbrev y6:=yX->SS->(Ţ->ĝ)->Prop
def yA (t:zy):Prop:=∀ L S (Q Q':DK),Ń->Ù3
def oh (t:xf):Prop:=∀ L S (Q Q':ö6),Ń->Ù3
def oS ý7:Prop:=∀ L S (Q Q':Ţ->ĝ),Ń->Ù3
def pk ß Ĕ Ò1:DK:=λ d S'=>∀ v H',ö7
def di ß Ĕ (Q:Î8):ö6:=λ b S'=>∀ H',Ŋ->Ù4->Q b H'
def DE ß Ĕ (Q:Ò->Ô):Ţ->ĝ:=λ ds S'=>∀ vs H',zt K H' ds vs->Ŋ->Ù4->Q vs H'
def oO ß Ĕ (Q:Ñ1):û8:=fun L S'=>∀ σ H',xF K H' L σ->Ŋ->Ù4->Q σ H'
def pk.ext Ĝ Å3{Q:VK}æ6 ý6 â1(h:pk ě Q d S):pk K H' Q d S:=æ1
def di.ext Ĝ Å3{Q:Î8}æ6 {d:Bool}â1(h:di ě Q d S):di K H' Q d S:=λ H2 x q=>h H2 (e.trans x) q
def oO.ext Ĝ Å3{Q:Ñ1}æ6 {d:yX}â1(h:oO ě Q d S):oO K H' Q d S:=æ1
def zQ ß (t:zy):TE:=fun σ H Q=>∃ L S,ś/\ů/\t L S (pk ě Q)
def qY ß (t:xf):TT:=fun σ H Q=>∃ L S,ś/\ů/\t L S (di ě Q)
def rX ß ý7:TA:=fun σ H Q=>∃ L S,ś/\ů/\t L S (DE ě Q)
structure PD ô ã8 (t:zy):Prop where
 mo:yA t
 pe:PE X e (zQ X.K t)
structure zE ô ã8 (t:xf):Prop where
 mo:oh t
 pt:PT X e (qY X.K t)
structure y9 ô (es:đ) ý7:Prop where
 mo:oS t
 pa:PA X es (rX X.K t)
def Ù5 Č Į{t t':TE}(h:PE X e t) ĥ:PE X e t':=Ő
def PT.imp Č Į{t t':TT}(h:PT X e t) ĥ:PT X e t':=Ő
def PA.imp Č{e:đ}{t t':TA}(h:PA X e t) ĥ:PA X e t':=λ pos gV s σ H Q I q=>h pos õ8
def PS.imp Č{e:Stmt}{t t':TS}(h:PS X e t) ó5:PS X e t':=á6
def qW.imp Č{e:Ê4}{t t':TS}(h:qW X e t) ó5:qW X e t':=á6
section
variable {Č}{Ĝ}
def ñ4 {t:zy}À4 Ġ{Q:VK}{L:yX}â1{R:DK}(mo:yA t) Ò2 (k:∀ d S' v H',R d S'->ö7):zQ K t í Q:=
 Ä6
def qY.go {t:xf}À4 Ġ{Q:Î8}{L:yX}â1{R:ö6}(mo:oh t) Ò2 (k:∀ d S' H',R d S'->Ŋ->Ù4->Q d H'):qY K t í Q:=
 #[L,S,r1,r2,mo ĵ (λ d S' q H' b c=>k d S' H' q b c) h]
def rX.go {t:y6}À4 Ġ{Q:Ò->Ô}{L:yX}â1{R:Ţ->ĝ}(mo:oS t) Ò2 (k:∀ d S' v H',R d S'->zt K H' d v->Ŋ->Ù4->Q v H'):rX K t í Q:=
 Ä6
def yN Å5:zy:=fun L S Q=>match L[i]? with
 | some ↑d=>Q d S
 | _=>Ď
def dC (d:D):zy:=λ _ S Q=>Q d S
def UX Å5 İ Ċ(h:PE X Ť (oW i)):PD X Ť (yN i):=by
 exact#[fun L S Q Q' hq h=>?_,Ù5 h Đ]
 .unfold yN at h ⊢;ext é7
  .show È3
  .show h
 .ext Ŏ;unfold yN at h;ext é7
  .rename_i d e;let#[v,h1,h2]:=r1.2 i d e;show#[v,h1,h v H h2 ó1 r2]
  ext ī
def dC.mo (d:D):yA (dC d):=λ _ _ _ _ hq h=>È3
def jU Į ý6{v:V}(h:PE X e (tC v)) (r:∀ H,zj é2 d v):PD X e (dC d):=
 #[dC.mo d,Ù5 h λ _ H _ #[_,_,_,r2,h]=>h v H (r H) ó1 r2]
def u9 {i j pos}:PD X (Ø5 (ó6) j pos) (dC (ó6)):=jU KU λ _=>à
def uQ {i j pos}:PD X (Ø5 (ù6 i) j pos) (dC (.bl i)):=jU Jd λ _=>à
def vX {j pos}:PD X (Ø5 ç1 j pos) (dC .zC):=jU KO λ _=>à
def x_ {x j pos}:PD X (Ø5 (å6) j pos) (dC (å6)):=jU KG λ _=>à
abbrev x8:=D->D->ó0
def qc (f:x8):Prop:=∀ x y S (Q Q':DK),Ń->f x y S Q->f x y S Q'
def wF ß (f:x8) (r:R2):Prop:=∀ x y d e H S Q,Ñ9->zj ě e y->ů->f d e S (pk ě Q)->r é4
def yT (f:x8) (ta tb:zy):zy:=fun L S Q=>ta L S λ x S1=>tb L S1 λ y S2=>f x y S2 Q
def yT.mo {f:x8}{ta tb:zy}(hf:qc f) Ã8:yA û9:=fun L S Q Q' hq h=>
 ha ĵ (λ x S1 h=>hb â2 (λ y S2 h=>hf x y S2 Þ hq h) h) h
def cK Ç3(hr:wF K f r) (hf:qc f) Ã8 À4 Ġ{Q:VK}(h:zQ K û9 í Q):fG r (zQ K ta) (zQ K tb) í Q:=by
 let#[L,S,r1,r2,h]:=h;exact ñ4 ha Þ8 h į;exact ñ4 hb é8;show hr v w x y H2 S2 Q (zj.ext e2 x q1) q2 p2 (hf x y S2 Þ (λ d S' z=>z.ext (Î7 e2)) h2)
def kU Ï7{op:Operator}Ċ Ç3(ho:yM X (Ç9 op) r) Ö3 É:PD X (.BinOp a op b pos) û9:=
 #[yT.mo hf ō,Ù5 (KJ ho Ö4) λ _ _ _ h=>cK hr hf ō h]
def jV Ï7 Ù9 Ċ Ç3 ļ Ö3 É (hm:ň):PD ŭ û9:=
 #[yT.mo hf ō,Ù5 (K_ ho Ö4 hm) λ _ _ _ h=>cK hr hf ō h]
def px (t:zy):xf:=fun L S Q=>t L S λ x S1=>match x with
 | .bl b=>Q b S1
 | _=>Ď
def px.mo {t:zy}(h:yA t):oh (px t):=fun L S Q Q' hq q=>h ĵ (λ d S' z=>by
 cases d <;> first
  | show á7
  | show z) q
def l8 Ï7 Ù9 Ċ Ç3 ļ Ö3 É (hm:ň):zE ŭ (px û9):=by
 exact#[px.mo (yT.mo hf ō),PT.imp (LS ho Ö4 hm) fun σ H Q h=>?_];let#[L,S,r1,r2,h]:=h;exact cK hr hf ō #[L,S,r1,r2,yT.mo hf ō ĵ (λ d S' z v H' a b c=>?_) h];cases d with
 | bl k=>simp![zj] at a;show#[k,a,z H' b c]
 | _=>show z.elim
def fI (C:Ô9) (g:Ò0):x8:=λ x y S Q=>match x,y with
 | ó6,ì j=>C i j/\Q Í2 S
 | _,_=>Ď
def fI.mo {C:Ô9}{g:Ò0}:qc (fI C g):=λ x y S Q Q' hq h=>by
 unfold fI at h ⊢;ext é7
 .show ì6
 ext ī
def zF (g:Ò0):x8:=λ x y S Q=>match x,y with
 | ó6,ì j=>Q Í2 S
 | _,_=>Ď
def zF.mo {g:Ò0}:qc (zF g):=λ x y S Q Q' hq h=>by
 unfold zF at h ⊢;ext é7
 .show È3
 ext ī
def fI.fits {C:Ô9}Ī:wF K (fI C g) (rI C g'):=λ x y d e H S Q h1 h2 h3 h=>by
 unfold fI at h;ext é7
 .ext Û3;show#[_,_,h1,h2,h.1,h.2 _ H (hg Þ H) ó1 h3]
 ext ī
def zF.fits Ī:wF K (zF g) (ou g'):=λ x y d e H S Q h1 h2 h3 h=>by
 unfold zF at h;ext é7
 .ext Û3;show#[_,_,h1,h2,h _ H (hg Þ H) ó1 h3]
 ext ī
variable {Ï7}{ta tb:zy}{Ċ}
def vJ É:PD X (.BinOp a .Sub b pos) (yT (zF λ i j=>ì (i-j)) ź):=kU JD (Å4) zF.mo ha hb
def uc É:PD X (.BinOp a .Mod b pos) (yT (fI (λ _ j=>0<j) λ i j=>ì (i%j)) ź):=kU JK Ž
def uH É:PD X (.BinOp a .FloorDiv b pos) (yT (fI qd λ i j=>ì (i/j)) ź):=kU JQ Ž
def vS É:PD X (.BinOp a .Pow b pos) (yT (fI jI λ i j=>ì (i ^ j.toNat)) ź):=kU JF Ž
def vR É:PD X (.BinOp a .RShift b pos) (yT (fI í3) ź):=kU JE Ž
def uR É:PD X (.BinOp a .BitAnd b pos) (yT (zF ò7) ź):=kU JU (Å4) zF.mo ha hb
abbrev aA:x8:=zF Þ2
abbrev Xs:x8:=zF à5
abbrev aB:x8:=zF Þ3
def fit_le:wF K aA (ou Þ2):=Å4
def EV:wF K Xs (ou à5):=Å4
def Rx:wF K aB (ou Þ3):=Å4
def uv É:PD X (ã1 a [.LtE] [b] pos) (yT aA ź):=jV zL fit_le Ê2
def uG É:PD X (ã1 a [.GtE] [b] pos) (yT aB ź):=jV Ts Rx Ê2
def wU É:zE X (ã1 a [.LtE] [b] pos) (px (yT aA ź)):=l8 zL fit_le Ê2
def wZ É:zE X (ã1 a [.Gt] [b] pos) (px (yT Xs ź)):=l8 JP EV Ê2
def w_ É:zE X (ã1 a [.GtE] [b] pos) (px (yT aB ź)):=l8 Ts Rx Ê2
end
section
variable {Č}{Ĝ}{a b c:Expr}{ta tb:zy}{Ċ}
def dA (ta tb:zy):zy:=fun L S Q=>ta L S λ x S1=>match x with
 | .bl k=>if k=true then tb L S1 Q else Q (.bl Ú) S1
 | _=>Ď
def dr (ta tb:zy):zy:=fun L S Q=>ta L S λ x S1=>match x with
 | .bl k=>if k=true then Q (.bl true) S1 else tb L S1 Q
 | _=>Ď
def du (ta:zy):zy:=fun L S Q=>ta L S λ x S1=>match x with
 | .bl k=>Q (.bl (!k)) S1
 | _=>Ď
def ph {c:Prop} [Decidable c] {A B A' B':Prop}(h1:A->A') (h2:B->B') (h:if c then A else B):if c then A' else B':=by
 by_cases q:c
 .rw[ĭ q] at h ⊢;show h1 h
 .rw[Ę q] at h ⊢;show h2 h
def dA.mo Ã8:yA (dA ź):=fun L S Q Q' hq h=>ha ĵ (λ x S1 z=>by
 cases x <;> first
  | show ph (hb â2 hq) (hq Þ) z
  | show z) h
def dr.mo Ã8:yA (dr ź):=fun L S Q Q' hq h=>ha ĵ (λ x S1 z=>by
 cases x <;> first
  | show ph (hq Þ) (hb â2 hq) z
  | show z) h
def du.mo (ha:yA ta):yA (du ta):=fun L S Q Q' hq h=>ha ĵ (λ x S1 z=>by
 cases x <;> first
  | show á7
  | show z) h
def vV {op} {t:zy}(h:PD X a t):PD X (ŗ op [a] pos) t:=#[h.mo,KL h.pe]
variable {rest:đ}
theorem uU Ö5 (hb:PD é1 tb):PD î4 (dA ź):=by
 exact#[dA.mo ō,Ù5 (Je Ö4) Đ];ext Ó;cases x with
 | bl k=>
  ext Ô5;exact#[k,q1,Ä9]
  .show ñ4 hb.mo ó
  .show z _ H1 (à) e1 p1
 | _=>show ñ5
theorem vU Ö5 (hb:PD î5 tb):PD õ5 (dr ź):=by
 exact#[dr.mo ō,Ù5 (KI Ö4) Đ];ext Ó;cases x with
 | bl k=>
  ext Ô5;exact#[k,q1,Ä9]
  .show z _ H1 (à) e1 p1
  .show ñ4 hb.mo ó
 | _=>show ñ5
theorem vW Ö5:PD É9 (du ta):=by
 exact#[du.mo ha.mo,Ù5 (KN ha.pe) Đ];ext Ó;cases x with
 | bl k=>
  ext Ô5;show#[k,q1,h1 _ H1 (à) e1 p1]
 | _=>show ñ5
def dh (t u:xf):xf:=fun L S Q=>t L S λ k S1=>if k=true then u L S1 Q else Q Ú S1
def df (t u:xf):xf:=fun L S Q=>t L S λ k S1=>if k=true then Q true S1 else u L S1 Q
def dg (t:xf):xf:=fun L S Q=>t L S λ k S1=>Q (!k) S1
variable {t u:xf}
def dh.mo (h:oh t) (h':oh u):oh (dh t u):=fun L S _ _ hq z=>h ĵ (λ k S1 z=>ph (h' â2 hq) (hq Þ) z) z
def df.mo (h:oh t) (h':oh u):oh (df t u):=fun L S _ _ hq z=>h ĵ (λ k S1 z=>ph (hq Þ) (h' â2 hq) z) z
def dg.mo (h:oh t):oh (dg t):=fun L S _ _ hq z=>h ĵ (λ k S1 z=>á7) z
structure xy ô ã8 (t:xf):Prop where
 mo:oh t
 pw:PW X e (qY X.K t)
def PW.imp Į{t t':TT}(h:PW X e t) ĥ:PW X e t':=λ whole gV s σ H Q I q=>h whole õ8
theorem xy.pt Į{t:xf}(h:xy X e t):zE X e t:=#[h.mo,PW.pt h.pw]
def wL (h:zE X a t):xy X (ŗ .And [a] pos) t:=#[h.mo,LJ h.pt]
def wK (h:zE X a t):xy X (ŗ .Or [a] pos) t:=#[h.mo,LH h.pt]
def yC (ha:zE X a t) (hb:xy é1 u):xy î4 (dh t u):=by
 exact#[dh.mo ō,PW.imp (LK ha.pt hb.pw) Đ];ext Ŏ;exact qY.go ha.mo Þ8 h λ k S1 H1 h1 e1 p1=>ph ú7 (λ z=>z ê5) h1;show Ä7
def yB (ha:zE X a t) (hb:xy î5 u):xy õ5 (df t u):=by
 exact#[df.mo ō,PW.imp (LI ha.pt hb.pw) Đ];ext Ŏ;exact qY.go ha.mo Þ8 h λ k S1 H1 h1 e1 p1=>ph (λ z=>z ê5) ú7 h1;show Ä7
def wQ (ha:zE X a t):zE É9 (dg t):=by
 exact#[dg.mo ha.mo,PT.imp (LR ha.pt) Đ];ext Ŏ;show qY.go ha.mo Þ8 h λ k S1 H1 h1 e1 p1=>h1 ê5
def dv (t:xf) (ta tb:zy):zy:=fun L S Q=>t L S λ k S1=>if k=true then ta L S1 Q else tb L S1 Q
def dv.mo (h:oh t) Ã8:yA (dv t ź):=fun L S _ _ hq z=>h ĵ (λ k S1 z=>ph (ha â2 hq) (hb â2 hq) z) z
def uC (hc:zE X c t) É:PD X (.IfExp c a b pos) (dv t ź):=by
 exact#[dv.mo hc.mo ō,Ù5 (KY hc.pt Ö4) Đ];ext Ŏ;exact qY.go hc.mo Þ8 h λ k S1 H1 h1 e1 p1=>Ä9
 .show ñ4 ha.mo ó
 .show ñ4 hb.mo ó
def oV (d:D) (S:SS) (Q:ö6):Prop:=match d with
 | .zC=>Q Ú S
 | .bl k=>Q k S
 | ó6=>Q (i != 0) S
 | å6=>x.length<=Ü/\Q ((x.length:Int) != 0) S
 | Õ6=>ñ6
 | .qC ds=>ñ6
 | Ê p=>match S p with
  | Ì8=>ñ6
  | some (.xa kvs)=>Q (!kvs.isEmpty) S
  | _=>Ď
def Xz (ta:zy):xf:=fun L S Q=>ta L S λ x S1=>oV x S1 Q
def oV.mo ý6 â1{Q Q':ö6}(hq:∀ k S',Q k S'->Q' k S') (h:oV d S Q):oV d S Q':=by
 cases d with
 | str x=>show ì6
 | ref p=>
  unfold oV at h ⊢;dsimp only at h ⊢;ext é7
  .show È3
  .show È3
  .show h
 | _=>show È3
theorem zt.isEmpty Ġ é6 ĺ(h:Ŀ):ds.isEmpty=Ø6:=by
 have:=h.length;cases ds <;> cases xs <;> simp_all
def B6 {α β:Type}{F:α->β->Prop}{xs:List α}{ys:List β}(h:Paired F xs ys):Ø6=ys.isEmpty:=by cases h <;> rfl
def oV.fits Ġ ý6{v:V}â1{Q:Î8}(r:ì5) (p:ů) (h:oV d S (di ě Q)):∃ k,Wt K v H k/\Q k H:=by
 cases d with
 | zC=>ext Í8;show#[Ú,rfl,ì7]
 | bl k=>ext Í8;show#[k,rfl,ì7]
 | int i=>ext Í8;show#[_,rfl,ì7]
 | str x=>ext Í8;show#[_,#[h.1,rfl],h.2 H Ĥ p]
 | tup ds=>
  ext ï0;show#[_,ŝ (Ć #[xs,r1,ô7]),ì7]
 | qC ds=>
  ext ï0;show#[_,Ć #[xs,r1.sq,ô7],ì7]
 | ref a=>
  ext Í8;unfold oV at h;dsimp only at h;ext é7
  .rename_i ds e;let#[xs,e1,r2]:=p a _ e;show#[_,Ć #[xs,y7.of e1,ô7],ì7]
  .rename_i kvs e;let#[xs,e1,r2]:=p a _ e;show#[_,ŝ (ŝ #[xs,e1,by rw[B6 r2]]),ì7]
  ext ī
def wN Ö5 Á4:zE X a (Xz ta):=by
 exact#[fun L S Q Q' hq h=>ha.mo ĵ (λ x S1 z=>oV.mo hq z) h,PT.imp (LQ ha.pe he) Đ];ext Ó;show oV.fits q1 p1 (oV.mo (λ k S' z=>z.ext e1) h1)
def lH:y6:=λ _ S Q=>Q [] S
def nR (te:zy) (tr:y6):y6:=fun L S Q=>te L S λ x S1=>tr L S1 λ xs S2=>Q (x::xs) S2
variable {Į}{é3}{te:zy}{tA:y6}
def nR.mo (h:yA te) (h':oS tA):oS (nR te tA):=fun L S _ _ hq z=>h ĵ (λ x S1 z=>h' â2 (λ xs S2 z=>á7) z) z
def wt:y9 X [] lH:=#[λ _ _ _ _ hq h=>È3,PA.imp ki fun σ H Q #[_,_,_,r2,h]=>h [] H ï4 Ĥ r2]
def wu (ha:PD X e te) (hr:y9 X es tA) (hs:zEE X e es):y9 X Ð7 (nR te tA):=by
 exact#[nR.mo ha.mo hr.mo,PA.imp (kj ha.pe hr.pa hs) Đ];ext Ó;exact rX.go hr.mo (È4) p1 h1 λ xs S2 w H2 h2 q2 e2 p2=>?_;show h2 (v::w) H2 (À5 (zj.ext e2 x q1) q2) (Î7 e2) p2
def R_ ý7:zy:=fun L S Q=>t L S λ ds S1=>È2<=Ü/\Q (Õ6) S1
def Qf ý7:zy:=fun L S Q=>t L S λ ds S1=>È2<=Ü/\∀ p,S1 p=none->Q ú2 (ups S1 p (ő ds))
def vH {k} (h:y9 X es tA):PD X ð2 (R_ tA):=by
 exact#[fun L S _ _ hq z=>h.mo ĵ (λ ds S1 z=>Ó9) z,Ù5 (KD h.pa) Đ];ext ņ;exact h1.2 Þ ?_ (Î7 è4) (p1.new hp);simp![zj];show#[p,xs,rfl,yw.of yO,á5 è4 ds q1]
theorem uo (h:y9 X es tA):PD X (.List es pos) (Qf tA):=by
 exact#[fun L S _ _ hq z=>h.mo ĵ (λ ds S1 z=>#[z.1,λ p hp=>hq Þ (z.2 p hp)]) z,Ù5 (KQ h.pa) Đ];ext ņ;exact h1.2 p (p1.none hp) Þ (à) (Î7 è4) ?_;show p1.ups è4 #[xs,yO,á5 è4 ds q1]
def pR:x8:=λ x y S Q=>match x,y with
 | Õ6,ó6=>match yt ds i with
  | some d=>Q d S
  | none=>Ď
 | .qC ds,ó6=>match yt ds i with
  | some d=>Q d S
  | none=>Ď
 | Ê p,ó6=>match S p with
  | Ì8=>match yt ds i with
   | some d=>Q d S
   | none=>Ď
  | _=>Ď
 | .str z,ó6=>ã3<=Ü/\match yt z.cps.toList i with
  | some c=>Q (è1) S
  | none=>Ď
 | _,_=>Ď
def pR.mo:qc pR:=λ x y S Q Q' hq h=>by
 unfold pR at h ⊢;ext é7
 .skip
  ext é7
  .show È3
  .show h
 .skip
  ext é7
  .show È3
  .show h
 .skip
  ext é7
  .skip
   ext é7
   .show È3
   .show h
  ext ī
 .let#[h0,h]:=h;exact#[h0,?_];ext é7
  .show È3
  .show h
 ext ī
theorem zt.yt Ġ é6 ĺ{i:Int}ý6(h:Ŀ) (e:L2.yt ds i=↑d):∃ x,L2.yt xs i=↑x/\Ñ9:=by
 unfold L2.yt at e ⊢;rw[h.length] at e;cases q:qj Ø i with
 | none=>rw[q] at e;cases e
 | some j=>
  rw[q] at e;show h.get e
def pR.fits:wF K pR (U9 K):=λ x y d e H S Q h1 h2 h3 h=>by
 unfold pR at h;ext é7
 .ext é7
  .ext Â7;show ŝ (Ć #[a,xs,_,x',rfl,h2,r1,e1,ü4])
  ext ī
 .ext é7
  .ext Â7;show Ć #[a,xs,_,x',rfl,h2,r1.sq,e1,ü4]
  ext ī
 .ext é7
  .rename_i q0;ext é7
   .rename_i q;ext Û3;subst h1;let#[xs,r1,r2]:=h3 Þ q0;let#[x',e1,e2]:=r2.yt q;show Ć #[_,xs,_,x',rfl,h2,y7.of r1,e1,ü4]
   ext ī
  ext ī
 .let#[h0,h]:=h;ext é7
  .rename_i q;ext Û3;show ŝ (ŝ #[_,_,_,h1,h2,h0,q,h _ H (à) Ĥ h3])
  ext ī
 ext ī
def uz É (hs:PL b):PD X (ð3 a b pos) (yT pR ź):=
 #[yT.mo pR.mo ō,Ù5 (KS G4 Ö4 hs) λ _ _ _ h=>cK pR.fits pR.mo ō h]
abbrev xx:=Ţ->ó0
def qA (f:xx):Prop:=∀ ds S (Q Q':DK),Ń->f ds S Q->f ds S Q'
def pB ß (f:xx) (r:Ý4):Prop:=∀ xs ds H S Q,Ŀ->ů->f ds S (pk ě Q)->r xs H Q
def qo (f:xx) ý7:zy:=fun L S Q=>t L S λ ds S1=>f ds S1 Q
def qo.mo {f:xx}(hf:qA f) (h:oS tA):yA (qo f tA):=fun L S _ _ hq z=>h ĵ (λ ds S1 z=>hf ds S1 Þ hq z) z
def V5 {f:xx}{r:Ý4}(hf:qA f) (hr:pB K f r) (h:oS tA) À4 Ġ{Q:VK}(hu:zQ K (qo f tA) í Q):cT r (rX K tA) í Q:=by
 let#[L,S,r1,r2,h']:=hu;exact rX.go h Þ8 h' ô8;show hr xs ds H1 S1 Q q1 p1 (hf ds S1 Þ (λ d S' z=>z.ext e1) h1)
def ma {f:xx}{r:Ý4}Į(h:PE X e (cT r ü5)) (hf:qA f) (hr:pB X.K f r) (ha:oS tA):PD X e (qo f tA):=
 #[qo.mo hf ha,Ù5 h λ _ _ _ hu=>V5 hf hr ha hu]
def y4 (d:D) (S:SS):Û (Ţ):=match d with
 | Õ6=>↑ds
 | .qC ds=>↑ds
 | Ê p=>match S p with
  | Ì8=>↑ds
  | _=>none
 | _=>none
theorem y4.sq Ġ â1 ý6{v:V}é6(r:ì5) (p:ů) (e:y4 d S=↑ds):∃ a xs,v=í8/\(y7 ŵ\/yw ŵ)/\Ŀ:=by
 unfold y4 at e;split at e
 .ext Ú6;show#[a,xs,h1,ŝ h2,h3]
 .ext Ú6;show#[a,xs,h1,Ć h2.sq,h3]
 .split at e
  .rename_i q;cases e;ext Í8;let#[xs,h1,h2]:=p Þ q;show#[_,xs,rfl,Ć (y7.of h1),h2]
  .cases e
 .cases e
def zt.one Ġ ý6 ĺ(h:zt ě [d] xs):∃ x,xs=[x]/\Ñ9:=by
 ext â4;let#[x,r,rfl,h2,rfl]:=h;show#[x,rfl,h2]
def zt.two Ġ{d d':D}ĺ(h:zt ě [d,d'] xs):∃ x y,xs=[x,y]/\Ñ9/\zj ě d' y:=by
 ext â4;let#[x,r,rfl,h2,y,r',rfl,h3,rfl]:=h;show#[x,y,rfl,h2,h3]
def mw:xx:=λ ds S Q=>match ds with
 | [d]=>match y4 d S with
  | some ds=>Q (ì È2) S
  | none=>match d with
   | .str z=>ã3<=Ü/\Q (ì ã3) S
   | _=>Ď
 | _=>Ď
def mw.mo:qA mw:=λ ds S Q Q' hq h=>by
 unfold mw at h ⊢;ext é7
 .skip
  ext é7
  .show È3
  .ext é7
   .show ì6
   ext ī
 ext ī
abbrev LF ß:Ý4:=λ xs H Q=>(∃ p ys,Ù0/\(y7 ě p ys\/yw ě p ys)/\Q (ì Ñ6) H)\/(Ò8)
def mw.fits:pB K mw (LF K):=λ xs ds H S Q h0 h2 h=>by
 unfold mw at h;ext é7
 .ext ř;ext é7
  .ext Û0;exact Ć #[a,ys,rfl,q,?_];rw[<- Ë4];show h _ H (à) Ĥ h2
  .ext é7
   .simp![zj] at h1;subst h1;show ŝ #[_,rfl,h.1,h.2 _ H (à) Ĥ h2]
   ext ī
 ext ī
def mv:xx:=λ ds S Q=>match ds with
 | [d]=>match y4 d S with
  | some ds=>∀ p,S p=none->Q ú2 (ups S p (ő ds))
  | none=>Ď
 | _=>Ď
def mv.mo:qA mv:=λ ds S Q Q' hq h=>by
 unfold mv at h ⊢;ext é7
 .skip
  ext é7
  .show λ p hp=>hq Þ (h p hp)
  ext ī
 ext ī
def mv.fits:pB K mv (λ xs H Q=>∃ p ys,Ù0/\(y7 ě p ys\/yw ě p ys)/\Þ5):=λ xs ds H S Q h0 h2 h=>by
 unfold mv at h;ext é7
 .ext ř;ext é7
  .ext Û0;exact#[a,ys,rfl,q,λ l hl=>?_];show h l (h2.none hl) Þ (à) Ü7 (h2.ups Ü7 #[ys,yO,á5 Ü7 _ r])
  ext ī
 ext ī
def mn:xx:=λ ds S Q=>match ds with
 | [Õ6]=>Q (Õ6) S
 | [.qC ds]=>Q (Õ6) S
 | [Ê p]=>match S p with
  | Ì8=>Q (Õ6) S
  | _=>Ď
 | _=>Ď
def mn.mo:qA mn:=λ ds S Q Q' hq h=>by
 unfold mn at h ⊢;ext é7
 .show È3
 .show È3
 .skip
  ext é7
  .show È3
  ext ī
 ext ī
def mn.fits:pB K mn (λ xs H Q=>∃ p ys,Ù0/\((y7 ě p ys/\Ü5)\/(yw ě p ys/\Q ú2 H))):=λ xs ds H S Q h0 h2 h=>by
 unfold mn at h;ext é7
 .ext ř;have h1':=h1;simp![zj] at h1;ext Ò5;show#[a,xs,rfl,ŝ #[r1,h _ H h1' Ĥ h2]]
 .ext ř;simp![zj] at h1;ext Ò5;exact#[a,xs,rfl,Ć #[r1.sq,ñ7]];simp![zj];show Ï6
 .ext ř;ext é7
  .rename_i e;simp![zj] at h1;subst h1;let#[xs,r1,r2]:=h2 Þ e;exact#[_,xs,rfl,Ć #[y7.of r1,ñ7]];simp![zj];show Ï6
  ext ī
 ext ī
def nN (g:Ò0):xx:=λ ds S Q=>match ds with
 | Î9=>Q Í2 S
 | _=>Ď
def nN.mo {g:Ò0}:qA (nN g):=λ ds S Q Q' hq h=>by
 unfold nN at h ⊢;ext é7
 .show È3
 ext ī
def nN.fits Ī:pB K (nN g) (λ xs H Q=>∃ i j,xs=Î9/\Q (g' i j) H):=λ xs ds H S Q h0 h2 h=>by
 unfold nN at h;ext é7
 .let#[x,y,hx,h1,h3]:=h0.two;subst hx;simp![zj] at h1 h3;subst h1 h3;show#[_,_,rfl,h _ H (hg Þ H) Ĥ h2]
 ext ī
def zam:x8:=λ x y S Q=>match x,y with
 | Ê p,Ê q=>match S p,S q with
  | Ì8,↑(ő es)=>È2+es.length<=Ü/\∀ r,S r=none->Q (Ê r) (ups S r (ő (ds++es)))
  | _,_=>Ď
 | _,_=>Ď
def mz (to te:zy):zy:=fun L S Q=>to L S λ x S1=>match x with
 | Ê p=>(∃ ds,S1 p=↑(ő ds))/\te L S1 λ y S2=>match S2 p with
  | Ì8=>È2<Ü/\Q .zC (ups S2 p (ő (ds++[y])))
  | _=>Ď
 | _=>Ď
def mz.mo {to te:zy}å4:yA (mz to te):=fun L S Q Q' hq z=>h ĵ (λ x S1 z=>by
 cases x with
 | ref p=>
  exact#[z.1,h' â2 (λ y S2 w=>?_) z.2];split at w
  .show#[w.1,hq Þ w.2]
  .show w.elim
 | _=>show z) z
theorem Pr {to te:zy}å4 (σ:St) Ĕ Ò1 (hu:zQ K (mz to te) í Q):jP K "list" Yu (zQ K to) (fH (zQ K te) iT) í Q:=by
 ext ä;exact ñ4 h Þ8 z į;cases x with
 | ref p=>
  let#[#[ds,hd],h1]:=h1;ext Ô5;subst q1;let#[xs,g1,g2]:=p1 Þ hd;exact#[Ć #[rfl,xs,y7.of g1],?_];exact ñ4 h' é8;split at h2
  .rename_i ds' e3;let#[xs',g3,g4]:=p2 Þ e3;exact#[p,xs',w,rfl,rfl,g3,by rw[<- g4.length];show h2.1,?_];have e4:Ext H2 (upd H2 p (ő (xs'++[w]))):=ő g3 _;show h2.2 Þ (à) ((Î7 e2).trans e4) (p2.ups e4 #[_,yO,á5 e4 _ (g4.snoc q2)])
  .show h2.elim
 | _=>show ñ5
def Jx {o e:Expr}{to te:zy}{e0:Expr}(hpe:PE X e0 (jP X.K "list" Yu (zQ X.K to) (fH (zQ X.K te) iT))) å4:PD X e0 (mz to te):=#[mz.mo h h',Ù5 hpe (Pr h h')]
end
structure jG where
 nx:û8
 rt:DK
 bk:û8:=ë6
 ct:û8:=ë6
abbrev xg:=jG->û8
structure jG.Le (E E':jG):Prop where
 nx:∀ L S,E.nx L S->E'.nx L S
 rt:∀ d S,E.rt d S->E'.rt d S
 bk:∀ L S,E.bk L S->E'.bk L S
 ct:∀ L S,E.ct L S->E'.ct L S
def lh (t:xg):Prop:=∀ E E' L S,jG.Le E E'->t E L S->t E' L S
def my ß Ĕ (D:Ends):jG:=#[oO ě D.nx,pk ě D.rt,oO ě D.bk,oO ě D.ct]
theorem my.ext Ĝ Å3{D:Ends}æ6:(my ě D).Le (my K H' D):=#[è5,λ _ _ h=>pk.ext e h,è5,è5]
def cJ ß (t:xg):TS:=λ D σ H=>∃ L S,ś/\ů/\t (my ě D) L S
structure zv ô (st:Stmt) (t:xg):Prop where
 mo:lh t
 ps:PS X st (cJ X.K t)
structure yR ô (st:Ê4) (t:xg):Prop where
 mo:lh t
 ps:qW X st (cJ X.K t)
section
variable {Č}{Ĝ}{st:Stmt}{rest:Ê4}{t u:xg}{Ċ}{Į}{te:zy}
def Qd:xg:=λ E L S=>E.nx L S
def kB (t u:xg):xg:=λ E L S=>t { E with nx:=u E } L S
def kB.mo (h:lh t) (h':lh u):lh (kB t u):=λ E E' L S hE z=>h { E with nx:=u E } { E' with nx:=u E' } L S #[fun L S q=>h' E E' L S hE q,hE.rt,hE.bk,hE.ct] z
def vd:yR X [] Qd:=#[λ _ _ _ _ hE h=>hE.nx Þ h,qW.imp LW λ D σ H #[L,S,r1,r2,h]=>h í r1 Ĥ r2]
def xY (h:zv X st t):yR X [st] t:=#[h.mo,LV h.ps]
def xJ (h:zv X st t) (h':yR X rest u):yR X (st::rest) (kB t u):=by
 exact#[kB.mo h.mo h'.mo,qW.imp (LX h.ps h'.ps) È5];ext ä;exact#[L,S,r1,r2,h.mo { my é2 D with nx:=u (my é2 D) } _ L S #[fun L' S' q σ' H' q1 q2 q3=>?_,Á9,Á9,Á9] z];show#[L',S',q1,q3,h'.mo Þ L' S' (my.ext q2) q]
def gW (te:zy):xg:=λ E L S=>te L S λ _ S1=>E.nx L S1
def vn æ7 (hs:å9):zv X (.Expr e pos) (gW te):=by
 exact#[λ E E' L S hE z=>he.mo ĵ (λ _ _ q=>hE.nx Þ q) z,PS.imp (Kh he.pe hs) È5];ext ä;show ñ4 he.mo Þ8 z λ x S1 v H1 h1 q1 e1 p1=>h1 Ú0 (È4) e1 p1
def js (te:zy):xg:=λ E L S=>te L S E.rt
def xZ æ7:zv X (.Return ↑e pos) (js te):=by
 exact#[λ E E' L S hE z=>he.mo ĵ (λ _ _ q=>hE.rt Þ q) z,PS.imp (Kb he.pe) È5];ext ä;show ñ4 he.mo Þ8 z λ x S1 v H1 h1 q1 e1 p1=>h1 v H1 q1 e1 p1
def jt (c:xf) (t u:xg):xg:=λ E L S=>c L S λ k S1=>if k=true then t E L S1 else u E L S1
def wq ö8{p q:Ê4}{tc:xf}(hc:zE X c tc) (h:yR X p t) (h':yR X q u):zv X (.If c p q pos) (jt tc t u):=by
 exact#[λ E E' L S hE z=>hc.mo ĵ (λ k S1 z=>ph (h.mo Þ L S1 hE) (h'.mo Þ L S1 hE) z) z,PS.imp (Ke hc.pt h.ps h'.ps) È5];ext ä;exact qY.go hc.mo Þ8 z λ k S1 H1 h1 e1 p1=>Ä9
 .show#[L,S1,È4,p1,h.mo Þ L S1 (my.ext e1) z]
 .show#[L,S1,È4,p1,h'.mo Þ L S1 (my.ext e1) z]
abbrev rS:=D->yX->SS->(û8)->Prop
abbrev pU:=Ţ->yX->SS->(û8)->Prop
def dX (t:rS):Prop:=Å0
def PU (t:pU):Prop:=Å0
def fE ß (t:rS):TG:=λ v σ H Q=>∃ d L S,ì5/\ś/\ů/\t d L S (oO ě Q)
def V3 ß (t:pU):kG:=λ v σ H Q=>∃ d L S,zt ě d v/\ś/\ů/\t d L S (oO ě Q)
structure nV ô ã8 (t:rS):Prop where
 mo:dX t
 pg:PG X e (fE X.K t)
structure fj ô (es:đ) (t:pU):Prop where
 mo:PU t
 pg:lN X es (V3 X.K t)
def PG.imp Į{t t':TG}(h:PG X e t) æ8:PG X e t':=Ï2
def lN.imp {e:đ}{t t':kG}(h:lN X e t) æ8:lN X e t':=Ï2
def hName Å5:rS:=λ d L S Q=>Q (L.set i ↑d) S
def Jq Į É8(h:PG X e (gO i)):nV X e (hName i):=
 #[λ _ _ _ _ _ hq z=>á7,PG.imp h λ v σ H Q #[d,L,S,r1,r2,r3,z]=>z _ H (r2.set i r1) Ĥ r3]
def Xf:pU:=λ ds L S Q=>ds=[]/\Q L S
def Xg (t:rS) (u:pU):pU:=λ ds L S Q=>match ds with
 | d::r=>t d L S fun L' S'=>u r L' S' Q
 | []=>Ď
def vA:fj X [] Xf:=by
 exact#[λ _ _ _ _ _ hq z=>Ó9,lN.imp Ky ñ8];let#[d,L,S,r1,r2,r3,z1,z2]:=hu;subst z1;simp![zt] at r1;show#[r1,z2 í r2 Ĥ r3]
def vB Į é3{t:rS}{u:pU}(h:nV X e t) (h':fj X es u) (hs:Ê8):fj X Ð7 (Xg t u):=by
 exact#[λ ds L S Q Q' hq z=>?_,lN.imp (Kz h.pg h'.pg hs) ñ8]
 .cases ds with
  | nil=>show z
  | cons d r=>show h.mo d ĵ (fun L' S' z=>h'.mo r L' S' Þ hq z) z
 .let#[ds,L,S,r1,r2,r3,z]:=hu;cases ds with
  | nil=>show z.elim
  | cons d r=>
   simp![zt] at r1;let#[x,xs,rfl,q1,q2]:=r1;exact#[x,xs,rfl,d,L,S,q1,r2,r3,h.mo d ĵ (fun L' S' z σ' H' g1 g2 g3=>?_) z];show#[r,L',S',á5 g2 r q2,g1,g3,h'.mo r L' S' Þ (fun L2 S2 z2=>oO.ext g2 z2) z]
def gL Ö8 (t:pU):rS:=λ d L S Q=>match d with
 | Õ6=>È2=n/\t ds L S Q
 | _=>Ď
def Jp Į Ú3{t:pU}(h:PG X e (Rh X.K n (V3 X.K t))) (hm:PU t):nV X e (gL n t):=by
 exact#[λ d L S Q Q' hq z=>?_,PG.imp h ñ8]
 .cases d with
  | tup ds=>show#[z.1,hm ds ĵ hq z.2]
  | _=>show z
 .let#[d,L,S,r1,r2,r3,z]:=hu;cases d with
  | tup ds=>
   simp![zj] at r1;let#[a,xs,rfl,q1,q2]:=r1;show#[a,xs,rfl,q1,by rw[<- q2.length];show z.1,ds,L,S,q2,r2,r3,z.2]
  | _=>show z.elim
def qy (te:zy) (g:rS):xg:=λ E L S=>te L S λ x S1=>g x L S1 E.nx
def qy.mo {g:rS}(h:yA te) (h':dX g):lh (qy te g):=λ E E' L S hE z=>h ĵ (λ x S1 q=>h' x â2 (fun L S q=>hE.nx Þ q) q) z
def Nw {g:rS}(h:yA te) (h':dX g) {D:Ends}À4 Ġ(hu:cJ K (qy te g) D í):fJ (zQ K te) (fE K g) D í:=by
 ext ä;exact ñ4 h Þ8 z į;show#[x,L,S1,q1,È4,p1,h' x â2 (fun L S q=>oO.ext e1 q) h1]
def vp ý0{g:rS}æ7 (hg:nV X tg g) (hs:ß0) (hw:ë7)
  (h1:â6):zv X (.Assign [tg] e pos) (qy te g):=
 #[qy.mo he.mo hg.mo,PS.imp (UL he.pe hg.pg hs hw h1) λ _ _ _ hu=>Nw he.mo hg.mo hu]
def Ji {e0:Stmt}É8(h:PS X e0 (fJ (zQ X.K te) (gO i))) (hm:yA te):zv X e0 (qy te (hName i)):=by
 exact#[qy.mo hm λ _ _ _ _ _ hq z=>á7,PS.imp h È5];ext ä;exact ñ4 hm Þ8 z į;show h1 _ H1 ((È4).set i q1) e1 p1
end
structure cD where
 items:Ţ
 keep:ĝ
abbrev pz:=yX->SS->(cD->ĝ)->Prop
def Zi (t:pz):Prop:=∀ L S (Q Q':cD->ĝ),(∀ I S',Q I S'->Q' I S')->Ù3
def dZ ß (H1:Hp) (J:It) (I:cD):Prop:=∀ Å5 Ĕ (S:SS),Ext H1 H->ů->I.keep S->
 (∀ d,I.items[i]?=↑d->J.go i H/\∀ x H',ë8->Ŋ/\yo K H' S/\zj K H' d x)/\(Ë7<=i->J.stop i H)
def DF ß Ĕ (R:It->Ô):cD->ĝ:=λ I S1=>∀ J H1,Ext H H1->yo K H1 S1->dZ K H1 J I->R J H1
def oH ß (t:pz):TI:=fun σ H R=>∃ L S,ś/\ů/\t L S (DF ě R)
structure yu ô (tg iter:Expr) (t:pz):Prop where
 mo:Zi t
 pi:PI X tg iter (oH X.K t)
def PI.imp Č ý0{t t':TI}(h:PI X tg e t) ĥ:PI X tg e t':=Ő
section
variable {Č}{Ĝ}{ý0}{Ċ}
theorem zt.at Ġ é6 ĺ É8 ý6{x:V}(r:Ŀ) (h1:ds[i]?=↑d) (h2:Ð4):Ñ9:=by
 let#[y,e1,e2]:=r.get h1;rw[h2] at e1;cases e1;show e2
def nc (lo:Int) Ö8:Ţ:=(Ï5 n).map λ(k:Nat)=>D.int (lo+(k:Int))
def LC {lo:Int}{n i:Nat}ý6(h:(nc lo n)[i]?=↑d):i<n/\d=ì (lo+(i:Int)):=by
 unfold nc at h;rw[zA3] at h;cases q:(Ï5 n)[i]? with
 | none=>rw[q] at h;cases h
 | some j=>
  rw[q] at h;let#[h1,h2]:=zA2.mp q;rw[zC5] at h1;rw[zcC] at h2;subst h2;cases h;show#[h1,rfl]
def LB (lo:Int) Ö8:(nc lo n).length=n:=by unfold nc;rw[zA7,zC5]
def dZ.range {H1:Hp}{lo:Int}Ú3:dZ K H1 (dY lo n) #[nc lo n,ì8]:=λ i H S _ x2 _=>by
 exact#[λ d hd=>?_,λ hl=>by rw[show (cD.mk (nc lo n) ì8).items=nc lo n from rfl,LB] at hl;show hl];let#[h1,rfl]:=LC hd;exact#[h1,ó2];let#[rfl,rfl]:=q;show#[.refl _,x2,à]
def YW ý7:pz:=fun L S R=>t L S λ ds S1=>match ds with
 | [ì j]=>(-(2 ^ 62)<=j/\j<2 ^ 62)/\R #[nc 0 j.toNat,ì8] S1
 | _=>Ď
def YV ý7:pz:=fun L S R=>t L S λ ds S1=>match ds with
 | Î9=>ß2/\R #[nc i (j-i).toNat,ì8] S1
 | _=>Ď
variable {tA:y6}
def Jo (h:PI X tg e (SY ü5)) (hm:oS tA):yu X tg e (YW tA):=by
 exact Ä4
 .split at z
  .show Ó9
  .show z.elim
 .ext ş;split at h1
  .let#[x,rfl,q]:=q1.one;simp![zj] at q;subst q;show#[_,rfl,h1.1.1,h1.1.2,h1.2 _ ê5 .range]
  .show ñ5
def Jn (h:PI X tg e (SX ü5)) (hm:oS tA):yu X tg e (YV tA):=by
 exact Ä4
 .split at z
  .show Ó9
  .show z.elim
 .ext ş;split at h1
  .let#[x,y,rfl,q,q']:=q1.two;simp![zj] at q q';subst q q';show#[_,_,rfl,h1.1,h1.2 _ ê5 .range]
  .show ñ5
def dw (ti:pz) (g:rS) (tb:xg):xg:=λ E L S=>ti L S λ I S1=>∃ W:Nat->û8,W 0 L S1/\(∀ i L S,W i L S->I.keep S)/\
 (∀ i d L S,I.items[i]?=↑d->W i L S->g d L S fun L2 S2=>tb { E with nx:=W ù9,ct:=W ù9,bk:=E.nx } L2 S2)/\∀ L S,W Ë7 L S->E.nx L S
def dw.mo {ti:pz}{g:rS}{tb:xg}(hi:Zi ti) (hg:dX g) (hb:lh tb):lh (dw ti g tb):=λ E E' L S hE z=>hi ĵ (λ I S1 #[W,w0,wk,ws,wd]=>by
 exact#[W,w0,wk,λ i d L S hd hw=>hg d ĵ (fun L2 S2 z=>hb { E with nx:=W ù9,ct:=W ù9,bk:=E.nx } { E' with nx:=W ù9,ct:=W ù9,bk:=E'.nx } L2 S2 #[Á9,hE.rt,hE.nx,Á9] z) (ws i d L S hd hw),fun L S q=>hE.nx Þ (wd L S q)]) z
def vm {iter:Expr}{body:Ê4}{ti:pz}{g:rS}{tb:xg}Ö1 Ē (hi:yu X tg iter ti) (hg:nV X tg g) (hb:yR X body tb)
  (hs:ŏ):zv X (.For tg iter body [] pos) (dw ti g tb):=by
 exact#[dw.mo hi.mo hg.mo hb.mo,PS.imp (Kf hp hc hi.pi hg.pg hb.ps hs) È5];ext ä;exact#[L,S,r1,r2,hi.mo ĵ (λ I S1 hW J H1 e1 p1 rep=>?_) z];let#[W,w0,wk,ws,wd]:=hW;exact#[λ i m σ H2=>m=Ë7-i/\i<=Ë7/\Ext H1 H2/\∃ L S,xF X.K H2 L σ/\yo X.K H2 S/\W i L S,#[_,rfl,zD4 _,.refl _,L,S1,È4,p1,w0],?_];rintro i m σ2 H2 ⟨rfl,hi',x2,L2,S2,q1,q2,w2⟩;let#[g1,g2]:=rep i H2 S2 x2 q2 (wk i L2 S2 w2);by_cases hl:i<Ë7
 .have hd:I.items[i]?=↑I.items[i]:=by simp[hl]
  let#[go,yl]:=g1 _ hd;exact ŝ #[go,fun σ' H'=>Ext H1 H'/\∃ L S,xF X.K H' L σ'/\yo X.K H' S/\W ù9 L S,fun σ' H' q=>#[_,⋯,rfl,hl,q],λ x H3 hy=>?_];let#[x3,p3,d3]:=yl x H3 hy;exact#[_,L2,S2,d3,q1.ext x3,p3,hg.mo _ L2 S2 Þ (fun L4 S4 z4 σ4 H4 a1 a2 a3=>?_) (ws i _ L2 S2 hd w2)];exact#[L4,S4,a1,a3,hb.mo Þ L4 S4 #[À1,λ _ _ q=>pk.ext ó3 q,λ _ _ q=>oO.ext ó3 q,À1] z4]
 .have e:i=Ë7:=⋯;subst e;show Ć #[g2 ģ,wd L2 S2 w2 σ2 H2 q1 (Î7 x2) q2]
abbrev qK:=Ţ->ó0
def jA (sp:qK):Prop:=∀ ds S (Q Q':DK),Ń->sp ds S Q->sp ds S Q'
def om ß (sp:qK):Sp:=λ vs H Q _=>∃ ds S,zt ě ds vs/\ů/\sp ds S (pk ě Q)
def jv (sp:qK) ý7:zy:=fun L S Q=>t L S λ ds S1=>sp ds S1 Q
def Q6 {sp:qK}{E:XK}(hs:jA sp) (hm:oS tA) (σ:St) Ĕ Ò1 (hu:zQ K (jv sp tA) í Q):cR (om K sp) [] E (rX K tA) í Q:=by
 ext ş;rw[zaB];show#[ds,S1,q1,p1,hs ds S1 Þ (λ d S' q=>pk.ext e1 q) h1]
def Jw {sp:qK}{E:XK}Į(h:PE X e (cR (om X.K sp) [] E ü5)) (hs:jA sp) (hm:oS tA):PD X e (jv sp tA):=
 #[fun L S Q Q' hq z=>hm ĵ (λ ds S1 z=>hs ds S1 Þ hq z) z,Ù5 h (Q6 hs hm)]
def pD (N:ą) (ds:Ţ):yX:=ds.map some++æ0 (N.length-È2) none
theorem xF.init Ġ{N:ą}é6{vs:Ò}(r:zt ě ds vs):xF ě (pD N ds) Ó8:=by
 have hl:=Ë4;exact#[by unfold pD L2.start;simp[hl],λ i d h=>?_];unfold pD at h;have hi:i<È2:=by
  rcases za8 i È2 with q | q
  .show q
  .rw[zb5 (by exists q),zb6] at h;split at h <;> cases h
 rw[zaT (by exists hi),zA3] at h;cases q:ds[i]? with
 | none=>rw[q] at h;cases h
 | some d'=>
  rw[q] at h;cases h;let#[x,e1,e2]:=r.get q;exact#[x,?_,e2];unfold L2.start;rw[zaT (by exists by lia),zA3,e1];rfl
def ay è Ĝ Æ7 Â4 Ï3{N ps:ą}Û2{sp:qK}Ý2 (Sc:pX N ps (yk st))
  (len:∀ ds S Q,sp ds S Q->È2=Ñ5)
  (hbody:∀ (cdv:Í) õ (E:XK),Ø0->
   ∃ t,yR Ú4/\∀ ds S Q,sp ds S Q->t { nx:=λ _ S'=>Q .zC S',rt:=Q } (pD N ds) S):pA Ė xn (k+1) f fd ps (om K sp):=by
 exact F.ok Sc (λ vs H Q E h=>?_) λ cdv A Ŕ s H vs Q E hr h=>?_
 .let#[ds,S,r1,_,z]:=h;rw[<- r1.length];show len Þ _ z
 .let#[ds,S,r1,r2,z]:=h;let#[t,ht,hq]:=hbody cdv Ê1 E hr;exact#[_,ht.ps,pD N ds,S,.init r1,r2,ht.mo { nx:=λ _ S'=>pk ě Q .zC S',rt:=pk ě Q } Þ _ #[fun L S' q σ' H' _ b c=>q .zC H' (à) b c,Á9,λ _ _ q=>Ū q,λ _ _ q=>Ū q] (hq ds S _ z)]
def n_ í5 (L:yX):yX:=pick.map λ o=>o.bind λ i=>(L[i]?).join
theorem xF.pick Ġ{L:yX}À4(r:ś) í5:xF ě (n_ pick L) á4:=by
 exact#[by unfold n_ nZ;simp,λ i d h=>?_];unfold n_ at h;rw[zA3] at h;cases q:pick[i]? with
 | none=>rw[q] at h;cases h
 | some o=>
  rw[q] at h;cases o with
  | none=>simp at h
  | some j=>
   simp![Option.map_some,zC9,Option.some.injEq] at h;have hj:L[j]?=↑↑d:=by
    cases q2:L[j]? with
    | none=>rw[q2] at h;cases h
    | some o2=>rw[q2] at h;simp![Option.join_some] at h;rw[h]
   let#[v,e1,e2]:=r.2 j d hj;exact#[v,?_,e2];unfold nZ;rw[zA3,q];simp[e1]
def i9 (L L':yX):Prop:=L.length=L'.length/\∀ Å5 d,L[i]?=↑↑d->L'[i]?=↑↑d
def i9.rep Ġ{L L':yX}À4(h:i9 L L') (r:xF ě L' σ):ś:=#[h.1.trans r.1,λ i d q=>r.2 i d (h.2 i d q)]
structure fk ô (ifs:đ) (t:xf):Prop where
 mo:oh t
 pf:PF X ifs (qY X.K t)
def PF.imp {ifs:đ}{t t':TT}(h:PF X ifs t) ĥ:PF X ifs t':=Ő
def RI:xf:=λ _ S Q=>Q true S
def vE:fk X [] RI:=#[λ _ _ _ _ hq z=>á7,PF.imp K4 λ _ H _ #[_,_,_,r2,z]=>z H Ĥ r2]
def vD ö8{t:xf}(h:zE X c t):fk X [c] t:=#[h.mo,K3 h.pt]
end
end L3
namespace L2
open PySem Ø2 Á7
def GR ß (tl:TE):TI:=fun σ H R=>tl í λ x H1=>∃ a,x=í8/\(((∃ xs,y7 K H1 a xs)/\R (PY K a) H1)\/((∃ xs,yw K H1 a xs)/\R (PX K a) H1))
def Ku Č{tg l:Expr}{tl:TE}(hl:PE X l tl):PI X tg l (GR X.K tl):=by
 intro gV s σ H R I h;exact zH (hl ÿ) λ v s1 #[x,H1,I1,r1,a,hx,q1]=>?_;subst hx;cases r1;have new:∀ b∈[Ř],nW X gV H1 b:=λ b hb=>by
  obtain rfl:b=Ř:=zB6.mp hb;show I1.eW ģ (Ô8)
 rcases q1 with ⟨⟨xs,hq⟩,q⟩ | ⟨⟨xs,hq⟩,q⟩
 .let#[its,_,pl,_]:=I1.list hq;show zd9 Ñ3 #[_,_,_,_,H1,rfl,ß5,N7 a _,Þ6,new,q]
 .let#[its,_,pt,_]:=I1.tuple hq;show zdD (show s1.heap.IsTuple a ù from pt) #[_,_,_,_,H1,rfl,ß5,N4 a _,Þ6,new,q]
def range_all (bs:ï2):(Ï5 bs.length).all (Æ9)=bs.all id:=by
 rw[zC7,zE4,zE4];constructor
 .intro h b hb;let#[i,hi,rfl]:=zaJ.mp hb;have:=h i (zC1.mpr hi);simpa [hi] using this
 .intro h i hi;have hi':=zC1.mp hi;have:=h bs[i] (zD8 hi');simpa [hi'] using this
def range_any (bs:ï2):(Ï5 bs.length).any (Æ9)=bs.any id:=by
 rw[zC7,zD0,zD0];constructor
 .rintro⟨i,hi,h⟩;have hi':=zC1.mp hi;show#[bs[i],zD8 hi',by simpa [hi'] using h]
 .rintro⟨b,hb,h⟩;let#[i,hi,rfl]:=zaJ.mp hb;show#[i,zC1.mpr hi,by simpa [hi] using h]
theorem QR {bs:ï2}{its:zLV}(r:Vals (bs.map V.bl) its) É8{v:Í}(h:ù[i]?=↑v):v=ù6 (bs.getD i true):=by
 have hl:=Ë4;rw[zA7] at hl;have h':its[i]?=↑v:=by exists h
 have hi:i<bs.length:=by
  rw[hl];rcases za8 i ã4 with q | q
  .show q
  .rw[zbJ q] at h';cases h'
 let#[u,e1,e2]:=r.get (i:=i) (x:=.bl bs[i]) (by simp[hi]);rw[h'] at e1;cases e1;have:v=ù6 bs[i]:=e2;rw[this];simp[hi]
section
variable {Č}
theorem CL Ē:xA X (Á1 "all") (λ xs H Q=>∃ p,∃ bs:ï2,Ù0/\y7 é5 (bs.map V.bl)/\Q (.bl (bs.all id)) H):=by
 ext å5
 exact call_all_walk (zd9 Ñ3 ?_);exact î
 .rw[QR rv hv];show zcX hq'
 .have e:(Ï5 Ũ).all (Æ9)=bs.all id:=by rw[zA0,<- hl,range_all]
  ext ų
theorem CK Ē:xA X (Á1 "any") (λ xs H Q=>∃ p,∃ bs:ï2,Ù0/\y7 é5 (bs.map V.bl)/\Q (.bl (bs.any id)) H):=by
 ext å5
 exact call_any_walk (zd9 Ñ3 ?_);exact î
 .rw[QR rv hv];show zcX hq'
 .have e:(Ï5 Ũ).any (Æ9)=bs.any id:=by rw[zA0,<- hl,range_any]
  ext ų
end
end L2
namespace L3
open PySem Ø2 L2
open Á7 hiding St
structure Bt (mg:zSV):Prop where
 len:mg "len"=none
 range:mg "range"=none
 any:mg "any"=none
 all:mg "all"=none
 sorted:mg "sorted"=none
 isinstance:mg "isinstance"=none
 bool:mg "bool"=none
 int:mg "int"=none
 str:mg "str"=none
 list:mg "list"=none
 tuple:mg "tuple"=none
 max:mg "max"=none
 min:mg "min"=none
section
variable {Č}{a e:Expr}{é3}{te:zy}{pos p:Pos}
def zx {N':ą}ý5{ć esc:Scope}{N:ą}(hE:Ð8=esc:=by rfl) (hN:X.N=N:=by rfl) (h1:scope.kind=ë5:=by rfl)
  (h2:scope.names.all (λ y=>Ĳ (ċ y.1=↑y.2))=true:=by decide +kernel)
  (h4:scope.names.all (λ y=>! Ĳ (y.2=Û6)||(Ĳ (esc.names.lookup y.1=↑ Ò6)||Ĳ (esc.names.lookup y.1=↑ Û6)))=true:=by decide +kernel)
  (h5:pick.length=N'.length:=by rfl) (h6:gj N N' pick ć=true:=by decide +kernel):Ñ8:=by
 exact#[h1,λ y hy=>of_decide_eq_true (zE4.mp h2 y hy),λ y hy hf=>?_,h5,by rw[hN];show h6];have:=zE4.mp h4 y hy;rw[zcS hf] at this;rw[hE];exists this
def vC Å5 İ ï (hf:Ó3):nV X Ť (hName i):=
 Jq (K2 hN hi hx hf)
def UW Û2{t:pU}Ú3(h:fj X es t) Ē (hn:(Â1 es Ý).length=n) (hst:õ3):nV X ð2 (gL n t):=
 Jp (K0 hc h.pg hn hst) h.mo
def vg Å5 İ{pos':Pos}(hN:X.N.Nodup) æ7 (hi:à0) (hx:Loc Ð8 x) (hs:Ò7)
  (hf:Ó3):zv X ò6 (qy te (hName i)):=
 Ji (Ka hN hi hx he.pe hs hf) he.mo
def YU (te:zy):pz:=fun L S R=>te L S λ x S1=>match x with
 | Õ6=>R #[ds,ì8] S1
 | .qC ds=>R #[ds,ì8] S1
 | Ê p=>match S1 p with
  | Ì8=>R #[ds,λ S=>S p=↑(ő ds)] S1
  | _=>Ď
 | _=>Ď
def v5 í2(h:PD X e te):yu X tg e (YU te):=by
 exact#[fun L S Q Q' hq z=>h.mo ĵ (λ x S1 z=>?_) z,?_]
 .cases x with
  | ref p=>
   dsimp only at z ⊢;split at z
   .show á7
   .show z.elim
  | qC ds=>show á7
  | tup ds=>show á7
  | _=>show z
 .exact PI.imp (Ku h.pe) fun σ H R hu=>?_
  ext ä;exact ñ4 h.mo Þ8 z į;cases x with
  | tup ds=>
   ext í7;exact#[a,rfl,ŝ #[#[xs,g1],h1 _ ê5 λ i H2 S2 x1 x2 _=>#[λ d hd=>?_,λ hl=>#[xs,x1.cW g1,by rw[<- g2.length];show hl]]]];let#[y,hy,_]:=g2.get hd;exact#[#[xs,y,x1.cW g1,hy],ó2];let#[rfl,q]:=q;show#[.refl _,x2,(á5 x1 ds g2).at hd (q xs (x1.cW g1))]
  | ref p=>
   dsimp only at h1;split at h1
   .rename_i ds e2;ext Ô5;subst q1;let#[xs0,g1,_]:=p1 Þ e2;exact#[p,rfl,Ć #[#[xs0,y7.of g1],h1 _ ê5 λ i H2 S2 x1 x2 hk=>?_]];let#[xs,g3,g4]:=x2 Þ hk;exact#[λ d hd=>?_,λ hl=>#[xs,y7.of g3,by rw[<- g4.length];show hl]];let#[y,hy,_]:=g4.get hd;exact#[#[xs,y,y7.of g3,hy],ó2];let#[rfl,q]:=q;show#[.refl _,x2,g4.at hd (q xs (y7.of g3))]
   .show ñ5
  | qC ds=>
   ext í7;exact#[a,rfl,Ć #[#[xs,g1.sq],h1 _ ê5 λ i H2 S2 x1 x2 _=>#[λ d hd=>?_,λ hl=>#[xs,(x1.cX g1).sq,by rw[<- g2.length];show hl]]]];let#[y,hy,_]:=g2.get hd;exact#[#[xs,y,(x1.cX g1).sq,hy],ó2];let#[rfl,q]:=q;show#[.refl _,x2,(á5 x1 ds g2).at hd (q xs (x1.cX g1).sq)]
  | _=>show ñ5
)
example:=`(
example À:=Option
example ĺ _:=x prog w
example Á:=(rk ĺ).hash
example Â:=List Int
example æ3:=(by change X.A.units+1+_<_;lia)
example Ã _:=x (λ y hy=>ff I a3 hz a6 g2 w1 a4 a1 rx (A:=X.A.in1) æ3 æ3 (by exists hy)) #[.bl _,H,I,rfl,?_]
example Ä:=List T
example Å _:=x ‹_› hA
example Æ:=s.heap.objs.size
example Ç _:=x S Z L Y
example È _:=x _ _
example É:=if_neg
example Ê:=by rcases xI e with ⟨rfl,hl,e⟩ | ⟨n,e⟩
example Ë{ds:List D}:=0
example Ì(I:Inv X gV σ H s):=0
example Í _:=x (model ĺ) A
example Î:=if_pos
example ÿ _:=x e1 λ d S1 s1 r1=>?_
example ð5:=za0.mp
example ô:=ð5 e
example í5:=by let#[x,e1,e2]:=ô
example Ï:=by ext í5;exact h Ç x _ hE ÿ
example Æ9:=Int×Int
example Ð:=List (Æ9)
example Á6:=decide
example Ñ:=λ kv=>Á6 (kv.1=k)
example Í8:=by let#[c,cs,rfl,h1,h2]:=h
example Ò:=by simp![zp] at h;ext Í8
example Ó:=sizeLine
example Ä7:=(oA its ts u)
example Ô:=by rw[show its.toArray.any Ä7=its.any Ä7 by simp,aY I a3 hz a6 g2 w1];show q
example Õ(he:zEE X e es) (hpl:zEB X pos es):=0
example ſ{H:Hp}:=0
example Á3:=Shared
example Ú3{s:Á3}:=0
example Ö{gV:zLA}{σ:St}ſ Ú3:=0
example Ø:=by rcases h with h | ⟨_,_,_,h,_⟩ | ⟨_,_,_,_,h,_⟩
example Ù(i:Nat):=0
example Ú:=yK M h n
example Û:=t.place.toList
example Ü _:=x S (.refl S)
example Ý:=.ref
example Ĉ:=t.place
example Ê6:=below Ĉ j
example Þ:=insertAt Ĉ (Ê6) j
example È5(hc:X.calm=true):=0
example Ì3:=(xm X N' scope cl C s H fp)
example ß(Sc:kM X N' pick scope) È5 (hi:yu X tg iter ti) (hg:∀ cl C s H fp,nV Ì3 tg g) (hf:∀ cl C s H fp,fk Ì3 ifs tcc) (he:∀ cl C s H fp,PD Ì3 elt te):=0
example à:=false
example á:=(λ _=>nofun)
example â:=zp S ts ds
example Ž:=hE.grow s1
example Ð8 _:=x S1 Z L Y
example ì4:=s1.trans
example ĳ:=(ì4 s2)
example ã _:=x Ð8 y _ (Ž) e2 λ d S2 s2 r2=>hq d S2 ĳ (Cl.cl s1 r2)
example ä:=p.getD
example å:=Ev->À (Ä)
example Æ0:=List Key
example ã6:=List (Æ0 ×V)
example ú:=Value
example ì0:=List (Æ0 ×Addr× ú)
example æ{kvs:ã6}{xs:ì0}(r:KT H kvs xs):=0
example ê1 _:=x P w K mg base
example ç(hbody:∀ (cdv:ú) (A:Around) (outer:List Env) (s:Á3) (H:Hp) (E:XK),y8 k (A.deeper (envOfC x (yk st) Æ f cdv))-> ∃ t,yR (wc xn ê1 N x (yk st) f cdv A outer s H E).rl (xV st) t/\yp R g t):=0
example è:=Addr->Prop
example é:=owner
example ł:=Value.ref
example ê:=insertAt es p (Á key,ł b)
example ë _:=x ⋯ ⋯
example î7:=xl ts
example Œ:=cLine
example ì:=by intro gV s σ H x y v w Q I rx ry h;let#[S,d,e,u,ts,ds,a1,a2,a3,a4,a5,a6,a7,a8,q]:=h;have hz:î7<Œ:=⋯;let#[l,xs,rfl,g1,g2]:=y4.sq a2 a3 a5;cases ry;rcases g1 with g1 | g1
example í:=xs.length
example î:=Ev->À Ev
example Í9:=List (κ × V)
example ï{kvs:Í9}{vs:List (κ × ú)}(r:KV kvs vs):=0
example ð:=t.mask
example ê6(ha:PD X a ta) (hb:PD X b tb):=0
example æ4{k:Nat}:=0
example ñ æ4(hr:y8 k X.A) ê6:=0
example ò:=.int
example ó:=Array
example õ:=(intKind ĺ)
example ö:=Á3->Prop
example ň:=.lst
example ø:=ň ts
example İ:=wpAny
example ù:=by exact zcO ?_;change İ È (forIn items È) È s;rw[<- Array.forIn_toList];exact wpAny_forIn_list _ (λ rest r s'=>r.1=none/\s'=s/\∀ v∈rest,∃ n t,v=ò n t) _ ?_ ?_ È #[rfl,rfl,items_int hi]
example ŝ:=List (Key×D)
example û{kvs:ŝ}{vs:List (Key×V)}:=0
example ü:=w.params.followText "set-order"
example ý:=by rcases xI e' with ⟨rfl,hl,e'⟩ | ⟨n,e'⟩
example Í4:=(kvs.any Ñ)
example à5:=λ kv=>if kv.1=k then (kv.1,v) else kv
example þ:=if Í4=true then kvs.map (à5) else kvs++[(k,v)]
example Ā:=by dsimp only
example ā _:=x (g:=fE X.K g) (tc:=qY X.K tcc) (te:=zQ X.K te) Sc hc hi.pi (λ cl C s H fp=>(hg cl C s H fp).pg) (λ cl C s H fp=>(hf cl C s H fp).pf) (λ cl C s H fp=>(he cl C s H fp).pe)
example Ă:=(yn S Z)
example ă:=Ev->À Bool
example Ą:=List (Key×T)
example ą:=ts.length
example Ć:=List.range
example Ñ0:=s.heap.get?
example ć:=Ñ0 b=↑o
example ß6:=by let#[d,rfl,h1]:=oU hv
example Ű:=za3.mp
example ĉ:=by ext ß6;let#[ts,e1,rfl]:=Ű e;let#[es,h2,h3]:=h1.seq e1
example Ç0:=SetTable
example Ċ{t:Ç0}{hs:Â}(T:Tab t hs):=0
example ċ:=vs.length
example Č{α:Type}:=0
example č:=kvs.length
example È6:=absurd
example Ď:=È6 z' (by simp![dep];lia)
example ď(ha:yU fa ta) (hb:yU fb tb):=0
example ń:=.inr
example ĥ:=.inl
example Đ _:=x (by rw[typeLookup_type,builtinLookup_eq_fast];kernel_rfl) (zdK) (zdK) (zdK) (by first | show ĥ (zdK) | show ń (zdK)) (by rw[isSubtype_type];kernel_rfl)
example ò5:=List V
example ñ5 _:=x X.K H
example Î8:=zt ñ5 ds xs
example đ{xs:ò5}{its:zLV}(hz:î7<Œ) (h1:â) (h2:Î8) (h3:Vals xs its):=0
example Ē:=(·.1)
example Ä1:=ó (Int× ú)
example ē{es:Ä1}{ep:Nat}{t:Ç0}:=0
example Ĕ{ts:Ä}:=0
example Õ3 _:=x S0 Z0
example ĕ:=FR Õ3 Ç
example Ė{a:Addr}:=0
example ė(ha:y9 X (e::es) tA):=0
example Ę:=by .rintro⟨r1,r2⟩ s' ⟨hr,rfl,_⟩;simp only at hr;subst hr;show zD1 h
example ę:=by rcases g with ⟨kvs,k,e,ey,l⟩ | ⟨kvs,k,b,e,ey,eb,l⟩
example Ě:=vs.toArray
example ě:=T->T->À T
example Ĝ:=(f Y).bind
example ĝ:=by let#[L,S,r1,r2,z]:=hu
example ñ1:=codeAny_builtin
example Ğ:=by exact ñ1 F.entry_set_update_loop ?_;rw[Around.under_plainId F.plain_set_update_loop _];change İ _ A.in1 (pyNext (Ý I) >>= _) È s
example ğ:=by cases h
example Ġ:=List (Â)
example ġ:=by subst ey;cases (show u=ł b from ry);let#[z,hd,xs,rel,dd]:=gQ I.zI e
example Ģ:=by simpa only [Sn] using q
example Ý2:=by simp[h.len]
example ģ:=#[#[h.er.zd,λ j t e=>?_,λ j ts e=>?_],Ý2,h.sx,h.z0,h.zz,h.zn,λ j ts p e e'=>?_,λ j k ts us p n e1 e2 e3 e4=>?_]
example Ĥ:=by simp![zj]
example Í5:=(a == sysModules)=à
example Ħ:=č<=Ó/\Í5/\∃ vs,KV kvs vs/\h.DictOf (qw P w) a vs
example ħ(M:Nat):=0
example Ĩ:=by rcases xI e1 with ⟨rfl,hl,e⟩ | ⟨n1,e1⟩
example ĩ:=[].toArray
example Ī:=xs.map
example ī:=s.heap.push (oq w)
example Ĭ:=(À Nat)
example ĭ:=way M h k
example Į _:=x (λ _ _ _=>pF) λ _ _ _=>nofun
example Ú0:=.set es ep t
example œ:=.type "set"
example į:=h.get? a=↑{ cls:=œ,dict:=none,data:=Ú0 }
example ı:=by rw[yx (oy q h (by intro z;cases z))];show q
example Ĳ:=List α
example ä8:=by unfold yN;rw[h1]
example Ĵ:=by let#[p,b,h1,h2,h3]:=bE hE h;change yN i L S _;ext ä8
example ĵ:=HT.lexLt
example Ķ:=.tup
example Ð1(o:Ord lt):=0
example ŵ:=ó Nat
example ķ Ð1 {p:ŵ}:=0
example Ä9{w:World}:=0
example Î7:=Program
example ĸ{P:Î7}Ä9:=0
example Ĺ:=(lives M é).map
example Ļ{A:Around}:=0
example ļ _:=x e (λ z=>nomatch z) fin
example Ľ:=Nat->Nat->Bool
example ľ:=s.heap
example Ŀ:=I.items.length
example ŀ:=Array.getElem?_eq_some_iff.mp
example Ł _:=x ha.pa () () he hpl
example Ń(he:PD X e te) (hg:Gl X "isinstance"):=0
example Ņ:=by let#[x,e1,e0]:=ô;let#[xs,e2,e3]:=ð5 e0;cases e3;exact h Ç x _ hE ÿ;exact h' Ð8 xs _ (Ž) e2 λ ds S2 s2 r2=>?_
example ņ{kvs:List (Key×V)}:=0
example Ň:=(·.2)
example ŉ:=Sn S t d
example Ŋ:=(Á key)
example ŋ:=by rintro r ⟨a1,a2,a3,a4⟩;show#[a1,⋯,⋯,a4]
example Ō:=by obtain⟨ds,rfl | ⟨a,rfl,h1⟩,h2⟩:=Vw.lst r1
example Ï9:=bits h
example Ŵ:=(M+1)
example ō:=layClean.free M é (turns M) (Ï9%Ŵ) (Ï9)
example Ŏ _:=x X.prog X.w
example ŏ{S:SS}:=0
example Ő:=#[hp.below ⋯,hp.below ⋯,?_]
example ő:=.cons
example Þ7:=s.heap.update a (Obj.mapSeq λ _=>ĩ)
example Ŕ:=(((Þ7).push (seqObj "tuple" Ě 0)).push (seqObj "list" ĩ 0)).get?
example ŕ _:=x È _
example Ŗ:=.Name
example ŗ:=(.ListComp elt [#[tg,iter,ifs,0]] scope pos)
example Ř:=(Ú).1
example ř{d:D}:=0
example Ś(p:yo ñ5 S):=0
example ś:=A.units
example Ŝ:=by simp![dep] at hn hu hu';let#[e1,e2,q]:=el hn hu hu' g1 g2 r1 r2 v1 v2;exact en (λ z=>by cases hq z;rfl) ?_;rw[Xv,<- e1,<- e2]
example Ş:=hq _ Ü (Cl.of á pF)
example ş:=gN (by rw[h.len];show hl)
example Š:=order.filterMap (es[·]?)
example š _:=x (e::es) [] pos
example È9:=by intro gV s σ H x y v u Q I rx ry h
example Ţ:=by ext È9;let#[S,d,e,t,u',a1,a2,a3,a4,a5,a6,a7,q]:=h
example ţ:=(.dK kvs)
example Ť:=PyProof.Rows
example ť:=(seqObj "list" Ě 0)
example Ŧ:=Sx S S'
example ŧ{g:Int->Int->T}{g':Int->Int->D}(h:∀ i j S,Sn S (g i j) (g' i j)) (n:∀ i j ts,g i j≠ ø):=0
example Ũ(h:Int):=0
example ũ:=IsTupleKey
example Ū:=by have:=congrArg List.length X.es;exists this
example Ú4(w:World):=0
example ū(prog:Î7) Ú4:=0
example Ŭ _:=x _ hE e1 λ ds S1 s1 r1=>?_
example Ç1:=(by kernel_rfl)
example ŭ _:=x (o:=['r','o','t','a','r','e','t','i','_','t','e','s']) Ç1 Te
example Ů:=by rcases xI e2 with ⟨rfl,hl,e⟩ | ⟨n2,e2⟩
example Û2{g:T->î}:=0
example ů{it:å}Û2{c:ă}{f:zEO}{Y:Ev}(xs:Ĳ) (hi:it Y=↑(Ī enc)) (hl:í<=16777216):=0
example ű:=by let#[_,_,_,q,_]:=h2.kZ p r2
example Ø1:=(zD4 _)
example ì9:=its.size
example Ų _:=x (λ _ _ q=>q) hn ì9 0 _ [] ⋯ Ø1 #[#[_,zA9 _ rfl,rfl,rfl],hl1.push _]
example ų:=(.new hp _)
example Ŷ:=of_decide_eq_false
example ŷ:=by let#[_,_,_,q,_]:=h2.kO r2;cases q
example Ó5:=List (Â ×Addr)
example Ü3{h:Heap}:=0
example Å1 _:=x (prog:=prog) (w:=w)
example Ÿ Ü3{es:Ä1}{t:Ç0}{xs:Ó5}(X:jH Å1 h es t xs):=0
example Í1:=if_false
example Ź:=by simp![zB5,zC4,Í1]
example ź:=by rcases xI e2 with ⟨rfl,hl,_⟩ | ⟨n2,e2⟩
example á9:=tupleKind (qw P w)
example Ż:=č<=Ó/\Í5/\ ∃ xs,KT H kvs xs/\h.DictOfH (á9) a xs
example Ò7:=(Ý p)
example ż:=L[i]?=↑↑ Ò7
example ž:=g y Y=↑Y'-> (∀ L',ER S Z L' Y'->i9 B L'->L'.length=Y'.length->Q L' S)->t d L S Q
example À0(f:zEO):=0
example À1:=by subst ey;let#[z,hd,vs,rel,dd]:=aF I.zI e
example À2:=PySem.W.kia_one
example À3:=hq _ S1 s1 h2 λ _ _=>trivial
example À4(ok:xD P w H h):=0
example À5:=(Cl.of á pG)
example À6(ry:RelV y u):=0
example À7 _:=x PySem.F.slot_dict_get dd.typeIs PySem.F.entry_dict_get (PySem.F.args_dict_get_3 ŕ)
example À8:=.str
example À9 _:=x _ H (Ĥ) (.refl H)
example Á0:=nomatch h2.flat r2
example Á1:=xs.size
example Á2:=by repeat (any_goals (first | assumption | wp_step))
example Á4:=h'.get? b=↑o
example Á5:=zA5.mp
example Á7:=X.env
example Á8:=zp.sx
example Á9:=∀ a,Z a->S a≠none
example Â0:=(Y.set i ↑(.im y))
example Â1:=é[j]?=↑↑k
example Â2:=owner.setIfInBounds j ↑m
example Â3:=by exact#[dd.typeIs,λ b q=>?_,hd];cases q;let#[ob,_,_,h1,h2,_]:=dd;show#[ob,h1,h2.2.1]
example Ü2:=by subst this
example Â4:=by ext Ü2;rw[ZG I p ts us (by simp![dep] at z;lia) (by simp![dep] at z';lia) g3 k3 g2 k2]
example Ú8{R:Rk}:=0
example Ý6:=List Str
example Â5 Ú8 [Lo R] {x:Str}{st:Stmt}{N ps:Ý6}{k n:Nat}{g:Sm}(F:nC K x x st f fd):=0
example Â6{f:zEO}{te:zy}:=0
example Â7:=∃ (i:Nat) (e:Â ×Addr),Ĉ[i]?=↑(way ð Ŋ m).j/\xs[i]?=↑e/\e.1≠key
example î6:=ds.length
example Ñ4:=î6+es.length<=Ó
example Â8:=Ñ4/\∀ r,S r=none->Q (Ý r) (ups S r (ň (ds++es)))
example Â9:=h1.length.trans (r1.length.trans (r2.length.symm.trans h2.length.symm))
example Ã0:=∀ Y,I p Y->∃ Y',turn g b (enc x) Y=↑(.nx Y')/\I (p++[x]) (xq is Y')
example Ã1{Z:è}{L:yX}{Y:Ev}:=0
example Ã2:=λ r=>qt n r.2/\r.1<=n/\ny lt r.2 r.1
example Ã3:=Ī λ e=>Á e.1
example Ã4 _:=x pj.fits pj.mo ha hb (nh _)
example Ã5:=zcO (seqEpoch_at g6 rfl (zcO (listUpdate_at g6 rfl ?_ Ø1 ?_)))
example Ã6:=ts.any λ t=>eqT t u
example Ã7:=lt (ä m 0) (ä (m-1) 0)
example Ã8:=zj ñ5 d x
example Ù1:=(.xa kvs)
example Ã9:=some ↑(.own Ù1)
example Ä0:=t.place.size
example Ä2:=λ kv=>if kv.1=k then (kv.1,d) else kv
example Ä3 _:=x (tupleKind_room_in1 hu) (eG I.zI eb)
example Ä4(hu:X.A.units+1<Œ) (ho:PE X o td):=0
example Ä5:=by rintro v rest r s' ⟨hr,rfl,hall⟩
example Ä6:=us.length
example Ä8:=hs.length
example Å0(hM:nB M):=0
example Å2 _:=x val its ks
example Å3:=(∀ b o,b<Æ->ć->Á4)->Q (Ý Æ) { s with heap:=h',toks:=tk }
example Å4 _:=x hi.mo (hg [] 0 s H []).mo (hf [] 0 s H []).mo (he [] 0 s H []).mo
example Å5:=key∈ Ī Ē/\xs'=xs\/key∉ Ī Ē/\xs'.Perm (xs++[(key,b)])
example Å6:=by rw[h1.length,h2.length,h3.length]
example Å7:=by let#[q1,q2]:=mh q
example Å8:=by let#[xs,e1,e2]:=ô
example Å9:=zp Ă ts ds
example Ý7:=by simp![zp] at h;subst h
example Æ1:=by ext Ý7;exists zp.nil
example Æ2:=by let#[y',h1,h2]:=iV e;cases h2
example Æ3 æ4(hr:y8 k X.A) (ho:PD X o td):=0
example ä9:=vs.toArray.zip Ě
example Æ4:=(arrOf (SortSt.mk' general' (ä9) ĩ 7 none)).map Ň
example Æ5:=below xs j
example Æ6(hp:qt n p):=0
example Æ7:=(ä k 0)
example Æ8:=(backToKw cpos (keywordEach [] Á7)).all (λ x=>x.1.isSome)
example Ç2(r:zj K H d v):=0
example Ç3:=by simp;lia
example Ø2:=False
example Ç4:=(show Ø2 from r).elim
example Ç5:=(yn S' λ a=>Z a\/a=p)
example Ç6:=R S S' Z y d
example Ç7:=(mX pick ti g tcc te)
example é4:=L2.yt
example Ç8(e2:é4 ds i=↑d) (h:Q d S):=0
example Ç9{S S':SS}:=0
example È0{us:zLV}{l:Addr}(g:â) (r:zt K H ds xs) (v:Vals xs us):=0
example È1:=by .simpa only [Sn] using h
example í4:=by let#[b,e1,e2]:=ô
example Ü6:=by split at e2
example È2:=by ext í4;exact h Ç b _ hE e1 λ S1 s1=>?_;ext Ü6
example È3:=by let#[y,e1,e2]:=ô
example È4:=λ a b=>ĵ b a=à
example È7:=runEnd
example È8(hu:X.A.units+64<Œ):=0
example É0:=o.refl _
example É1:=(zD1 ?_)
example É2:=xG K H kvs vs
example É3:=by let#[p,o,h1,h2,h3,h4]:=hE.ow i _ h;ext ä8
example å8:=h.er.ow
example É4:=by let#[p',ds,h1,h2,h3,h4]:=å8 i ts e;rw[ed] at h1
example É5{a:Ą}{b:ŝ}:=0
example É6:=by have hT:=hk.typeIs;let#[o,items,n,ho,_,hd,hi]:=hk
example É7:=True.intro
example É8:=(g Y).bind
example Ñ7:=t.put j
example É9:=(Ñ7).1={ t with place:=insertAt Ĉ (Ñ7).2 j }
example Ê0:=by rename_i hb;rw[Î hb]
example Ê1:=ps.map
example Ê2:=(Ŗ "isinstance" p)
example Ê3:=by simp![zj] at r
example Ê4:=List Bool
example Ê5:=by subst ex;obtain rfl:u=ł a:=rx
example Ê7:=by cases h;rfl
example Ê8{i:Nat}:=0
example Ê9:=by unfold SetTable.tooFull at this;rw[hfill,hmt] at this;exists this
example Ë0:=kat_nil (by simpa [ĵ] using h)
example Ë1:=hq S1 s1
example Ë2(S:SS) (Z:è):=0
example Ë3:=by ext ĝ;exact zQ.go ho.mo r1 r2 z λ x S1 w H1 h1 q1 e1 p1=>?_
example Ë4:=by rename_i hb;rw[É hb]
example Ë5:=Æ<=h1.objs.size->Q' vs { s with heap:=h1,toks:=tk }
example Ë6:=(ts.getD j .zC)
example Ë7:=λ z=>e (h1.trans z)
example Ë8:=.Subscript o i pos'
example Ë9:=some ↑(.own (ø))
example Ì0:=F.grow s1
example Ì1:=∃ k,(way ð h k).j=j/\∀ k'<k,(way ð h k').j∈ Û
example Ì2:=Option.none
example Ì4{rows:Ġ}:=0
example Õ2 _:=x kvs k
example å5:=putK Õ2 v
example Ì5:=by have hl:(å5).length<=Ó:=by have:=TY Õ2 v;lia
example Ì6(g:T->î):=0
example Ì7(ps:Ð):=0
example ß9:=.Call
example Ì8:=(ß9 (.Attribute o "get" apos) [e,f] [] cpos)
example Ì9:=#[p,za1,zC6 _,zC6 _]
example Í0:=zcO (zcZ ho rfl X.fits ?_)
example Í2:=.builtin
example Í3:=its[i]?=↑v
example Í6:=(Ú).2
example Í7{X:Cx}:=0
example Î0:=by simp![Sn] at q ⊢;let#[ds,q1,q2]:=q
example Î1:=by rename_i t h;cases e;let#[d,h1,h2]:=hE.im i _ h;ext ä8
example Î2:=∃ bs:Ê4,y4 d S=↑(bs.map D.bl)/\Q (.bl (g bs)) S
example Î3(n:Nat):=0
example Î4:=by have q:=h1.flat r1;subst q
example Î5{Q:Bool->ö}:=0
example Î6:=xr.mono
example Î9:=(r.getD 0 0,r.getD 1 0)
example Ï0:=λ u hu=>hall u (za2 _ hu)
example ñ6(K:zFr):=0
example Ï1 ñ6 (H:Hp):=0
example Ï2 _:=x gV s1 σ H1 _ I1 q1
example Ï3:=by let#[c,cs,rfl,r1,r2]:=r;let#[Y1,e1,e2]:=ô
example Ï4(hl:s.heap.IsList l its\/s.heap.IsTuple l its):=0
example Ï5:=(kas_rev p i j).getD k 0
example Ï6:=(model Ŏ)
example Ï7:=r1.ext e1
example Ï8:=L.length=Y.length
example Ð0:=(Á e.1,ł e.2)
example Ð2(rows:Ġ):=0
example Ð3 _:=x È Å
example Ð4(hs:∀ x,foldedSetIterable iter Á7 x=pure x):=0
example Ð5(hr:lb xs.toList):=0
example Ð6:=(kvs.map λ kv=>if kv.1=k then (kv.1,y) else kv)
example Ð7:=by let#[a',xs',ds',q,k1,k2,k3]:=h2.kZ p r2
example Ð9:=Le lt (ä a 0) (ä b 0)
example Ñ1:=h.get? b=↑o
example Ñ2:=Paired.length
example Ñ3:=Ķ ts
example Ñ5:=(n_ pick L)
example Ñ6:=#[h.1,h.2.1,λ r hr=>hq È (h.2.2 r hr)]
example Ñ8:=es.size
example Ñ9:=#[es,ep,t,ho,X,hled,hpl,hfew]
example Ò0{vs:zLV}:=0
example Ò1{p:Addr}:=0
example Ò2{E:zVP}:=0
example Ò3(k:Key):=0
example Ò4(enc:α->T):=0
example Ò5:=Î rfl
example Ò6:=λ i j hij hj=>?_
example Ò8:=(show ty=_ from hx)
example Ò9:=fun σ H Q hu=>?_
example Ó0:=Wn I a3 t u' (A:=X.A) ë a4 a5 a1 a2 rx ry
example Ó1:=Wk I p hz h1 h2 h3 u (j:=j) (by simp[hj])
example Ó2:=Inv X gV σ H s'
example Ó3:=(ĥ k)
example Ó4:=Sn (yn S' Z) y d
example Ó6:=by simp![Sn] at r;let#[ds,rfl,r]:=r;simp![q_] at e;split at e
example Ó7 _:=x D ?_ Ų ?_ ?_ #[λ e he=>(by cases he),λ j r hj=>⋯] ?_
example Ó8:=by have:i=j:=⋯;ext Ü2;show É0
example Ó9{n:Nat}:=0
example Ô0:=by let#[Z,ys,y,hz,r,e,hq]:=hs;unfold zP at e
example Ô1:=zS (aq Į) ha hb
example Ô2:=(∀ i:Nat,pick[i]?=↑none->B[i]?=↑none)
example Ô3:=t.place.getD i 0
example Ô4:=by let#[a',xs',ds',q,k1,k2,k3]:=h2.kO r2
example Ô5 _:=x (A:=A.in1.in1.in1) (by simp[hh]) _ l hneI its
example Ô6:=zA4 _
example Ô7:=.tuple_list ‹_› Å
example Ô8:=H b=↑(Ķ (k.map kV))
example Ô9:=(e1.trans e2).trans e3
example Õ0:=(Ĺ Ē).toArray.toList
example Õ1 _:=x hg2 () () he hg h1 h2 h3
example Õ4:=by rcases xI e with ⟨rfl,hl',e⟩ | ⟨n,e⟩
example Õ5 _:=x b its.toArray its2.toArray n n2 dd dd2 sl sl2
example Õ6:=List (κ × β)
example Õ7:=by simp![Sn]
example Õ8(a:Addr) (es:Ä1) (ep:Nat):=0
example Õ9:=by cases ef;cases hx.int;cases hy.int
example Ö0:=by have q:=h.flat r;subst q
example Ö1:=(show 0<M+1 by lia)
example Ö2:=by unfold È7;split <;> lia
example Ö3:=.list_tuple ‹_› Å
example Ö4:=List Nat
example Ö5:=by cases e2;change Q (!ds.isEmpty) S1;rw[h2.empty];show Ë1
example Ö6{i j:Nat}:=0
example Ö7:=by simp![zC4,Í1]
example Ö8:=(Ć n).map λ(k:Nat)=>T.int (lo+(k:Int))
example Ö9:=by let#[p,ob,h1,h2,h3,h4]:=F.er.ow i _ h
example Ø0:=by unfold SetTable.fill;rw[p3.jq,p3.len];simp;lia
example Ø3:=(ň ds)
example Ø4:=.bl b
example Ø5:=.zK ks ts
example Ø6:=zA2.mp
example Ø7:=(kvs.find? Ñ).map Ň
example Ø8:=h1.symm.trans e
example Ø9:=(I.tok _)
example Ù0:=Heap.SameBut
example Ù2:=i.length+j.length<=Ó
example å6:=Y[i]?
example Ù3:=å6=↑↑(.own ts)
example Ù4:=(xq is Y)
example Ù5:=ys.length
example Ù6:=qh is g b ys Y2
example Ù7:=below.go xs j f lo hi
example Ù8:=(way ð h k1).j
example Ù9:=xs.take p
example Ú1:=hperm.length_eq
example Ú2{α β:Type}:=0
example Ú5(ts:Ä):=0
example Ú6(H:Hp) (a:Addr):=0
example Ú7(Y:Ev):=0
example Ú9 _:=x n e1 e2 e3 e4
example Û0(hf:q8 f te):=0
example Û1 _:=x Ç y _ F.er
example Û3:=.nil
example Û4:=l.length
example Û5:=PySem.Spec
example Û6:=Value.type
example Û7:=xt S a b
example Û8:=hq #[ds,_] S1 s1 h2 λ S'' s=>s È h1
example Û9:=owner.size
example Ü0:=Obj.putSet
example Ü1:=by rcases X.tab.mask with e | e | e <;> lia
example Ü4{b:Bool}:=0
example Ü5(h:yU f t):=0
example Ü7(é:ó Ĭ):=0
example Ü8(pick:List Ĭ):=0
example Ü9:=by .subst q;unfold mx;ext Ā;rw[h1,h3];show key
example Ý0:=by have q:=h2.flat r2;cases q;rfl
example Ý1:=by simp![zp] at q ⊢;let#[c,cs,q1,q2,q3]:=q
example Ý3(k:Nat):=0
example Ý4(neg:Bool):=0
example Ý5{é:ó Ĭ}:=0
example Ý8:=by rename_i h;cases ef
example Ý9{j:Nat}:=0
example Þ0{neg:Bool}:=0
example Þ1:=t::ts
example Þ2:=(.bl (cond neg (!eqT t u) (eqT t u)))
example Þ3 _:=x Q E s
example ñ4{Q:zVP}:=0
example Þ4 ñ4(hu:ś+1<Œ):=0
example Þ5(Sc:pX N ps (yk st)) (hn:n=ps.length):=0
example Þ6(hashes:ó Int) (hl:hashes.size<=M+1):=0
example Þ8:=String
example Þ9:=h' Ð8 y _ (Ž) e2 λ S2 s2=>hq S2 ĳ
example ß0:=hq _ S1 s1 À5
example ß1:=(sb.2 c (λ z=>hc (z▸za1))).trans e
example ß2:=(ī).objs.size
example ß3:=by by_cases e:p.1=k
example ß4 _:=x (Ï7) p1 h1 λ y S2 w2 H2 h2 q2 e2 p2=>?_
example ß5{f:zEO}{t:zy}:=0
example ß7:=by have:lo=hi:=⋯;ext Ü2;show#[h3,h4,h5]
example ß8:=h.objs.size
example à0:=λ S3 Z3 L3 F3=>#[Z3,Y2,F3,e']
example à1:=(Þ).toList
example à2 _:=x gV s σ H _ I h
example à3 _:=x a (Ý b) Ŋ true fuel
example à4:=backTo cpos (starEach [e,f] Á7)
example à6:=(∀ c S',Ŧ->R S S' Z z c->Q c S')
example à7:=Sn (yn S λ a=>Z a/\a≠p) (ø) Ò7
example ì7:=probe.go
example à8:=ì7 t hashAt h f (way ð h k)
example à9:=order.toList.filterMap λ k=>xs[k]?
example á0:=by let#[y,e1,rfl]:=Ű e
example á1{Q:DK}(hs:zM R (zP N n g) ds S Q):=0
example á2:=by unfold mx at h ⊢;dsimp only at h ⊢;split at h
example á3:=ä i 0
example á4:=by exists h
example á5:=(i+1)
example á6:=(rm ty T)
example á7:=S p=none
example á8:=by simp[eqT]
example â0:=(.dT kvs)
example â1:=rel.val k
example â2:=Sn.sx
example â3:=(hName i)
example â4:=hq _ S1 s1 (Z_ È) λ _ _=>trivial
example â5:=(Ê1 nD)
example â6:=xc.mpr #[q,za1,zC6 _,zC6 _]
example â7:=h.elim
example â8:=È7 M i-i
example â9:=xs.drop p
example ã0:=L.size
example ã1:=setSearchFrom
example ã2:=(Ī Ē).Nodup
example ã3 _:=x (.type ty) (.type T)
example ã4(kvs:Ą):=0
example ã5 _:=x (λ _ j=>0<=j) λ i j=>ò (i/2 ^ j.toNat)
example ã7:=by ext Ê3;let#[a,xs,rfl,g1,_]:=r;cases h
example ã8:=by simp only at hc hd hc2 hd2;subst hc hd hc2 hd2
example ã9:=by have:l=r:=⋯;ext Ü2;show#[h2,ha,hb]
example ä0:=((x2.trans x3).trans a2).trans x5
example ä1(h:i<Á1):=0
example ä2:=(∀ L',FR Õ3 S Z L' Y'->Q L' S)
example ä3:=qh is g b (Ī enc) Y=↑(.nx Y')
example ä4:=#[λ e he=>?_,λ j r hj hrj=>?_]
example ä5{tg:Expr}(hm:X.mg "range"=none):=0
example ä6 _:=x Ŏ X.xe _ #[.bl _,H,I,rfl,q]
example ä7:=by constructor
example å0:=Ý a
example å1:=Value.none
example å2:=I.tuple
example å3:=ò i
example å4:=(.bl (cond neg (!(Ã6)) (Ã6)))
example å7:=Vw S Z y d
example å9:=λ j k us vs q n e1 e2 e3 e4=>?_
example æ0:=by exists hi
example æ1:=owner.getD
example æ2:=wpAny_storeSet_of ho rfl ?_ hsl
example æ5 _:=x È È
example æ6:=by simp![bne_self_eq_false,zC4,Í1]
example æ7{K:zFr}:=0
example æ8:=by let#[ys,e1,e2]:=ô;exact h Ç ys Ŭ
example æ9:=List (V× Â)
example ç0:=by cases y <;> first | show#[h.1,hq È h.2] | show h
example ç1:=by ext Ê3;let#[a,xs,rfl,g1,g2]:=r
example ç2:=Ŗ "tuple" q
example ç3:=(apos.endLine == cpos.line)=true
example ç4:=y4 d S=↑ds
example ç5:=by simp[qb]
example ç6:=#[rfl,rfl]
example ç7:=(a,b)::kvs
example ç8:=λ i j=>ò (Builtin.bitAnd i j)
example ç9:=#[d,h1,â2 (gK s hp) t h2]
example è0:=Ä->î
example è1:=Classical.em
example è2:=∃ (e:Nat),e<=M/\é[e]?=↑ Ì2
example è3:=by have e:j=k:=⋯;subst e;by_cases hi:i=j
example è4:=by ext Ā;rw[É za6]
example è5{y:V}{u:ú}:=0
example è6(m:M2 X o "get" apos e f cpos):=0
example è7{Z:è}{y:T}:=0
example è8:=by ext Ä5;let#[m,t,rfl]:=hall v za1
example è9:=PySem
example é0:=is'.toArray.size
example é1:=.bool_tuple _ Å
example é2:=(.Compare a [.NotEq] [b] pos)
example é3:=(kvs++[(k,d)])
example é5:=hq _ Ü (Cl.of (n È) (h ŕ))
example é6:=h.fr i ts p e ed
example é7:=List.drop_eq_getElem_cons hlt
example é8:=#[[œ,a],[]]
example é9:=zcO (zcZ S.get rfl S.fits ?_)
example ê0 _:=x nN.mo (nN.fits λ _ _ _=>Ĥ) ha.mo
example ê2 _:=x ts (m.map Ň)
example ê3 _:=x A s (Ý l) (Ý l')
example ê4(kvs:Í9) (k:κ):=0
example ê5(h:T->À (À T)):=0
example ê7:=by rw[zA3] at hg;let#[e,e1,e2]:=Ű hg
example ê8:=(if ([]:List Keyword).isEmpty then 0 else 1)
example ê9:=by rename_i e;cases h;let#[xs,g1,_]:=p È e
example ë0:=(λ b o hb q=>by rw[lp hb];show q)
example ë1:=#[v,hv,by simp[pP];lia]
example ë2:=by rintro⟨v,hv,hg⟩;have:=hl v hv
example ë3:=by ext Ê3;let#[a,xs,rfl,_]:=r;rfl
example ë4:=by exact zcO (zcZ ho hd X.fits ?_);ext Ā
example ë5:=.tuple_bool _ Å
example ë6(val:κ->β->ú) (its:zAV) (ks:List κ):=0
example ë7:=by ext Ā;rw[e];show h
example ë8:=by cases Vw.bl r1
example ë9:=É (by rw[T.jq];simp[has])
example ì1:=by cases e2;show Ë1
example ì2:=by rename_i hb;ext Ā
example ì3:=by simp[valueAt,zaL,e']
example ì5:=È7 M Ř
example ì6:=((ĭ).i*5+1+(ĭ).perturb/32)
example ì8:=∀ q'<q,j8 é (way M h q').j
example í0:=İ Í (call (œ) [Ý l]) Þ3
example í1(h:Heap):=0
example í2:=by simp![Sn] at h
example í3:=by ext Ï;ext Ü6
example í6 _:=x #[_,ho,rfl] #[_,ho2,rfl]
example í7{pick:List Ĭ}:=0
example í8:=by rw[h2.len,h4.len];show h
example í9:=by simp![plainT] at h;cases h
example î0:=xr.bind
example î1:=get?_update_seq
example î2:=(call (Í2 "sorted") [å0])
example î3:=(qs.map Ň)
example î4:=H a=↑ ţ
example î5:=Ŗ "bool" q
example î8:=m.map Ē=ks
example î9:=#[c,rfl,h1]
example ï0:=is.toArray.size
example ï1:=.bool_list _ Å
example ï2:=compareOp
example ï3:=#[y,by simpa using e1,e2]
example ï4:=ts.drop
example ï5:=Sn Ă y d
example ï6:=ER Ç
example ï7:=(yN i)
example ï8:=hq _ Ü À5
example ï9:=Decidable
example ð0:=Vw.int r1
example ð1:=Ê4->Bool
example ð2:=(nJ λ a z=>z.1)
example ð3:=λ b o q=>?_
example ð4:=Ä->À (Ä)
example ð6:=#[cls2,dd2,data2,sl2]
example ð7:=λ k=>hashes.toList.getD k 0
example ð8:=∃ k c,v=Ý c/\ũ õ ľ k c
example ð9:=unsupported
example ñ0:=(hperm.map _).nodup_iff.mpr
example ñ2:=Up Å2 i xs
example ñ3:=Heap->Õ6->Prop
example ñ7:=by let#[its,w1,pl,_]:=I.list g1
example ñ8{k:Key}:=0
example ñ9 _:=x (k:=Sum.inl k) g1
example ò0(R:Rk):=0
example ò1(hg:yp R g t) (hh:yp R h u):=0
example ò2{xs:Ĳ}:=0
example ò3{M:Nat}:=0
example ò4(L:Lay M hs é m) (hm:m<=M):=0
example ò6:=by rw[o7 (hn p za1)];show h3
example ò7:=.list_bool _ Å
example ò8(k j:Key) (d:T):=0
example ò9:=by .rename_i h;rw[Î h] at e;show eV e
example ó0:=List Expr
end
end L3
namespace L4
open è9 PySem.W Ť
def xr Č Î3 (lt:Ľ):KasT α->(α->Prop)->Prop
 | .ret a,Q=>Q a
 | .ask i j k,Q=>i<n/\j<n/\xr n lt (k (lt i j)) Q
theorem Î6 Č Ó9{lt:Ľ}{Q Q':α->Prop}(hq:∀ a,Q a->Q' a):∀ {t:KasT α},xr n lt t Q->xr n lt t Q'
 | .ret _,h=>hq _ h
 | .ask ŕ,h=>#[h.1,h.2.1,Î6 hq h.2.2]
theorem î0 Ú2 Ó9{lt:Ľ}{f:α->KasT β}{Q:β->Prop}:∀ {t:KasT α},xr n lt t (λ a=>xr n lt (f a) Q)->xr n lt (t.bind f) Q
 | .ret _,h=>h
 | .ask ŕ,h=>#[h.1,h.2.1,î0 h.2.2]
section
variable {Ó9}{lt:Ľ}
def Le (lt:Ľ) (a b:Nat):Prop:=lt b a=à
structure Ord (lt:Ľ):Prop where
 tr:∀ a b c,Le lt a b->Le lt b c->Le lt a c
 as:∀ a b,lt a b=true->Le lt a b
def Ord.refl Ð1 (a:Nat):Le lt a a:=by
 cases h:lt a a with
 | à=>show h
 | true=>show o.as a a h
def qt Î3 (p:ŵ):Prop:=p.Perm (Ć n).toArray
theorem qt.size {p:ŵ}(h:qt n p):p.size=n:=by rw[Array.Perm.size_eq h];simp
theorem qt.below {p:ŵ}(h:qt n p) Ê8(hi:i<n):á3<n:=by
 have hs:=h.size;have hm:á3 ∈p:=by
  rw[zbY,zB8 ⋯];show Array.getElem_mem ⋯
 have:á3 ∈(Ć n).toArray:=(Array.Perm.mem_iff h).mp hm;exists this
def eV {p q:ŵ}Ö6(h:p[i]?=q[j]?):á3=q.getD j 0:=by rw[zbY,zbY,h]
def ny (lt:Ľ) (p:ŵ) Ý3:Prop:=∀ i j,i<=j->j<k->Le lt (á3) (ä j 0)
def lS (lt:Ľ) (p:ŵ) Ý3:Prop:=∀ i j,i<=j->j<k->Le lt (ä j 0) (á3)
def ny.next ķ æ4(h:ny lt p k) (hk:1<=k) (hl:Le lt (ä (k-1) 0) Æ7):ny lt p (k+1):=λ i j hij hj=>by
 by_cases hjk:j<k
 .show h i j hij hjk
 .ext è3
  .subst hi;show É0
  .show o.tr ŕ (h i (j-1) ë) hl
def lS.next ķ æ4(h:lS lt p k) (hk:1<=k) (hl:Le lt Æ7 (ä (k-1) 0)):lS lt p (k+1):=λ i j hij hj=>by
 by_cases hjk:j<k
 .show h i j hij hjk
 .ext è3
  .subst hi;show É0
  .show o.tr ŕ hl (h i (j-1) ë)
theorem Wg ķ Æ6:∀ (f a:Nat),1<=a->a+f<=n->ny lt p a->
  xr n lt (kas_asc p f a) λ m=>a<=m/\m<=a+f/\ny lt p m/\(m=a+f\/Ã7=true)
 | 0,a,_,_,hs=>#[Ô6,Ô6,hs,ĥ rfl]
 | f+1,a,h1,h2,hs=>by
  exact Ő;cases c:lt (ä a 0) (ä (a-1) 0) with
  | true=>show#[Ô6,⋯,hs,ń c]
  | à=>
   exact Î6 ?_ (Wg o hp f (a+1) ë (hs.next o h1 c));rintro m ⟨g1,g2,g3,g4⟩;show#[⋯,⋯,g3,g4.imp (λ e=>⋯) id]
def fQ {p:ŵ}Æ6 (i j:Nat):qt n (kas_rev p i j):=Array.Perm.trans (mirror_perm æ5) hp
theorem fR {p:ŵ}Æ6 Ö6(hj:j<=n) Ý3:Ï5=if i<=k/\k<j then ä (i+j-1-k) 0 else ä k 0:=by
 have e:=getElem?_mirror_all (xs:=p) (i:=i) (j:=j) (by rw[hp.size];show hj) k;split
 ext ò9
 .rename_i h;rw[É h] at e;show eV e
def rev_eq ķ Æ6 Ö6(hj:j<=n) (he:∀ a b,i<=a->a<j->i<=b->b<j->Ð9) Ý3:
  Le lt (Ï5) Æ7/\Le lt Æ7 (Ï5):=by
 rw[fR hp hj];split
 .rename_i h;show#[he È ë h.1 h.2,he È h.1 h.2 ë]
 .show#[É0,É0]
def lS.of_eq Ð1 {p q:ŵ}æ4(h:lS lt p k) (e:∀ k,Le lt (q.getD k 0) Æ7/\Le lt Æ7 (q.getD k 0)):lS lt q k:=λ i j hij hj=>
 o.tr ŕ (e j).1 (o.tr ŕ (h i j hij hj) (e i).2)
def W_ (lt:Ľ) (p:ŵ) (m q:Nat):Prop:=∀ a b,m-(q+1)<=a->a<m->m-(q+1)<=b->b<m->Ð9
theorem aH Ð1:∀ (f:Nat) (p:ŵ) (m q:Nat),qt n p->1<=m->m+f<=n->lS lt p m->q+1<=m->W_ lt p m q->
  xr n lt (kas_desc f p m q) λ r=>qt n r.1/\m<=r.2.1/\r.2.1<=m+f/\lS lt r.1 r.2.1/\r.2.2+1<=r.2.1/\W_ lt r.1 r.2.1 r.2.2
 | 0,p,m,q,hp,_,_,hd,hq,hb=>#[hp,Ô6,Ô6,hd,hq,hb]
 | f+1,p,m,q,hp,h1,h2,hd,hq,hb=>by
  have one:∀ p':ŵ,W_ lt p' (m+1) 0:=λ p' a b a1 a2 b1 b2=>by
   have:a=b:=⋯;ext Ü2;show É0
  exact Ő;cases c:Ã7 with
  | true=>
   ext Ā;rw[Ò5];have hl:=o.as È c;by_cases h0:q>0
   .rw[Î h0];have e:=rev_eq o hp (i:=m-(q+1)) (j:=m) ⋯ hb;have hp':=fQ hp (m-(q+1)) m;exact Î6 ?_ (aH o f _ (m+1) 0 hp' ë ((hd.of_eq o e).next o h1 (o.tr ŕ (e m).1 (o.tr ŕ hl (e (m-1)).2))) ⋯ (one _));ext ŋ
   .rw[É h0];exact Î6 ?_ (aH o f _ (m+1) 0 hp ë (hd.next o h1 hl) ⋯ (one _));ext ŋ
  | à=>
   ext è4;exact Ő;cases d:lt (ä (m-1) 0) (ä m 0) with
   | true=>show#[hp,Ô6,(by change m<=m+(f+1);lia),hd,hq,hb]
   | à=>
    ext è4;exact Î6 ?_ (aH o f _ (m+1) (q+1) hp ë (hd.next o h1 d) ⋯ λ a b a1 a2 b1 b2=>?_)
    .ext ŋ
    .by_cases ha:a=m
     .by_cases hb':b=m
      .subst ha;subst hb';show É0
      .subst ha;show o.tr ŕ d (hb (a-1) b ë ë)
     .by_cases hb':b=m
      .subst hb';show o.tr ŕ (hb a (b-1) ë ë) c
      .show hb a b ë ë
theorem VD ķ{m:Nat}Æ6 (h1:1<=m) (h2:m<=n) (hd:lS lt p m):xr n lt (kas_tail3 m n p) Ã2:=by
 exact î0 (Î6 ?_ (Wg o (fQ hp 0 m) (n-m) m h1 ⋯ Ò6))
 .rintro k ⟨a1,a2,a3,_⟩;show#[fQ hp 0 m,⋯,a3]
 .rw[fR hp h2,fR hp h2,Î #[zD4 _,⋯],Î #[zD4 _,hj]];show hd È ë
theorem RS ķ{m:Nat}Æ6 (h1:1<=m) (h2:m<n) (hd:lS lt p m) (hl:Ã7=true):xr n lt (kas_descPart m n p) Ã2:=by
 exact î0 (Î6 ?_ (aH o (n-(m+1)) p (m+1) 0 hp ë (hd.next o h1 (o.as È hl)) ⋯ λ a b a1 a2 b1 b2=>?_))
 .rintro⟨p',m',q'⟩ ⟨a1,a2,a3,a4,a5,a6⟩;dsimp only at a1 a2 a3 a4 a5 a6 ⊢;by_cases h0:q'>0
  .rw[Î h0];show VD o (fQ a1 È) ë (a4.of_eq o (rev_eq o a1 (i:=m'-(q' + 1)) (j:=m') ⋯ a6))
  .rw[É h0];show VD o a1 ë a4
 .have:a=b:=⋯;ext Ü2;show É0
theorem DZ ķ Æ6 (h1:1<=n):xr n lt (kas_count n p) Ã2:=by
 exact î0 (Î6 ?_ (Wg o hp (n-1) 1 (Ô6) ⋯ Ò6))
 .rintro m ⟨a1,a2,a3,a4⟩;by_cases hm:m=n
  .rw[Î (by simp[hm])];show#[hp,⋯,a3]
  .rw[É (by simp[hm])];have hl:Ã7=true:=a4.resolve_left ⋯;by_cases h2:m>1
   .rw[Î h2];exact Ő;cases c:lt (ä 0 0) (ä (m-1) 0) with
    | true=>show#[hp,⋯,a3]
    | à=>
     ext è4;have all:∀ a b,0<=a->a<m->0<=b->b<m->Ð9:=λ a b _ ha _ hb=>
      o.tr ŕ (a3 a (m-1) ë) (o.tr ŕ c (a3 0 b ⋯ hb))
     have e:=rev_eq o hp (i:=0) (j:=m) ⋯ all;exact RS o (fQ hp 0 m) ë (λ i j hij hj=>o.tr ŕ (e j).1 (o.tr ŕ (all È Ø1 hj Ø1 ⋯) (e i).2)) ?_;rw[fR hp ⋯,fR hp ⋯,É ⋯,Î ⋯];cases q:lt (ä m 0) (ä (0+m-1-(m-1)) 0) with
     | true=>rfl
     | à=>
      have:=o.tr ŕ (all (m-1) (0+m-1-(m-1)) Ø1 ⋯ Ø1 ⋯) q;unfold Le at this;rw[this] at hl;cases hl
   .rw[É h2];have e:m=1:=⋯;subst e;exact RS o hp (Ô6) ⋯ (Ò6) hl;ext Ó8
 .ext Ó8
theorem Yw {p:ŵ}æ4 Æ6 (hk:k<n) (hs:ny lt p k) Ð1:∀ (f l r:Nat),r-l<=f->l<=r->r<=k->(∀ i,i<l->Le lt (á3) Æ7)->(∀ i,r<=i->i<k->lt Æ7 (á3)=true)->
  xr n lt (kas_place p k f l r) λ m=>m<=k/\(∀ i,i<m->Le lt (á3) Æ7)/\(∀ i,m<=i->i<k->lt Æ7 (á3)=true)
 | 0,l,r,h0,h1,h2,ha,hb=>by
  ext ã9
 | f+1,l,r,h0,h1,h2,ha,hb=>by
  unfold kas_place;by_cases hlr:l≥r
  .rw[Î hlr];ext ã9
  .rw[É hlr];exact#[hp.below hk,hp.below ⋯,?_];cases c:lt Æ7 (ä ((l+r)/2) 0) with
   | true=>
    ext Ā;rw[Ò5];exact Yw hp hk hs o f l ((l+r)/2) ë ⋯ ha λ i hi hik=>?_;cases q:lt Æ7 (á3) with
    | true=>rfl
    | à=>
     have:=o.tr ŕ (hs ((l+r)/2) i hi hik) q;unfold Le at this;rw[this] at c;cases c
   | à=>
    ext è4;exact Yw hp hk hs o f ((l+r)/2+1) r ë h2 (λ i hi=>?_) hb;show o.tr ŕ (hs i ((l+r)/2) ë) c
theorem Q_ Ð1:∀ (f:Nat) (p:ŵ) Ý3,qt n p->k+f=n->ny lt p k->xr n lt (kas_bin f p k) λ r=>qt n r/\ny lt r n
 | 0,p,k,hp,h1,hs=>by
  have:k=n:=⋯;ext Ü2;show#[hp,hs]
 | f+1,p,k,hp,h1,hs=>by
  exact î0 (Î6 ?_ (Yw hp ⋯ hs o k 0 k ⋯ Ø1 (Ô6) (λ i hi=>È6 hi (Nat.not_lt_zero _)) λ i hi hik=>È6 hik ⋯));rintro l ⟨a1,a2,a3⟩;exact Q_ o f _ (k+1) (Array.Perm.trans (bubble_perm ŕ) hp) ⋯ Ò6;have ev:∀ x,(bubble p k (k-l)).getD x 0=if x=l then ä k 0 else if l<x/\x<=k then ä (x-1) 0 else ä x 0:=λ x=>by
   have e:=getElem?_bubble (xs:=p) (src:=k) (by rw[hp.size];lia) (k-l) ⋯ x;rw[show k-(k-l)=l by lia] at e;split
   ext ò9
   .rename_i h;rw[É h] at e;split
    .rename_i h';rw[Î h'] at e;show eV e
    .rename_i h';rw[É h'] at e;show eV e
  rw[ev i,ev j];by_cases hi:i=l
  .rw[Î hi];by_cases hj':j=l
   .rw[Î hj'];show É0
   .rw[É hj',Î #[⋯,⋯]];show o.as È (a3 (j-1) ë)
  .rw[É hi];by_cases hj':j=l
   .rw[Î hj',É ⋯];show a2 i ⋯
   .rw[É hj'];by_cases hi2:l<i/\i<=k
    .rw[Î hi2,Î #[⋯,⋯]];show hs È ë
    .rw[É hi2];by_cases hj2:l<j/\j<=k
     .rw[Î hj2];show hs È ë
     .rw[É hj2];show hs È hij ⋯
theorem M7 Ð1 (h1:1<=n):xr n lt (kas_sort n) λ r=>qt n r/\ny lt r n:=by
 have hp:qt n (Ć n).toArray:=Array.Perm.refl _;exact î0 (Î6 ?_ (DZ o hp h1));rintro⟨m,p⟩ ⟨a1,a2,a3⟩;dsimp only at a1 a2 a3 ⊢;by_cases hm:m<n
 .rw[Î hm];exact Q_ o _ p (max m 1) a1 ⋯ ?_;by_cases h0:m=0
  .subst h0;intro i j hij hj;ext Ó8
  .rw[show max m 1=m by lia];show a3
 .rw[É hm];have:m=n:=⋯;ext Ü2;show#[a1,a3]
end
end L4
namespace L4
open è9 PySem.W PySem.Calls Ť
section
variable {prog:Î7}{Ä9}{Ļ}{Ò2}{Ú3}
def Core ū (A:Around) (E:zVP) (vs:zLV) (Out:ó ú->Prop) (s6:Á3):Prop:=
 İ Í (keyKind' Ě) (fun κ s'=>s'=s6/\İ Í ((sortRuns').run (SortSt.mk' κ (ä9) ĩ 7 none))
  (λ r s''=>s''=s6/\failedOf r.2=none/\Out ((arrOf r.2).map Ň)/\(arrOf r.2).size=ċ) E s') E s6
def HR Ė Ò0 Ó9{P:PySem.Fin->ö}{Out:ó ú->Prop}(ho:Ñ0 a=↑(seqObj "list" Ě n)) (hz:ċ<=Ó)
  (core:2<=ċ->∀ s6:Á3,(∀ b o,b≠a->ć->s6.heap.get? b=↑o)->Core ĺ A E vs Out s6) (short:ċ<2->Out Ě)
  (fin:∀ out:ó ú,Out out->out.size=ċ->P (.done (.ret .none)) { s with heap:=sortedHeap ľ a vs out }):
  İ Í (Builtin.«list.sort» #[[å0],[]]) P E s:=by
 have ha:a<Æ:=zA8 ho;obtain⟨e1,g1⟩:∃ e1,(Þ7).get? a=↑(seqObj "list" ĩ e1):=#[_,î1 ho (λ _=>ĩ)];have hz':vs.toArray.size<=Ó:=by rw[zA0];show hz
 have g6:Ŕ a=↑(seqObj "list" ĩ e1):=zcP _ (zcP _ g1);have keep:∀ b o,b≠a->ć->Ŕ b=↑o:=
  λ b o hb e=>zcP _ (zcP _ (by rw[zdE æ5 hb];show e))
 rw[list_sort_plain];exact zcO (listItems_at ho rfl (zcO (listUpdate_at ho rfl (zcO (seqEpoch_at g1 rfl (zcO (wpAny_newTuple (zcO (wpAny_newList (zcV ?_))) (by exists hz))))) hz' Ø1)));by_cases h2:vs.toArray.size<2
 .rw[Î h2,Î h2];have e2:Æ4=Ě:=by
   change (ä9).map Ň=Ě;apply Array.ext #[];intro i h1 h2;simp
  exact zcO É1;ext Ā;rw[StateT.run_pure];exact zcO É1;ext Ā;exact Ã5
  .ext æ6;have q:=fin _ (e2▸short (by exists h2)) (by rw[e2];simp);show zD1 q
  .change ((Æ4)).size<=Ó+1;rw[e2];lia
 .rw[É h2,É h2];have h2':2<=ċ:=by exists h2
  exact zcO (zcU (core h2' _ keep) (fun κ s7 #[hs,h7]=>?_) λ _ _ z=>z);subst hs;exact zcO (zcU h7 (λ r s8 #[hs,hf,hout,hsz]=>?_) λ _ _ z=>z);subst hs;obtain⟨⟨⟩,st⟩:=r;exact Ã5
  .have hf':failedOf st=none:=hf;rw[hf'];ext æ6;show zD1 (fin _ hout (by rw[zbK];show hsz))
  .change ((arrOf st).map Ň).size<=Ó+1;rw[zbK];have:(arrOf st).size=ċ:=hsz;lia
def M6 Ü3 Ò0(out:zAV):∃ e,(sortedHeap (h.push ť) ß8 vs out).get? ß8=↑(seqObj "list" out e):=by
 have there:(h.push ť).get? ß8=↑ ť:=zA9 _ rfl;show#[_,î1 (zcP _ (zcP _ (î1 there λ _=>ĩ))) λ _=>out]
def VP Ė Ò0 ñ4{Out:ó ú->Prop}{N:è}
  (C:∀ Q':List ú->ö,(∀ h1 tk,(∀ b o,¬ N b->ć->h1.get? b=↑o)->Ë5)->İ (model ĺ) A.in1 (collect (å0)) Q' E s) (hz:ċ<=Ó)
  (core:2<=ċ->∀ s6:Á3,(∀ b o,¬ N b->ć->s6.heap.get? b=↑o)->Core ĺ A.in1.in1 E vs Out s6) (short:ċ<2->Out Ě)
  (fin:∀ (out:zAV) (h':Heap) (tk l:Nat),Out out->out.size=ċ->Æ<=l->(∀ b o,¬ N b->ć->Á4)->(∃ e,h'.get? l=↑(seqObj "list" out e))->Q (Ý l) { s with heap:=h',toks:=tk }):
  İ Í î2 Þ3:=by
 exact Calls.call_function_entry kind_sorted plain_sorted entry_sorted (args_sorted1 _) ?_;unfold Builtin.«sorted»;exact zcO (m:=checkCount "sorted" 1 1 _) (zD1 (zcO (C _ λ h1 tk k1 k2=>zcO (wpAny_newList ?_ hz))));have hoL:(h1.push ť).get? h1.objs.size=↑ ť:=zA9 _ rfl;change İ È ŕ { s with heap:=h1.push ť,toks:=tk };exact zcO (zcV (zcW slot_list_sort #[_,hoL,rfl] entry_list_sort (HR hoL hz (λ h2 s6 k=>core h2 s6 λ b o n q=>k b o (zB3 (zA8 (k1 b o n q))) (zcP _ (k1 b o n q))) short λ out g1 g2=>#[_,rfl,?_]) (args_list_sort _)));exact zD1 #[_,rfl,fin out _ tk h1.objs.size g1 g2 k2 (λ b o n q=>?_) (M6 out)];have q1:=k1 b o n q;have hb:=zB3 (zA8 q1);unfold sortedHeap;rw[zdE æ5 hb];exact zcP _ (zcP _ ?_);rw[zdE æ5 hb];show zcP _ q1
end
end L4
namespace L4
open è9 PySem.W PySem.Calls Ť L2
theorem YM:∀ a b:Â,ĵ a b=true->ĵ b a=à
 | [],[],h=>ğ
 | [],_::_,_=>rfl
 | _::_,[],h=>ğ
 | x::a,y::b,h=>by
  rw[HT.k_] at h ⊢;by_cases e:x=y
  .subst e;rw[Ò5] at h ⊢;show YM a b h
  .rw[É e] at h;rw[É (Ne.symm e)];have:=of_decide_eq_true h;show zcR ⋯
theorem YN:∀ a b:Â,ĵ a b=à->ĵ b a=à->a=b
 | [],[],_,_=>rfl
 | [],_::_,h,_=>ğ
 | _::_,[],_,h=>ğ
 | x::a,y::b,h,h'=>by
  rw[HT.k_] at h h';by_cases e:x=y
  .subst e;rw[Ò5] at h h';rw[YN a b h h']
  .rw[É e] at h;rw[É (Ne.symm e)] at h';have h1:=Ŷ h;have h2:=Ŷ h';lia
theorem YL:∀ a b c:Â,ĵ b a=à->ĵ c b=à->ĵ c a=à
 | [],[],[],_,_=>rfl
 | [],[],_::_,_,h=>h
 | [],_::_,[],_,h=>ğ
 | [],_::_,_::_,_,_=>rfl
 | _::_,[],_,h,_=>ğ
 | _::_,_::_,[],_,h=>ğ
 | x::a,y::b,z::c,h,h'=>by
  rw[HT.k_] at h h' ⊢;by_cases e1:y=x
  .subst e1;rw[Ò5] at h;by_cases e2:z=y
   .subst e2;rw[Ò5] at h' ⊢;show YL a b c h h'
   .rw[É e2] at h' ⊢;show h'
  .rw[É e1] at h;have h1:=Ŷ h;by_cases e2:z=y
   .subst e2;rw[É e1];show h
   .rw[É e2] at h';have h2:=Ŷ h';rw[É ⋯];show zcR ⋯
theorem Yz Č{r:α->α->Prop}(an:∀ a b,r a b->r b a->a=b):∀ {l₁ l₂:Ĳ},l₁.Perm l₂->l₁.Pairwise r->l₂.Pairwise r->l₁=l₂
 | [],l₂,h,_,_=>(List.nil_perm.mp h).symm
 | a::l₁,[],h,_,_=>È6 (List.perm_nil.mp h) #[]
 | a::l₁,b::l₂,h,h1,h2=>by
  have hab:a=b:=by
   have ha:a∈b::l₂:=h.mem_iff.mp za1;have hb:b∈a::l₁:=h.mem_iff.mpr za1;rcases Á5 ha with e | ha
   .show e
   .rcases Á5 hb with e | hb
    .show e.symm
    .show an È (List.rel_of_pairwise_cons h1 hb) (List.rel_of_pairwise_cons h2 ha)
  subst hab;rw[Yz an (List.Perm.cons_inv h) (za9.mp h1).2 (za9.mp h2).2]
def qg Ð2:Ġ:=rows.mergeSort λ a b=>! ĵ b a
def lx Ð2:(qg rows).Perm rows:=List.mergeSort_perm È
def c_ Ð2:(qg rows).Pairwise È4:=by
 have:=List.pairwise_mergeSort (le:=λ a b:Â=>! ĵ b a) (λ a b c h1 h2=>by simp at h1 h2 ⊢;show YL a b c h1 h2)
  (λ a b=>by
   cases h:ĵ b a with
   | à=>simp
   | true=>simp[YM b a h]) rows
 show this.imp λ h=>á4
def VQ {rows out:Ġ}(hp:out.Perm rows) (hs:out.Pairwise È4):out=qg rows:=
 Yz (λ a b h1 h2=>YN a b h2 h1) (hp.trans (lx rows).symm) hs (c_ rows)
def fO Ð2 (i j:Nat):Bool:=ĵ (rows.getD i []) (rows.getD j [])
def Ln Ð2:Ord (fO rows):=#[λ _ _ _ h1 h2=>YL ŕ h1 h2,λ _ _ h=>YM È h]
section
variable {prog:Î7}{Ä9}{Ļ}{Ò2}{Ú3}{Î5}
theorem Ss Ü4:∀ (ns ms:Â) (us ws:zLV) Ù,IntsAre us ns->IntsAre ws ms->Q (ĵ ns ms) s->KatLex ĺ A b (Á6 (ns.length<ms.length)) Q (us.zip ws) i s
 | [],[],_,_,_,Û3,Û3,h=>Ë0
 | [],_::_,_,_,_,Û3,ő ŕ,h=>Ë0
 | _::_,[],_,_,_,ő ŕ,Û3,h=>Ë0
 | n::ns,m::ms,_,_,i,ő _ t hu,ő _ u hw,h=>by
  rw[HT.k_] at h;exact kat_cons (SeqAt.EqAt.int_int n t m u ĺ È (kat_go (λ e=>kat_yes ?_) λ e=>kat_no ?_))
  .have e':n=m:=by exists e
   rw[Î e'] at h;rw[show Á6 ((n::ns).length<(m::ms).length)=Á6 (ns.length<ms.length) by simp];show Ss ns ms È á5 hu hw h
  .have e':¬ n=m:=by exists e
   rw[É e'] at h;cases b&&i == 0 with
   | true=>show kat_lt_int h
   | à=>show kat_one È (lt_int h)
def iD í1:List ú->Ġ->Prop:=Paired λ v r=>r≠[]/\∃ b o its n,v=Ý b/\Ñ1/\o.cls=.type "tuple"/\o.data=.seq its n/\IntsAre its.toList r
theorem iD.Ry Ü3:∀ Ò0 Ì4,iD h vs rows->∃ fs,KatTups h vs fs/\fs.length=ċ/\∀ v∈fs,∃ n t,v=Value.int n t
 | _,_,Û3=>#[[],KatTups.nil,rfl,λ _ hv=>È6 hv #[]]
 | _,_,ő #[hne,b,o,its,n,hv,ho,hc,hd,hi] r=>by
  let#[fs,h1,h2,h3]:=iD.Ry r;subst hv;let#[its]:=its;cases hi with
  | nil=>show È6 rfl hne
  | cons k t _=>show#[ò k t::fs,KatTups.cons ho hc hd rfl h1,by simp[h2],λ v hv=>(Á5 hv).elim (λ e=>#[k,t,e]) (h3 v)]
theorem Paired.at' Ú2{F:α->β->Prop}:∀ {l₁:Ĳ}{l₂:List β}Ê8,Paired F l₁ l₂->i<l₁.length->∀ (d:α) (e:β),F (l₁.getD i d) (l₂.getD i e)
 | _,_,_,Û3,h,_,_=>È6 h #[]
 | _,_,0,ő r _,_,_,_=>r
 | _,_,i+1,ő _ t,h,d,e=>by exists Paired.at' (i:=i) t (á4) d e
def iD.ask Ò0 Ì4 Ü4(r:iD ľ vs rows) Ö6(hi:i<ċ) (hj:j<ċ) {C:Bool->ö}(h:C (fO rows i j) s):kas_ask ĺ A (tuples' b) vs i j C s:=by
 let#[_,b1,o1,its1,n1,e1,g1,_,d1,q1]:=Paired.at' r hi å1 [];let#[_,b2,o2,its2,n2,e2,g2,_,d2,q2]:=Paired.at' r hj å1 [];unfold kas_ask;rw[e1,e2];exact kat_lt g1 d1 g2 d2 ?_;have l1:=q1.length;have l2:=q2.length;rw[zD2] at l1 l2;rw[l1,l2];show Ss æ5 0 q1 q2 h
theorem Vk Č Ó9{lt:Ľ}{cmp:Nat->Nat->(Bool->ö)->ö}{Q:α->ö}(hc:∀ i j C,i<n->j<n->C (lt i j) s->cmp i j C s):∀ {t:KasT α},xr n lt t (λ a=>Q a s)->t.kasWp cmp Q s
 | .ret _,h=>h
 | .ask i j _,h=>hc i j _ h.1 h.2.1 (Vk hc h.2.2)
def Wx (vs:zLV) Ð2 (out:zAV):Prop:=
 ∃ ps:List (ú × Â),ps.Perm (vs.zip rows)/\out.toList=Ê1 Ē/\(Ê1 Ň).Pairwise È4
theorem O_ Ú2{l:Ĳ}{m:List β}(h:Û4=m.length) (a:α) (b:β):(Ć Û4).map (λ i=>(l.getD i a,m.getD i b))=l.zip m:=by
 exact zb8 (Ç3) λ i h1 h2=>?_;have h3:i<Û4/\i<m.length:=by simp at h1;lia
 simp[h3.1,h3.2]
theorem My Ì4{p:ŵ}Ó9(hn:p.size=n) (h:ny (fO rows) p n):(p.toList.map λ i=>rows.getD i []).Pairwise È4:=by
 rw[zaV,zbL];intro i j hi hj hij;have:=h i j (zE3 hij) (by rw[<- hn];exists hj);simp![zD2] at hi hj;unfold Le fO at this;simpa [zbY,hi,hj] using this
theorem D_ Ò0 Ì4(r:iD ľ vs rows) (h2:2<=ċ) (qF:ċ<64):Core ĺ A E vs (Wx vs rows) s:=by
 let#[fs,t,hl,hf]:=r.Ry;unfold Core;exact kat_kind (T:=.type "int") t ⋯ (λ v hv=>?_) rfl #[rfl,?_]
 .let#[n,t,rfl]:=hf v hv;show Looks.of_pure rfl
 .exact kat_run (ks:=vs) (Q:=λ st s''=>s''=s/\failedOf st=none/\Wx vs rows ((arrOf st).map Ň)/\(arrOf st).size=ċ) (G:=λ p s''=>s''=s/\qt ċ p/\ny (fO rows) p ċ) rfl h2 qF (λ p st s' hs ha hfl hg=>?_) ?_
  .let#[h1,h3,h4]:=hg;exact#[h1,hfl,#[p.toList.map λ i=>(vs.getD i å1,rows.getD i []),?_,?_,?_],by rw[ha,zbK];show hs]
   .rw[<- O_ (Ñ2 r) å1 []];have:=Array.Perm.toList h3;show List.Perm.map _ (by exists this)
   .rw[kat_snds rfl ha,zD6];rfl
   .rw[zD6];show My hs h4
  .show Vk (λ i j C hi hj hC=>r.ask hi hj hC) (Î6 (λ p hp=>#[rfl,hp]) (M7 (Ln rows) ⋯))
end
section
variable {Í7}
def Paired.perm Ú2{F:α->β->Prop}{l l':Ĳ}(p:l'.Perm l):∀ {m:List β},Paired F l m->∃ m',m'.Perm m/\Paired F l' m':=by
 induction p with
 | nil=>intro m h;show#[m,.refl _,h]
 | cons x _ ih=>
  intro m h;cases h with
  | cons a h=>
   let#[m',h1,h2]:=ih h;show#[_,h1.cons _,ő a h2]
 | swap x y l=>
  intro m h;cases h with
  | cons a h=>
   cases h with
   | cons b h=>show#[_,.swap ŕ,ő b (ő a h)]
 | trans _ _ ih1 ih2=>
  intro m h;let#[m1,h1,h2]:=ih2 h;let#[m2,h3,h4]:=ih1 h2;show#[m2,h3.trans h1,h4]
abbrev PH Ï1 (v:V) (r:Â):Prop:=r≠[]/\∃ b,v=V.ref b/\yw K H b (r.map V.int)
abbrev jz Ï1 (ys:ò5) Ð2:Prop:=Paired (PH K H) ys rows
abbrev VR Ï1:List ú->æ9->Prop:=Paired λ u q=>RelV q.1 u/\PH K H q.1 q.2
theorem VR.of æ7 ſ:∀ {ys:ò5}Ò0 Ì4,Vals ys vs->jz K H ys rows->VR K H vs (ys.zip rows)
 | _,_,_,Û3,Û3=>Û3
 | _,_,_,ő r t,ő r' t'=>ő #[r,r'] (VR.of t t')
abbrev dR (qs:æ9) (H:Hp) (Q:VK):Prop:=∀ p (ps:æ9),H p=none->ps.Perm qs->(Ê1 Ň).Pairwise (È4)->Q Ò7 (upd H p (ň (Ê1 Ē)))
def ZY {gV:zLA}{σ:L2.St}ſ Ú3 Ė Ò0{qs:æ9}{Q:VK}Ì
  (C:∀ Q':List ú->ö,(∀ h1 tk,(∀ b o,¬ Ø2->ć->h1.get? b=↑o)->Ë5)->İ Ï6 X.A.in1 (collect (å0)) Q' X.xe s)
  (hv:VR ñ5 vs qs) (qF:qs.length<64) (q:dR qs H Q):İ Ï6 X.A î2 (EP X gV σ Q) X.xe s:=by
 have hl:ċ=qs.length:=Ñ2 hv;have hz:qs.length<=Ó:=zE0 (zE3 qF) ();have rows_at:∀ h6:Heap,(∀ b o,¬ Ø2->ć->h6.get? b=↑o)->iD h6 vs î3:=λ h6 k=>by
  clear q hl qF hz C
  induction hv with
  | nil=>show Û3
  | cons g t ih=>
   exact ő ?_ ih;let#[r1,hne,b,e1,hb]:=g;rw[e1] at r1;cases r1;let#[its2,rv2,#[o,e,hc,n,hd],_]:=å2 hb;show#[hne,b,o,_,n,rfl,k È id e,hc,hd,by exists intsAre_of rv2]
 exact VP (Out:=Wx vs î3) C ⋯ (λ h2 s6 k=>D_ (rows_at _ k) h2 ⋯) (λ h1=>#[vs.zip î3,.refl _,by rw[List.map_fst_zip (Ç3)],?_]) λ out h' tk p ho hs hp k hat=>?_
 .rw[List.map_snd_zip (Ç3),zbL];intro i j hi hj hij;simp at hi hj;lia
 .let#[ps,g1,g2,g3]:=ho;let#[e,he]:=hat;have z:Paired (λ p q=>RelV q.1 p.1/\p.2=q.2) (vs.zip î3) qs:=by
   clear g1 hs hl qF hz C rows_at q
   induction hv with
   | nil=>show Û3
   | cons a _ ih=>show ő #[a.1,rfl] ih
  let#[qs',q1,q2]:=Paired.perm g1 z;have f:Vals (qs'.map Ē) (Ê1 Ē)/\qs'.map Ň=Ê1 Ň:=by
   clear q1 g1 g2 g3
   induction q2 with
   | nil=>show#[Û3,rfl]
   | cons a _ ih=>show#[ő a.1 ih.1,by rw[zA6,zA6,ih.2,a.2]]
  exact#[Ý p,_,I.laid (t':=tk) (o:=ň (qs'.map Ē)) (λ b o e=>k b o id e) hp #[?_,out.toList,e,by rw[g2];show f.1,by exists he],rfl,q p qs' (I.zI.fresh hp) q1 (by rw[f.2];show g3)];rw[zA7,q1.length_eq];show hz
end
end L4
namespace L2
open è9 Û5 Ť
def rm (ty T:Þ8):Bool:=ty == T||(ty == "bool"&&T == "int")
def cL (ty T:Þ8):Bool:=PySem.W.kitMeta T&&Á6 ((fastBuiltinMro ty).map (λ l=>l.contains (Û6 T))=↑ á6)
def N1:(["NoneType","bool","int","str","tuple","list","dict"].all λ ty=>["int","bool","tuple","list","str"].all λ T=>cL ty T)=true:=by decide +kernel
def Gq æ7{ty T:Þ8}(h:cL ty T=true):PySem.W.kitOne K ã3=↑ á6:=by
 unfold cL at h;rw[zE5] at h;unfold PySem.W.kitOne;split
 .rename_i e;have e':ty=T:=by have:=eq_of_beq e;injection this
  subst e';simp[rm]
 .change (if PySem.W.kitMeta T=true then PySem.W.subIn K ã3 else none)=_;rw[Î h.1];show of_decide_eq_true h.2
def PB Ï1:V->Þ8->Prop
 | .zC,t=>t="NoneType"
 | .bl _,t=>t="bool"
 | ò _,t=>t="int"
 | À8 _,t=>t="str"
 | å0,t=>(t="tuple"/\∃ xs,yw K H a xs)\/(t="list"/\∃ xs,y7 K H a xs)\/(t="dict"/\∃ kvs,î4)
 | _,_=>Ø2
def CJ Í7:xA X (Í2 "isinstance") (λ xs H Q=>∃ x T ty,xs=[x,.ty T]/\PB ñ5 x ty/\cL ty T=true/\Q (.bl á6) H):=by
 intro gV s σ H xs us Q I r h;let#[x,T,ty,rfl,hx,hT,q]:=h;let#[u,c,rfl,ru,rc]:=vals2 r;cases (show c=Û6 T from rc);have e:PySem.W.kitOne X.K ã3=↑ á6:=Gq hT;have fin:∀ tk,EP X gV σ Q (.bool á6) { s with toks:=tk }:=λ tk=>#[.bl _,H,I.tok tk,rfl,q];cases x with
 | zC=>cases (show u=å1 from ru);cases Ò8;show À2 PySem.W.kitx_none I.r_ É7 ļ
 | bl y=>cases (show u=Value.bool y from ru);cases Ò8;show À2 PySem.W.kitx_bool I.r_ É7 ļ
 | int i=>let#[t,rfl]:=(show ∃ t,u=Value.int i t from ru);cases Ò8;show À2 PySem.W.kitx_int I.r_ É7 ļ
 | str y=>let#[t,rfl]:=(show ∃ t,u=Value.str y t from ru);cases Ò8;show À2 PySem.W.kitx_str I.r_ É7 ļ
 | ref a=>
  cases (show u=ł a from ru);rcases hx with ⟨rfl,ys,hq⟩ | ⟨rfl,ys,hq⟩ | ⟨rfl,kvs,hq⟩
  .let#[its,_,#[o,h1,h2,_],_]:=å2 hq;show À2 PySem.W.kitx_tuple I.r_ #[o,h1,h2] ļ
  .let#[its,_,#[o,n,h1,h2,_],_]:=I.list hq;show À2 PySem.W.kitx_list I.r_ #[o,h1,h2] ļ
  .let#[_,_,vs,_,p]:=(show xQ Ŏ H ľ a ţ from I.zI a _ hq)
   let#[o,es,ep,h1,h2,_]:=p;show À2 PySem.W.kitx_dict I.r_ #[o,h1,h2.1] ļ
 | _=>show hx.elim
end L2
namespace L3
open è9 Û5 L2
open Ť hiding St
section
variable {Í7}{æ7}{a b e:Expr}{es:ó0}{te:zy}{tA:y6}{pos p q:Pos}
def uu (hm:X.mg "len"=none) ė (hg:Gl X "len") Õ:PD X (ß9 (Ŗ "len" p) š) (qo mw tA):=
 ma (l7 (CG.or CF) hg hm PySem.boot_len Ł) mw.mo mw.fits ha.mo
def ur (hm:X.mg "list"=none) ė (hg:Gl X "list") Õ:PD X (ß9 (Ŗ "list" p) š) (qo mv tA):=
 ma (jT CB hg hm PyProof.Rows.boot_list Ł) mv.mo mv.fits ha.mo
def vG (hm:X.mg "tuple"=none) ė (hg:Gl X "tuple") Õ:PD X (ß9 (Ŗ "tuple" p) š) (qo mn tA):=
 ma (jT Cy hg hm PyProof.Rows.boot_tuple Ł) mn.mo mn.fits ha.mo
abbrev R3:xx:=nN λ i j=>ò (if j>i then j else i)
abbrev R1:xx:=nN λ i j=>ò (if j<i then j else i)
def uf (hm:X.mg "max"=none) ė È5 (hg:Gl X "max") Õ:PD X (ß9 (Ŗ "max" p) š) (qo R3 tA):=
 ma (l7 (CA hc) hg hm boot_max Ł) ê0
def ud (hm:X.mg "min"=none) ė È5 (hg:Gl X "min") Õ:PD X (ß9 (Ŗ "min" p) š) (qo R1 tA):=
 ma (l7 (C9 hc) hg hm boot_min Ł) ê0
def oZ (r:Â):D:=Ķ (r.map D.int)
theorem zt.bz ſ:∀ {ps:æ9},(∀ q∈ps,zj K H (oZ q.2) q.1)->zt K H ((Ê1 Ň).map oZ) (Ê1 Ē)
 | [],_=>Û3
 | q::ps,h=>ő (h q za1) (zt.bz λ q hq=>h q (za2 _ hq))
theorem zt.cE ſ:∀ Ì4{ys:ò5},zt K H (rows.map oZ) ys->∀ q∈ys.zip rows,zj K H (oZ q.2) q.1
 | [],ys,_,q,hq=>by simp at hq
 | r::rows,ys,h,q,hq=>by
  rw[zA6] at h;simp![zt] at h;let#[x,ys',rfl,h1,h3]:=h;rcases Á5 hq with e | hq
  .subst e;show h1
  .show zt.cE h3 q hq
theorem bh ſ:∀ Ì4{ys:ò5},zt K H (rows.map oZ) ys->(∀ r∈rows,r≠[])->L4.jz K H ys rows
 | [],ys,h,_=>by simp![za4,zt] at h;subst h;show Û3
 | r::rows,ys,h,hn=>by
  rw[zA6] at h;simp![zt,oZ,zj] at h;let#[x,ys',rfl,#[a,xs,rfl,g1,g2],h3]:=h;rw[g2.ints] at g1;show ő #[hn r za1,a,rfl,g1] (bh h3 λ r' hr=>hn r' (za2 _ hr))
def v8 ä5 (ha:y9 X [a] tA) (hg:Gl X "range") (hs:starEach [a] Á7=[(à,eval a Á7)]):yu X tg (ß9 (Ŗ "range" p) [a] [] pos) (YW tA):=Jo (Kw hg hm ha.pa hs) ha.mo
def v7 ä5 (ha:y9 X [a,b] tA) (hg:Gl X "range") (hs:starEach [a,b] Á7=[(à,eval a Á7),(à,eval b Á7)]) (hs2:starEach [b] Á7=[(à,eval b Á7)]):yu X tg (ß9 (Ŗ "range" p) [a,b] [] pos) (YV tA):=Jn (Kv hg hm ha.pa hs hs2) ha.mo
def jO (d:D) (S:SS):À Þ8:=match d with
 | .zC=>↑"NoneType"
 | .bl _=>↑"bool"
 | ò _=>↑"int"
 | À8 _=>↑"str"
 | Ķ _=>↑"tuple"
 | .qC _=>↑"list"
 | Ý p=>match S p with
  | some (ň _)=>↑"list"
  | some (.xa _)=>↑"dict"
  | _=>none
def gU (T:Þ8) (te:zy):zy:=fun L S Q=>te L S λ x S1=>match jO x S1 with
 | some ty=>Q (.bl á6) S1
 | _=>Ø2
theorem jO.ok ſ ř{v:V}ŏ{ty:Þ8}Ç2 (p:yo K H S) (h:jO d S=↑ty):PB K H v ty/\ty∈["NoneType","bool","int","str","tuple","list","dict"]:=by
 cases d with
 | tup ds=>
  ext ã7;show#[ĥ #[rfl,xs,g1],#[]]
 | qC ds=>
  ext ã7;show#[ń (ĥ #[rfl,xs,g1.sq]),#[]]
 | ref a=>
  ext Ê3;subst r;unfold jO at h;dsimp only at h;split at h
  .ext ê9;show#[ń (ĥ #[rfl,xs,y7.of g1]),#[]]
  .ext ê9;show#[ń (ń #[rfl,xs,g1]),#[]]
  .cases h
 | _=>ext Ê3;subst r;cases h;show#[rfl,#[]]
def bD {T:Þ8}{x:Str}(hT:T∈["int","bool","tuple","list","str"]) (hm:X.mg "isinstance"=none) (hm2:X.mg x=none) (hv:bootBuiltins x=↑(.type T)) (hg2:Gl X x) (hn:x≠"__name__") (hd:(x == ("__debug__":Str))=à) Ń
  (h1:zEE X e [Ŗ x q]) (h2:zEB X pos [Ŗ x q]) (h3:zEE X (Ŗ x q) []):
  PD X (ß9 Ê2 [e,Ŗ x q] [] pos) (gU T te):=by
 exact#[fun L S Q Q' hq z=>he.mo L S È (λ y S1 z=>?_) z,PE.imp (l7 CJ hg hm boot_isinstance (kj he.pe (kj (Jc (v:=.ty T) hg2 hm2 hv rfl hn hd) ki h3) h1) () () h1 h2) Ò9]
 .split at z
  .show hq È z
  .show z
 .ext ĝ;exact zQ.go he.mo r1 r2 z λ y S1 v H1 z1 q1 e1 p1=>?_;split at z1
  .rename_i ty ht;let#[g1,g2]:=jO.ok q1 p1 ht;exact#[v,T,ty,rfl,g1,?_,z1 _ H1 (Ĥ) e1 p1];show zE4.mp (zE4.mp N1 ty g2) T hT
  .show z1.elim
def u6 (T:Bt X.mg) Ń (hg2:Gl X "bool") (h1:zEE X e [î5]) (h2:zEB X pos [î5]) (h3:zEE X (î5) []):
  PD X (ß9 Ê2 [e,î5] [] pos) (gU "bool" te):=bD #[] T.isinstance T.bool PyProof.Rows.boot_bool Õ1
def u5 (T:Bt X.mg) Ń (hg2:Gl X "int") (h1:zEE X e [Ŗ "int" q]) (h2:zEB X pos [Ŗ "int" q]) (h3:zEE X (Ŗ "int" q) []):
  PD X (ß9 Ê2 [e,Ŗ "int" q] [] pos) (gU "int" te):=bD #[] T.isinstance T.int PyProof.Rows.boot_int Õ1
def u3 (T:Bt X.mg) Ń (hg2:Gl X "tuple") (h1:zEE X e [ç2]) (h2:zEB X pos [ç2]) (h3:zEE X (ç2) []):
  PD X (ß9 Ê2 [e,ç2] [] pos) (gU "tuple" te):=bD #[] T.isinstance T.tuple PyProof.Rows.boot_tuple Õ1
def uk {o:Expr}{to:zy}{apos cpos:Pos}(ho:PD X o to) (he:PD X e te)
  (hbase:attributeBase o "append" Á7 (eval o Á7)=eval o Á7)
  (hfew:((backTo cpos (starEach [e] Á7)).all (λ x=>!x.1)&&Æ8
   && Á6 ([e].length+([]:List Keyword).length+ê8<30))=true)
  (hline:ç3) (hs:zEE X e []) (hplain:zEB X cpos []):
  PD X (ß9 (.Attribute o "append" apos) [e] [] cpos) (mz to te):=
 Jx (o:=o) (e:=e) (bC PySem.F.plainAttrs_list PySem.F.slot_list_append PySem.F.type_list_append YE ho.pe (kj he.pe ki hs) hbase hfew hline hs hplain) ho.mo he.mo
structure FD (P:Î7) Ú4 ñ6 (mg:zSV) (base:Heap) (x:Str) Ý3 (ps:Ý6) (sp:qK):Prop where
 ex:∃ (f:Addr) (fd:FuncData),pA ê1 xn k f fd ps (om K sp)/\mg x=↑(Ý f)/\PySem.W.keepIn K (Ý f)=true/\Binds K fd ps []
 mo:jA sp
def Jv {x:Str}æ4{ps:Ý6}{sp:qK}(F:FD Ŏ X.K X.mg X.base x k ps sp) (hr:y8 k X.A) ė (hg:Gl X x) (hdb:(x == ("__debug__":Str))=à)
  Õ:PD X (ß9 (Ŗ x p) š) (jv sp tA):=by
 let#[#[f,fd,h1,h2,h3,h4],hm]:=F;show Jw (E:=E0) (Jb h1 hr hg h2 h3 h4 Û3 fY ha.pa hdb he hpl) hm ha.mo
end
def Dg ŏ Ò1 Ë{Q:DK}(e:S p=↑ Ø3) (h:Q (Ķ ds) S):mn [Ý p] S Q:=by
 unfold mn;ext ë7
def Dh ŏ ř Ë{Q:DK}(e:ç4) (h:∀ p,á7->Q Ò7 (ups S p Ø3)):mv [d] S Q:=by
 unfold mv;ext ë7
def Di ŏ ř Ë{Q:DK}(e:ç4) (h:Q (ò î6) S):mw [d] S Q:=by
 unfold mw;ext ë7
def NB ŏ Ò1 Ë{Q:Bool->SS->Prop}(e:S p=↑ Ø3) (h:Q (!ds.isEmpty) S):oV Ò7 S Q:=by
 unfold oV;ext ë7
def Dm ŏ Ò1 Ë{i:Int}ř{Q:DK}(e:S p=↑ Ø3) Ç8:pR Ò7 (å3) S Q:=by
 unfold pR;ext Ā;rw[e];ext Ā;rw[e2];show h
def Dj ŏ Ë{i:Int}ř{Q:DK}Ç8:pR (Ķ ds) (å3) S Q:=by
 unfold pR;ext Ā;rw[e2];show h
def Dl ŏ Ë{i:Int}ř{Q:DK}Ç8:pR (.qC ds) (å3) S Q:=by
 unfold pR;ext Ā;rw[e2];show h
inductive T where
 | zC | bl (b:Bool) | int (i:Int) | str (x:Str) | tup Ú5 | lst Ú5 | zK (ks:Æ0) Ú5
mutual
def eqT:T->T->Bool
 | .zC,.zC=>true
 | .bl a,Ø4=>a == b
 | .bl a,ò b=>(if a then 1 else 0) == b
 | ò a,Ø4=>a == (if b then 1 else 0)
 | ò a,ò b=>a == b
 | À8 a,À8 b=>a == b
 | Ķ a,Ķ b=>qb a b
 | ň a,ň b=>qb a b
 | .zK k a,.zK l b=>Á6 (k=l)&&qb a b
 | _,_=>à
def qb:Ä->Ä->Bool
 | [],[]=>true
 | a::as,b::bs=>eqT a b&&qb as bs
 | _,_=>à
end
mutual
def dep:T->Nat
 | Ñ3=>1+î7
 | ø=>1+î7
 | .zK È=>Œ
 | _=>0
def xl:Ä->Nat
 | []=>0
 | Þ1=>max (dep t) (î7)
end
def Y6:Ä->Bool
 | []=>true
 | ò _::ts=>Y6 ts
 | _=>à
def JX (ns:Â):Y6 (ns.map T.int)=true:=by
 induction ns with
 | nil=>rfl
 | cons n ns ih=>show ih
mutual
def Sn (S:SS):T->D->Prop
 | .zC,d=>d=.zC
 | Ø4,d=>d=Ø4
 | å3,d=>d=å3
 | À8 x,d=>d=À8 x
 | Ñ3,d=>∃ ds,d=Ķ ds/\â
 | ø,d=>∃ ds,((d=.qC ds/\Y6 ts=true)\/∃ a,d=å0/\S a=↑ Ø3)/\â
 | Ø5,d=>∃ a m,(d=å0/\î8)/\S a=↑(.zK m)/\zp S ê2
def zp (S:SS):Ä->List D->Prop
 | [],ds=>ds=[]
 | Þ1,ds=>∃ c cs,ds=c::cs/\Sn S t c/\zp S ts cs
end
mutual
theorem Dr:∀ t:T,eqT t t=true
 | .zC=>á8
 | Ø4=>á8
 | å3=>á8
 | À8 x=>á8
 | Ñ3=>by simp![eqT];show da ts
 | ø=>by simp![eqT];show da ts
 | .zK _ ts=>by simp[eqT,da ts]
theorem da:∀ ts:Ä,qb ts ts=true
 | []=>ç5
 | Þ1=>by simp![qb,Dr t,da ts,zbM]
end
theorem Xv:∀ ts us:Ä,qb ts us=((Ć (min ą Ä6)).all (λ j=>eqT Ë6 (us.getD j .zC))&&ą == Ä6)
 | [],[]=>ç5
 | [],_::_=>ç5
 | _::_,[]=>ç5
 | Þ1,u::us=>by
  simp![qb,Xv ts us,zC0];rw[show min (ą+1) (Ä6+1)=min ą Ä6+1 by lia,List.range_succ_eq_map,zaW,zaK];have:(ą+1 == Ä6+1)=(ą == Ä6):=by rw[zC7];simp
  rw[this,Bool.and_assoc];rfl
theorem zp.length ŏ:∀ Ĕ Ë,â->ą=î6
 | [],ds,h=>by ext Ý7;rfl
 | Þ1,ds,h=>by
  simp![zp] at h;let#[c,cs,rfl,_,h2]:=h;simp[zp.length h2]
section
variable {Í7}{Ö}{ŏ}
theorem SM Ì Ė{xs ys:ò5}(h1:yw ñ5 a xs) (h2:y7 ñ5 a ys):Ø2:=by
 let#[_,_,#[o,e,c,_],_]:=å2 h1;let#[_,_,#[o',n,e',c',_],_]:=I.list h2;rw[e] at e';cases e';rw[c] at c'
 injection c' with q
 show È6 q ()
def Sn.kZ Ś Ĕ ř{x:V}(h:Sn S (ø) d) (r:Ã8):∃ a xs ds,x=å0/\y7 ñ5 a xs/\Î8/\â:=by
 ext í2;obtain⟨ds,⟨h,_⟩ | ⟨a,h,e⟩,h2⟩:=h
 .subst h;ext ç1;show#[a,xs,ds,rfl,g1.sq,g2,h2]
 .subst h;ext Ê3;let#[xs,g1,g2]:=p È e;show#[a,xs,ds,r,y7.of g1,g2,h2]
def Sn.kO Ĕ ř{x:V}(h:Sn S (Ñ3) d) (r:Ã8):∃ a xs ds,x=å0/\yw ñ5 a xs/\Î8/\â:=by
 ext í2;let#[ds,rfl,h2]:=h;ext ç1;show#[a,xs,ds,rfl,g1,g2,h2]
theorem Sn.flat {t:T}ř{x:V}(h:ŉ) (r:Ã8):match t with
  | .zC=>x=.zC
  | Ø4=>x=Ø4
  | å3=>x=å3
  | À8 y=>x=À8 y
  | _=>True:=by
 cases t <;> first
  | trivial
  | (ext í2;subst h;simpa only [zj] using r)
mutual
theorem ZH Ì Ś:∀ (t u:T) {d e:D}{x:V},dep t<Œ->dep u<Œ->ŉ->Sn S u e->Ã8->zj ñ5 e x->t=u
 | Ñ3,u,d,e,x,z,z',h1,h2,r1,r2=>by
  let#[a,xs,ds,rfl,g1,g2,g3]:=h1.kO r1;cases u with
  | zK _ _=>show Ď
  | tup us=>
   ext Ô4;cases q;have:=I.ZJ g1 k1;ext Â4
  | lst us=>
   ext Ð7;cases q;show (SM I g1 k1).elim
  | _=>show Á0
 | ø,u,d,e,x,z,z',h1,h2,r1,r2=>by
  let#[a,xs,ds,rfl,g1,g2,g3]:=h1.kZ p r1;cases u with
  | zK _ _=>show Ď
  | lst us=>
   ext Ð7;cases q;have:=I.YJ g1 k1;ext Â4
  | tup us=>
   ext Ô4;cases q;show (SM I k1 g1).elim
  | _=>show Á0
 | .zC,u,d,e,x,z,z',h1,h2,r1,r2=>by
  ext Î4;cases u with
  | zK _ _=>show Ď
  | zC=>rfl
  | tup us=>ext ŷ
  | lst us=>ext ű;cases q
  | _=>show Á0
 | Ø4,u,d,e,x,z,z',h1,h2,r1,r2=>by
  ext Î4;cases u with
  | zK _ _=>show Ď
  | bl _=>ext Ý0
  | tup us=>ext ŷ
  | lst us=>ext ű;cases q
  | _=>show Á0
 | ò b,u,d,e,x,z,z',h1,h2,r1,r2=>by
  ext Î4;cases u with
  | zK _ _=>show Ď
  | int _=>ext Ý0
  | tup us=>ext ŷ
  | lst us=>ext ű;cases q
  | _=>show Á0
 | À8 b,u,d,e,x,z,z',h1,h2,r1,r2=>by
  ext Î4;cases u with
  | zK _ _=>show Ď
  | str _=>ext Ý0
  | tup us=>ext ŷ
  | lst us=>ext ű;cases q
  | _=>show Á0
 | .zK È,u,d,e,x,z,z',h1,h2,r1,r2=>È6 z (by simp![dep];lia)
theorem ZG Ì Ś:∀ (ts us:Ä) {ds es:List D}{xs:ò5},î7<Œ->xl us<Œ->â->zp S us es->Î8->zt ñ5 es xs->ts=us
 | [],us,ds,es,xs,z,z',h1,h2,r1,r2=>by
  have e:=Â9;cases us with
  | nil=>rfl
  | cons _ _=>simp at e
 | Þ1,[],ds,es,xs,z,z',h1,h2,r1,r2=>by
  have e:=Â9;simp at e
 | Þ1,u::us,ds,es,xs,z,z',h1,h2,r1,r2=>by
  simp![zp] at h1 h2;let#[c,cs,rfl,a1,a2]:=h1;let#[c',cs',rfl,b1,b2]:=h2;simp![zt] at r1 r2;let#[y,ys,rfl,g1,g2]:=r1;let#[y',ys',q,k1,k2]:=r2;cases q;simp![xl] at z z';rw[ZH I p t u ë a1 b1 g1 k1,ZG I p ts us ë a2 b2 g2 k2]
end
theorem zp.get Ĕ Ë(h:â):∀ Ý9,j<ą->∃ c,ds[j]?=↑c/\Sn S Ë6 c:=by
 induction ts generalizing ds with
 | nil=>intro j hj;simp at hj
 | cons t ts ih=>
  intro j hj;ext Ò;cases j with
  | zero=>show î9
  | succ j=>
   let#[c',e,h3]:=ih h2 (j:=j) (by exists hj);show#[c',by simpa using e,by exists h3]
theorem gT:∀ Ĕ Ý9,j<ą->dep Ë6<=î7
 | [],j,h=>by simp at h
 | Þ1,0,_=>by simp![xl,List.getD_cons_zero];lia
 | Þ1,j+1,h=>by
  have:=gT (ts:=ts) (j:=j) (á4);simp![xl,List.getD_cons_succ];lia
inductive iB Ï1 (S:SS) (s:Á3):T->ú->Prop
 | zC:iB K H S s .zC .none
 | bl Ü4:iB K H S s (Ø4) (.bool b)
 | int {i:Int}{k:Tok}:iB K H S s (å3) (ò i k)
 | str {i:Str}{k:Tok}:iB K H S s (À8 i) (À8 i k)
 | tup Ĕ Ë{xs:ò5}È0 (h:s.heap.IsTuple l us.toArray):iB K H S s (Ñ3) (Ý l)
 | lst Ĕ Ë{xs:ò5}È0 (h:s.heap.IsList l us.toArray):iB K H S s (ø) (Ý l)
def Ub Ì Ś {t:T}ř{x:V}{a:ú}(h:ŉ) (r:Ã8) (v:RelV x a) (z:dep t<Œ):iB ñ5 S s t a:=by
 cases t with
 | zC=>ext Ö0;cases v;show .zC
 | bl _=>ext Ö0;cases v;show .bl
 | int _=>ext Ö0;let#[_,rfl]:=v;show ò
 | str _=>ext Ö0;let#[_,rfl]:=v;show À8
 | tup _=>let#[l,xs,ds,rfl,g,r,q]:=h.kO r;cases v;let#[_,w,i,_]:=å2 g;show Ķ q r w i
 | lst _=>let#[l,xs,ds,rfl,g,r,q]:=h.kZ p r;cases v;let#[_,w,i,_]:=I.list g;show ň q r w i.isList
 | _=>simp![dep] at z;lia
abbrev J3 (A:Around) (s:Á3) (a b:ú) (k:Bool):Prop:=SeqAt.EqAt A s a b k/\SeqAt.RcAt A s a b k/\SeqAt.RcNeAt A s a b (!k)
theorem Bv Ì Ś:∀ Î3 (t u:T) Ļ{d e:D}{x y:V}{a b:ú},dep t<n->ś+dep t<Œ->ś+dep u<Œ->ŉ->Sn S u e->Ã8->zj ñ5 e y->RelV x a->RelV y b->J3 A s a b (eqT t u):=by
 intro n
 induction n with
 | zero=>intros;lia
 | succ n ih=>
  intro t u A d e x y a b hn hu hu' h1 h2 r1 r2 v1 v2;have hq:a=b->t=u:=λ z=>by subst z;have:=v1.inj v2;ext Ü2;show ZH I p t u ë h1 h2 r1 r2
  have c1:=Ub I p h1 r1 v1 ⋯;have c2:=Ub I p h2 r2 v2 ⋯;clear h1 h2 r1 r2 v1 v2;have hA:ś<Œ:=⋯;have el:∀ {ts us:Ä}{ds ds':List D}{xs xs':ò5}{is is':zLV},1+î7<n+1->ś+(1+î7)<Œ->ś+(1+xl us)<Œ->â->zp S us ds'->Î8->zt ñ5 ds' xs'->Vals xs is->Vals xs' is'->ï0=ą/\é0=Ä6/\
    ∀ (j:Nat) (h1:j<ï0) (h2:j<é0),SeqAt.EqAt A.in1 s is.toArray[j] is'.toArray[j] (eqT Ë6 (us.getD j .zC)):=by
   intro ts us ds ds' xs xs' is is' a1 a2 a3 g1 g2 r1 r2 v1 v2;have e1:ï0=ą:=by rw[zA0,<- v1.length,<- r1.length,<- g1.length]
   have e2:é0=Ä6:=by rw[zA0,<- v2.length,<- r2.length,<- g2.length]
   exact#[e1,e2,λ j h1 h2=>?_];let#[_,k1,s1]:=g1.get (e1▸h1);let#[_,k2,s2]:=g2.get (e2▸h2);let#[_,f1,q1]:=r1.get k1;let#[_,f2,q2]:=r2.get k2;let#[w1,o1,m1]:=v1.get f1;let#[w2,o2,m2]:=v2.get f2;have y1:=gT (e1▸h1);have y2:=gT (e2▸h2);let#[_,z1]:=Ø6 o1;let#[_,z2]:=Ø6 o2;rw[List.getElem_toArray,List.getElem_toArray,z1,z2];show (ih È (A:=A.in1) ⋯ (by change ś+1+_<_;lia) (by change ś+1+_<_;lia) s1 s2 q1 q2 m1 m2).1
  have en:∀ {l l':Addr}{ts us:Ä},(ł l=Ý l'->ts=us)->SeqAt.RcAt ê3 (qb ts us)/\SeqAt.RcNeAt ê3 (!qb ts us)->J3 ê3 (qb ts us):=λ{l l' ts us} h q=>by
   exact#[?_,q];by_cases z:l=l'
   .subst z;rw[h rfl,da];show .same _
   .show .of_refs z q.1
  cases c1 <;> cases c2 <;> simp![eqT,zB5,zB2]
  .show#[.same _,.none_none,.none_none]
  .show#[.none_bool _,.none_bool _,.none_bool _]
  .show#[.none_int È,.none_int È,.none_int È]
  .show#[.none_str È,.none_str È,.none_str È]
  .show#[.none_tuple Å,.none_tuple Å,.none_tuple Å]
  .show#[.none_list Å,.none_list Å,.none_list Å]
  .show#[.bool_none _,.bool_none _,.bool_none _]
  .show#[.bool_bool È,.bool_bool È,.bool_bool È]
  .show#[.bool_int ŕ,.bool_int ŕ,.bool_int ŕ]
  .show#[.bool_str ŕ,.bool_str ŕ,.bool_str ŕ]
  .show#[é1,é1,é1]
  .show#[ï1,ï1,ï1]
  .show#[.int_none È,.int_none È,.int_none È]
  .show#[.int_bool ŕ,.int_bool ŕ,.int_bool ŕ]
  .show#[.int_int æ5,.int_int æ5,.int_int æ5]
  .show#[.int_str æ5,.int_str æ5,.int_str æ5]
  .show#[.int_tuple Ð3,.int_tuple Ð3,.int_tuple Ð3]
  .show#[.int_list Ð3,.int_list Ð3,.int_list Ð3]
  .show#[.str_none È,.str_none È,.str_none È]
  .show#[.str_bool ŕ,.str_bool ŕ,.str_bool ŕ]
  .show#[.str_int æ5,.str_int æ5,.str_int æ5]
  .show#[.str_str æ5,.str_str æ5,.str_str æ5]
  .show#[.str_tuple Ð3,.str_tuple Ð3,.str_tuple Ð3]
  .show#[.str_list Ð3,.str_list Ð3,.str_list Ð3]
  .show#[.tuple_none Å,.tuple_none Å,.tuple_none Å]
  .show#[ë5,ë5,ë5]
  .show#[.tuple_int Ð3,.tuple_int Ð3,.tuple_int Ð3]
  .show#[.tuple_str Ð3,.tuple_str Ð3,.tuple_str Ð3]
  .rename_i g1 r1 v1 k1 _ _ _ _ _ g2 r2 v2 k2;ext Ŝ;show#[.tuples k1 k2 hA q,.tuples k1 k2 hA q]
  .show#[Ô7,Ô7,Ô7]
  .show#[.list_none Å,.list_none Å,.list_none Å]
  .show#[ò7,ò7,ò7]
  .show#[.list_int Ð3,.list_int Ð3,.list_int Ð3]
  .show#[.list_str Ð3,.list_str Ð3,.list_str Ð3]
  .show#[Ö3,Ö3,Ö3]
  .rename_i i1 _ g1 r1 v1 k1 _ _ _ i2 _ g2 r2 v2 k2;ext Ŝ;by_cases z:i1.toArray.size=i2.toArray.size
   .rw[<- z,Nat.min_self,beq_self_eq_true,Bool.and_true];show#[.lists k1 k2 z hA q,.lists k1 k2 z hA q]
   .rw[beq_eq_false_iff_ne.mpr z,zaU];have z':=bne_iff_ne.mpr z;show#[.lists_lengths k1 k2 z' hA,.lists_lengths k1 k2 z' hA]
def Wn Ì Ś (t u:T) Ļ{d e:D}{x y:V}{a b:ú}(hu:ś+dep t<Œ) (hu':ś+dep u<Œ) (h1:ŉ) (h2:Sn S u e) (r1:Ã8) (r2:zj ñ5 e y) (v1:RelV x a) (v2:RelV y b):J3 A s a b (eqT t u):=Bv I p _ t u (zE2 _) hu hu' h1 h2 r1 r2 v1 v2
end
def Yt ñ6 Ý4:R2:=λ x y H Q=>∃ S d e t u,zj K H d x/\zj K H e y/\yo K H S/\ŉ/\Sn S u e/\dep t<=60/\dep u<=60/\Q Þ2 H
def pj Ý4:x8:=λ x y S Q=>∃ t u,Sn S t x/\Sn S u y/\dep t<=60/\dep u<=60/\Q Þ2 S
def pj.mo Þ0:qc (pj neg):=λ _ _ _ _ _ hq #[t,u,a,b,c,d,h]=>#[t,u,a,b,c,d,hq È h]
def pj.fits æ7 Þ0:wF K (pj neg) (Yt K neg):=λ x y d e H S Q h1 h2 h3 #[t,u,a,b,c,c',h]=>#[S,d,e,t,u,h1,h2,h3,a,b,c,c',h À9 h3]
section
variable {Í7}{a b:Expr}{ta tb:zy}{pos:Pos}
theorem Tt È8:yM X (ï2 .Eq) (Yt X.K à):=by
 ext Ţ;show (Ó0).2.1 ä6
theorem Tj È8:yM X (ï2 .NotEq) (Yt X.K true):=by
 ext Ţ;show (Ó0).2.2 ä6
def uI ñ:PD X (.Compare a [.Eq] [b] pos) (yT (pj à) ta tb):=jV (Tt hr.units) Ã4
def vZ ñ:PD X é2 (yT (pj true) ta tb):=jV (Tj hr.units) Ã4
def vb ñ:zE X (.Compare a [.Eq] [b] pos) (px (yT (pj à) ta tb)):=l8 (Tt hr.units) Ã4
def wo ñ:zE X é2 (px (yT (pj true) ta tb)):=l8 (Tj hr.units) Ã4
def bw ñ6 Ý4:R2:=λ x y H Q=>∃ S d e u ts ds,zj K H d x/\zj K H e y/\yo K H S/\Sn S u d/\y4 e S=↑ds/\â/\dep u<=60/\î7<=60/\Q å4 H
def mT Ý4:x8:=λ x y S Q=>∃ u ts ds,Sn S u x/\y4 y S=↑ds/\â/\dep u<=60/\î7<=60/\Q å4 S
def mT.mo Þ0:qc (mT neg):=λ _ _ _ _ _ hq #[u,ts,ds,a,b,c,d,e,h]=>#[u,ts,ds,a,b,c,d,e,hq È h]
def mT.fits æ7 Þ0:wF K (mT neg) (bw K neg):=λ x y d e H S Q h1 h2 h3 #[u,ts,ds,a,b,c,c',c2,h]=>#[S,d,e,u,ts,ds,h1,h2,h3,a,b,c,c',c2,h À9 h3]
open Classical in
def oA (its:zLV) Ú5 (u:T) (v:ú):Bool:=if h:∃ j,its[j]?=↑v then eqT (ts.getD (Classical.choose h) .zC) u else à
def Wk Ö ŏ Ì Ś Ĕ Ë đ (u:T) Ý9{v:ú}(hj:its[j]?=↑v):
  oA its ts u v=eqT Ë6 u:=by
 have h:∃ j,its[j]?=↑v:=#[j,hj];unfold oA;rw[dif_pos h];have hc:=Classical.choose_spec h;have lt:∀ i,Í3->i<ą:=λ i hi=>by
  ext Å6;show (Ø6 hi).1
 let#[c1,e1,s1]:=h1.get (lt _ hc);let#[c2,e2,s2]:=h1.get (lt _ hj);let#[x1,f1,r1]:=h2.get e1;let#[x2,f2,r2]:=h2.get e2;let#[v1,g1,q1]:=h3.get f1;let#[v2,g2,q2]:=h3.get f2;rw[hc] at g1;cases g1;rw[hj] at g2;cases g2;have hx:=q1.inj q2;subst hx;rw[ZH I p È (zbI (gT (lt _ hc)) hz) (zbI (gT (lt _ hj)) hz) s1 s2 r1 r2]
theorem aY Ö ŏ Ì Ś Ĕ Ë đ (u:T):its.any Ä7=Ã6:=by
 have hl:ą=its.length:=by ext Å6
 rw[zC7,zD0,zD0];ext ä7
 .rintro⟨v,hv,h⟩;let#[j,hj,rfl]:=zaJ.mp hv;rw[Ó1] at h;have hj':j<ą:=⋯;show#[ts[j],zD8 hj',by simpa [hj'] using h]
 .rintro⟨t,ht,h⟩;let#[j,hj,rfl]:=zaJ.mp ht;have hj':j<its.length:=⋯;show#[its[j],zD8 hj',by rw[Wk I p hz h1 h2 h3 u (j:=j) (by simp[hj'])];simpa [hj] using h]
def ff Ö ŏ Ì Ś Ĕ Ë đ {u:T}ř{x:V}{v:ú}(hu:Sn S u d) (hd:Ã8) (hx:RelV x v) Ļ(b1:ś+î7<Œ) (b2:ś+dep u<Œ) {y:ú}(hy:y∈its):
  SeqAt.EqAt A s y v (oA its ts u y):=by
 let#[j,hj,rfl]:=zaJ.mp hy;have hjt:j<ą:=by ext Å6;show hj
 rw[Ó1];let#[c1,e1,s1]:=h1.get hjt;let#[x1,f1,r1]:=h2.get e1;let#[v1,g1,q1]:=h3.get f1;have:its[j]=v1:=by
  have:=Ø6 g1;show this.2
 rw[this];have:=gT hjt;show (Wn I p _ u (A:=A) ⋯ b2 s1 hu r1 hd q1 hx).1
theorem Tr È8:yM X (ï2 .In) (bw X.K à):=by
 ext ì
 .ext ñ7;exact SeqAt.in_listAt Ä7 pl.isList Ã;ext Ô
 .let#[its,w1,pt,_]:=å2 g1;exact SeqAt.in_tupleAt Ä7 pt Ã;ext Ô
theorem JG È8:yM X (ï2 .NotIn) (bw X.K true):=by
 ext ì
 .ext ñ7;exact SeqAt.notIn_listAt Ä7 pl.isList Ã;ext Ô
 .let#[its,w1,pt,_]:=å2 g1;exact SeqAt.notIn_tupleAt Ä7 pt Ã;ext Ô
def wO ñ (hm:behindInMarks .NotIn b=à):zE X (.Compare a [.NotIn] [b] pos) (px (yT (mT true) ta tb)):=l8 (JG hr.units) mT.fits mT.mo ha hb hm
end
end L3
namespace L2
open è9 Û5 Ť
section
variable {κ:Type}[DecidableEq κ]
def pC ê4:À V:=Ø7
def putK ê4 (v:V):Í9:=
 þ
def ZE {p:κ × V}{r:Í9}{k:κ}(e:p.1=k):pC (p::r) k=↑p.2:=by simp[pC,zaL,e]
def ZF {p:κ × V}{r:Í9}{k:κ}(e:¬ p.1=k):pC (p::r) k=pC r k:=by simp[pC,zaL,e]
theorem Vr (k:κ):∀ kvs:Í9,Í4=(pC Õ2).isSome
 | []=>rfl
 | p::r=>by
  rw[zaA];ext ß3
  .simp![ZE e,zcS e,Bool.true_or,Option.isSome_some]
  .rw[ZF e,zcR e,Bool.false_or];show Vr k r
def TY ê4 (v:V):(å5).length<=č+1:=by
 unfold putK;split
 .rw[zA7];lia
 .rw[zD7,zC0,zaE];lia
def pW.Y_ {o:À V}{u:À ú}(r:pW o u):o.isSome=u.isSome:=by
 cases o with
 | none=>cases u with
  | none=>rfl
  | some _=>show Ç4
 | some _=>cases u with
  | none=>show Ç4
  | some _=>rfl
theorem pW.getD {o:À V}{u:À ú}{d:V}{d':ú}(r:pW o u) (rd:RelV d d'):RelV (o.getD d) (u.getD d'):=by
 cases o with
 | none=>cases u with
  | none=>show rd
  | some _=>show Ç4
 | some _=>cases u with
  | none=>show Ç4
  | some _=>show r
def KV.val ï (k:κ):pW (pC Õ2) (valueAt vs k):=by
 unfold KV at r
 induction r with
 | nil=>show É7
 | @cons p q ps qs h t ih=>
  let#[h1,h2]:=h;ext ß3
  .have e':q.1=k:=Ø8;have b:valueAt (q::qs) k=↑q.2:=ì3
   rw[ZE e,b];show h2
  .have e':¬ q.1=k:=Ë7;have b:valueAt (q::qs) k=valueAt qs k:=ì3
   rw[ZF e,b];show ih
theorem KV.any ï (k:κ):Í4=vs.any Ñ:=by
 unfold KV at r
 induction r with
 | nil=>rfl
 | cons h t ih=>rw[zaA,zaA,ih,h.1]
def KV.l4 ï (k:κ) è5 À6:
  KV Ð6 (vs.map λ kv=>if kv.1=k then (kv.1,u) else kv):=by
 unfold KV at r ⊢
 induction r with
 | nil=>show Û3
 | @cons p q ps qs h t ih=>
  rw[zA6,zA6];exact ő ?_ ih;let#[h1,h2]:=h;ext ß3
  .rw[Î e,Î (Ø8)];show#[h1,ry]
  .rw[É e,É (Ë7)];show#[h1,h2]
def KV.put ï (k:κ) è5 À6:KV (putK Õ2 y) (stored vs k u):=by
 unfold putK stored;rw[r.any k];by_cases e:(vs.any Ñ)=true
 .rw[Î e,Î e];show r.l4 k ry
 .rw[É e,É e];show Paired.snoc r #[rfl,ry]
theorem KV.length ï:č=ċ:=Ñ2 r
end
def eJ ĸ ñ8{u:ú}(r:RelV (kV k) u):(qw P w).is k u=true:=by
 cases k with
 | inl i=>let#[t,e]:=(show ∃ t,u=Value.int i t from r);subst e;show Hx P w i t
 | inr x=>let#[t,e]:=(show ∃ t,u=Value.str x t from r);subst e;show Hw P w x t
theorem SD ĸ:∀ {ks:Æ0}{us:zLV},Vals (ks.map kV) us->ItemsAre (qw P w) ks us
 | [],_,r=>by rw[za4] at r;cases r;show Û3
 | k::ks,_,r=>by
  rw[zA6] at r;cases r with
  | cons h t=>show ő (eJ h) (SD t)
abbrev KT (H:Hp):ã6->ì0->Prop:=Paired λ p q=>p.1=q.1/\H q.2.1=↑(Ķ (p.1.map kV))/\RelV p.2 q.2.2
def KT.val ſ æ (k:Æ0):pW (pC Õ2) ((atKey xs k).map Ň):=by
 induction r with
 | nil=>show É7
 | @cons p q ps qs h t ih=>
  let#[h1,_,h2]:=h;ext ß3
  .have e':q.1=k:=Ø8;have b:atKey (q::qs) k=↑q.2:=by simp[atKey,zaL,e']
   rw[ZE e,b];show h2
  .have e':¬ q.1=k:=Ë7;have b:atKey (q::qs) k=atKey qs k:=by simp[atKey,zaL,e']
   rw[ZF e,b];show ih
def KT.l4 ſ æ (k:Æ0) è5 À6:
  KT H Ð6 (Ī (putAt k u)):=by
 induction r with
 | nil=>show Û3
 | @cons p q ps qs h t ih=>
  rw[zA6,zA6];exact ő ?_ ih;let#[h1,h2,h3]:=h;unfold putAt;ext ß3
  .rw[Î e,Î (Ø8)];show#[h1,h2,ry]
  .rw[É e,É (Ë7)];show#[h1,h2,h3]
def KT.put ſ æ (k:Æ0) {b:Addr}è5(hb:Ô8) À6:
  KT H (putK Õ2 y) (storedH xs k b u):=by
 have e:Í4=(atKey xs k).isSome:=by
  rw[Vr,(r.val k).Y_,zbZ]
 unfold putK storedH;rw[e];by_cases q:(atKey xs k).isSome=true
 .rw[Î q,Î q];show r.l4 k ry
 .rw[É q,É q];show Paired.snoc r #[rfl,hb,ry]
def KT.keeps {H H':Hp}æ (ht:∀ b ys,H b=↑(Ķ ys)->H' b=↑(Ķ ys)):KT H' kvs xs:=
 Paired.bV r λ _ _ z=>#[z.1,ht È z.2.1,z.2.2]
section
variable {ĸ}{ſ}{Ü3}{Ė}
def Ut {u:HO}À4 (e:Rd H a u):xQ P w H h a u:=e.ok ok
def aG ņ À4 (e:Rd H a ţ):Ħ:=
 show xQ P w H h a ţ from Ut ok e
def DG ņ À4 (e:î4):Ħ:=aG ok (ĥ e)
def eG {ks:Æ0}À4 (e:H a=↑(Ķ (ks.map kV))):(á9).is h ks a:=by
 let#[_,its,r,o,h1,h2,n,h3]:=(show xQ P w H h a (Ķ (ks.map kV)) from ok a _ e)
 show#[o,its.toArray,n,h1,h2,h3,by exists SD r]
def gQ {kvs:ã6}À4 (e:Rd H a â0):Ż:=by
 let#[z,y,xs,r,o,es,ep,h1,h2,h3,h4,h5]:=(show xQ P w H h a â0 from Ut ok e)
 exact#[z,y,xs,r,o,es,ep,h1,h2,h3,h4,λ x hx=>?_,h5];have all:∀ {l:ã6}{m:ì0},KT H l m->∀ x∈m,(á9).is h x.1 x.2.1:=by
  intro l m q
  induction q with
  | nil=>intro x hx;show nomatch hx
  | @cons p q ps qs hq t ih=>
   intro x hx;rcases Á5 hx with e | hx
   .subst e;show eG ok (by rw[<- hq.1];show hq.2.1)
   .show ih x hx
 show all r x hx
def DB {kvs:ã6}À4 (e:H a=↑ â0):Ż:=gQ ok (ĥ e)
end
def PK Ú6 (kvs:List (Key×V)):Prop:=Rd H a ţ\/∃ x,H a=↑(.dS x kvs)
def aF ĸ ſ Ü3 Ė ņ À4 (e:PK H a kvs):Ħ:=by
 rcases e with e | ⟨x,e⟩
 .show aG ok e
 .show ok a _ e
def m9 Ú6 (y:V) (r:À V):Prop:=
 (∃ kvs k,PK H a kvs/\y=kV k/\r=pC Õ2)\/∃ kvs k b,Rd H a â0/\y=Ý b/\Ô8/\r=pC Õ2
def fB Ú6 (y v:V) (H':Hp):Prop:=
 (∃ kvs k,î4/\y=kV k/\č<Ó/\H'=upd H a (.dK (å5)))\/
 ∃ kvs k b,H a=↑ â0/\y=Ý b/\Ô8/\č<Ó/\H'=upd H a (.dT (å5))
theorem m9.k ſ Ė ņ ñ8(e:î4):m9 H a (kV k) (pC Õ2):=ĥ #[kvs,k,ĥ (ĥ e),rfl,rfl]
theorem fB.k ſ Ė ņ ñ8{v:V}(e:î4) (hl:č<Ó):fB H a (kV k) v (upd H a (.dK (å5))):=ĥ #[kvs,k,e,rfl,hl,rfl]
section
variable {Í7}{Ö}{Ė}{y v:V}{u r:ú}{o:À V}{Ļ}{Ò2}
theorem Inv.big Ì:sysModules<Æ:=by
 have h:mainGlobals<Æ:=(I.mod.glob.keeps I.bk).lt;show zaG () h
def DR Þ4 Ì (g:m9 H a y ↑v) À6 (h:∀ w' s',Ó2->RelV v w'->Q w' s'):
  İ Ï6 A (getItem (å0) u) Þ3:=by
 ext ę
 .ext À1;let#[w',hw,rw']:=pW.some_of (v:=v) (o:=valueAt vs k) (by rw[l];show â1);show wpAny_getItem_of (eJ ry) dd.mapOf hw (h w' _ Ø9 rw')
 .ext ġ;let#[w',hw,rw']:=pW.some_of (v:=v) (o:=(atKey xs k).map Ň) (by rw[l];show â1);let#[p,hp,gI]:=Ű hw;exact wpAny_getItem_heap Ä3 dd hp ?_;rw[gI];show h w' _ Ø9 rw'
def DP Þ4 Ì (g:m9 H a y o) À6 (h:∀ s',Ó2->Q (.bool (!o.isSome)) s'):
  İ Ï6 A (ï2 .NotIn u (å0)) Þ3:=by
 ext ę
 .ext À1;exact wpAny_notIn_of (eJ ry) hd dd.mapOf ?_;rw[<- (â1).Y_,<- l];show h _ Ø9
 .ext ġ;exact wpAny_notIn_heap Ä3 hd dd ?_;have q:=(â1).Y_;rw[zbZ] at q;rw[<- q,<- l];show h _ Ø9
def RZ {h':Heap}{t':Nat}{ob:HO}Ì (mu:fq (H a)) (hs:Ù0 a ľ h') (he:∃ q,h'.get? a=↑q) (new:xQ Ŏ (upd H a ob) h' a ob):
  Inv X gV σ (upd H a ob) { s with heap:=h',toks:=t' }:=
 I.write (x:=a) (e:=a) mu (ĥ rfl) (λ b q hb z=>(hs.2 b hb).trans z) he new
def DH ĸ{H':Hp}{h':Heap}ņ{vs:List (Key× ú)}(z:č<=Ó) (hd:Í5) (rel:KV kvs vs) (dd:h'.DictOf (qw P w) a vs):
  xQ P w H' h' a ţ:=#[z,hd,vs,rel,dd]
def DN {H':Hp}{Q:Unit->ö}(hu:ś+1<Œ) Ì (g:fB H a y v H') À6 (rv:RelV v r) (h:∀ s',Inv X gV σ H' s'->Q Unit.unit s'):
  İ Ï6 A (setItem (å0) u r) Þ3:=by
 rcases g with ⟨kvs,k,e,ey,l,eH⟩ | ⟨kvs,k,b,e,ey,eb,l,eH⟩
 .subst ey eH;let#[z,hd,vs,rel,dd]:=DG I.zI e;have hz:ċ<=Ó:=by rw[<- rel.length];show z
  ext Ì5
  exact wpAny_setItem_pairs (hsz:=hz) (eJ ry) dd λ h' dd' hs=>h _ ?_;have he:∃ q,h'.get? a=↑q:=let #[q,_,_,hq,_]:=dd';#[q,hq]
  show RZ I (by rw[e];show É7) hs he (DH hl hd (rel.put k rv) dd')
 .subst ey eH;cases (show u=ł b from ry);let#[z,hd,xs,rel,dd]:=DB I.zI e;have hz:í<=Ó:=by rw[<- Ñ2 rel];show z
  ext Ì5
  exact wpAny_setItem_heap (hsz:=hz) Ä3 dd λ h' dd' hs=>h _ ?_;let#[q,es,ep,hq,h2,h3,h4,_,h5]:=dd';exact RZ I (by rw[e];show É7) hs #[q,hq] #[hl,hd,_,(rel.put k eb rv).keeps λ c ys ec=>?_,q,es,ep,hq,h2,h3,h4,h5];rw[yx (oy ec e (λ z=>nomatch z))];show ec
end
section
variable {Í7}{Ö}{Ė}{ņ}{Ļ}{Ò2}
theorem DQ ñ4 Ì (e:Rd H a ţ) (h:∀ t s',Ó2->Q (ò č t) s'):İ Ï6 A (call (Í2 "len") [å0]) Þ3:=by
 let#[z,hd,vs,rel,dd]:=aG I.zI e;exact call_len_dict hd dd (by rw[<- rel.length];rw[sizeLine_eq] at z;lia) ?_;rw[<- rel.length];show h È Ø9
end
def iG (i:Expr):Prop:=∀ ov iv,subscripted i à ov iv=operate [ov,iv] (getItem ov iv)
def VI {prog:Î7}Ä9 Ļ Ò2 Ú3{env:Env}{value slice:Expr}{pos:Pos}{T id:Þ8}ñ4
  (hl:typeLookup (.type T) "__getitem__"=pure ↑(Í2 id)) (hs:iG slice)
  (h:İ Í (eval value env) (λ o s₁=>İ Í (eval slice env) (λ i s₂=>s₂.TypeIs o T/\İ Í (getItem o i) Q E s₂) E s₁) E s):
  İ Í (eval (.Subscript value slice pos) env) Þ3:=by
 exact Subscript_ (zcU h (λ o s₁ h₁=>zcU h₁ (λ i s₂ h₂=>?_) λ _ _ x=>x) λ _ _ x=>x);let#[hT,h₂]:=h₂;unfold subscriptTail;exact zcO ?_;rw[getitemInPython_of_ne hT.not_modules];exact zcO (wpAny_specialOf hT hl ?_);have fin:İ Í (subscripted slice à o i) (λ r s₃=>İ Í (letTemporaryGo value o r >>= λ _=>pure r) Q E s₃) E s₂:=by
  rw[hs o i];show wpAny_operating (zcU h₂ (λ r s₃ h₃=>zcO (wpAny_letTemporaryGo (zD1 h₃))) λ _ _ x=>x)
 first
  | show zD1 (zcO fin)
  | show zcO (zD1 (zcO fin))
  | show zcO fin
def DJ Í7 Ö Ė{y:V}{o:À V}Ì (g:m9 H a y o):s.TypeIs (å0) "dict":=by
 rcases g with ⟨kvs,k,e,_,_⟩ | ⟨kvs,k,b,e,_,_,_⟩
 .let#[_,_,vs,_,dd]:=aF I.zI e;show dd.typeIs
 .let#[_,_,xs,_,dd]:=gQ I.zI e;show dd.typeIs
def Mn (td ty:TE):TE:=fun σ H Q=>td σ H λ x H1=>ty σ H1 λ y H2=>∃ a v,x=å0/\m9 H2 a y ↑v/\Q v H2
def Mj (ty td:TE):TE:=fun σ H Q=>ty σ H λ y H1=>td σ H1 λ x H2=>∃ a o,x=å0/\m9 H2 a y o/\Q (.bl (!o.isSome)) H2
def Lc (td ty tv:TE):TS:=λ D σ H=>tv σ H λ v H1=>td σ H1 λ x H2=>ty σ H2 λ y H3=>∃ a H4,x=å0/\fB H3 a y v H4/\D.nx σ H4
section
variable {Í7}{o i value:Expr}{pos pos':Pos}{td ty tv:TE}
def UU Ä4 (hi:PE X i ty) (hs:iG i):PE X (.Subscript o i pos) (Mn td ty):=by
 intro gV s σ H Q I h;exact VI PySem.F.slot_dict_getitem.lookup hs (zH (ho à2) λ u s1 #[x,H1,I1,rx,q1]=>zH (hi Ï2) λ iv s2 #[y,H2,I2,ry,a,v,ex,g,q2]=>?_);ext Ê5;show#[DJ I2 g,DR hu I2 g ry λ w' s3 I3 rw'=>#[v,H2,I3,rw',q2]]
def Jy (hu:X.A.units+1<Œ) (hi:PE X i ty) (ho:PE X o td):PC X .NotIn i o (Mj ty td):=by
 intro gV s σ H Q I h;exact zH (hi à2) λ iv s1 #[y,H1,I1,ry,q1]=>zH (ho Ï2) λ u s2 #[x,H2,I2,rx,a,ov,ex,g,q2]=>?_;ext Ê5;show DP hu I2 g ry λ s3 I3=>#[.bl (!ov.isSome),H2,I3,rfl,q2]
def UK Ä4 (hi:PE X i ty) (hv:PE X value tv) (hs:swapsWith value ↑(Ë8) pos.line Á7=pure à):
  PS X (.Assign [Ë8] value pos) (Lc td ty tv):=by
 intro gV s σ H D I h;exact wpAny_Assign_Subscript (zH (hv à2) λ r s1 #[v,H1,I1,rv,q1]=>zH (ho Ï2) λ u s2 #[x,H2,I2,rx,q2]=>zH (hi gV s2 σ H2 _ I2 q2) λ iv s3 #[y,H3,I3,ry,a,H4,ex,g,q3]=>?_) hs;ext Ê5;show DN hu I3 g ry rv λ s4 I4=>#[σ,H4,I4,q3]
end
def DI ĸ ſ í1 (hb:sysModules<ß8):xQ P w H (h.push { cls:=.type "dict",data:=.dict ĩ }) ß8 (.dK []):=
 #[zD4 _,beq_eq_false_iff_ne.mpr (Ne.symm (zB3 hb)),[],Û3,Heap.DictOf.new h]
def Ml:TE:=λ _ H Q=>∀ p,H p=none->Q Ò7 (upd H p (.dK []))
section
variable {Í7}{pos:Pos}
def UT:PE X (.Dict [] [] pos) Ml:=λ gV s σ H Q I h=>
 wpAny_Dict_empty #[Ý Æ,_,I.laid (a:=Æ) (o:=.dK []) (t':=s.toks) (λ _ _ q=>zcP _ q) (Ô6) (DI ľ I.big),rfl,h _ (I.zI.fresh (Ô6))]
end
structure M2 (X:Cx) (o:Expr) (m:Str) (apos:Pos) (e f:Expr) (cpos:Pos):Prop where
 base:attributeBase o m Á7 (eval o Á7)=eval o Á7
 eX:((à4).all (λ x=>!x.1)&&Æ8
  && Á6 (([e,f]:ó0).length+([]:List Keyword).length+ê8<30))=true
 line:ç3
 trees:à4=[(à,eval e Á7),(à,eval f Á7)]
def P_ Ú6:Prop:=(∃ kvs,Rd H a ţ)\/∃ kvs,Rd H a â0
def GF Í7 Ö Ė Ì (d:P_ H a):
  s.TypeIs (å0) "dict"/\(∀ b,ł a=Ý b->∃ ob,Ñ0 b=↑ob/\ob.dict=none)/\Í5:=by
 rcases d with ⟨kvs,e⟩ | ⟨kvs,e⟩
 .let#[_,hd,vs,_,dd]:=aG I.zI e;ext Â3
 .let#[_,hd,xs,_,dd]:=gQ I.zI e;ext Â3
section
variable {Í7}{Ö}{Ė}{y d:V}{u r:ú}{o:À V}{Ļ}{Ò2}
def DS Þ4 Ì (g:m9 H a y o) À6 (rd:RelV d r) (h:∀ w' s',Ó2->RelV (o.getD d) w'->Q w' s'):
  İ Ï6 A (call (Í2 "dict.get") [å0,u,r]) Þ3:=by
 ext ę
 .ext À1;exact call_meetsIn À7 (meets_dict_get_default (qw Ŏ) a (eJ ry) hd r) #[_,dd.mapOf,h È Ø9 ?_];rw[l];show (â1).getD rd
 .ext ġ;exact call_meetsIn À7 (meetsH_dict_get_default (tupleKind (qw Ŏ)) a b hd r) #[tupleKind_room_in1 hu,k,xs,eG I.zI eb,dd,h È Ø9 ?_];rw[l];show (â1).getD rd
end
def Mm (td ty tx:TE):TE:=fun σ H Q=>td σ H λ x H1=>∃ a,x=å0/\P_ H1 a/\ty σ H1 λ y H2=>tx σ H2 λ z H3=>∃ o,m9 H3 a y o/\Q (o.getD z) H3
section
variable {Í7}{o e f:Expr}{apos cpos:Pos}{td ty tx:TE}
def KZ Ä4 (he:PE X e ty) (hf:PE X f tx) è6:PE X Ì8 (Mm td ty tx):=by
 intro gV s σ H Q I h;exact wpAny_Call_method m.base m.eX m.line PySem.F.plainAttrs_dict PySem.F.slot_dict_get PySem.F.type_dict_get (zH (ho à2) λ u s1 #[x,H1,I1,rx,a,ex,d,q1]=>?_);ext Ê5;let#[t1,t2,_]:=GF I1 d;exact#[t1,t2,?_];rw[m.trees];exact Calls.callWith_builtin rfl (Calls.evalArgs_plain (Calls.spliced_cons (zH (he Ï2) λ iv s2 #[y,H2,I2,ry,q2]=>
  Calls.spliced_cons (zH (hf gV s2 σ H2 _ I2 q2) λ fv s3 #[z,H3,I3,rz,ov,g,q3]=>Calls.spliced_nil ?_))))
 show DS hu I3 g ry rz λ w' s4 I4 rw'=>#[_,H3,I4,rw',q3]
end
end L2
namespace L3
open è9 Û5 L2
open Ť hiding St
def qe (kvs:ŝ) Ò3:À D:=Ø7
def putD (kvs:ŝ) Ò3 (v:D):ŝ:=
 þ
section
variable {æ7}{ſ}
theorem xG.val:∀ û,É2->∀ k,(qe Õ2=none/\pC vs k=none)\/∃ d v,qe Õ2=↑d/\pC vs k=↑v/\zj K H d v
 | _,_,Û3,k=>ĥ ç6
 | (a,d)::kvs,(b,v)::vs,ő #[e,r] t,k=>by
  have e':a=b:=e;subst e';by_cases h:a=k
  .subst h;show ń #[d,v,by simp[qe],by simp[pC],r]
  .rcases xG.val t k with ⟨h1,h2⟩ | ⟨d',v',h1,h2,h3⟩
   .show ĥ #[by simpa [qe,h] using h1,by simpa [pC,h] using h2]
   .show ń #[d',v',by simpa [qe,h] using h1,by simpa [pC,h] using h2,h3]
theorem xG.any û(h:É2) Ò3:Í4=vs.any Ñ:=by
 induction h with
 | nil=>rfl
 | cons r _ ih=>rw[zaA,zaA,ih,r.1]
def xG.len û(h:É2):č=ċ:=Ñ2 h
theorem xG.l4 ñ8 ř{v:V}Ç2:∀ û,É2->xG K H (kvs.map Ä2) (vs.map à5)
 | _,_,Û3=>Û3
 | (a1,a2)::_,(b1,b2)::_,ő #[e,q] t=>by
  have e':a1=b1:=e;subst e';exact ő ?_ (xG.l4 r t);by_cases hk:a1=k
  .simp[hk,r]
  .simpa [hk] using q
theorem xG.snoc ñ8 ř{v:V}Ç2:∀ û,É2->xG K H é3 (vs++[(k,v)])
 | _,_,Û3=>ő #[rfl,r] Û3
 | _,_,ő q t=>ő q (xG.snoc r t)
def xG.put û(h:É2) Ò3 ř{v:V}Ç2:xG K H (putD Õ2 d) (putK vs k v):=by
 unfold putD putK;rw[h.any k];split
 .show xG.l4 r h
 .show xG.snoc r h
def Nr (a:Key) (b:D) (kvs:ŝ) (j:Key):qe (ç7) j=if a=j then ↑b else qe kvs j:=by
 by_cases h:a=j <;> simp[qe,h]
end
section
variable {Í7}{o i e f v:Expr}{td ty tx tv:zy}{pos pos' apos cpos:Pos}
def Qm:zy:=λ _ S Q=>∀ p,á7->Q Ò7 (ups S p (.xa []))
theorem uL:PD X (.Dict [] [] pos) Qm:=by
 exact#[λ _ _ _ _ hq z p hp=>hq È (z p hp),PE.imp UT fun σ H Q hu p hp=>?_];ext ĝ;show z p (r2.none hp) È (Ĥ) ų (r2.ups ų #[[],yO,Û3])
def Qq (td ty:zy):zy:=fun L S Q=>td L S λ x S1=>ty L S1 λ y S2=>∃ p kvs k d,x=Ý p/\y=ò k/\S2 p=↑ Ù1/\qe kvs Ó3=↑d/\Q d S2
def uK Æ3 (hi:PD X i ty) (hs:iG i):PD X (.Subscript o i pos) (Qq td ty):=by
 exact#[fun L S Q Q' hq z=>ho.mo L S È (λ x S1 z=>hi.mo L S1 È (λ y S2 #[p,kvs,k,d,a,b,c,e,h]=>#[p,kvs,k,d,a,b,c,e,hq È h]) z) z,PE.imp (UU (gG hr) ho.pe hi.pe hs) Ò9];ext Ë3;exact zQ.go hi.mo ß4;let#[p,kvs,k,d,rfl,rfl,c1,c2,h]:=h2;simp![zj] at q1 q2;subst q1 q2;let#[vs,g1,g2]:=p2 È c1;rcases xG.val g2 Ó3 with ⟨n1,_⟩ | ⟨d',v',n1,n2,n3⟩
 .rw[c2] at n1;cases n1
 .rw[c2] at n1;cases n1;show#[p,v',rfl,n2▸m9.k ñ9,h v' H2 n3 (e1.trans e2) p2]
def Qp (td ty tx:zy):zy:=fun L S Q=>td L S λ x S1=>∃ p,x=Ý p/\(∃ kvs,S1 p=↑ Ù1)/\ty L S1 λ y S2=>tx L S2 λ z S3=>∃ k kvs,y=ò k/\S3 p=↑ Ù1/\Q ((qe kvs Ó3).getD z) S3
def uM Æ3 (he:PD X e ty) (hf:PD X f tx) è6:PD X Ì8 (Qp td ty tx):=by
 exact#[fun L S Q Q' hq z=>ho.mo L S È (λ x S1 #[p,a,b,z]=>#[p,a,b,he.mo L S1 È (λ y S2 z=>hf.mo L S2 È (λ w S3 #[k,kvs,a,b,h]=>#[k,kvs,a,b,hq È h]) z) z]) z,PE.imp (KZ (gG hr) ho.pe he.pe hf.pe m) Ò9];ext Ë3;let#[p,rfl,#[kvs0,c0],h1]:=h1;simp![zj] at q1;subst q1;let#[vs0,g0,_]:=p1 È c0;exact#[p,rfl,ĥ #[vs0,ĥ g0],?_];exact zQ.go he.mo ß4;exact zQ.go hf.mo ((Ï7).ext e2) p2 h2 λ y3 S3 w3 H3 h3 q3 e3 p3=>?_;let#[k,kvs,rfl,c1,h]:=h3;simp![zj] at q2;subst q2;let#[vs,g1,g2]:=p3 È c1;exact#[pC vs Ó3,m9.k ñ9,?_];rcases xG.val g2 Ó3 with ⟨n1,n2⟩ | ⟨d',v',n1,n2,n3⟩
 .rw[n1] at h;rw[n2];show h _ H3 q3 (Ô9) p3
 .rw[n1] at h;rw[n2];show h _ H3 n3 (Ô9) p3
def Qo (td ty tv:zy):xg:=λ E L S=>tv L S λ v S1=>td L S1 λ x S2=>ty L S2 λ y S3=>∃ p kvs k,x=Ý p/\y=ò k/\S3 p=↑ Ù1/\č<Ó/\E.nx L (ups S3 p (.xa (putD kvs Ó3 v)))
theorem Ext.dK ſ Ò1 ņ(h:H p=↑ ţ) (o:HO):Ext H (upd H p o):=
 #[λ b ys q=>ı,λ b ob u q=>ı,λ b u q=>ı,λ b x u q=>#[u,ı]]
theorem vo Æ3 (hi:PD X i ty) (hv:PD X v tv) (hs:swapsWith v ↑(Ë8) pos.line Á7=pure à):zv X (.Assign [Ë8] v pos) (Qo td ty tv):=by
 exact#[λ E E' L S hE z=>hv.mo L S È (λ w S1 z=>ho.mo L S1 È (λ x S2 z=>hi.mo L S2 È (λ y S3 #[p,kvs,k,a,b,c,d,h]=>#[p,kvs,k,a,b,c,d,hE.nx È h]) z) z) z,PS.imp (UK (gG hr) ho.pe hi.pe hv.pe hs) λ D σ H hu=>?_];ext ĝ;exact zQ.go hv.mo r1 r2 z λ w S1 w1 H1 h1 q1 e1 p1=>?_;exact zQ.go ho.mo (Ï7) p1 h1 λ x S2 w2 H2 h2 q2 e2 p2=>?_;exact zQ.go hi.mo ((Ï7).ext e2) p2 h2 λ y S3 w3 H3 h3 q3 e3 p3=>?_;let#[p,kvs,k,rfl,rfl,c1,c2,h]:=h3;simp![zj] at q2 q3;subst q2 q3;let#[vs,g1,g2]:=p3 È c1;have e4:Ext H3 (upd H3 p (.dK (putK vs Ó3 w1))):=.dK g1 _;exact#[p,_,rfl,fB.k ñ9 (by rw[<- g2.len];show c2),?_];show h σ _ ((((Ï7).ext e2).ext e3).ext e4) ((Ô9).trans e4) (p3.ups e4 #[_,yO,(xG.put g2 _ (zj.ext (e2.trans e3) w q1)).ext e4])
def CH:xA X (Í2 "len") (λ xs H Q=>∃ p kvs,xs=[Ý p]/\H p=↑ ţ/\Q (ò č) H):=by
 intro gV s σ H xs us Q I r h;let#[p,kvs,rfl,e,q]:=h;let#[u,rfl,ru]:=vals1 r;cases ru;show DQ I (ĥ e) λ t s' I'=>#[ò _,H,I',#[_,rfl],q]
def R4:xx:=λ ds S Q=>∃ p kvs,ds=[Ý p]/\S p=↑ Ù1/\Q (ò č) S
def uJ {es:ó0}{tA:y6}{p:Pos}(hm:X.mg "len"=none) ė (hg:Gl X "len") Õ:PD X (ß9 (Ŗ "len" p) š) (qo R4 tA):=
 ma (l7 CH hg hm PySem.boot_len Ł) (λ _ _ _ _ hq #[p,kvs,a,b,h]=>#[p,kvs,a,b,hq È h]) (λ xs ds H S Q h0 h2 #[p,kvs,a,b,h]=>by
  subst a;let#[x,rfl,h1]:=h0.one;simp![zj] at h1;subst h1;let#[vs,g1,g2]:=h2 È b;exact#[p,vs,rfl,g1,?_];rw[<- g2.len];show h À9 h2) ha.mo
end
end L3
namespace L3
open è9 L2
section
variable {Ç9}
mutual
theorem â2 (h:Ŧ):∀ (t:T) ř,ŉ->Sn S' t d
 | .zC,d,q=>Ģ
 | Ø4,d,q=>Ģ
 | å3,d,q=>Ģ
 | À8 x,d,q=>Ģ
 | Ñ3,d,q=>by
  ext Î0;show#[ds,q1,Á8 h ts q2]
 | ø,d,q=>by
  ext Î0;exact#[ds,?_,Á8 h ts q2];rcases q1 with q1 | ⟨a,q1,q3⟩
  .show ĥ q1
  .show ń #[a,q1,h È q3]
 | Ø5,d,q=>by
  simp![Sn] at q ⊢;let#[a,m,q1,q2,q3]:=q;show#[a,m,q1,h È q2,Á8 h ts q3]
theorem Á8 (h:Ŧ):∀ Ú5 Ë,â->zp S' ts ds
 | [],ds,q=>by simpa only [zp] using q
 | Þ1,ds,q=>by
  ext Ý1;show#[c,cs,q1,â2 h t q2,Á8 h ts q3]
end
def zp.nil:zp S [] []:=by simp![zp]
def zp.cons {t:T}Ĕ ř Ë(h:ŉ) (h':â):zp S (Þ1) (d::ds):=by
 simp![zp];show#[d,ds,rfl,h,h']
theorem zp.append:∀ {ts us:Ä}{ds es:List D},â->zp S us es->zp S (ts++us) (ds++es)
 | [],us,ds,es,h,h'=>by ext Ý7;exists h'
 | Þ1,us,ds,es,h,h'=>by
  ext Ò;show zp.cons h1 (zp.append h2 h')
theorem zp.au:∀ Ĕ Ë Ê8{t:T},â->ts[i]?=↑t->∃ d,ds[i]?=↑d/\ŉ
 | [],_,i,t,_,e=>by simp at e
 | u::ts,ds,i,t,h,e=>by
  ext Ò;cases i with
  | zero=>simp at e;subst e;show î9
  | succ i=>
   let#[y,e1,e2]:=zp.au (i:=i) h2 (by exists e);show ï3
theorem zp.Xm:∀ Ĕ Ë Ê8 ř,â->ds[i]?=↑d->∃ t,ts[i]?=↑t/\ŉ
 | [],ds,i,t,h,e=>by ext Ý7;simp at e
 | u::ts,ds,i,t,h,e=>by
  ext Ò;cases i with
  | zero=>simp at e;subst e;show#[u,rfl,h1]
  | succ i=>
   let#[y,e1,e2]:=zp.Xm (i:=i) h2 (by exists e);show ï3
def zp.len Ĕ Ë(h:â):î6=ą:=(L3.zp.length h).symm
theorem zp.at Ĕ Ë{i:Int}{t:T}(h:â) (e:é4 ts i=↑t):∃ d,é4 ds i=↑d/\ŉ:=by
 unfold é4 at e ⊢;rw[h.len];cases q:L2.qj ą i with
 | none=>rw[q] at e;cases e
 | some j=>
  rw[q] at e;show h.au e
theorem zp.Uc:∀ Ĕ Ë{t:T}ř Ù,â->ŉ->zp S (ts.set i t) (ds.set i d)
 | [],ds,t,d,i,h,_=>Æ1
 | u::ts,ds,t,d,0,h,hd=>by
  ext Ò;show zp.cons hd h2
 | u::ts,ds,t,d,i+1,h,hd=>by
  ext Ò;show zp.cons h1 (zp.Uc i h2 hd)
theorem zp.take':∀ Ĕ Ë Î3,â->zp S (ts.take n) (ds.take n)
 | ts,ds,0,h=>by exists zp.nil
 | [],ds,n+1,h=>Æ1
 | Þ1,ds,n+1,h=>by
  ext Ò;show zp.cons h1 (zp.take' n h2)
theorem zp.drop':∀ Ĕ Ë Î3,â->zp S (ï4 n) (ds.drop n)
 | ts,ds,0,h=>h
 | [],ds,n+1,h=>Æ1
 | Þ1,ds,n+1,h=>by
  ext Ò;show zp.drop' n h2
def zp.empty Ĕ Ë(h:â):ds.isEmpty=ts.isEmpty:=by
 have:=h.len;cases ds <;> cases ts <;> simp_all
theorem zp.QV:∀ {bs:Ê4}Ë,zp S (bs.map T.bl) ds->ds=bs.map D.bl
 | [],ds,h=>by simpa only [za4,zp] using h
 | b::bs,ds,h=>by
  rw[zA6] at h;simp![zp,Sn] at h;let#[c,cs,rfl,rfl,h3]:=h;rw[zp.QV h3];rfl
end
end L3
local macro_rules|`(tactic|cases $e:ident)=>`(tactic|first|(injection $e:ident with z;subst z)|cases ($e))
namespace L5
open è9 L2 L3
def yn Ë2:SS:=open Classical in λ a=>if Z a then none else S a
section
variable {Ç9}{Z Z':è}{a p:Addr}
def o7 (h:¬ Z a):yn S Z a=S a:=É h
def Xd (h:Z a):yn S Z a=none:=Î h
def mh {o:O}(h:yn S Z a=↑o):¬ Z a/\S a=↑o:=by
 by_cases z:Z a
 .rw[Xd z] at h;cases h
 .rw[o7 z] at h;show#[z,h]
def gJ Ë2:Sx Ă S:=λ _ _ h=>(mh h).2
def pO (h:Ŧ):Sx Ă (yn S' Z):=λ b o q=>by
 ext Å7;rw[o7 q1];show h È q2
def nJ (h:∀ a,Z' a->Z a):Sx Ă (yn S Z'):=λ b o q=>by
 ext Å7;rw[o7 (λ z=>q1 (h _ z))];show q2
def gK (h:Ŧ) (hp:á7):Sx Ă Ç5:=λ b o q=>by
 ext Å7;rw[o7]
 .show h È q2
 .rintro (z | z)
  .show q1 z
  .subst z;rw[hp] at q2;cases q2
theorem GU {o:O}(h:Z p):yn (ups S p o) Z=yn S Z:=by
 funext b;by_cases z:Z b
 .rw[Xd z,Xd z]
 .rw[o7 z,o7 z,lp (λ e=>z (by rw[e];show h))]
end
inductive C where
 | lst Ú5 | xa ã4 | zK (ks:Æ0) Ú5
def xt {κ:Type}(S:SS):List (κ × T)->List (κ × D)->Prop
 | [],l=>l=[]
 | (k,t)::r,l=>∃ d m,l=(k,d)::m/\ŉ/\xt S r m
theorem xt.sx {κ:Type}Ç9(h:Ŧ):∀ {a:List (κ × T)}{b:List (κ × D)},Û7->xt S' a b
 | [],_,q=>q
 | (k,t)::r,_,q=>by
  let#[d,m,q1,q2,q3]:=q;show#[d,m,q1,â2 h t q2,xt.sx h q3]
def lM (S:SS):C->O->Prop
 | ø,ň ds=>â
 | .xa a,.xa b=>Û7
 | Ø5,.zK m=>î8/\zp S ê2
 | _,_=>Ø2
theorem lM.sx Ç9(h:Ŧ):∀ {c:C}{o:O},lM S c o->lM S' c o
 | ø,ň ds,q=>Á8 h ts q
 | .xa a,.xa b,q=>xt.sx h q
 | .zK _ ts,.zK _,q=>#[q.1,Á8 h ts q.2]
inductive W where
 | im (t:T) | own (c:C)
abbrev Ev:=List (À W)
abbrev zEO:=Ev->À T
abbrev zLO:=Ä->À T
structure ER Ë2 (L:yX) Ú7:Prop where
 zd:Á9
 im:∀ Ù t,å6=↑↑(.im t)->∃ d,L[i]?=↑↑d/\Sn Ă t d
 ow:∀ Ù c,å6=↑↑(.own c)->∃ p o,ż/\S p=↑o/\lM Ă c o/\Z p
def Vw Ë2 (y:T) (d:D):Prop:=ï5\/(∃ ts p ds,y=ø/\d=Ý p/\S p=↑ Ø3/\Å9/\Z p)\/∃ ks ts p m,y=Ø5/\d=Ý p/\S p=↑(.zK m)/\î8/\zp Ă ê2/\Z p
abbrev Rk:=SS->SS->(è)->T->D->Prop
def PJ:Rk:=λ _ S' Z y d=>Vw S' Z y d
def zq:Rk:=λ _ S' Z y d=>Ó4
def zk:Rk:=λ S S' Z y d=>Ó4/\∀ ts,y=ø->∃ p ds,d=Ý p/\á7/\S' p=↑ Ø3/\zp Ç5 ts ds
class Cl ò0:Prop where
 cl:∀ {S S1 S':SS}è7 ř,Sx S S1->R S1 S' Z y d->Ç6
 of:∀ Ç9 è7 ř,(∀ ts,y≠ ø)->Ó4->Ç6
instance:Cl PJ:=#[λ _ h=>h,λ _ h=>ĥ h]
instance:Cl zq:=#[λ _ h=>h,λ _ h=>h]
instance:Cl zk:=#[λ s h=>#[h.1,λ ts e=>by
 let#[p,ds,h1,h2,h3]:=h.2 ts e;show#[p,ds,h1,s.none h2,h3]],λ n h=>#[h,λ ts e=>È6 e (n ts)]]
section
variable {Ç9}{Ã1}{y:T}{ř}
def ER.grow (h:ï6) (s:Ŧ):ER S' Z L Y:=
 #[λ a z q=>h.zd a z (s.none q),λ i t e=>by
  let#[d,h1,h2]:=h.im i t e;show#[d,h1,â2 (pO s) t h2],λ i ts e=>by
  let#[p,ds,h1,h2,h3,h4]:=h.ow i ts e;show#[p,ds,h1,s È h2,lM.sx (pO s) h3,h4]]
def Vw.grow (h:å7) (s:Ŧ):Vw S' Z y d:=by
 rcases h with h | ⟨ts,p,ds,h1,h2,h3,h4,h5⟩ | ⟨ks,ts,p,m,h1,h2,h3,h4,h5,h6⟩
 .show ĥ (â2 (pO s) y h)
 .show ń (ĥ #[ts,p,ds,h1,h2,s È h3,Á8 (pO s) ts h4,h5])
 .show ń (ń #[ks,ts,p,m,h1,h2,s È h3,h4,Á8 (pO s) ts h5,h6])
def Vw.sn (h:å7):Sn S y d:=by
 rcases h with h | ⟨ts,p,ds,rfl,rfl,h3,h4,_⟩ | ⟨ks,ts,p,m,rfl,rfl,h3,h4,h5,_⟩
 .show â2 (gJ S Z) y h
 .ext Õ7;show#[ds,ń #[p,rfl,h3],Á8 (gJ S Z) ts h4]
 .ext Õ7;show#[p,m,#[rfl,h4],h3,Á8 (gJ S Z) ts h5]
theorem Vw.zC (h:Vw S Z .zC d):d=.zC:=by
 ext Ø
 ext È1
 .cases h
 .cases h
theorem Vw.bl Ü4(h:Vw S Z (Ø4) d):d=Ø4:=by
 ext Ø
 ext È1
 .cases h
 .cases h
theorem Vw.int {b:Int}(h:Vw S Z (ò b) d):d=ò b:=by
 ext Ø
 ext È1
 .cases h
 .cases h
theorem Vw.str {b:Str}(h:Vw S Z (À8 b) d):d=À8 b:=by
 ext Ø
 ext È1
 .cases h
 .cases h
theorem Vw.tup Ĕ(h:Vw S Z (Ñ3) d):∃ ds,d=Ķ ds/\Å9:=by
 ext Ø
 ext È1
 .cases h
 .cases h
theorem Vw.lst Ĕ(h:Vw S Z (ø) d):∃ ds,(d=.qC ds\/∃ a,d=å0/\S a=↑ Ø3)/\Å9:=by
 rcases h with h | ⟨us,p,ds,h1,h2,h3,h4,_⟩ | ⟨_,_,_,_,h,_⟩
 .ext í2;let#[ds,h1,h2]:=h;exact#[ds,?_,h2];rcases h1 with h1 | ⟨a,h1,h3⟩
  .show ĥ h1.1
  .show ń #[a,h1,(mh h3).2]
 .cases h1;show#[ds,ń #[p,h2,h3],h4]
 .cases h
def wH:T->À (Ä)
 | Ñ3=>↑ts
 | ø=>↑ts
 | _=>none
@[simp] theorem MO Ú5:wH (Ñ3)=↑ts:=rfl
@[simp] theorem MP Ú5:wH (ø)=↑ts:=rfl
def Vw.seq Ĕ(h:å7) (e:wH y=↑ts):∃ ds,ç4/\Å9:=by
 cases y with
 | tup us=>cases e;let#[ds,rfl,h2]:=h.tup;show#[ds,rfl,h2]
 | lst us=>
  cases e;obtain⟨ds,h1 | ⟨a,rfl,h1⟩,h2⟩:=h.lst
  .subst h1;show#[ds,rfl,h2]
  .show#[ds,by unfold y4;ext Ā;rw[h1],h2]
 | _=>cases e
theorem Vw.zK {ks:Æ0}Ĕ(h:Vw S Z (Ø5) d):∃ a m,(d=å0/\î8)/\S a=↑(.zK m)/\zp Ă ê2:=by
 rcases h with h | ⟨_,_,_,h,_⟩ | ⟨ks',ts',p,m,e,rfl,h1,h2,h3,_⟩
 .ext í2;let#[a,m,h1,h2,h3]:=h;show#[a,m,h1,(mh h2).2,h3]
 .cases h
 .cases (e);show#[p,m,#[rfl,h2],h1,h3]
def VW:Sn S .zC .zC:=by ext Õ7
def pG Ü4:Sn S (Ø4) (Ø4):=by ext Õ7
def pF {i:Int}:Sn S (å3) (å3):=by ext Õ7
def nX {x:Str}:Sn S (À8 x) (À8 x):=by ext Õ7
def ly Ĕ Ë(h:â):Sn S (Ñ3) (Ķ ds):=by ext Õ7;show#[ds,rfl,h]
def mH Ĕ Ë Ò1(hz:Á9) (hp:á7) (h:Å9):zk S (ups S p Ø3) Z (ø) Ò7:=by
 have nz:¬ Z p:=λ z=>hz p z hp;have s:Sx S (ups S p Ø3):=.new hp _;exact#[?_,λ us e=>?_]
 .ext Õ7;show#[ds,ń #[p,rfl,by rw[o7 nz,mF]],Á8 (pO s) ts h]
 .cases e;show#[p,ds,rfl,hp,mF,Á8 (gK s hp) ts h]
end
def zO ò0 À0 (t:zy):Prop:=∀ S Z L Y y Q,ï6->f Y=↑y->(∀ d S',Ŧ->Ç6->Q d S')->t L S Q
abbrev q8:=zO zq
abbrev yU:=zO PJ
abbrev xX:=zO zk
def zO.imp {R R':Rk}ß5(h:zO R f t) (i:∀ S S' Z y d,Ç6->R' S S' Z y d):zO R' f t:=λ S Z L Y y Q hE e hq=>h Ç y Q hE e λ d S' s r=>hq d S' s (i È ŕ r)
def zO.er ß5(h:q8 f t):yU f t:=h.imp λ _ _ _ _ _ r=>ĥ r
def zO.fe ß5(h:xX f t):q8 f t:=h.imp λ _ _ _ _ _ r=>r.1
def zO.fr ß5(h:xX f t):yU f t:=h.fe.er
@[simp] def zo Ù:zEO:=fun Y=>match å6 with
 | some ↑(.im t)=>↑t
 | _=>none
@[simp] def zc Ù:zEO:=fun Y=>match å6 with
 | some ↑(.im t)=>↑t
 | Ë9=>↑(ø)
 | some ↑(.own (Ø5))=>↑(Ø5)
 | _=>none
@[simp] def cS (t:T):zEO:=λ _=>↑t
@[simp] abbrev cI (i:Int):zEO:=cS (å3)
def yF Ù:q8 (zo i) ï7:=λ S Z L Y y Q hE e hq=>by
 unfold zo at e;split at e
 .ext Î1;show hq d Ü h2
 .cases e
def sg Ù:yU (zc i) ï7:=λ S Z L Y y Q hE e hq=>by
 unfold zc at e;split at e
 .ext Î1;show hq d Ü (ĥ h2)
 .rename_i ts h;cases e;ext É3;cases o with
  | lst ds=>show hq _ Ü (ń (ĥ #[ts,p,ds,rfl,rfl,h2,h3,h4]))
  | _=>show h3.elim
 .rename_i ks ts h;cases e;ext É3;cases o with
  | zK m=>show hq _ Ü (ń (ń #[ks,ts,p,m,rfl,rfl,h2,h3.1,h3.2,h4]))
  | _=>show h3.elim
 .cases e
def sS (i:Int):xX (cS (å3)) (dC (å3)):=λ S Z L Y y Q hE e hq=>by cases e;show Ş
def rg (i:Bool):xX (cS (.bl i)) (dC (.bl i)):=λ S Z L Y y Q hE e hq=>by cases e;show ï8
def sC (i:Str):xX (cS (À8 i)) (dC (À8 i)):=λ S Z L Y y Q hE e hq=>by cases e;show hq _ Ü (Cl.of á nX)
def sL:xX (cS .zC) (dC .zC):=λ S Z L Y y Q hE e hq=>by cases e;show hq _ Ü (Cl.of á VW)
@[simp] def zb (f:ě) (fa fb:zEO):zEO:=fun Y=>(fa Y).bind λ x=>(fb Y).bind λ y=>f x y
def Good2 ò0 (f:ě) (g:x8):Prop:=∀ S Z x y z d e Q,(Á9)->Vw S Z x d->Vw S Z y e->f x y=↑z->à6->g d e S Q
def zS Ú8 [Cl R] {f:ě}{g:x8}{fa fb:zEO}{ta tb:zy}(hg:Good2 R f g) ď:zO R (zb f fa fb) (yT g ta tb):=λ S Z L Y y Q hE e hq=>by
 unfold zb at e;let#[x,e1,e]:=ô;let#[z,e2,e]:=ô;exact ha Ç x _ hE ÿ;exact hb Ð8 z _ (Ž) e2 λ d2 S2 s2 r2=>?_;show hg S2 Z x z y d d2 Q ((hE.grow ĳ).zd) (Vw.grow r1 s2) r2 e λ c S' s r=>hq c S' ((ì4 s2).trans s) (Cl.cl ĳ r)
@[simp] def i2 (g:Int->Int->T):ě
 | å3,ò j=>↑(g i j)
 | _,_=>none
instance {i j:Int}:ï9 (oj i j):=by unfold oj;infer_instance
instance {i j:Int}:ï9 (qd i j):=by unfold qd;infer_instance
instance {i j:Int}:ï9 (jI i j):=by unfold jI;infer_instance
@[simp] def gE (C:Int->Int->Prop) [∀ i j,ï9 (C i j)] (g:Int->Int->T):ě
 | å3,ò j=>if C i j then ↑(g i j) else none
 | _,_=>none
def eU ŧ:Good2 zk (i2 g) (zF g'):=λ S Z x y z d e Q hz hx hy ef hq=>by
 unfold i2 at ef;split at ef
 .ext Õ9;show é5
 .cases ef
def aq {C:Int->Int->Prop} [∀ i j,ï9 (C i j)] ŧ:Good2 zk (gE C g) (fI C g'):=λ S Z x y z d e Q hz hx hy ef hq=>by
 unfold gE at ef;split at ef
 .split at ef
  .rename_i hh;ext Õ9;show#[hh,é5]
  .cases ef
 .cases ef
@[simp] def rY:ě:=i2 λ i j=>ò (i-j)
@[simp] def xN:ě:=gE (λ _ j=>0<j) λ i j=>ò (i%j)
@[simp] def ql:ě:=gE qd λ i j=>ò (i/j)
@[simp] def fU:ě:=gE jI λ i j=>ò (i ^ j.toNat)
@[simp] def Yc:ě:=gE ã5
@[simp] def Wb:ě:=i2 ç8
@[simp] def mN:ě:=i2 λ i j=>.bl (Á6 (i<=j))
@[simp] def Xh:ě:=i2 λ i j=>.bl (Á6 (j<i))
@[simp] def jc:ě:=i2 λ i j=>.bl (Á6 (j<=i))
section
variable {fa fb:zEO}{ta tb:zy}
def sA ď:xX (zb rY fa fb) (yT (zF λ i j=>ò (i-j)) ta tb):=zS (eU Į) ha hb
def sN ď:xX (zb xN fa fb) (yT (fI (λ _ j=>0<j) λ i j=>ò (i%j)) ta tb):=Ô1
def sW ď:xX (zb ql fa fb) (yT (fI qd λ i j=>ò (i/j)) ta tb):=Ô1
def sH ď:xX (zb fU fa fb) (yT (fI jI λ i j=>ò (i ^ j.toNat)) ta tb):=Ô1
def sF ď:xX (zb Yc fa fb) (yT (fI ã5) ta tb):=Ô1
def rh ď:xX (zb Wb fa fb) (yT (zF ç8) ta tb):=zS (eU Į) ha hb
end
def zT Ý4:ě:=λ x y=>if dep x<=60/\dep y<=60 then ↑(.bl (cond neg (!eqT x y) (eqT x y))) else none
def qR Ý4:ě:=λ x y=>match wH y with
 | some ts=>if dep x<=60/\î7<=60 then ↑(.bl (cond neg (!(ts.any λ t=>eqT t x)) (ts.any λ t=>eqT t x))) else none
 | none=>none
def rP Þ0:Good2 zk (zT neg) (pj neg):=λ S Z x y z d e Q hz hx hy ef hq=>by
 unfold zT at ef;split at ef
 .ext Ý8;show#[x,y,hx.sn,hy.sn,h.1,h.2,ï8]
 .cases ef
def wC Þ0:Good2 zk (qR neg) (mT neg):=λ S Z x y z d e Q hz hx hy ef hq=>by
 unfold qR at ef;split at ef
 .rename_i ts ht;split at ef
  .ext Ý8;let#[ds,h1,h2]:=hy.seq ht;show#[x,ts,ds,hx.sn,h1,Á8 (gJ S Z) ts h2,h.1,h.2,ï8]
  .cases ef
 .cases ef
@[simp] def zi:ě:=λ x y=>match x,y with
 | À8 z,å3=>if z.length<=Ó then (é4 z.cps.toList i).map λ c=>À8 #[[c].toArray] else none
 | x,y=>match wH x,y with
  | some ts,å3=>é4 ts i
  | _,_=>none
def yL:Good2 zq zi pR:=λ S Z x y z d e Q hz hx hy ef hq=>by
 unfold zi at ef;split at ef
 .split at ef
  .rename_i h0;let#[c,h1,rfl]:=Ű ef;cases hx.str;cases hy.int;unfold pR;ext Ā;rw[h1];show#[h0,hq _ Ü nX]
  .cases ef
 split at ef
 .rename_i ts i ht _;cases hy.int;let#[ds,h1,h2]:=hx.seq ht;let#[c,h3,h4]:=h2.at ef;unfold y4 at h1;split at h1
  .cases h1;show Dj h3 (hq c Ü h4)
  .cases h1;show Dl h3 (hq c Ü h4)
  .split at h1
   .rename_i q;cases h1;show Dm q h3 (hq c Ü h4)
   .cases h1
  .cases h1
 .cases ef
@[simp] def zX:ě
 | å3,ò j=>↑(ò (i+j))
 | À8 i,À8 j=>if Ù2 then ↑(À8 (i++j)) else none
 | ø,ň us=>if ą+Ä6<=Ó then ↑(ň (ts++us)) else none
 | Ñ3,Ķ us=>if ą+Ä6<=Ó then ↑(Ķ (ts++us)) else none
 | _,_=>none
def mx:x8:=λ x y S Q=>match x,y with
 | å3,ò j=>Q (ò (i+j)) S
 | À8 i,À8 j=>Ù2/\Q (À8 (i++j)) S
 | Ķ ds,Ķ es=>Ñ4/\Q (Ķ (ds++es)) S
 | .zC,_=>Ø2
 | .bl _,_=>Ø2
 | ò _,_=>Ø2
 | À8 _,_=>Ø2
 | Ķ _,_=>Ø2
 | x,y=>match y4 x S,y4 y S with
  | some ds,↑es=>(∀ ts,y≠ Ñ3)/\Â8
  | _,_=>Ø2
def good_add:Good2 zk zX mx:=λ S Z x y z d e Q hz hx hy ef hq=>by
 unfold zX at ef;split at ef
 .ext Õ9;show Ş
 .split at ef
  .ext Ý8;cases hx.str;cases hy.str;show#[h,hq _ Ü (Cl.of á nX)]
  .cases ef
 .split at ef
  .ext Ý8;let#[ds,h1,h2]:=hx.seq rfl;let#[es,h3,h4]:=hy.seq rfl;have nt:∀ ts,e≠ Ñ3:=by
    obtain⟨_,q | ⟨_,q,_⟩,_⟩:=hy.lst <;> subst q <;> show λ _=>nofun
   have key:(∀ ts,e≠ Ñ3)/\Â8:=
    #[nt,í8,λ r hr=>hq È (.new hr _) (mH hz hr (h2.append h4))]
   obtain⟨_,q | ⟨a,q,_⟩,_⟩:=hx.lst
   ext Ü9
   ext Ü9
  .cases ef
 .split at ef
  .ext Ý8;let#[ds,rfl,h2]:=hx.tup;let#[es,rfl,h4]:=hy.tup;show#[í8,hq _ Ü (Cl.of á (ly (h2.append h4)))]
  .cases ef
 .cases ef
def qX (f:ă) (t:xf):Prop:=∀ S Z L Y y Q,ï6->f Y=↑y->(∀ S',Ŧ->Q y S')->t L S Q
@[simp] def zW À0:ă:=fun Y=>Ĝ λ x=>match x with
 | Ø4=>↑b
 | _=>none
@[simp] def ZL:T->À Bool
 | .zC=>↑ à
 | Ø4=>↑b
 | å3=>↑(i != 0)
 | À8 x=>if x.length<=Ó then ↑((x.length:Int) != 0) else none
 | Ñ3=>↑(!ts.isEmpty)
 | ø=>↑(!ts.isEmpty)
 | .zK È=>none
@[simp] def xo À0:ă:=fun Y=>Ĝ ZL
@[simp] def jo (f g:ă):ă:=fun Y=>Ĝ λ b=>if b=true then g Y else ↑ à
@[simp] def qG (f g:ă):ă:=fun Y=>Ĝ λ b=>if b=true then ↑true else g Y
@[simp] def qm (f:ă):ă:=fun Y=>(f Y).map (!·)
section
variable {f g:zEO}{t u:zy}{fb gb:ă}{tb ub:xf}{Ú8}
def sk Ü5:qX (zW f) (px t):=λ S Z L Y y Q hE e hq=>by
 ext í3
 .cases e2;ext ë8;show Ë1
 .cases e2
def su Ü5:qX (xo f) (Xz t):=λ S Z L Y y Q hE e hq=>by
 ext Ï;cases x with
 | zC=>cases Vw.zC r1;ext ì1
 | bl b=>ext ë8;ext ì1
 | int b=>cases ð0;ext ì1
 | str b=>
  cases Vw.str r1;simp![ZL] at e2;ext Ü6
  .rename_i hh;cases e2;show#[hh,Ë1]
  .cases e2
 | tup ts=>
  let#[ds,rfl,h2]:=Vw.tup r1;ext Ö5
 | lst ts=>
  ext Ō
  .ext Ö5
  .cases e2;exact NB h1 ?_;rw[h2.empty];show Ë1
 | zK _ _=>cases e2
def sZ (h:qX fb tb) (h':qX gb ub):qX (jo fb gb) (dh tb ub):=λ S Z L Y y Q hE e hq=>by
 ext È2
 .ext Ê0;show Þ9
 .ext Ë4;ext ì1
def sX (h:qX fb tb) (h':qX gb ub):qX (qG fb gb) (df tb ub):=λ S Z L Y y Q hE e hq=>by
 ext È2
 .ext Ê0;ext ì1
 .ext Ë4;show Þ9
def sY (h:qX fb tb):qX (qm fb) (dg tb):=λ S Z L Y y Q hE e hq=>by
 unfold qm at e;let#[b,e1,rfl]:=Ű e;show h Ç b _ hE e1 λ S1 s1=>Ë1
@[simp] def qp (f g:zEO):zEO:=fun Y=>Ĝ λ x=>match x with
 | .bl k=>if k=true then g Y else ↑(.bl à)
 | _=>none
@[simp] def bG (f g:zEO):zEO:=fun Y=>Ĝ λ x=>match x with
 | .bl k=>if k=true then ↑(.bl true) else g Y
 | _=>none
@[simp] def Tx À0:zEO:=fun Y=>Ĝ λ x=>match x with
 | .bl k=>↑(.bl (!k))
 | _=>none
@[simp] def lB (c:ă) (f g:zEO):zEO:=fun Y=>(c Y).bind λ b=>if b=true then f Y else g Y
def rj [Cl R] Ü5 (h':zO R g u):zO R (qp f g) (dA t u):=λ S Z L Y y Q hE e hq=>by
 ext í3
 .ext ë8;ext Ü6
  .ext ì2;rw[Î hb];show h' ã
  .ext ì2;rw[É hb];cases e2;show ß0
 .cases e2
def sI [Cl R] Ü5 (h':zO R g u):zO R (bG f g) (dr t u):=λ S Z L Y y Q hE e hq=>by
 ext í3
 .ext ë8;ext Ü6
  .ext ì2;rw[Î hb];cases e2;show ß0
  .ext ì2;rw[É hb];show h' ã
 .cases e2
def sJ [Cl R] Ü5:zO R (Tx f) (du t):=λ S Z L Y y Q hE e hq=>by
 ext í3
 .ext ë8;cases e2;show ß0
 .cases e2
def sV [Cl R] (hc:qX fb tb) (h:zO R f t) (h':zO R g u):zO R (lB fb f g) (dv tb t u):=λ S Z L Y y Q hE e hq=>by
 ext í4;exact hc Ç b _ hE e1 λ S1 s1=>?_;ext Ü6
 .ext Ê0;show h ã
 .ext Ë4;show h' ã
end
def kF Ë2:Ä->List D->Prop
 | [],ds=>ds=[]
 | Þ1,ds=>∃ c cs,ds=c::cs/\Vw S Z t c/\kF S Z ts cs
def nA (f:å) (t:y6):Prop:=∀ S Z L Y ys Q,ï6->f Y=↑ys->(∀ ds S',Ŧ->kF S' Z ys ds->Q ds S')->t L S Q
def j7 (f:å) (t:y6):Prop:=∀ S Z L Y ys Q,ï6->f Y=↑ys->(∀ ds S',Ŧ->zp (yn S' Z) ys ds->Q ds S')->t L S Q
@[simp] def ze:å:=λ _=>↑[]
@[simp] def za À0 (g:å):å:=fun Y=>Ĝ λ x=>É8 λ xs=>↑(x::xs)
section
variable {f:zEO}{g:å}{t:zy}{u:y6}
def se:nA ze lH:=λ S Z L Y y Q hE e hq=>by cases e;show hq [] Ü rfl
def t_:j7 ze lH:=λ S Z L Y y Q hE e hq=>by cases e;show hq [] Ü Û3
def sf Ü5 (h':nA g u):nA (za f g) (nR t u):=λ S Z L Y y Q hE e hq=>by
 ext Ņ;show hq _ S2 ĳ #[d,ds,rfl,Vw.grow r1 s2,r2]
def sd (h:q8 f t) (h':j7 g u):j7 (za f g) (nR t u):=λ S Z L Y y Q hE e hq=>by
 ext Ņ;show hq _ S2 ĳ (ő (â2 (pO s2) x r1) r2)
@[simp] def tupS (g:å):zEO:=fun Y=>É8 λ xs=>if í<=Ó then ↑(Ķ xs) else none
@[simp] def y_ (g:å):zEO:=fun Y=>É8 λ xs=>if í<=Ó then ↑(ň xs) else none
def sj (h:j7 g u):xX (tupS g) (R_ u):=λ S Z L Y y Q hE e hq=>by
 ext Å8;ext Ü6
 .rename_i hl;cases e2;exact h Ç xs _ hE e1 λ ds S1 s1 r1=>#[by rw[r1.len];show hl,hq _ S1 s1 (Cl.of á (ly r1))]
 .cases e2
def sP (h:j7 g u):xX (y_ g) (Qf u):=λ S Z L Y y Q hE e hq=>by
 ext Å8;ext Ü6
 .rename_i hl;cases e2;exact h Ç xs _ hE e1 λ ds S1 s1 r1=>#[by rw[r1.len];show hl,λ p hp=>hq È (ì4 ų) (Cl.cl s1 (mH (Ž).zd hp r1))]
 .cases e2
end
@[simp] def zl (F:zLO) (g:å):zEO:=fun Y=>É8 F
def qL ò0 (F:zLO) (f:xx):Prop:=∀ S Z ys z ds Q,(Á9)->kF S Z ys ds->F ys=↑z->à6->f ds S Q
def rf Ú8 [Cl R] {F:zLO}{f:xx}{g:å}{u:y6}(hf:qL R F f) (h:nA g u):zO R (zl F g) (qo f u):=λ S Z L Y y Q hE e hq=>by
 ext Å8;exact h Ç xs Ŭ;show hf S1 Z xs y ds Q (Ž).zd r1 e2 λ c S' s r=>hq c S' (ì4 s) (Cl.cl s1 r)
@[simp] def rZ:zLO
 | [À8 z]=>if z.length<=Ó then ↑(ò z.length) else none
 | [y]=>(wH y).map λ ts=>ò ą
 | _=>none
def oU ŏ è7 Ë(h:kF S Z [y] ds):∃ d,ds=[d]/\å7:=by
 ext Í8;cases h2;show î9
def jL ŏ{Z:è}{y z:T}Ë(h:kF S Z [y,z] ds):∃ d e,ds=[d,e]/\å7/\Vw S Z z e:=by
 let#[c,cs,rfl,h1,c2,cs2,rfl,h2,h3]:=h;cases h3;show#[c,c2,rfl,h1,h2]
def rK:qL zk rZ mw:=λ S Z ys z ds Q hz hv e hq=>by
 unfold rZ at e;split at e
 .ext ß6;split at e
  .rename_i hl;cases e;cases h1.str;show#[hl,Ş]
  .cases e
 .ext ĉ;exact Di h2 ?_;rw[h3.len];show Ş
 .cases e
@[simp] def listS:zLO
 | [y]=>(wH y).map ň
 | _=>none
def rJ:qL zk listS mv:=λ S Z ys z ds Q hz hv e hq=>by
 unfold listS at e;split at e
 .ext ĉ;show Dh h2 λ p hp=>hq È ų (mH hz hp h3)
 .cases e
@[simp] def lr:zLO
 | [y]=>(wH y).map Ķ
 | _=>none
def rn:qL zk lr mn:=λ S Z ys z ds Q hz hv e hq=>by
 unfold lr at e;split at e
 .rename_i y;ext ĉ;have k:Q (Ķ es) S:=hq _ Ü (Cl.of á (ly h3));unfold y4 at h2;split at h2
  .cases h2;show k
  .cases h2;show k
  .split at h2
   .rename_i q;cases h2;show Dg q k
   .cases h2
  .cases h2
 .cases e
@[simp] def eO (g:Int->Int->Int):zLO
 | [å3,ò j]=>↑(ò (g i j))
 | _=>none
def Rb {g:Int->Int->Int}:qL zk (eO g) (nN λ i j=>ò (g i j)):=λ S Z ys z ds Q hz hv e hq=>by
 unfold eO at e;split at e
 .let#[d,d',rfl,h1,h2]:=jL hv;cases e;cases h1.int;cases h2.int;show Ş
 .cases e
@[simp] def gm:zLO:=eO λ i j=>if j>i then j else i
@[simp] def nk:zLO:=eO λ i j=>if j<i then j else i
def nv:Ä->À (Ê4)
 | []=>↑[]
 | Ø4::ts=>(nv ts).map (b::·)
 | _::_=>none
theorem QU:∀ Ĕ{bs:Ê4},nv ts=↑bs->ts=bs.map T.bl
 | [],bs,h=>Ê7
 | Ø4::ts,bs,h=>by
  unfold nv at h;let#[cs,h1,rfl]:=Ű h;rw[zA6,<- QU h1]
 | .zC::ts,bs,h=>ğ
 | ò _::ts,bs,h=>ğ
 | À8 _::ts,bs,h=>ğ
 | Ķ _::ts,bs,h=>ğ
 | ň _::ts,bs,h=>ğ
def g_ (bs:Ê4):nv (bs.map T.bl)=↑bs:=by
 induction bs with
 | nil=>rfl
 | cons b bs ih=>rw[zA6];unfold nv;rw[ih];rfl
@[simp] def o9 (g:ð1):zLO
 | [ø]=>(nv ts).map λ bs=>.bl (g bs)
 | _=>none
def nP (g:ð1):xx:=λ ds S Q=>match ds with
 | [Ķ _]=>Ø2
 | [d]=>Î2
 | _=>Ø2
def rQ {g:ð1}:qL zk (o9 g) (nP g):=λ S Z ys z ds Q hz hv e hq=>by
 unfold o9 at e;split at e
 .ext ß6;let#[bs,e1,rfl]:=Ű e;cases QU e1;let#[es,h2,h3]:=h1.seq rfl;cases h3.QV;have key:Î2:=#[bs,h2,ï8];obtain⟨_,q | ⟨a,q,_⟩,_⟩:=h1.lst
  .subst q;show key
  .subst q;show key
 .cases e
structure FR (S0:SS) (Z0:è) Ë2 (L:yX) Ú7:Prop where
 er:ï6
 len:Ï8
 sx:Sx S0 S
 z0:∀ a,Z0 a->S0 a≠none
 zz:∀ a,Z0 a->Z a
 zn:∀ a,Z a->Z0 a\/S0 a=none
 fr:∀ Ù ts p,Ù3->ż->S0 p=none
 dj:∀ (i j:Nat) ts us p,i≠j->Ù3->Y[j]?=↑↑(.own us)->ż->L[j]?=↑↑ Ò7->Ø2
def xI Č{l:Ĳ}Ö6{a b:α}(h:(l.set i a)[j]?=↑b):(i=j/\i<Û4/\b=a)\/(i≠j/\l[j]?=↑b):=by
 rw[zbX] at h;by_cases e:i=j
 .subst e;rw[Ò5] at h;by_cases hl:i<Û4
  .rw[Î hl] at h;cases h;show ĥ #[rfl,hl,rfl]
  .rw[É hl] at h;cases h
 .rw[É e] at h;show ń #[e,h]
def p_ Č{l:Ĳ}Ö6{a:α}(h:i≠j):(l.set i a)[j]?=l[j]?:=by rw[zbX,É h]
def gN Č{l:Ĳ}Ê8{a:α}(h:i<Û4):(l.set i a)[i]?=↑a:=by rw[zbX,Ò5,Î h]
section
variable {S0 S S':SS}{Z0 Z:è}{L:yX}{Y:Ev}{y:T}{ř}
theorem FR.grow (h:ĕ) (s:Ŧ):FR Õ3 S' Z L Y:=#[h.er.grow s,h.len,h.sx.trans s,h.z0,h.zz,h.zn,h.fr,h.dj]
theorem FR.jR (h:ĕ) Ù (r:ï5):FR Õ3 S Z (L.set i ↑d) Â0:=by
 exact ģ
 .ext Ê
  .cases e;show#[d,ş,r]
  .rw[p_ n];show h.er.im j t e
 .ext Ê
  .cases e
  .rw[p_ n];show å8 j ts e
 .ext Ê
  .cases e
  .rw[p_ n] at e';show h.fr j ts p e e'
 .ext Ĩ
  .cases e
  ext Ů
  .cases e
  rw[p_ n1] at e3;rw[p_ n2] at e4;show h.dj j k ts us p Ú9
def FR.Yd {ts:C}{ds:O}Ò1(h:ĕ) (s:Ŧ) Ù (hp:á7) (hd:S' p=↑ds) (r:lM Ç5 ts ds):
  FR Õ3 S' (λ a=>Z a\/a=p) (L.set i ↑ Ò7) (Y.set i ↑(.own ts)):=by
 have np:∀ (j:Nat) us q,Y[j]?=↑↑(.own us)->L[j]?=↑↑(Ý q)->q≠p:=λ j us q e e' z=>by
  subst z;let#[p',ds',h1,h2,_]:=å8 j us e;rw[e'] at h1;cases h1;rw[hp] at h2;cases h2
 exact#[#[λ a z=>?_,λ j t e=>?_,λ j us e=>?_],Ý2,h.sx.trans s,h.z0,λ a z=>ĥ (h.zz a z),λ a z=>z.elim (h.zn a) (λ q=>ń (by subst q;show h.sx.none hp)),λ j us q e e'=>?_,å9]
 .rcases z with z | rfl
  .show λ q=>h.er.zd a z (s.none q)
  .rw[hd];nofun
 .ext Ê
  .cases e
  .rw[p_ n];let#[d,h1,h2]:=h.er.im j t e;show ç9
 .ext Ê
  .cases e;show#[p,ds,ş,hd,r,ń rfl]
  .rw[p_ n];let#[q,es,h1,h2,h3,h4]:=å8 j us e;show#[q,es,h1,s È h2,lM.sx (gK s hp) h3,ĥ h4]
 .ext Ê
  .rw[ş] at e';cases e';show h.sx.none hp
  .rw[p_ n] at e';show h.fr j us q e e'
 .ext Ĩ
  .rcases xI e2 with ⟨rfl,_,_⟩ | ⟨n2,e2⟩
   .show n rfl
   .rw[ş] at e3;cases e3;rw[p_ n2] at e4;show np k vs p e2 e4 rfl
  .ext ź
   .rw[ş] at e4;cases e4;rw[p_ n1] at e3;show np j us p e1 e3 rfl
   .rw[p_ n1] at e3;rw[p_ n2] at e4;show h.dj j k us vs q Ú9
def FR.forget (h:ĕ) Ù:FR Õ3 S Z L (Y.set i none):=by
 exact ģ
 .ext Ê
  .cases e
  .show h.er.im j t e
 .ext Ê
  .cases e
  .show å8 j ts e
 .ext Ê
  .cases e
  .show h.fr j ts p e e'
 .ext Ĩ
  .cases e
  ext Ů
  .cases e
  show h.dj j k ts us p Ú9
@[simp] def xq (is:Ö4) Ú7:Ev:=is.foldl (fun Y i=>Y.set i none) Y
theorem FR.xq:∀ (is:Ö4) {Y:Ev},ĕ->FR Õ3 S Z L Ù4
 | [],_,h=>h
 | i::is,_,h=>FR.xq is (h.forget i)
def FR.freeze Ĕ Ò1(h:ĕ) Ù (e:å6=↑↑(.own (ø))) (ed:ż):
  FR Õ3 S (λ a=>Z a/\a≠p) L (Y.set i ↑(.im (ø)))/\à7:=by
 let#[p',o,h1,h2,h3,h4]:=å8 i _ e;rw[ed] at h1;cases h1;obtain⟨ds,rfl⟩:∃ ds,o=ň ds:=by
  cases o with
  | lst ds=>show#[ds,rfl]
  | _=>show h3.elim
 replace h3:Å9:=h3;have hS:à7:=by
  ext Õ7;show#[ds,ń #[p,rfl,by rw[o7 (λ z=>z.2 rfl)];show h2],Á8 ð2 ts h3]
 exact#[?_,hS];exact#[#[λ a z=>h.er.zd a z.1,λ j t e'=>?_,λ j us e'=>?_],Ý2,h.sx,h.z0,λ a z=>#[h.zz a z,λ q=>?_],λ a z=>h.zn a z.1,λ j us q e' ed'=>?_,å9]
 .ext ý
  .cases e';show#[_,ed,hS]
  .let#[d,g1,g2]:=h.er.im j t e';show#[d,g1,â2 ð2 t g2]
 .ext ý
  .cases e'
  .let#[q,es,g1,g2,g3,g4]:=å8 j us e';show#[q,es,g1,g2,lM.sx ð2 g3,g4,λ z=>by subst z;show h.dj i j _ us q n e e' ed g1]
 .subst q;show h.z0 a z (h.fr i _ a e ed)
 .ext ý
  .cases e'
  .show h.fr j us q e' ed'
 .ext Ĩ
  .cases e
  ext Ů
  .cases e
  show h.dj j k us vs q Ú9
def FR.mut {ts us:C}{es:O}Ò1(h:ĕ) Ù (e:Ù3) (ed:ż) (r:lM Ă us es):
  FR Õ3 (ups S p es) Z L (Y.set i ↑(.own us)):=by
 ext É4;cases h1;have hh:yn (ups S p es) Z=yn S Z:=GU h4;have hpn:=é6;exact#[#[λ a z=>?_,λ j t e'=>?_,λ j vs e'=>?_],Ý2,ð3,h.z0,h.zz,h.zn,λ j vs q e' ed'=>?_,λ j k vs ws q n e1 e2 e3 e4=>?_]
 .by_cases hp:a=p
  .subst hp;rw[mF];nofun
  .rw[lp hp];show h.er.zd a z
 .rw[hh];ext ý
  .cases e'
  .show h.er.im j t e'
 .rw[hh];ext ý
  .cases e';show#[p,es,ed,mF,r,h4]
  .let#[q,es',g1,g2,g3,g4]:=å8 j vs e';exact#[q,es',g1,?_,g3,g4];rw[lp (λ z=>by subst z;show h.dj i j ts vs q n e e' ed g1)];show g2
 .rw[lp (λ z=>by subst z;rw[hpn] at q;cases q)];show h.sx b o q
 .rcases xI e' with ⟨rfl,hl,_⟩ | ⟨n,e'⟩
  .rw[ed] at ed';cases ed';show hpn
  .show h.fr j vs q e' ed'
 .rcases xI e1 with ⟨rfl,hl,_⟩ | ⟨n1,e1⟩
  .ext ź
   .show n rfl
   .show h.dj _ k ts ws q n e e2 e3 e4
  .ext ź
   .show h.dj j _ vs ts q n e1 e e3 e4
   .show h.dj j k vs ws q Ú9
def Yo (S0 S:SS) (Z:è):SS:=open Classical in λ a=>if S0 a=none/\Z a then none else S a
def bt Ė(h:¬ (S0 a=none/\Z a)):Yo S0 S Z a=S a:=É h
def Yn Ė(h:S0 a=none/\Z a):Yo S0 S Z a=none:=Î h
def FR.rebase (h:ĕ):∃ S1,Sx S0 S1/\FR S1 Z0 Ç/\Sx Ă S1:=by
 exact#[Yo S0 S Z,ð3,#[h.er,h.len,ð3,λ a z=>?_,h.zz,λ a z=>?_,λ i ts p e ed=>?_,h.dj],ð3]
 .rw[bt (λ z=>by rw[z.1] at q;cases q)];show h.sx È q
 .by_cases w:S0 b=none/\Z b
  .rw[Yn w] at q;cases q
  .rw[bt w] at q;show q
 .rw[bt (λ q=>h.z0 a z q.1)];show h.er.zd a (h.zz a z)
 .rcases h.zn a z with w | w
  .show ĥ w
  .show ń (Yn #[w,z])
 .ext É4;cases h1;show Yn #[é6,h4]
 .ext Å7;rw[bt (λ z=>q1 z.2)];show q2
def FR.back {S1:SS}(h:FR S1 Z0 Ç) (s:Sx S0 S1) (z0:∀ a,Z0 a->S0 a≠none):ĕ:=#[h.er,h.len,s.trans h.sx,z0,h.zz,λ a z=>(h.zn a z).imp id s.none,λ i ts p e ed=>s.none (é6),h.dj]
def FR.MQ {S1:SS}{Z1:è}(h:ĕ) (b:Sx (yn S1 Z1) S0) (zz:∀ a,Z0 a->Z1 a):Sx (yn S1 Z1) Ă:=λ a o q=>by
 have q0:=b È q;ext Å7;rw[o7]
 .show h.sx È q0
 .intro z;rcases h.zn a z with w | w
  .show q1 (zz a w)
  .rw[w] at q0;cases q0
end
inductive Out where
 | nx Ú7 | rt (t:T) | bk Ú7 | ct Ú7
abbrev Sm:=Ev->À Out
def B5 ò0 (S0:SS) (Z0:è) (o:Out) (E:jG):Prop:=match o with
 | .nx Y=>∀ S Z L,ĕ->E.nx L S
 | .bk Y=>∀ S Z L,ĕ->E.bk L S
 | .ct Y=>∀ S Z L,ĕ->E.ct L S
 | .rt y=>∀ d S,Sx S0 S->R S0 S Z0 y d->E.rt d S
def yp ò0 (g:Sm) (t:xg):Prop:=∀ S0 Z0 S Z L Y o E,ĕ->g Y=↑o->B5 R Õ3 o E->t E L S
class Lo ò0:Prop extends Cl R where
 lo:∀ {S0 S S':SS}{Z0 Z:è}{y:T}ř,Sx S0 S->(∀ a,Z0 a->Z a)->Ç6->R S0 S' Z0 y d
instance:Lo zq:=#[λ _ z h=>â2 (nJ z) _ h]
instance:Lo zk:=#[λ s z h=>#[â2 (nJ z) _ h.1,λ ts e=>by
 let#[p,ds,h1,h2,h3,h4]:=h.2 ts e;show#[p,ds,h1,s.none h2,h3,Á8 (nJ λ a q=>q.imp (z a) id) ts h4]]]
@[simp] def zu (g h:Sm):Sm:=fun Y=>É8 λ o=>match o with
 | .nx Y'=>h Y'
 | o=>↑o
@[simp] def yy:Sm:=fun Y=>↑(.nx Y)
@[simp] def zV Ù À0:Sm:=fun Y=>(f Y).map λ y=>.nx Â0
@[simp] def qT Ù À0:Sm:=fun Y=>Ĝ λ y=>match y with
 | ø=>↑(.nx (Y.set i ↑(.own (ø))))
 | y=>↑(.nx Â0)
@[simp] def kA À0:Sm:=fun Y=>(f Y).map λ _=>.nx Y
@[simp] def retS À0:Sm:=fun Y=>(f Y).map .rt
@[simp] def gh Ù:Sm:=fun Y=>match å6 with
 | Ë9=>↑(.rt (ø))
 | _=>none
@[simp] def yq (c:ă) (g h:Sm):Sm:=fun Y=>(c Y).bind λ b=>if b=true then g Y else h Y
@[simp] def Xn Ù Ú7:Ev:=match å6 with
 | Ë9=>Y.set i ↑(.im (ø))
 | _=>Y
@[simp] def aw Ù (g:Sm):Sm:=fun Y=>g (Xn i Y)
section
variable {Ú8}{g h:Sm}{t u:xg}{Â6}
def u_ ò1:yp R (zu g h) (kB t u):=λ S0 Z0 S Z L Y o E F e P=>by
 let#[o1,e1,e2]:=ô;exact hg Õ3 Ç o1 { E with nx:=u E } F e1 ?_;cases o1 with
 | nx Y1=>show λ S1 Z1 L1 F1=>hh Õ3 S1 Z1 L1 Y1 o E F1 e2 P
 | rt y=>cases e2;show P
 | bk y=>cases e2;show P
 | ct y=>cases e2;show P
def uZ:yp R yy Qd:=λ S0 Z0 S Z L Y o E F e P=>by cases e;show P S Z L F
def tF Ù Û0:yp R (zV i f) (qy te â3):=λ S0 Z0 S Z L Y o E F e P=>by
 ext á0;show hf Û1 e1 λ d S1 s1 r1=>P S1 Z _ ((Ì0).jR i r1)
def tE Ù (hf:xX f te):yp R (qT i f) (qy te â3):=λ S0 Z0 S Z L Y o E F e P=>by
 ext È3;exact hf Û1 ÿ;cases y with
 | lst ts=>
  cases e2;let#[p,ds,rfl,h1,h2,h3]:=r1.2 ts rfl;show P S1 È (F.Yd (ts:=ø) (ds:=ň ds) s1 i h1 h2 h3)
 | _=>cases e2;show P S1 Z _ ((Ì0).jR i r1.1)
def t8 (hf:yU f te):yp R (kA f) (gW te):=λ S0 Z0 S Z L Y o E F e P=>by
 ext á0;show hf Û1 e1 λ d S1 s1 r1=>P S1 Z _ (Ì0)
def tj [Lo R] (hf:zO R f te):yp R (retS f) (js te):=λ S0 Z0 S Z L Y o E F e P=>by
 ext á0;show hf Û1 e1 λ d S1 s1 r1=>P d S1 (F.sx.trans s1) (Lo.lo F.sx F.zz r1)
def yE Ù:yp zk (gh i) (js ï7):=λ S0 Z0 S Z L Y o E F e P=>by
 unfold gh at e;split at e
 .rename_i ts h;cases e;ext Ö9;obtain⟨ds,rfl⟩:∃ ds,ob=ň ds:=by
   cases ob with
   | lst ds=>show#[ds,rfl]
   | _=>show h3.elim
  replace h3:Å9:=h3;have hn:=F.fr i _ p h h1;have nz:¬ Z0 p:=λ z=>F.z0 p z hn;change yN i L S E.rt;ext ä8;exact P _ S F.sx #[?_,λ us e=>?_]
  .ext Õ7;show#[ds,ń #[p,rfl,by rw[o7 nz];show h2],Á8 (nJ F.zz) ts h3]
  .cases e;show#[p,ds,rfl,hn,h2,Á8 (nJ λ a q=>q.elim (F.zz a) λ q=>q▸h4) ts h3]
 .cases e
def yp.fv (h:yp zk g t):yp zq g t:=λ S0 Z0 S Z L Y o E F e P=>by
 exact h Õ3 Ç o E F e ?_;cases o with
 | rt y=>show λ d S s r=>P d S s r.1
 | _=>show P
def tq {c:ă}{tc:xf}(hc:qX c tc) ò1:yp R (yq c g h) (jt tc t u):=λ S0 Z0 S Z L Y o E F e P=>by
 ext í4;exact hc Ç b _ F.er e1 λ S1 s1=>?_;ext Ü6
 .ext Ê0;show hg Õ3 Ð8 o E (Ì0) e2 P
 .ext Ë4;show hh Õ3 Ð8 o E (Ì0) e2 P
def FR.fz {S0 S:SS}{Z0 Z:è}{L:yX}{Y:Ev}(F:ĕ) Ù:∃ Z',FR Õ3 S Z' L (Xn i Y):=by
 unfold Xn;split
 .rename_i ts h;let#[p,ds,h1,_]:=F.er.ow i _ h;show#[_,(F.freeze i h h1).1]
 .show#[Z,F]
def tw Ù (hg:yp R g t):yp R (aw i g) t:=λ S0 Z0 S Z L Y o E F e P=>by
 let#[Z',F']:=F.fz i;show hg Õ3 S Z' L _ o E F' e P
def dW Ì6 (t:rS):Prop:=∀ S0 Z0 S Z L Y Y' y d Q,ĕ->ï5->g y Y=↑Y'->ä2->t d L S Q
def Ze (g:è0) (t:pU):Prop:=∀ S0 Z0 S Z L Y Y' ys ds Q,ĕ->zp Ă ys ds->g ys Y=↑Y'->ä2->t ds L S Q
@[simp] def zG Ù:T->î:=λ y Y=>↑ Â0
@[simp] def pZ:è0
 | [],Y=>↑Y
 | _::_,_=>none
@[simp] def xi Ì6 (h:è0):è0
 | y::ys,Y=>(g y Y).bind fun Y'=>h ys Y'
 | [],_=>none
@[simp] def q_ Î3 (g:è0):T->î
 | Ķ ys,Y=>if Ù5=n then g ys Y else none
 | _,_=>none
def tT Ù:dW (zG i) â3:=λ S0 Z0 S Z L Y Y' y d Q F r e hq=>by cases e;show hq _ (F.jR i r)
def tQ:Ze pZ Xf:=λ S0 Z0 S Z L Y Y' ys ds Q F r e hq=>by
 cases ys with
 | nil=>simp![zp] at r;subst r;cases e;show#[rfl,hq _ F]
 | cons _ _=>cases e
def tR Û2{h:è0}{t:rS}{u:pU}(hg:dW g t) (hh:Ze h u):Ze (xi g h) (Xg t u):=λ S0 Z0 S Z L Y Y' ys ds Q F r e hq=>by
 cases ys with
 | nil=>cases e
 | cons y ys=>
  simp![zp] at r;ext Ï3;show hg Õ3 Ç Y1 y c _ F r1 e1 fun L1 F1=>hh Õ3 S Z L1 Y1 Y' ys cs Q F1 r2 e2 hq
def tS Ó9{g:è0}{t:pU}(hg:Ze g t):dW (q_ n g) (gL n t):=λ S0 Z0 S Z L Y Y' y d Q F r e hq=>by
 cases y with
 | tup ys=>
  ext Ó6
  .rename_i hl;show#[by rw[r.len];show hl,hg Õ3 Ç Y' ys ds Q F r e hq]
  .cases e
 | _=>cases e
@[simp] def cQ À0 Ì6:Sm:=fun Y=>Ĝ λ y=>(g y Y).map .nx
def uY Û2{tg:rS}Û0 (hg:dW g tg):yp R (cQ f g) (qy te tg):=λ S0 Z0 S Z L Y o E F e P=>by
 ext È3;let#[Y',e3,rfl]:=Ű e2;show hf Û1 e1 λ d S1 s1 r1=>hg Õ3 Ð8 Y' y d _ (Ì0) r1 e3 fun L' F'=>P S1 Z L' F'
def lO (free:Bool) (f:å) (ti:pz):Prop:=∀ S Z L Y ts Q,ï6->f Y=↑ts->(∀ I S',Ŧ->zp (yn S' Z) ts I.items->(∀ S'',Sx (if free=true then yn S' Z else S') S''->I.keep S'')->Q I S')->ti L S Q
@[simp] def yZ À0:å:=fun Y=>Ĝ wH
def tJ Â6(hf:yU f te):lO à (yZ f) (YU te):=λ S Z L Y ts Q hE e hq=>by
 ext È3;exact hf Ç y _ hE ÿ;cases y with
 | tup us=>
  cases e2;let#[ds,rfl,h2]:=Vw.tup r1;show À3
 | lst us=>
  cases e2;ext Ō
  .show À3
  .ext Ā;rw[h1];show Û8
 | _=>cases e2
def tK Â6 Û0:lO true (yZ f) (YU te):=λ S Z L Y ts Q hE e hq=>by
 ext È3;exact hf Ç y _ hE ÿ;cases y with
 | tup us=>
  cases e2;let#[ds,rfl,h2]:=Vw.tup (ĥ r1);show À3
 | lst us=>
  cases e2;have r2:=r1;unfold zq at r2;simp![Sn] at r2;obtain⟨ds,⟨rfl,_⟩ | ⟨a,rfl,h1⟩,h2⟩:=r2
  .show À3
  .ext Ā;rw[(mh h1).2];show Û8
 | _=>cases e2
def rangeT (lo:Int) Î3:Ä:=Ö8
def Z_ ŏ(lo:Int) Î3:zp S (rangeT lo n) (nc lo n):=by
 unfold rangeT nc
 induction Ć n with
 | nil=>show Û3
 | cons k l ih=>show ő pF ih
def inR (j:Int):Bool:=Á6 (-100000000<=j)&&Á6 (j<=100000000)
def SV {j:Int}:inR j=true↔-100000000<=j/\j<=100000000:=by simp[inR]
def ai {j:Int}(h:inR j=true):-(2 ^ 62)<=j/\j<2 ^ 62:=by have:=SV.mp h;lia
def qN:ð4
 | [ò j]=>if inR j=true then ↑(rangeT 0 j.toNat) else none
 | _=>none
def bp:ð4
 | [å3,ò j]=>if inR i=true/\inR j=true then ↑(rangeT i (j-i).toNat) else none
 | _=>none
@[simp] def xC (F:ð4) (g:å):å:=fun Y=>É8 F
def tM Ü4{g:å}{tA:y6}(h:nA g tA):lO b (xC qN g) (YW tA):=λ S Z L Y ts Q hE e hq=>by
 ext æ8;unfold qN at e2;ext Ü6
 .ext Ü6
  .rename_i hc;cases e2;let#[d,rfl,h1]:=oU r1;cases h1.int;show#[ai hc,â4]
  .cases e2
 .cases e2
def tL Ü4{g:å}{tA:y6}(h:nA g tA):lO b (xC bp g) (YV tA):=λ S Z L Y ts Q hE e hq=>by
 ext æ8;unfold bp at e2;ext Ü6
 .ext Ü6
  .rename_i hc;cases e2;let#[d,d',rfl,h1,h2]:=jL r1;cases h1.int;cases h2.int;show#[#[(ai hc.1).1,(ai hc.1).2,ai hc.2],â4]
  .cases e2
 .cases e2
def qh (is:Ö4) Ì6 (b:Sm):Ä->Ev->À Out
 | [],Y=>↑(.nx Ù4)
 | y::ys,Y=>(g y Ù4).bind fun Y1=>(b Y1).bind λ o=>match o with
  | .nx Y2=>Ù6
  | .ct Y2=>Ù6
  | .bk Y2=>↑(.nx (xq is Y2))
  | .rt t=>↑(.rt t)
@[simp] def wD (is:Ö4) (f:å) Ì6 (b:Sm):Sm:=fun Y=>Ĝ λ ts=>qh is g b ts Y
def t4 {is:Ö4}{fi:å}{ti:pz}Û2{tg:rS}{b:Sm}{tb:xg} [Lo R] (hi:lO true fi ti) (hg:dW g tg) (hb:yp R b tb):yp R (wD is fi g b) (dw ti tg tb):=λ S0 Z0 S Z L Y o E F e P=>by
 let#[ts,e1,e2]:=ô;exact hi Ç ts _ F.er e1 λ I S1 s1 r1 hk=>?_;rw[Ò5] at hk;let#[SB,b1,FB,b2]:=(Ì0).rebase;have lo:∀ S' d y,R SB S' Z0 y d->R S0 S' Z0 y d:=λ S' d y r=>Lo.lo b1 (λ _ z=>z) r;have zz:=F.zz;exact#[λ i L' S'=>∃ Z' Y',FR SB Z0 S' Z' L' Y'/\qh is g b (ï4 i) Y'=↑o,#[Z,Y,FB,e2],λ i L' S' #[Z',Y',F',_]=>hk S' (b2.trans F'.sx),λ i d L' S' hd #[Z',Y',F',e']=>?_,fun L' S' #[Z',Y',F',e']=>?_]
 .let#[y,hy,r2]:=r1.Xm hd;have hlt:=(Ø6 hy).1;have hdt:ï4 i=y::ï4 á5:=by
   rw[é7,(Ø6 hy).2]
  rw[hdt] at e';unfold qh at e';let#[Y1,g1,e']:=ð5 e';let#[o1,g2,e']:=ð5 e';exact hg SB Z0 S' Z' L' _ Y1 y d _ (F'.xq is) (â2 (F'.MQ b2 zz) y r2) g1 fun L2 F2=>?_
  exact hb SB Z0 S' Z' L2 Y1 o1 _ F2 g2 ?_;cases o1 with
  | nx Y2=>show à0
  | ct Y2=>show à0
  | bk Y2=>cases e';show λ S3 Z3 L3 F3=>P S3 Z3 L3 ((F3.xq is).back b1 F.z0)
  | rt y=>cases e';show λ d S3 s3 r3=>P d S3 (b1.trans s3) (lo ŕ r3)
 .rw[show Ŀ=ą from r1.len,List.drop_length] at e';unfold qh at e';cases e';show P S' Z' L' ((F'.xq is).back b1 F.z0)
end
@[simp] def qU Ù À0:Sm:=fun Y=>match å6 with
 | Ë9=>Ĝ λ y=>if ą<Ó then ↑(.nx (Y.set i ↑(.own (ň (ts++[y]))))) else none
 | _=>none
section
variable {Ú8}{Â6}
def tG Ù Û0:yp R (qU i f) (gW (mz ï7 te)):=λ S0 Z0 S Z L Y o E F e P=>by
 unfold qU at e;split at e
 .rename_i ts h;ext È3;ext Ü6
  .rename_i hl;cases e2;ext Ö9;obtain⟨ds,rfl⟩:∃ ds,ob=ň ds:=by
    cases ob with
    | lst ds=>show#[ds,rfl]
    | _=>show h3.elim
   replace h3:Å9:=h3;change mz ï7 te L S _;unfold mz yN;rw[h1];exact#[#[ds,h2],hf Û1 ÿ];ext Ā;rw[s1 È h2];have F1:=Ì0;exact#[by rw[h3.len];show hl,P _ Z L (F1.mut (us:=ň (ts++[y])) (es:=ň (ds++[d])) i h h1 ((Á8 (pO s1) ts h3).append (ő r1 Û3)))]
  .cases e2
 .cases e
end
def mX Ü8 (ti:pz) (g:rS) (tc:xf) (te:zy):zy:=fun L S Q=>ti L S λ I S1=>Ŀ<=Ó/\(∀ S,Sx S1 S->I.keep S)/\∀ p,S1 p=none->∃ W:Nat->SS->List D->Prop,W 0 S1 []/\
 (∀ i S S' acc,(∀ b o,b≠p->S b=↑o->S' b=↑o)->W i S acc->W i S' acc)/\
 (∀ i d S acc,I.items[i]?=↑d->Sx S1 S->S p=↑(ň acc)->W i S acc->g d Ñ5 S fun L2 S2=>i9 Ñ5 L2/\tc L2 S2 λ b S3=>if b=true then te L2 S3 λ y S4=>Sx S S4/\W á5 S4 (acc++[y]) else Sx S S3/\W á5 S3 acc)/\
 ∀ S2 acc,Sx S1 S2->S2 p=↑(ň acc)->W Ŀ S2 acc->Q Ò7 S2
@[simp] def l6 Ü8 Ú7:Ev:=pick.map λ o=>o.bind λ i=>(å6).join
def iz ê5:ð4
 | []=>↑[]
 | y::ys=>(h y).bind λ o=>(iz h ys).map λ zs=>match o with
  | some z=>z::zs
  | none=>zs
@[simp] def qx Ü8 Ì6 (c:ă) À0 Ú7 (y:T):À (À T):=
 (g y (l6 pick Y)).bind fun Y2=>(c Y2).bind λ b=>if b=true then (f Y2).map some else ↑none
def yV Ü8 (it:å) Ì6 (c:ă) À0:zEO:=fun Y=>(it Y).bind λ ts=>if ą<=Ó then (iz (qx pick g c f Y) ts).map ň else none
@[simp] def xj:ă:=λ _=>↑true
def sr:qX xj RI:=λ S Z L Y y Q hE e hq=>by cases e;show hq Ü
def Zg Ü8 Ì6 (t:rS):Prop:=∀ B S Z L Y Y' y d Q,Ô2->i9 B L->Ï8->ï6->ï5->ž
def Zf Ü8 (g:è0) (t:pU):Prop:=∀ B S Z L Y Y' y d Q,Ô2->i9 B L->Ï8->ï6->zp Ă y d->ž
theorem ER.jR ŏ Ã1{y:T}ř(h:ï6) (hl:Ï8) Ù (r:ï5):ER S Z (L.set i ↑d) Â0:=by
 exact#[h.zd,λ j t e=>?_,λ j ts e=>?_]
 .ext Õ4
  .cases e;show#[d,gN (by rw[hl];show hl'),r]
  .rw[p_ n];show h.im j t e
 .ext Õ4
  .cases e
  .rw[p_ n];show h.ow j ts e
variable {í7}
theorem tX Ù (hi:pick[i]?=↑none:=by rfl):Zg pick (zG i) â3:=λ B S Z L Y Y' y d Q hB hs hl hE r e hq=>by
 cases e;exact hq _ (hE.jR hl i r) #[by rw[zbH];show hs.1,λ j c q=>?_] (by simp[hl]);by_cases hj:i=j
 .subst hj;rw[hB i hi] at q;cases q
 .rw[p_ hj];show hs.2 j c q
def tU:Zf pick pZ Xf:=λ B S Z L Y Y' y d Q hB hs hl hE r e hq=>by
 cases y with
 | nil=>simp![zp] at r;subst r;cases e;show#[rfl,hq _ hE hs hl]
 | cons _ _=>cases e
def tV Û2{h:è0}{t:rS}{u:pU}(hg:Zg pick g t) (hh:Zf pick h u):Zf pick (xi g h) (Xg t u):=λ B S Z L Y Y' y d Q hB hs hl hE r e hq=>by
 cases y with
 | nil=>cases e
 | cons y ys=>
  simp![zp] at r;ext Ï3;show hg B Ç Y1 y c _ hB hs hl hE r1 e1 fun L1 E1 s1 l1=>hh B S Z L1 Y1 Y' ys cs Q hB s1 l1 E1 r2 e2 hq
def tW Ó9{g:è0}{t:pU}(hg:Zf pick g t):Zg pick (q_ n g) (gL n t):=λ B S Z L Y Y' y d Q hB hs hl hE r e hq=>by
 cases y with
 | tup ys=>
  ext Ó6
  .rename_i hn;show#[by rw[r.len];show hn,hg B Ç Y' ys ds Q hB hs hl hE r e hq]
  .cases e
 | _=>cases e
def UQ {Y:Ev}Ê8{w:W}(h:(l6 pick Y)[i]?=↑↑w):∃ j:Nat,pick[i]?=↑↑j/\Y[j]?=↑↑w:=by
 unfold l6 at h;rw[zA3] at h;cases q:pick[i]? with
 | none=>rw[q] at h;cases h
 | some o=>
  rw[q] at h;cases o with
  | none=>simp at h
  | some j=>
   simp![Option.map_some,zC9,Option.some.injEq] at h;exact#[j,rfl,?_];cases q2:Y[j]? with
   | none=>rw[q2] at h;cases h
   | some o2=>rw[q2] at h;simp![Option.join_some] at h;rw[h]
def UR {L:yX}Ö6 ř(h:pick[i]?=↑↑j) (h':L[j]?=↑↑d):Ñ5[i]?=↑↑d:=by
 unfold n_;rw[zA3,h];simp[h']
def ER.Kr ŏ Ã1(h:ï6):ER S Z Ñ5 (l6 pick Y):=by
 exact#[h.zd,λ i t e=>?_,λ i ts e=>?_]
 .let#[j,h1,h2]:=UQ e;let#[d,h3,h4]:=h.im j t h2;show#[d,UR h1 h3,h4]
 .let#[j,h1,h2]:=UQ e;let#[p,ds,h3,h4]:=h.ow j ts h2;show#[p,ds,UR h1 h3,h4]
def ER.hide Ç9 Ã1 Ò1(h:ï6) (s:Ŧ) (hp:á7) (hp':S' p≠none):ER S' (λ a=>Z a\/a=p) L Y:=by
 exact#[λ a z q=>?_,λ i t e=>?_,λ i ts e=>?_]
 .rcases z with z | rfl
  .show h.zd a z (s.none q)
  .show hp' q
 .let#[d,h1,h2]:=h.im i t e;show ç9
 .let#[q,ds,h1,h2,h3,h4]:=h.ow i ts e;show#[q,ds,h1,s È h2,lM.sx (gK s hp) h3,ĥ h4]
def sQ {it:å}{ti:pz}Û2{tg:rS}{c:ă}{tc:xf}Â6 Ü4(hi:lO b it ti) (hg:Zg pick g tg) (hc:qX c tc) Û0:
  xX (yV pick it g c f) (mX pick ti tg tc te):=λ S Z L Y y Q hE e hq=>by
 let#[ts,e1,e2]:=ô;ext Ü6
 case isFalse=>cases e2
 rename_i hlen;let#[zs,e3,rfl]:=Ű e2;exact hi Ç ts _ hE e1 λ I S1 s1 r1 hk=>#[by rw[r1.len];show hlen,λ S' s'=>hk S' ?_,λ p hp=>?_]
 .cases b
  .show s'
  .show (gJ È).trans s'
 have E1:=Ž;have nz:¬ Z p:=λ z=>E1.zd p z hp;exact#[λ i S' acc=>∃ us ws,zp Ç5 us acc/\iz (qx pick g c f Y) (ï4 i)=↑ws/\zs=us++ws,#[[],zs,Û3,e3,rfl],λ i S' S'' acc hh #[us,ws,h1,h2]=>#[us,ws,Á8 (λ a o q=>?_) us h1,h2],λ i d S2 acc hd s2 hacc #[us,ws,h1,h2,h3]=>?_,λ S2 acc s2 hacc #[us,ws,h1,h2,h3]=>?_]
 .ext Å7;rw[o7 q1];show hh a o (λ z=>q1 (ń z)) q2
 .let#[x,hx,rx]:=r1.Xm hd;have hlt:=(Ø6 hx).1;have hdt:ï4 i=x::ï4 á5:=by rw[é7,(Ø6 hx).2]
  rw[hdt] at h2;unfold iz at h2;let#[o,o1,h2]:=ð5 h2;let#[ws',o2,rfl]:=Ű h2;have E2:=(E1.hide s2 hp (by rw[hacc];nofun)).Kr (pick:=pick);unfold qx at o1;let#[Y2,g1,o1]:=ð5 o1;let#[bb,g2,o1]:=ð5 o1;exact hg Ñ5 S2 ŕ Y2 x d _ (λ j hj=>?_) #[rfl,λ _ _ q=>q] (by unfold n_ l6;simp) E2 (â2 (gK s2 hp) x rx) g1 fun L2 E3 l3 _=>#[l3,?_]
  .unfold n_;rw[zA3,hj];rfl
  exact hc S2 _ L2 Y2 bb _ E3 g2 λ S3 s3=>?_;split at o1
  .ext Ê0;let#[z,g3,rfl]:=Ű o1;exact hf S3 _ L2 Y2 z _ (E3.grow s3) g3 λ dz S4 s4 r4=>#[s3.trans s4,us++[z],ws',?_,o2,by rw[h3];simp];show (Á8 (pO (s3.trans s4)) us h1).append (ő r4 Û3)
  .ext Ë4;cases o1;show#[s3,us,ws',Á8 (pO s3) us h1,o2,h3]
 .rw[show Ŀ=ą from r1.len,List.drop_length] at h2;cases h2;rw[zaB] at h3;subst h3;exact hq _ S2 ĳ #[?_,λ vs e=>?_]
  .ext Õ7;show#[acc,ń #[p,rfl,by rw[o7 nz];show hacc],Á8 (nJ λ a z=>ĥ z) zs h1]
  .cases e;show#[p,acc,rfl,s1.none hp,hacc,h1]
mutual
def plainT:T->Bool
 | Ñ3=>qO ts
 | ň _=>à
 | .zK È=>à
 | _=>true
def qO:Ä->Bool
 | []=>true
 | Þ1=>plainT t&&qO ts
end
mutual
theorem b8 Ç9:∀ (t:T) ř,plainT t=true->ŉ->Sn S' t d
 | .zC,d,_,q=>Ģ
 | Ø4,d,_,q=>Ģ
 | å3,d,_,q=>Ģ
 | À8 x,d,_,q=>Ģ
 | Ñ3,d,h,q=>by
  ext Î0;show#[ds,q1,b7 ts (by simpa only [plainT] using h) q2]
 | ø,d,h,q=>í9
 | .zK È,d,h,q=>í9
theorem b7 Ç9:∀ Ú5 Ë,qO ts=true->â->zp S' ts ds
 | [],ds,_,q=>by simpa only [zp] using q
 | Þ1,ds,h,q=>by
  simp![qO,zE5] at h;ext Ý1;show#[c,cs,q1,b8 t h.1 q2,b7 ts h.2 q3]
end
def UO {y:T}(h:plainT y=true):∀ ts,y≠ ø:=λ ts e=>by subst e;simp[plainT] at h
class Sr ò0:Prop extends Lo R where
 sn:∀ Ç9 è7 ř,Ç6->Ó4
instance:Sr zq:=#[λ h=>h]
instance:Sr zk:=#[λ h=>h.1]
def zM ò0 (F:zLO):qK:=λ ds S Q=>∃ Z ys y,(Á9)/\zp Ă ys ds/\F ys=↑y/\∀ d S',Ŧ->Ç6->Q d S'
def zM.mo Ú8{F:zLO}:jA (zM R F):=λ _ _ _ _ hq #[Z,ys,y,h1,h2,h3,h4]=>#[Z,ys,y,h1,h2,h3,λ d S' s r=>hq È (h4 d S' s r)]
@[simp] def mZ (F:zLO) (g:å):zEO:=fun Y=>É8 λ ys=>(F ys).bind λ y=>if plainT y=true then ↑y else none
def z_ Ú8 [Lo R] {F:zLO}{g:å}{u:y6}(h:j7 g u):zO R (zl F g) (jv (zM R F) u):=λ S Z L Y y Q hE e hq=>by
 ext Å8;exact h Ç xs Ŭ;show#[Z,xs,y,(Ž).zd,r1,e2,λ d S' s r=>hq d S' (ì4 s) (Cl.cl s1 r)]
theorem kF.free ŏ{Z Z':è}:∀ Ĕ Ë,kF S Z ts ds->(∀ a,Z' a->Z a)->(∀ a,D.ref a∈ds->¬ Z' a)->zp (yn S Z') ts ds
 | [],ds,h,_,_=>by cases h;show Û3
 | Þ1,ds,h,hz,hn=>by
  ext Í8;exact ő ?_ (kF.free h2 hz λ a ha=>hn a (za2 _ ha));rcases h1 with h1 | ⟨us,p,es,rfl,rfl,h3,h4,_⟩ | ⟨ks,us,p,m,rfl,rfl,h3,h4,h5,_⟩
  .show â2 (nJ hz) t h1
  .ext Õ7;show#[es,ń #[p,rfl,ò6],Á8 (nJ hz) us h4]
  .ext Õ7;show#[p,m,#[rfl,h4],ò6,Á8 (nJ hz) us h5]
def yJ Ú8 [Sr R] {F:zLO}{g:å}{u:y6}(h:nA g u):xX (mZ F g) (jv (zM R F) u):=λ S Z L Y y Q hE e hq=>by
 ext Å8;let#[y',e4,e3]:=ð5 e2;split at e3
 .rename_i hp;obtain rfl:y'=y:=by injection e3
  exact h Ç xs Ŭ;exact#[λ a=>Z a/\D.ref a∉ds,xs,_,λ a z=>(Ž).zd a z.1,r1.free (λ a z=>z.1) (λ a ha z=>z.2 ha),e4,λ d S' s r=>hq d S' (ì4 s) ?_];show Cl.of (UO hp) (b8 _ hp (Sr.sn r))
 .cases e3
@[simp] def qB (N:Ý6) (ys:Ä):Ev:=ys.map (λ y=>↑(.im y))++List.replicate (N.length-Ù5) none
@[simp] def kl:À Out->À T
 | some (.rt y)=>↑y
 | some (.nx _)=>↑.zC
 | _=>none
@[simp] def zP (N:Ý6) Î3 (g:Sm):zLO:=λ ys=>if Ù5=n then kl (g (qB N ys)) else none
theorem zM.len Ú8{N:Ý6}Ó9{g:Sm}Ë ŏ á1:î6=n:=by
 ext Ô0;split at e
 .rename_i h;rw[r.len];show h
 .cases e
theorem VN {N:Ý6}Ë Ê8 ř(h:ds[i]?=↑d):(pD N ds)[i]?=↑↑d:=by
 have hi:=(Ø6 h).1;unfold pD;rw[zaT (æ0),zA3,h];rfl
theorem iV {N:Ý6}{ys:Ä}Ê8{w:W}(h:(qB N ys)[i]?=↑↑w):∃ y,ys[i]?=↑y/\w=.im y:=by
 unfold qB at h;have hi:i<Ù5:=by
  rcases za8 i Ù5 with q | q
  .show q
  .rw[zb5 (by exists q),zb6] at h;split at h <;> cases h
 rw[zaT (æ0),zA3] at h;cases q:ys[i]? with
 | none=>rw[q] at h;cases h
 | some y=>rw[q] at h;cases h;show#[y,rfl,rfl]
def QS Ú8 [Lo R] {N:Ý6}Ó9{g:Sm}{t:xg}(h:yp R g t) Ë ŏ á1:t { nx:=λ _ S'=>Q .zC S',rt:=Q } (pD N ds) S:=by
 ext Ô0;split at e
 case isFalse=>cases e
 obtain⟨o,e1,e2⟩:∃ o,g (qB N ys)=↑o/\kl ↑o=↑y:=by
  cases q:g (qB N ys) with
  | none=>rw[q] at e;cases e
  | some o=>show#[o,rfl,by rw[<- q];show e]
 exact h S Z S Z È o _ #[#[hz,λ i t e=>?_,λ i ts e=>?_],?_,.refl S,hz,λ _ z=>z,λ _ z=>ĥ z,λ i ts p e _=>?_,λ i j ts us p _ e _ _ _=>?_] e1 ?_
 .ext Æ2;let#[d,h3,h4]:=r.au h1;show#[d,VN h3,h4]
 .ext Æ2
 .unfold pD qB;have:=r.len;simp[this]
 .ext Æ2
 .ext Æ2
 .cases o with
  | rt y'=>cases e2;show λ d S' s r=>hq d S' s r
  | nx Y'=>
   cases e2;show λ S' Z' L' F=>hq .zC S' F.sx (Cl.of á VW)
  | _=>cases e2
def xh ã4 Ò3:À T:=Ø7
def l5 ã4 Ò3 (v:T):Ą:=
 þ
section
variable {ŏ}
theorem xt.len:∀ É5,Û7->b.length=a.length
 | [],_,h=>Ê7
 | (k,t)::r,_,h=>by
  let#[d,m,rfl,_,h2]:=h;simp[xt.len h2]
theorem xt.val:∀ É5 Ò3,Û7->(xh a k=none/\qe b k=none)\/∃ t d,xh a k=↑t/\qe b k=↑d/\ŉ
 | [],_,k,h=>by cases h;show ĥ ç6
 | (j,t)::r,_,k,h=>by
  let#[d,m,rfl,h1,h2]:=h;by_cases e:j=k
  .subst e;show ń #[t,d,by simp[xh],by simp[qe],h1]
  .rcases xt.val k h2 with ⟨g1,g2⟩ | ⟨t',d',g1,g2,g3⟩
   .show ĥ #[by simpa [xh,e] using g1,by simpa [qe,e] using g2]
   .show ń #[t',d',by simpa [xh,e] using g1,by simpa [qe,e] using g2,g3]
theorem xt.any:∀ É5 Ò3,Û7->(b.any Ñ)=a.any Ñ
 | [],_,k,h=>Ê7
 | (j,t)::r,_,k,h=>by
  let#[d,m,rfl,h1,h2]:=h;rw[zaA,zaA,xt.any k h2]
theorem xt.l4 ñ8{t:T}ř(r:ŉ):∀ É5,Û7->xt S (a.map λ kv=>if kv.1=k then (kv.1,t) else kv) (b.map Ä2)
 | [],_,h=>Ê7
 | (j,u)::a,_,h=>by
  let#[e,m,rfl,h1,h2]:=h;rw[zA6,zA6];by_cases q:j=k
  .rw[Î q,Î q];show#[d,_,rfl,r,xt.l4 r h2]
  .rw[É q,É q];show#[e,_,rfl,h1,xt.l4 r h2]
theorem xt.snoc ñ8{t:T}ř(r:ŉ):∀ É5,Û7->xt S (a++[(k,t)]) (b++[(k,d)])
 | [],_,h=>by cases h;show#[d,[],rfl,r,rfl]
 | (j,u)::a,_,h=>by
  let#[e,m,rfl,h1,h2]:=h;show#[e,_,rfl,h1,xt.snoc r h2]
def xt.put É5(h:Û7) Ò3 {t:T}ř(r:ŉ):xt S (l5 a k t) (putD b k d):=by
 unfold l5 putD;rw[h.any k];split
 .show xt.l4 r h
 .show xt.snoc r h
end
@[simp] def RP Ù:Sm:=fun Y=>↑(.nx (Y.set i ↑(.own (.xa []))))
@[simp] def dk Ù À0:zEO:=fun Y=>Ĝ λ y=>match å6,y with
 | Ã9,ò k=>xh kvs Ó3
 | _,_=>none
@[simp] def X3 Ù (f g:zEO):zEO:=fun Y=>Ĝ λ y=>É8 λ z=>match å6,y with
 | Ã9,ò k=>↑((xh kvs Ó3).getD z)
 | _,_=>none
@[simp] def X0 Ù (f v:zEO):Sm:=fun Y=>(v Y).bind λ z=>Ĝ λ y=>match å6,y with
 | Ã9,ò k=>if č<Ó then ↑(.nx (Y.set i ↑(.own (.xa (l5 kvs Ó3 z))))) else none
 | _,_=>none
@[simp] def aE Ù:zEO:=fun Y=>match å6 with
 | Ã9=>↑(ò č)
 | _=>none
def bE ŏ Ã1(hE:ï6) Ê8{kvs:Ą}(h:å6=↑↑(.own Ù1)):∃ p b,ż/\S p=↑(.xa b)/\xt Ă kvs b:=by
 let#[p,o,h1,h2,h3,_]:=hE.ow i _ h;cases o with
 | xa b=>show#[p,b,h1,h2,h3]
 | _=>show h3.elim
section
variable {Ú8}{f g v:zEO}{ty tx tv:zy}
def tD Ù:yp R (RP i) (qy Qm â3):=λ S0 Z0 S Z L Y o E F e P=>by
 cases e;intro p hp;show P ŕ (F.Yd (ts:=.xa []) (ds:=.xa []) ų i hp mF rfl)
def yH Ù (hf:yU f ty):q8 (dk i f) (Qq ï7 ty):=λ S Z L Y y Q hE e hq=>by
 ext í5;ext Ü6
 .rename_i kvs k h;ext Ĵ;exact hf Ç È hE ÿ;cases ð0;rcases (xt.sx (pO s1) h3).val Ó3 with ⟨g1,_⟩ | ⟨t,d,g1,g2,g3⟩
  .rw[g1] at e2;cases e2
  .rw[g1] at e2;cases e2;show#[p,b,k,d,rfl,rfl,s1 È h2,g2,hq d S1 s1 g3]
 .cases e2
def yI Ù (hf:yU f ty) (hg:q8 g tx):q8 (X3 i f g) (Qp ï7 ty tx):=λ S Z L Y y Q hE e hq=>by
 let#[x,e1,e]:=ô;let#[z,e2,e3]:=ô;split at e3
 .rename_i kvs k h;cases e3;ext Ĵ;exact#[p,rfl,#[b,h2],hf Ç È hE ÿ];cases ð0;exact hg Ð8 z _ (Ž) e2 λ dz S2 s2 r2=>#[k,b,rfl,ĳ È h2,?_];rcases (xt.sx (pO ĳ) h3).val Ó3 with ⟨g1,g2⟩ | ⟨t,d,g1,g2,g3⟩
  .rw[g2];rw[g1] at hq;show hq _ S2 ĳ r2
  .rw[g2];rw[g1] at hq;show hq _ S2 ĳ g3
 .cases e3
def t9 Ù (hf:yU f ty) (hv:q8 v tv):yp R (X0 i f v) (Qo ï7 ty tv):=λ S0 Z0 S Z L Y o E F e P=>by
 let#[z,e1,e]:=ô;let#[x,e2,e3]:=ô;split at e3
 .rename_i kvs k h;split at e3
  .rename_i hl;cases e3;exact hv Ç z _ F.er e1 λ dz S1 s1 r1=>?_;have F1:=Ì0;let#[p,b,h1,h2,h3]:=bE F1.er h;change yN i L S1 _;ext ä8;exact hf Ð8 È F1.er e2 λ d S2 s2 r2=>?_;cases Vw.int r2;have h4:=xt.sx (pO s2) h3;show#[p,b,k,rfl,rfl,s2 È h2,by rw[h4.len];show hl,P _ Z L ((F1.grow s2).mut (us:=.xa (l5 kvs Ó3 z)) (es:=.xa (putD b Ó3 dz)) i h h1 (h4.put _ (â2 (pO s2) z r1)))]
  .cases e3
 .cases e3
def s_ Ù:xX (aE i) (qo R4 (nR ï7 lH)):=λ S Z L Y y Q hE e hq=>by
 unfold aE at e;split at e
 .rename_i kvs h;cases e;ext Ĵ;exact#[p,b,rfl,h2,?_];rw[h3.len];show Ş
 .cases e
end
@[simp] def jX À0:zEO:=fun Y=>Ĝ λ x=>match x with
 | å3=>↑(ò (-i))
 | _=>none
def Qe (ta:zy):zy:=fun L S Q=>ta L S λ x S1=>match x with
 | å3=>Q (ò (-i)) S1
 | _=>Ø2
def sM Â6(h:yU f te):xX (jX f) (Qe te):=λ S Z L Y y Q hE e hq=>by
 ext í3
 .cases ð0;cases e2;show hq _ S1 s1 (Cl.of á pF)
 .cases e2
def rG:qL zk gm R3:=Rb
def rF:qL zk nk R1:=Rb
def nI:Ä->À (Â)
 | []=>↑[]
 | å3::ts=>(nI ts).map (i::·)
 | _::_=>none
def oY:Ä->À (Ġ)
 | []=>↑[]
 | Ķ r::ts=>(nI r).bind λ x=>(oY ts).map (x::·)
 | _::_=>none
def zJ (r:Â):T:=Ķ (r.map T.int)
theorem eN:∀ Ĕ{is:Â},nI ts=↑is->ts=is.map T.int
 | [],is,h=>Ê7
 | ò b::ts,is,h=>by
  unfold nI at h;let#[cs,h1,rfl]:=Ű h;rw[zA6,<- eN h1]
 | .zC::ts,bs,h=>ğ
 | .bl _::ts,bs,h=>ğ
 | À8 _::ts,bs,h=>ğ
 | Ķ _::ts,bs,h=>ğ
 | ň _::ts,bs,h=>ğ
theorem Yh:∀ Ĕ{rs:Ġ},oY ts=↑rs->ts=rs.map zJ
 | [],is,h=>Ê7
 | Ķ r::ts,is,h=>by
  unfold oY at h;let#[x,h1,h]:=ð5 h;let#[cs,h2,rfl]:=Ű h;rw[zA6,<- Yh h2,eN h1];rfl
 | .zC::ts,bs,h=>ğ
 | .bl _::ts,bs,h=>ğ
 | À8 _::ts,bs,h=>ğ
 | ò _::ts,bs,h=>ğ
 | ň _::ts,bs,h=>ğ
def ag (is:Â):nI (is.map T.int)=↑is:=by
 induction is with
 | nil=>rfl
 | cons b bs ih=>rw[zA6];unfold nI;rw[ih];rfl
def Yi (rs:Ġ):oY (rs.map zJ)=↑rs:=by
 induction rs with
 | nil=>rfl
 | cons b bs ih=>
  change oY (Ķ (b.map T.int)::bs.map zJ)=_;unfold oY;rw[ag,ih];rfl
theorem kc ŏ:∀ {is:Â}Ë,zp S (is.map T.int) ds↔ds=is.map D.int
 | [],ds=>by simp![za4,zp]
 | i::is,ds=>by
  rw[zA6];simp![zp,Sn];ext ä7
  .rintro⟨c,cs,rfl,rfl,h⟩;rw[kc.mp h];rfl
  .rintro rfl;show#[å3,_,rfl,rfl,kc.mpr rfl]
theorem hJ ŏ:∀ {rs:Ġ}Ë,zp S (rs.map zJ) ds↔ds=rs.map oZ
 | [],ds=>by simp![za4,zp]
 | r::rs,ds=>by
  rw[zA6];simp![zp,zJ,Sn];ext ä7
  .rintro⟨c,cs,rfl,⟨es,rfl,h1⟩,h⟩;rw[hJ.mp h,kc.mp h1];rfl
  .rintro rfl;show#[oZ r,_,rfl,#[_,rfl,kc.mpr rfl],hJ.mpr rfl]
@[simp] def N0:T->À Þ8
 | .zC=>↑"NoneType"
 | .bl _=>↑"bool"
 | ò _=>↑"int"
 | À8 _=>↑"str"
 | Ķ _=>↑"tuple"
 | ň _=>↑"list"
 | .zK È=>none
@[simp] def instS (ty:Þ8) À0:zEO:=fun Y=>Ĝ λ x=>(N0 x).map λ t=>.bl (rm t ty)
def sT {ty:Þ8}Â6(hf:yU f te):xX (instS ty f) (gU ty te):=λ S Z L Y y Q hE e hq=>by
 ext í5;let#[n,e3,rfl]:=Ű e2;exact hf Ç x _ hE ÿ;have key:jO d S1=↑n:=by
  rw[<- e3];cases x with
  | zC=>cases Vw.zC r1;rfl
  | bl _=>ext ë8;rfl
  | int _=>cases ð0;rfl
  | str _=>cases Vw.str r1;rfl
  | tup _=>let#[ds,rfl,_]:=Vw.tup r1;rfl
  | lst _=>
   ext Ō
   .rfl
   .unfold jO;ext Ā;rw[h1];rfl
  | zK _ _=>cases e3
 rw[key];show ß0
@[simp] def isNone:T->Bool
 | .zC=>true
 | _=>à
def gC:D->Bool
 | .zC=>true
 | _=>à
def zr (p:Æ9):T:=Ķ [ò p.1,ò p.2]
def pJ (ns:Â):T:=ň (ns.map ò)
@[simp] theorem zaj:Ó=16777216:=rfl
def HS Ó9(h:n<=10000):n<=Ó:=zE0 h ()
theorem qz Č ò2 æ4{x:α}(h:xs[k]?=↑x):é4 xs (k:Int)=↑x:=by
 unfold é4 L2.qj;have hk:=(Ø6 h).1;rw[Î ⋯,Î ⋯];exists h
@[simp] theorem Pn Č ò2{x:α}:é4 (xs++[x]) (-1)=↑x:=by
 unfold é4 L2.qj;rw[É ⋯,Î (Ç3)];have:(-1+((xs++[x]).length:Int)).toNat=í:=Ç3
 rw[zC9,this];simp
@[simp] theorem zaq Č{x:α}ò2:é4 (x::xs) 0=↑x:=qz (k:=0) rfl
@[simp] theorem zap Č{x y:α}ò2:é4 (x::y::xs) 1=↑y:=qz (k:=1) rfl
@[simp] theorem zao Č{x y z:α}ò2:é4 (x::y::z::xs) 2=↑z:=qz (k:=2) rfl
@[simp] theorem zan Č{x y z w:α}ò2:é4 (x::y::z::w::xs) 3=↑w:=qz (k:=3) rfl
theorem X7 Č Ò4 (g:α->À T) ê5:∀ (xs:Ĳ),(∀ x∈xs,h (enc x)=↑(g x))->iz h (Ī enc)=↑(xs.filterMap g)
 | [],_=>rfl
 | x::xs,hh=>by
  rw[zA6];unfold iz;rw[hh x za1,X7 enc g h xs λ y hy=>hh y (za2 _ hy)];cases q:g x <;> simp[q]
def Cb Č Ò4 (g:α->T) ê5 (xs:Ĳ) (hh:∀ x∈xs,h (enc x)=↑↑(g x)):iz h (Ī enc)=↑(Ī g):=by
 rw[X7 enc (λ x=>↑(g x)) h xs hh];simp
def xB Č Ò4 (h:α->T) í7 ů
  (hh:∀ x∈xs,qx pick g c f Y (enc x)=↑↑(h x)):yV pick it g c f Y=↑(ň (Ī h)):=by
 unfold yV;rw[hi,zC9,Î (by rw[zA7];show hl),Cb enc h _ xs hh];rfl
def Ge Č Ò4 (h:α->À T) í7 ů
  (hh:∀ x∈xs,qx pick g c f Y (enc x)=↑(h x)):yV pick it g c f Y=↑(ň (xs.filterMap h)):=by
 unfold yV;rw[hi,zC9,Î (by rw[zA7];show hl),X7 enc h _ xs hh];rfl
section
variable {Č}{is:Ö4}{Û2}{b:Sm}
def turn Ì6 (b:Sm) (y:T) Ú7:À Out:=(g y Y).bind b
theorem eF (y:T) (ys:Ä) Ú7:qh is g b (y::ys) Y=(turn g b y Ù4).bind λ o=>match o with
  | .nx Y2=>Ù6
  | .ct Y2=>Ù6
  | .bk Y2=>↑(.nx (xq is Y2))
  | .rt t=>↑(.rt t):=by
 unfold turn;rw[qh];cases g y Ù4 <;> rfl
theorem TQ Ò4 (I:Ĳ->Ev->Prop):∀ (xs:Ĳ) (pre:Ĳ) Ú7,I pre Ù4->
  (∀ p x q,pre++xs=p++x::q->Ã0)->∃ Y',ä3/\I (pre++xs) Y'
 | [],pre,Y,h,_=>#[xq is Y,by rw[za4,qh],á4]
 | x::xs,pre,Y,h,hs=>by
  let#[Y',h1,h2]:=hs pre x xs rfl _ h;rw[zA6,eF,h1];have ih:=TQ enc I xs (pre++[x]) Y' h2 λ p y q e=>hs p y q (by rw[<- e];simp);exists ih
def pL Ò4 (I:Ĳ->Ev->Prop) (xs:Ĳ) Ú7 (h:I [] Ù4)
  (hs:∀ p x q,xs=p++x::q->Ã0):∃ Y',ä3/\I xs Y':=TQ enc I xs [] Y h hs
def Uw (lo:Int) Î3:rangeT lo n=Ö8:=rfl
end
theorem bq Î3 (h:n<=100000):qN [ò (n:Int)]=↑((Ć n).map λ(k:Nat)=>T.int (0+(k:Int))):=by
 change (if inR (n:Int)=true then ↑(rangeT 0 (n:Int).toNat) else none)=_;rw[Î (SV.mpr #[⋯,⋯])];rfl
def jM (a:Key) (b:T) ã4 (j:Key):xh (ç7) j=if a=j then ↑b else xh kvs j:=by
 by_cases h:a=j <;> simp[xh,h]
theorem Vt ò8:∀ kvs:Ą,xh (kvs.map Ä2) j=(xh kvs j).map λ x=>if j=k then d else x
 | []=>rfl
 | ç7=>by
  have ih:=Vt k j d kvs;rw[zA6];by_cases hk:a=k
  .rw[Î hk,jM,jM,ih];by_cases hj:a=j
   .subst hj;subst hk;simp
   .rw[É hj,É hj]
  .rw[É hk,jM,jM,ih];by_cases hj:a=j
   .subst hj;simp[hk]
   .rw[É hj,É hj]
theorem Vs ò8:∀ kvs:Ą,(∀ kv∈kvs,¬ kv.1=k)->xh é3 j=if j=k then ↑d else xh kvs j
 | [],_=>by
  change xh [(k,d)] j=_;rw[jM];by_cases h:j=k
  .subst h;simp
  .rw[É h,É (λ z=>h z.symm)]
 | ç7,hn=>by
  have ih:=Vs k j d kvs λ kv hkv=>hn kv (za2 _ hkv);have ha:¬ a=k:=hn (a,b) za1;change xh ((a,b)::é3) j=_;rw[jM,jM,ih];by_cases hj:a=j
  .subst hj;simp[ha]
  .rw[É hj,É hj]
def Pt ã4 Ò3:Í4=(xh Õ2).isSome:=by
 unfold xh;rw[zbZ,zC7,zD0,List.find?_isSome]
def Nq ã4 ò8:xh (l5 Õ2 d) j=if j=k then ↑d else xh kvs j:=by
 unfold l5;split
 .rename_i h;rw[Pt] at h;rw[Vt];by_cases hj:j=k
  .subst hj;let#[x,hx]:=zbT.mp h;simp[hx]
  .simp[hj]
 .rename_i h;show Vs k j d kvs λ kv hkv z=>h (zD0.mpr #[kv,hkv,zcS z])
def HX ã4 Ò3 (d:T):(l5 Õ2 d).length=if (xh Õ2).isSome=true then č else č+1:=by
 have e:=Pt Õ2;unfold l5;rw[e];split <;> simp
def nD (p:Æ9):Â:=[p.1,p.2]
def kb Ì7:Ð:=(L4.qg â5).map λ r=>Î9
def VT Ì7:(kb ps).map nD=L4.qg â5:=by
 unfold kb;rw[zD6]
 conv=>rhs;rw[<- List.map_id (L4.qg â5)]
 exact zaD λ r hr=>?_;let#[p,_,rfl]:=zB0.mp ((L4.lx _).mem_iff.mp hr);rfl
def ZZ Ì7:(kb ps).Perm ps:=by
 have h:=L4.lx â5;have:(kb ps).Perm ((Ê1 nD).map λ r=>Î9):=h.map _
 rwa [zD6,show ((λ r:Â=>Î9) ∘ nD)=id from rfl,List.map_id] at this
def gu (p q:Æ9):Prop:=p.1<q.1\/(p.1=q.1/\p.2<=q.2)
def VS Ì7:(kb ps).Pairwise gu:=by
 have h:=L4.c_ â5;rw[<- VT,zaV] at h;exact h.imp λ{p q} hpq=>?_;unfold nD at hpq;rw[HT.k_,HT.k_] at hpq;unfold gu;by_cases e:q.1=p.1
 .rw[Î e] at hpq;by_cases e2:q.2=p.2
  .lia
  .rw[É e2] at hpq;have:=Ŷ hpq;lia
 .rw[É e] at hpq;have:=Ŷ hpq;lia
def Lg Ì7:oY (Ê1 zr)=↑ â5:=by
 have:=Yi â5
 rwa [zD6,show zJ ∘ nD=zr from rfl] at this
def pP (q p:Æ9):Bool:=Á6 (p.1<=q.1)&&Á6 (p.2<=q.2)
def yh Ì7 (q:Æ9):Bool:=ps.any (pP q)
def xc {ps:Ð}{q:Æ9}:yh ps q=true↔∃ p∈ps,p.1<=q.1/\p.2<=q.2:=by
 unfold yh pP;simp[zD0]
def DW {ps qs:Ð}(h:ps.Perm qs) (q:Æ9):yh ps q=yh qs q:=by
 rw[zC7,xc,xc];show#[λ#[p,h1,h2]=>#[p,h.mem_iff.mp h1,h2],λ#[p,h1,h2]=>#[p,h.mem_iff.mpr h1,h2]]
def DY (ps qs:Ð) (q:Æ9):yh (ps++qs) q=(yh ps q||yh qs q):=by
 unfold yh;rw[List.any_append]
def oG Ì7:Prop:=ps.Pairwise λ p q=>p.1<q.1/\q.2<p.2
theorem oG.eq:∀ {ps qs:Ð},oG ps->oG qs->(∀ q,yh ps q=yh qs q)->ps=qs
 | [],[],_,_,_=>rfl
 | [],q::qs,_,_,h=>by
  have:=h q;rw[show yh [] q=à from rfl] at this;have h2:yh (q::qs) q=true:=â6;rw[h2] at this;cases this
 | p::ps,[],_,_,h=>by
  have:=h p;rw[show yh [] p=à from rfl] at this;have h2:yh (p::ps) p=true:=xc.mpr Ì9;rw[h2] at this;cases this
 | p::ps,q::qs,hp,hq,h=>by
  have hp1:=za9.mp hp;have hq1:=za9.mp hq;have a1:∃ r∈q::qs,r.1<=p.1/\r.2<=p.2:=xc.mp (by rw[<- h];show xc.mpr Ì9);have a2:∃ r∈p::ps,r.1<=q.1/\r.2<=q.2:=xc.mp (by rw[h];show â6);let#[r,hr,r1,r2]:=a1;let#[u,hu,u1,u2]:=a2;have qr:q.1<=r.1:=by
   rcases Á5 hr with e | e
   .subst e;show zC6 _
   .show Int.le_of_lt (hq1.1 r e).1
  have pu:p.1<=u.1:=by
   rcases Á5 hu with e | e
   .subst e;show zC6 _
   .show Int.le_of_lt (hp1.1 u e).1
  have e1:p.1=q.1:=⋯;have er:r=q:=by
   rcases Á5 hr with e | e
   .show e
   .have:=(hq1.1 r e).1;lia
  have eu:u=p:=by
   rcases Á5 hu with e | e
   .show e
   .have:=(hp1.1 u e).1;lia
  subst er eu;have e2:u.2=r.2:=⋯;have epq:u=r:=Prod.ext e1 e2;subst epq;rw[oG.eq hp1.2 hq1.2 λ x=>?_];have hx:=h x;unfold yh at hx ⊢;rw[zaA,zaA] at hx;cases g:pP x u with
  | à=>rw[g] at hx;exists hx
  | true=>
   have gx:u.1<=x.1/\u.2<=x.2:=by simpa [pP] using g
   have key:∀ {l:Ð},(∀ v∈l,u.1<v.1/\v.2<u.2)->l.any (pP x)=l.any (pP (x.1,u.2-1)):=by
    intro l hl;rw[zC7,zD0,zD0];ext ä7
    .ext ë2;have hg':v.1<=x.1/\v.2<=x.2:=by simpa [pP] using hg
     show ë1
    .ext ë2;have hg':v.1<=x.1/\v.2<=u.2-1:=by simpa [pP] using hg
     show ë1
   rw[key hp1.1,key hq1.1];have hy:=h (x.1,u.2-1);unfold yh at hy;rw[zaA,zaA] at hy;have gn:pP (x.1,u.2-1) u=à:=by
    unfold pP;rw[show Á6 (u.2<=(x.1,u.2-1).2)=à from zcR (by change ¬ u.2<=u.2-1;lia),zaU]
   rw[gn] at hy;exists hy
def lJ (l:À Int) (x:Int):Bool:=match l with
 | none=>true
 | some m=>Á6 (x<m)
def xE:Ð->À Int->Ð
 | [],_=>[]
 | p::ps,l=>if lJ l p.2=true then p::xE ps ↑p.2 else xE ps l
def oK Ì7:Ð:=xE (kb ps) none
theorem eS:∀ Ì7 (l:À Int) (q:Æ9),q∈xE ps l->q∈ps/\∀ m,l=↑m->q.2<m
 | [],l,q,h=>by simp[xE] at h
 | p::ps,l,q,h=>by
  unfold xE at h;split at h
  .rename_i c;have hm:∀ m,l=↑m->p.2<m:=λ m e=>by subst e;simpa [lJ] using c
   rcases Á5 h with e | e
   .subst e;show#[za1,hm]
   .let#[h1,h2]:=eS ps _ q e;show#[za2 _ h1,λ m e=>by have:=h2 _ rfl;have:=hm m e;lia]
  .let#[h1,h2]:=eS ps _ q h;show#[za2 _ h1,h2]
theorem Xi:∀ Ì7 (l:À Int),ps.Pairwise gu->oG (xE ps l)
 | [],l,_=>by simp[xE,oG]
 | p::ps,l,h=>by
  have h1:=za9.mp h;unfold xE;split
  .exact za9.mpr #[λ q hq=>?_,Xi ps _ h1.2];let#[g1,g2]:=eS ps _ q hq;have:=h1.1 q g1;have:=g2 _ rfl;unfold gu at *;lia
  .show Xi ps _ h1.2
theorem Xj:∀ Ì7 (l:À Int),ps.Pairwise gu->∀ p∈ps,(∃ q∈xE ps l,q.1<=p.1/\q.2<=p.2)\/∃ m,l=↑m/\m<=p.2
 | [],l,_,p,hp=>by cases hp
 | r::ps,l,h,p,hp=>by
  have h1:=za9.mp h;unfold xE;split
  .rename_i c;rcases Á5 hp with e | e
   .subst e;show ĥ Ì9
   .rcases Xj ps ↑r.2 h1.2 p e with ⟨q,q1,q2⟩ | ⟨m,e1,e2⟩
    .show ĥ #[q,za2 _ q1,q2]
    .cases e1;have:=h1.1 p e;unfold gu at this;show ĥ #[r,za1,⋯,e2]
  .rename_i c;rcases Á5 hp with e | e
   .subst e;cases l with
    | none=>simp[lJ] at c
    | some m=>show ń #[m,rfl,by simpa [lJ] using c]
   .show Xj ps l h1.2 p e
def YO Ì7:oG (oK ps):=Xi È (VS ps)
def HZ {ps:Ð}{q:Æ9}(h:q∈oK ps):q∈ps:=(ZZ ps).mem_iff.mp (eS È q h).1
theorem gs Ì7 (q:Æ9):yh (oK ps) q=yh ps q:=by
 rw[<- DW (ZZ ps) q,zC7,xc,xc];ext ä7
 .rintro⟨p,h1,h2⟩;show#[p,(eS È p h1).1,h2]
 .rintro⟨p,h1,h2⟩;rcases Xj (kb ps) none (VS ps) p h1 with ⟨r,r1,r2⟩ | ⟨m,e,_⟩
  .show#[r,r1,⋯,⋯]
  .cases e
end L5
namespace L2
open è9 Û5 Ť
section
variable {Í7}
def UG ñ6:R2:=λ x y H Q=>∃ l b xs zs,x=Ý l/\y=Ý b/\y7 K H l xs/\y7 K H b zs/\í+zs.length<=Ó/\∀ p,H p=none->Q Ò7 (upd H p (ň (xs++zs)))
theorem JT:yM X (binaryOp .Add) (UG X.K):=by
 ext È9;let#[l,b,xs,zs,rfl,rfl,hH,hB,hz,q]:=h;cases rx;cases ry;let#[its,r,p1,_]:=I.list hH;let#[its2,r2,p2,_]:=I.list hB;let#[#[cls,dd,data,sl],ho,hc,n,hd]:=p1.isList;let#[ð6,ho2,hc2,n2,hd2]:=p2.isList;ext ã8;have e:its.toArray++its2.toArray=(its++its2).toArray:=#[];exact concat_meets í6 noFill_list_add seq_list_add PySem.F.slot_list_add PySem.F.entry_list_add (PySem.F.args_list_add_2 È) (list_addW l Õ5 (by rw[zA0,zA0,<- r.length,<- r2.length];show hz)) #[ho,ho2,?_];rw[e];show#[Ý _,_,I.HP (t':=s.toks) (r.append r2) (by rw[zD7];lia),rfl,q _ I.fresh]
def UD ñ6:R2:=λ x y H Q=>∃ a b ys,x=å0/\y=Ý b/\yw K H a []/\yw K H b ys/\Q (Ý b) H
theorem JR:yM X (binaryOp .Add) (UD X.K):=by
 ext È9;let#[l,b,ys,rfl,rfl,hH,hB,q]:=h;cases rx;cases ry;let#[its,r,p1,_]:=å2 hH;let#[its2,r2,p2,_]:=å2 hB;let#[#[cls,dd,data,sl],ho,hc,n,hd]:=id p1;let#[ð6,ho2,hc2,n2,hd2]:=id p2;ext ã8;show concat_meets í6 noFill_tuple_add seq_tuple_add PySem.F.slot_tuple_add PySem.F.entry_tuple_add (PySem.F.args_tuple_add_2 È)
   (tuple_addW0 l Õ5 (by cases r;rfl)) #[ho,ho2,#[Ý b,H,I,rfl,q]]
end
end L2
namespace L5
open è9 Û5 L2 L3
open Ť hiding St
section
variable {Í7}{æ7}{a b c e:Expr}{es:ó0}{ta tb tc te:zy}{tA:y6}{pos p:Pos}
def mx.mo:qc mx:=λ x y S Q Q' hq h=>by
 cases x with
 | int i=>cases y <;> first | show hq È h | show h
 | str i=>ext ç0
 | tup i=>ext ç0
 | qC ds=>
  ext á2
  .show Ñ6
  .show â7
 | ref q=>
  ext á2
  .show Ñ6
  .show â7
 | _=>show h
def kR ſ ŏ ř{v:V}Ë Ç2 (p:yo K H S) (e:ç4) (n:∀ ts,d≠ Ñ3):∃ a xs,v=å0/\y7 K H a xs/\zt K H ds xs:=by
 unfold y4 at e;split at e
 .show È6 rfl (n _)
 .cases e;ext Ê3;let#[a,xs,h1,h2,h3]:=r;show#[a,xs,h1,h2.sq,h3]
 .split at e
  .rename_i q;cases e;ext Ê3;subst r;let#[xs,h1,h2]:=p È q;show#[_,xs,rfl,y7.of h1,h2]
  .cases e
 .cases e
abbrev UH ñ6:R2:=λ x y H Q=>ou (λ i j=>ò (i+j)) x y H Q\/((∃ i j,x=À8 i/\y=À8 j/\Ù2/\Q (À8 (i++j)) H)\/(UG K x y H Q\/(UD K x y H Q\/UE K x y H Q)))
def mx.fits:wF K mx (UH K):=λ x y d e H S Q h1 h2 h3 h=>by
 have lst:(∀ ts,d≠ Ñ3)->(match y4 d S,y4 e S with
  | some ds,↑es=>(∀ ts,e≠ Ñ3)/\Ñ4/\∀ r,S r=none->pk K H Q (Ý r) (ups S r (ň (ds++es)))
  | _,_=>Ø2)->UH K x y H Q:=λ n h=>by
  split at h
  .rename_i ds es q1 q2;let#[a,xs,rfl,g1,g2]:=kR h1 h3 q1 n;let#[b,ys,rfl,g3,g4]:=kR h2 h3 q2 h.1;exact ń (ń (ĥ #[a,b,xs,ys,rfl,rfl,g1,g3,by rw[<- g2.length,<- g4.length];show h.2.1,λ p hp=>?_]));show h.2.2 p (h3.none hp) È (Ĥ) ų (h3.ups ų #[_,yO,zt.ext ų _ (g2.append g4)])
  .show â7
 cases d with
 | int i=>
  cases e with
  | int j=>
   simp![zj] at h1 h2;show ĥ #[_,_,h1,h2,h À9 h3]
  | _=>show â7
 | str i=>
  cases e with
  | str j=>
   simp![zj] at h1 h2;show ń (ĥ #[_,_,h1,h2,h.1,h.2 À9 h3])
  | _=>show â7
 | tup ds=>
  cases e with
  | tup es=>
   have h1':=h1;have h2':=h2;simp![zj] at h1 h2;let#[a,xs,rfl,g1,g2]:=h1;let#[b,ys,rfl,g3,g4]:=h2;have hl:=g2.length;have hl':=g4.length;by_cases hx:xs=[]
   .subst hx;have:ds=[]:=by cases ds <;> simp_all
    ext Ü2;show ń (ń (ń (ĥ #[a,b,ys,rfl,rfl,g1,g3,h.2 _ H h2' (.refl H) h3])))
   .exact ń (ń (ń (ń #[a,b,xs,ys,rfl,rfl,g1,g3,hx,by rw[<- hl,<- hl'];show h.1,λ hy=>?_,λ hy p hp=>?_])))
    .subst hy;have:es=[]:=by cases es <;> simp_all
     ext Ü2;exact h.2 _ H ?_ (.refl H) h3;rw[zaB];show h1'
    .exact h.2 È ?_ ų (h3.new hp);simp![zj];show#[p,_,rfl,yw.of yO,zt.ext ų _ (g2.append g4)]
  | _=>show â7
 | qC ds=>show lst á h
 | ref q=>show lst á h
 | _=>show â7
def uW ê6:PD X (.BinOp a .Add b pos) (yT mx ta tb):=kU (JW.or (JV.or (JT.or (JR.or JS)))) mx.fits mx.mo ha hb
def nP.mo {g:ð1}:qA (nP g):=λ ds S Q Q' hq h=>by
 unfold nP at h ⊢;split at h
 .show â7
 .let#[bs,h1,h2]:=h;show#[bs,h1,hq È h2]
 .show â7
def nP.fits {g:ð1}:pB K (nP g) (λ xs H Q=>∃ p,∃ bs:Ê4,xs=[Ý p]/\y7 K H p (bs.map V.bl)/\Q (.bl (g bs)) H):=λ xs ds H S Q h0 h2 h=>by
 unfold nP at h;split at h
 .show â7
 .rename_i d hn;let#[x,hx,h1]:=h0.one;subst hx;let#[bs,e,h]:=h;let#[a,ys,rfl,g1,g2]:=kR h1 h2 e (λ ts z=>hn ts z);rw[g2.bools] at g1;show#[a,bs,rfl,g1,h À9 h2]
 .show â7
def uV (hm:X.mg "all"=none) ė È5 (hg:Gl X "all") Õ:PD X (ß9 (Ŗ "all" p) š) (qo (nP λ bs=>bs.all id) tA):=
 ma (l7 (CL hc) hg hm boot_all Ł) nP.mo nP.fits ha.mo
def uS (hm:X.mg "any"=none) ė È5 (hg:Gl X "any") Õ:PD X (ß9 (Ŗ "any" p) š) (qo (nP λ bs=>bs.any id) tA):=
 ma (l7 (CK hc) hg hm boot_any Ł) nP.mo nP.fits ha.mo
def SG ſ ř{v:V}Ç2:Á6 (v=.zC)=gC d:=by
 cases d with
 | tup _=>ext ë3
 | qC _=>ext ë3
 | _=>ext Ê3;subst r;rfl
theorem vY (ha:PD X a ta):PD X (.UnaryOp .USub a pos) (Qe ta):=by
 exact#[fun L S Q Q' hq h=>ha.mo L S È (λ x S1 z=>by
  cases x <;> first
   | show hq È z
   | show z) h,PE.imp (KC Ny ha.pe) Ò9]
 let#[L,S,r1,r2,h]:=hu;exact zQ.go ha.mo r1 r2 h λ x S1 v H1 h1 q1 e1 p1=>?_;cases x with
 | int i=>simp![zj] at q1;show#[i,q1,h1 _ H1 (Ĥ) e1 p1]
 | _=>show h1.elim
section
variable {N':Ý6}{í7}{scope:Scope}{tg elt iter:Expr}{ifs:ó0}{ti:pz}{g:rS}{tcc:xf}
def mX.mo (hi:Zi ti):yA Ç7:=fun L S Q Q' hq z=>hi L S È (λ I S1 #[h1,h2,h3]=>#[h1,h2,λ p hp=>by
 let#[W,w0,w1,w2,w3]:=h3 p hp;show#[W,w0,w1,w2,λ S2 acc a b c=>hq È (w3 S2 acc a b c)]]) z
theorem V1 (hi:Zi ti) (hg:dX g) (hc:oh tcc) (he:yA te) {σ:St}ſ{Q:VK}(hu:zQ K Ç7 σ H Q):ZQ pick (oH K ti) (fE K g) (qY K tcc) (zQ K te) σ H Q:=by
 ext ĝ;exact#[L,S,r1,r2,hi L S È (λ I S1 hF J H1 e1 p1 rep D hD=>?_) z];let#[hlen,hk,hF]:=hF;have hS1:S1 D=none:=p1.none hD;let#[W,w0,wm,wstep,wfin]:=hF D hS1;exact#[λ i m σ H2=>m=Ŀ-i/\i<=Ŀ/\Ext H1 H2/\xF K H2 Ñ5 σ/\∃ S2 acc,yo K H2 S2/\Sx S1 S2/\S2 D=↑(ň acc)/\acc.length<=i/\W i S2 acc,#[_,rfl,zD4 _,.new hD _,((Ï7).pick pick).ext (.new hD _),ups S1 D (ň []),[],?_,.new hS1 _,mF,Ô6,?_],?_]
 .show p1.ups (.new hD _) #[[],yO,Û3]
 .show wm 0 S1 _ [] ë0 w0
 rintro i m σ2 H2 ⟨rfl,hi',x2,q1,S2,acc,q2,sx,hS2,hacc,hW⟩;let#[g1,g2]:=rep i H2 S2 x2 q2 (hk S2 sx);by_cases hl:i<Ŀ
 .have hd:I.items[i]?=↑I.items[i]:=by simp[hl]
  let#[go,yl]:=g1 _ hd;exact ń #[go,λ x H3 hy=>?_];let#[x3,p3,d3]:=yl x H3 hy;exact#[_,_,S2,d3,q1.ext x3,p3,hg È S2 È (fun L4 S4 z4 σ4 H4 a1 a2 a3=>?_) (wstep i _ S2 acc hd sx hS2 hW)];let#[hle,z4]:=z4;exact qY.go hc a1 a3 z4 λ b S5 H5 z5 x5 p5=>ph (λ z5=>?_) (λ z5=>?_) z5
  .exact zQ.go he (a1.ext x5) p5 z5 λ y S6 v H6 z6 q6 x6 p6=>?_;let#[s6,hW6]:=z6;let#[ys,h6,r6]:=p6 È (s6 È hS2);have e6:Ext H6 (upd H6 D (ň (ys++[v]))):=ň h6 _;have hlen2:Ù5<=i:=by rw[<- r6.length];show hacc
   exact#[ys,Ŀ-á5,h6,⋯,⋯,rfl,hl,((ä0).trans x6).trans e6,hle.rep ((a1.ext (x5.trans x6)).ext e6),ups S6 D (ň (acc++[y])),acc++[y],?_,λ b o hb=>?_,mF,Ç3,?_]
   .show p6.ups e6 #[_,yO,zt.ext e6 _ (r6.snoc q6)]
   .rw[lp (by intro q;subst q;rw[hS1] at hb;cases hb)];show s6 È (sx È hb)
   .show wm _ S6 È ë0 hW6
  .let#[s5,hW5]:=z5;show#[Ŀ-á5,⋯,rfl,hl,ä0,hle.rep (a1.ext x5),S5,acc,p5,sx.trans s5,s5 È hS2,⋯,hW5]
 .have e:i=Ŀ:=⋯;subst e;show ĥ #[g2 (Ô6),wfin S2 acc sx hS2 hW _ H2 (Ĥ) (e1.trans x2) q2]
def Jr ß
  Ð4:
  PD X ŗ Ç7:=
 #[mX.mo hi.mo,λ gV s σ H Q I hu=>KR ā hs gV s σ H Q I (V1 Å4 hu)]
def Jj Ê8{y:Str}{py spos:Pos}ß
  (hN:X.N.Nodup) (hy:X.N[i]?=↑y) (hx:Loc X.env.scope y)
  (hsw:swapsWith ŗ ↑(Ŗ y py) spos.line Á7=pure true)
  (hfn:X.fn y=true\/X.env.scope.names.lookup y=↑.local)
  Ð4:
  zv X (.Assign [Ŗ y py] ŗ spos) (qy Ç7 â3):=by
 exact#[qy.mo (mX.mo hi.mo) λ _ _ _ _ _ hq z=>hq È z,λ gV s σ H D I hu=>L_ ā hN hy hx hsw hfn hs gV s σ H D I ?_];ext ĝ;exact V1 Å4 #[L,S,r1,r2,mX.mo hi.mo L S È (λ x S1 z v H1 q1 e1 p1=>?_) z];show z _ H1 ((Ï7).set i q1) e1 p1
end
end
section
variable {ĸ}{æ7}{mg:zSV}{base:Heap}{f:Addr}{fd:FuncData}
def Rt Â5 Þ5
  ç:pA ê1 xn (k+1) f fd ps (om K (zM R (zP N n g))):=
 ay F Sc (λ ds S Q h=>by rw[h.len,hn]) λ cdv A outer s H E hr=>by
  let#[t,h1,h2]:=hbody cdv A outer s H E hr;show#[t,h1,λ ds S Q h=>QS h2 h]
def Df Â5 (hm:mg x=↑(Ý f)) Þ5
  (hb:∀ (kV doc pm:ú) (an:À Addr) (cdv ct:ú) (us:zLV),Ä6=ps.length->bindArgs (PySem.W.fnOf x x (nQ st) (xV st) (yk st) .none kV doc pm an cdv ct) #[us,[]]=pure (ps.zip us))
  ç:FD ê1 x (k+1) ps (zM R (zP N n g)):=
 #[#[f,fd,Rt F Sc hn hbody,hm,F.kp,F.binds hb],zM.mo]
def Gm Ú8 [Sr R] {F:zLO}(hF:∀ ns:Â,ns.length<=63->F [ň (ns.map T.int)]=↑(.bl true)) ſ Ė{ns:Â}{E:XK}(hO:Zd H) (hS:y7 K H a (ns.map V.int)) (hl:ns.length<=63):om K (zM R F) [å0] H (λ v _=>v=.bl true) E:=by
 have hFz:fh K H a (ns.map V.int):=by
  rcases hS with (h | h) | h
  .rcases hO a with z | ⟨o,xs,z⟩
   .rw[h] at z;cases z
   .rw[h] at z;cases z
  .show ĥ h
  .show ń h
 exact#[[.qC (ns.map D.int)],λ _=>none,ő ?_ Û3,(λ a o z=>nomatch z),λ _=>Ø2,[ň (ns.map T.int)],.bl true,nofun,ő ?_ Û3,hF ns hl,λ d S' s r v H' rv _ _=>?_]
 .simp![zj];show#[a,_,rfl,hFz,zt.Y7 ns]
 .ext Õ7;show#[_,ĥ #[rfl,JX ns],kc.mpr rfl]
 .have:=Sr.sn r;simp![Sn] at this;ext Ü2;simpa only [zj] using rv
end
end L5
namespace ST
open è9 PySem.SetTable
def lb (xs:Ö4):Prop:=xs.Pairwise (· < ·)
def Xl {xs:ŵ}{m d:Nat}(h:m<Á1):xs.getD m d=xs[m]:=by simp[Array.getD,h]
theorem Wa (xs:ŵ) (j:Nat) Ð5:∀ (f lo hi:Nat),hi-lo<=f->lo<=hi->hi<=Á1->(∀ i ä1,i<lo->xs[i]<j)->(∀ i ä1,hi<=i->j<=xs[i])->
  Ù7<=Á1/\(∀ i ä1,i<Ù7->xs[i]<j)/\∀ i ä1,Ù7<=i->j<=xs[i]
 | 0,lo,hi,h1,h2,h3,h4,h5=>by
  unfold below.go;ext ß7
 | f+1,lo,hi,h1,h2,h3,h4,h5=>by
  unfold below.go;have ot:∀ i k (hi:i<Á1) (hk:k<Á1),i<=k->xs[i]<=xs[k]:=λ i k hi hk hik=>by
   rcases za8 i k with q | q
   .have r:=zbL.mp hr i k (æ0) (by exists hk) q;rw[zaX,zaX] at r;show zE3 r
   .have:i=k:=⋯;ext Ü2;show Ô6
  by_cases hl:lo<hi
  .rw[Î hl];ext Ā;have hm:(lo+hi)/2<Á1:=⋯;rw[Xl hm];by_cases c:xs[(lo+hi)/2]<j
   .rw[Î c];exact Wa xs j hr f _ hi ë h3 (λ i hi' hlt=>?_) h5;have:=ot i ((lo+hi)/2) hi' hm ⋯;lia
   .rw[É c];exact Wa xs j hr f lo _ ë ⋯ h4 (λ i hi' hge=>?_);have:=ot ((lo+hi)/2) i hm hi' hge;lia
  .rw[É hl];ext ß7
def aN {xs:ŵ}Ý9 Ð5:Æ5<=Á1/\(∀ i ä1,i<Æ5->xs[i]<j)/\∀ i ä1,Æ5<=i->j<=xs[i]:=
 Wa xs j hr Á1 0 Á1 ë (Ô6) (λ i h q=>⋯) (λ i h q=>⋯)
theorem below_at {xs:ŵ}{j i:Nat}Ð5 (h:xs[i]?=↑j):Æ5=i:=by
 let#[h1,h2,h3]:=aN (j:=j) hr;let#[hi,e]:=ŀ h;have a:¬ i<Æ5:=λ q=>by have:=h2 i hi q;lia
 have b:¬ Æ5<i:=λ q=>by
  have:=h3 (Æ5) ⋯ (Ô6);have r:=zbL.mp hr (Æ5) i (Ç3) (æ0) q;simp at r;lia
 lia
def Bc {xs:ŵ}Ý9 Ð5:(xs[Æ5]?=↑j)↔j∈xs.toList:=by
 ext ä7
 .intro h;let#[hi,e]:=ŀ h;rw[<- e];simp
 .intro h;let#[i,hi,e]:=zaJ.mp h;have hx:xs[i]?=↑j:=by
   simp at hi;simp[hi] at e ⊢;show e
  rw[below_at hr hx];show hx
def m6 ħ (p:Probe):Probe:=
 if p.more>0 then { p with j:=p.j+1,more:=p.more-1 } else
 let (i,perturb):=leap M p.i p.perturb
 { p with j:=i,more:=â8,i,perturb }
def Wo (t:Ç0) (p:Probe):t.advance p=m6 ð p:=rfl
def gf (M i perturb:Nat):Probe:={ j:=i,more:=â8,i:=i,perturb:=perturb,dummy:=none }
def way ħ Ũ:Nat->Probe
 | 0=>gf M (Ï9%Ŵ) (Ï9)
 | k+1=>m6 M (ĭ)
def Bz ħ (p:Probe) (h:p.dummy=none):(m6 M p).dummy=none:=by
 unfold m6;split
 .show h
 .show h
theorem ZC ħ Ũ:∀ k,(ĭ).dummy=none
 | 0=>rfl
 | k+1=>Bz M _ (ZC M h k)
def yK ħ Ũ:Nat->Nat×Nat
 | 0=>(Ï9%Ŵ,Ï9)
 | n+1=>leap M Ř Í6
theorem Yg (M i pt:Nat) Ũ Ý3 (hk:ĭ=gf M i pt):∀ m,m<=â8->way M h (k+m)={ j:=i+m,more:=â8-m,i:=i,perturb:=pt,dummy:=none }
 | 0,_=>by rw[Nat.add_zero,hk];rfl
 | m+1,hm=>by
  have ih:=Yg M i pt h k hk m ⋯;change m6 M (way M h (k+m))=_;rw[ih];unfold m6;rw[Î (by change â8-m>0;lia)];simp![Probe.mk.injEq];show#[⋯,⋯,trivial,trivial,trivial]
def Lf (M i:Nat):â8<=9:=by ext Ö2
theorem Uh ħ Ũ (n k:Nat) (hk:ĭ=gf M Ř Í6):way M h (k+(ì5-Ř)+1)=gf M (yK M h (n+1)).1 (yK M h (n+1)).2:=by
 have:=Yg M È h k hk _ (Ô6);change m6 M (way M h (k+_))=_;rw[this];unfold m6;rw[É (by change ¬ _-_-(_-_)>0;lia)];rfl
theorem Ui ħ Ũ:∀ n,∃ k,k<=10*n/\ĭ=gf M Ř Í6
 | 0=>#[0,⋯,rfl]
 | n+1=>by
  let#[k,h1,h2]:=Ui M h n;have:=Lf M Ř;show#[_,⋯,Uh M h n k h2]
def Ba Ũ:Ï9<2 ^ 64:=by
 unfold bits;have h1:=zF0 h (show (2 ^ 64:Int)≠0 by decide);have h2:=zF1 h (show (0:Int)<2 ^ 64 by decide);lia
theorem US ħ Ũ:∀ n,Í6*32 ^ n<=Ï9
 | 0=>by simp[yK]
 | n+1=>by
  have ih:=US M h n;change (Í6/32)*32 ^ (n+1)<=_;have:Í6/32*32<=Í6:=Nat.div_mul_le_self È
  calc Í6/32*32 ^ (n+1)=(Í6/32*32)*32 ^ n:=by rw[Nat.pow_succ,zc0 (32 ^ n) 32,Nat.mul_assoc]
   _<=Í6*32 ^ n:=zb9 _ this
   _<=_:=ih
theorem K6 ħ Ũ Î3 (hn:13<=n):Í6=0:=by
 rcases Nat.eq_zero_or_pos Í6 with q | q
 .show q
 .have h1:=US M h n;have h2:=Ba h;have h3:32 ^ 13<=32 ^ n:=Nat.pow_le_pow_right () hn;have h4:1*32 ^ n<=Í6*32 ^ n:=zb9 _ q;have h5:(2:Nat) ^ 64<32 ^ 13:=()
  lia
def km ħ Ù:Nat->Nat
 | 0=>i
 | n+1=>(km M i n*5+1)%Ŵ
theorem Sb ħ Ũ:∀ n,(yK M h (13+n)).1=km M (yK M h 13).1 n
 | 0=>rfl
 | n+1=>by
  have ih:=Sb M h n;have hz:=K6 M h (13+n) ⋯;change ((yK M h (13+n)).1*5+1+(yK M h (13+n)).2/32)%Ŵ=_;rw[hz,ih];rfl
theorem e9 (M i:Nat):∀ a b,km M i (a+b)=km M (km M i a) b
 | a,0=>rfl
 | a,b+1=>by
  change (km M i (a+b)*5+1)%Ŵ=_;rw[e9 M i a b];rfl
def eg ħ:Nat->Nat->Ö4
 | 0,_=>[]
 | n+1,i=>i::eg M n ((i*5+1)%Ŵ)
theorem Y4 ħ:∀ n i x,x∈eg M n i->∃ k,k<n/\km M i k=x
 | 0,i,x,h=>ğ
 | n+1,i,x,h=>by
  rcases Á5 h with e | e
  .show#[0,⋯,e.symm]
  .let#[k,h1,h2]:=Y4 M n _ x e;show#[k+1,⋯,by rw[Nat.add_comm,e9];show h2]
def nB ħ:Prop:=M=7\/M=31\/M=127
theorem JA ħ Å0:(∀ e,e<=M->e∈eg M Ŵ 0)/\km M 0 Ŵ=0:=by
 have key:∀ M,((Ć Ŵ).all λ e=>(eg M Ŵ 0).contains e)=true->∀ e,e<=M->e∈eg M Ŵ 0:=λ M h e he=>by
  have:=zE4.mp h e (zC1.mpr ⋯);exists this
 rcases hM with rfl | rfl | rfl
 .show#[key 7 (zdK),zdK]
 .show#[key 31 (zdK),zdK]
 .show#[key 127 (zdK),zdK]
theorem J9 ħ Å0 (i e:Nat) (hi:i<=M) (he:e<=M):∃ n,n<=M/\km M i n=e:=by
 let#[h1,h2]:=JA M hM;let#[a,a1,a2]:=Y4 M ŕ (h1 i hi);let#[b,b1,b2]:=Y4 M ŕ (h1 e he);rcases za8 b a with q | q
 .exact#[M+1+b-a,⋯,?_];rw[<- a2,<- e9,show a+(M+1+b-a)=Ŵ+b by lia,e9,h2,b2]
 .exact#[b-a,⋯,?_];rw[<- a2,<- e9,show a+(b-a)=b by lia,b2]
theorem H_ ħ Ũ:∀ n,Ř<=M
 | 0=>by have:=zbN (Ï9) Ö1;change Ï9%Ŵ<=M;lia
 | n+1=>by
  have:=zbN (Ř*5+1+Í6/32) Ö1;change (_%Ŵ:Nat)<=M;lia
theorem Sd ħ Å0 Ũ (e:Nat) (he:e<=M):∃ n,n<M+14/\Ř=e:=by
 let#[n,h1,h2]:=J9 M hM (yK M h 13).1 e (H_ M h 13) he;show#[13+n,⋯,by rw[Sb,h2]]
theorem Nj ħ Å0 Ũ (e:Nat) (he:e<=M):∃ k,k<10*(M+15)/\(ĭ).j=e:=by
 let#[n,h1,h2]:=Sd M hM h e he;let#[k,k1,k2]:=Ui M h n;show#[k,⋯,by rw[k2];show h2]
theorem Vn ħ Ũ:∀ k,(ĭ).j+(ĭ).more<=M/\(ĭ).i<=M
 | 0=>by
  have h1:Ï9%Ŵ<=M:=by have:=zbN (Ï9) Ö1;lia
  exact#[?_,h1];change Ï9%Ŵ+(È7 M (Ï9%Ŵ)-Ï9%Ŵ)<=M;ext Ö2
 | k+1=>by
  let#[h1,h2]:=Vn M h k;change (m6 M (ĭ)).j+(m6 M (ĭ)).more<=M/\(m6 M (ĭ)).i<=M;unfold m6;split
  .rename_i c;show#[by change (ĭ).j+1+((ĭ).more-1)<=M;lia,h2]
  .have h3:ì6%Ŵ<=M:=by have:=zbN ì6 Ö1;lia
   exact#[?_,h3];change _%Ŵ+(È7 M (_%Ŵ)-_%Ŵ)<=M;ext Ö2
def ZA ħ Ũ Ý3:(ĭ).j<=M:=by have:=(Vn M h k).1;lia
structure Tab (t:Ç0) (hs:Â):Prop where
 mask:nB ð
 jq:t.dummies=ĩ
 len:Ä0=Ä8
 ot:lb Û
 top:∀ j∈ Û,j<=ð
 fS:∀ Ù h j,hs[i]?=↑h->Ĉ[i]?=↑j->Ì1
theorem Tab.live Ċ Ö6(h:Ĉ[i]?=↑j):t.slot j=.live i:=by
 unfold SetTable.slot;ext Ā;rw[below_at T.ot h,Î (by rw[h];simp)]
theorem Tab.empty Ċ Ý9(h:j∉ Û):t.slot j=.empty:=by
 unfold SetTable.slot;ext Ā;have n1:¬ (Ĉ[Ê6]? == ↑j)=true:=λ q=>h ((Bc T.ot).mp (by exists q));rw[É n1,ë9]
theorem Tab.at Ċ Ý9(h:j∈ Û):∃ (i:Nat) (g:Int),Ĉ[i]?=↑j/\hs[i]?=↑g:=by
 let#[i,hi,e]:=zaJ.mp h;have hi':i<Ä0:=æ0
 exact#[i,hs[i]'(by rw[<- T.len];show hi'),?_,#[]];rw[zB8 hi'];rw[zaX] at e;rw[e]
theorem Rc Ċ {hashAt:Nat->Int}(hA:∀ Ù g,hs[i]?=↑g->hashAt i=g) Ũ:∀ (f k:Nat),(∃ e,k<=e/\e<k+f/\(way ð h e).j∉ Û)->
  ∃ k1,k<=k1/\(∀ m,k<=m->m<k1->∃ (i:Nat) (g:Int),Ĉ[i]?=↑(way ð h m).j/\hs[i]?=↑g/\g≠h)/\
   (Ù8 ∉ Û/\à8=↑(.empty Ù8 none)\/
    ∃ i,Ĉ[i]?=↑ Ù8/\hs[i]?=↑h/\à8=↑(.candidate Ù8 i (way ð h (k1+1))))
 | 0,k,#[e,h1,h2,_]=>⋯
 | f+1,k,#[e,h1,h2,h3]=>by
  by_cases hm:(way ð h k).j∈ Û
  .let#[i,g,p1,p2]:=T.at hm;by_cases hg:g=h
   .exact#[k,Ô6,λ m a b=>⋯,ń #[i,p1,by rw[<- hg];show p2,?_]];unfold ì7;rw[T.live p1];ext Ā;rw[hA i g p2,Î (by simp[hg]),Wo];rfl
   .have hne:e≠k:=λ q=>by subst q;show h3 hm
    let#[k1,q1,q2,q3]:=Rc T hA h f (k+1) #[e,⋯,⋯,h3];have eq:ì7 t hashAt h (f+1) (way ð h k)=ì7 t hashAt h f (way ð h (k+1)):=by
     conv=>lhs;unfold ì7
     rw[T.live p1];ext Ā;rw[hA i g p2,É (by simp[hg]),Wo];rfl
    rw[eq];exact#[k1,⋯,λ m a b=>?_,q3];rcases Nat.eq_or_lt_of_le a with w | w
    .subst w;show#[i,g,p1,p2,hg]
    .show q2 m w b
  .exact#[k,Ô6,λ m a b=>⋯,ĥ #[hm,?_]];unfold ì7;rw[T.empty hm,ZC]
def T4 {xs ys:Ö4}(hx:xs.Nodup) (h:∀ x∈xs,x∈ys):í<=Ù5:=by
 induction xs generalizing ys with
 | nil=>simp
 | cons x xs ih=>
  have h1:=zaC.mp hx;have hxy:=h x za1;have:=ih h1.2 (ys:=ys.erase x) λ z hz=>by
   have hne:z≠x:=λ e=>h1.1 (e▸hz);show (List.mem_erase_of_ne hne).mpr (h z (za2 _ hz))
  rw[List.length_erase_of_mem hxy] at this;have hp:=List.length_pos_of_mem hxy;simp![zC0];lia
theorem least {P:Nat->Prop}Ý3 (h:P k):∃ m,m<=k/\P m/\∀ m'<m,¬ P m':=by
 induction k using Nat.strongRecOn with
 | ind k ih=>
  rcases è1 (∃ m',m'<k/\P m') with ⟨m',h1,h2⟩ | q
  .let#[m,g1,g2]:=ih m' h1 h2;show#[m,⋯,g2]
  .show#[k,Ô6,h,λ m' hm hp=>q #[m',hm,hp]]
theorem EB {xs:Ö4}ò3(h:í<=M):∃ e,e<=M/\e∉xs:=by
 rcases è1 (∃ e,e<=M/\e∉xs) with q | q
 .show q
 .have:=T4 (xs:=Ć Ŵ) (ys:=xs) zcD λ e he=>by
   have:=zC1.mp he;rcases è1 (e∈xs) with w | w
   .show w
   .show È6 #[e,⋯,w] q
  simp at this;lia
def W3 (t:Ç0) Ũ (j:Nat):Prop:=j∉ Û/\Ì1
theorem Tab.first Ċ (hl:Ä8<=ð) Ũ:∃ K,K<10*(ð+15)/\(way ð h K).j∉ Û/\∀ k'<K,(way ð h k').j∈ Û:=by
 let#[e,e1,e2]:=EB (xs:=Û) (M:=ð) (by rw[zD2,T.len];show hl);let#[k,k1,k2]:=Nj ð T.mask h e e1;let#[K,q1,q2,q3]:=least (P:=λ n=>(way ð h n).j∉ Û) k (by rw[k2];show e2);show#[K,⋯,q2,λ k' hk=>Classical.not_not.mp (q3 k' hk)]
def Lp {xs:Ö4}{j p:Nat}(h:lb xs) (h1:∀ x∈ Ù9,x<j) (h2:∀ x∈ â9,j<x):lb (Ù9++j::â9):=by
 exact zbV.mpr #[h.sublist (List.take_sublist È),za9.mpr #[h2,h.sublist (List.drop_sublist È)],λ a ha b hb=>?_];rcases Á5 hb with e | e
 .subst e;show h1 a ha
 .have:=h1 a ha;have:=h2 b e;lia
theorem gD Č ò2{p i:Nat}{x y:α}(hp:p<=í) (h:(Ù9++x::â9)[i]?=↑y):(i=p/\y=x)\/(i<p/\xs[i]?=↑y)\/(p<i/\xs[i-1]?=↑y):=by
 have hl:(Ù9).length=p:=by rw[zbG];lia
 rcases zbA i p with q | q | q
 .rw[zaT ⋯,List.getElem?_take,Î q] at h;show ń (ĥ #[q,h])
 .subst q;rw[zb5 ⋯,hl] at h;simp at h;show ĥ #[rfl,h.symm]
 .rw[zb5 ⋯,hl] at h;obtain⟨d,hd⟩:∃ d,i-p=d+1:=#[i-p-1,⋯];rw[hd] at h;simp![zbO,List.getElem?_drop] at h;exact ń (ń #[q,?_]);rw[show i-1=p+d by lia];show h
theorem Tab.put Ċ {h:Int}Ý9(F:W3 t h j):
  (Ñ7).2<=Ä8/\É9/\Tab (Ñ7).1 (hs.take (Ñ7).2++h::hs.drop (Ñ7).2):=by
 let#[b1,b2,b3]:=aN (xs:=Ĉ) (j:=j) T.ot;let#[fn,K,k1,k2]:=F;have e2:(Ñ7).2=Ê6:=rfl;have e1:É9:=by
  change ({ t with place:=Þ,dummies:=_ }:Ç0)=_;rw[ë9,e2]
 have pl:à1=t.place.toList.take (Ê6)++j::t.place.toList.drop (Ê6):=toList_insertAt ŕ;have old:∀ x∈ Û,x∈ à1:=λ x hx=>by
  rw[pl];have:=zc1 (Ê6) Û;rw[<- this] at hx;rcases zB9.mp hx with q | q
  .show zaO _ q
  .show zB4 _ (za2 _ q)
 rw[e2] at e1 ⊢;exact#[by rw[<- T.len];show b1,e1,?_];rw[e1];exact#[T.mask,T.jq,?_,?_,?_,?_]
 .change (Þ).size=_;rw[<- zD2,pl];simp[T.len]
 .change lb à1;rw[pl];exact Lp T.ot (λ x hx=>?_) (λ x hx=>?_)
  .let#[i,hi,e]:=zaJ.mp hx;rw[zbG] at hi;rw[List.getElem_take,zaX] at e;rw[<- e];show b2 i (by simp at hi;lia) ⋯
  .let#[i,hi,e]:=zaJ.mp hx;rw[zaI] at hi;rw[List.getElem_drop,zaX] at e;have h3:=b3 (Ê6+i) (by simp at hi;lia) ⋯;have hm:x∈ Û:=zcE hx;have hne:x≠j:=λ q=>fn (q▸hm);lia
 .intro x hx;change x<=ð;have hx:x∈ à1:=hx;rw[pl] at hx;rcases zB9.mp hx with q | q
  .show T.top x (List.mem_of_mem_take q)
  .rcases Á5 q with e | e
   .subst e;rw[<- k1];show ZA ŕ
   .show T.top x (zcE e)
 .intro i g x hg hx;change ∃ k,(way ð g k).j=x/\∀ k'<k,(way ð g k').j∈ à1;have hx:(Þ)[i]?=↑x:=hx;rw[<- zD3,pl] at hx;have hpl:Ê6<=t.place.toList.length:=by exists b1
  have hpl':Ê6<=Ä8:=by rw[<- T.len];show b1
  rcases gD hpl hx with ⟨c1,c2⟩ | ⟨c1,c2⟩ | ⟨c1,c2⟩ <;> rcases gD hpl' hg with ⟨d1,d2⟩ | ⟨d1,d2⟩ | ⟨d1,d2⟩ <;> first
   | lia
   | (subst c2 d2;show#[K,k1,λ k' hk=>old _ (k2 k' hk)])
   | (let#[k,g1,g2]:=T.fS _ g x d2 (by rw[<- zD3];show c2)
      show#[k,g1,λ k' hk=>old _ (g2 k' hk)])
def j8 Ü7 (j:Nat):Prop:=∃ k,Â1
theorem EX {P:Nat->Bool}{n k:Nat}(h:(Ć n).find? P=↑k):k<n/\P k=true/\∀ k'<k,P k'=à:=by
 let#[h1,as,bs,h2,h3]:=List.find?_eq_some_iff_append.mp h;have hlen:as.length=k:=by
  have e:(Ć n)[as.length]?=↑k:=by rw[h2];simp
  have:=(Ø6 e)
  let#[q1,q2]:=this;rw[zcC] at q2;show q2
 have hk:k<n:=by
  have:k∈ Ć n:=by rw[h2];simp
  show zC1.mp this
 exact#[hk,h1,λ k' hk'=>?_];have:k'∈as:=by
  have e:(Ć n)[k']?=↑k':=zcF ⋯;rw[h2,zaT ⋯] at e;show zB7 e
 have:=h3 k' this;exists this
def getD_none Ý5 Ý9(h:((æ1 j ↑0).isNone)=true):é[j]?=↑none:=by
 unfold Array.getD at h;split at h
 .rename_i hj;have e:é[j]=none:=á4
  rw[zB8 hj,e]
 .simp at h
def Rg Ý5 Ý9(hj:j<Û9) (h:((æ1 j ↑0).isNone)=à):j8 é j:=by
 unfold Array.getD at h;rw[dif_pos hj] at h;cases q:é[j] with
 | none=>simp[q] at h
 | some k=>show#[k,by rw[zB8 hj,q]]
theorem Rl ħ Ü7 (hsz:Û9=M+1) Ũ:∀ (fuel n kn:Nat),way M h kn=gf M Ř Í6->(∀ q<kn,j8 é (way M h q).j)->
  (∃ n',n<=n'/\n'<n+fuel/\é[(yK M h n').1]?=↑none)->
  ∃ j q,layClean.free M é fuel Ř Í6=↑j/\(way M h q).j=j/\é[j]?=↑none/\ì8
 | 0,n,kn,_,_,#[n',h1,h2,_]=>⋯
 | fuel+1,n,kn,hk,ho,#[n',h1,h2,h3]=>by
  have hre:ì5+1-Ř=ì5-Ř+1:=by ext Ö2
  have hwalk:∀ m,m<=ì5-Ř->(way M h (kn+m)).j=Ř+m:=λ m hm=>by rw[Yg M È h kn hk m hm]
  unfold layClean.free;cases hf:(Ć (ì5+1-Ř)).find? (λ k=>(æ1 (Ř+k) ↑0).isNone) with
  | some k=>
   let#[f1,f2,f3]:=EX hf;exact#[_,kn+k,rfl,hwalk k ⋯,getD_none f2,λ q' hq=>?_];rcases za8 q' kn with w | w
   .show ho q' w
   .have e:(way M h q').j=Ř+(q'-kn):=by
     have:=hwalk (q'-kn) ⋯
     rwa [show kn+(q'-kn)=q' by lia] at this
    have hle:=ZA M h q';rw[e] at hle ⊢;show Rg ⋯ (f3 (q'-kn) ⋯)
  | none=>
   have f3:=zcG.mp hf;have occ:∀ m,m<=ì5-Ř->j8 é (Ř+m):=λ m hm=>by
    have hle:=ZA M h (kn+m);rw[hwalk m hm] at hle;show Rg ⋯ (Bool.eq_false_iff.mpr (f3 m (zC1.mpr ⋯)))
   have hne:n'≠n:=λ e=>by
    subst e;let#[k,hk']:=occ 0 Ø1;rw[Nat.add_zero] at hk';rw[hk'] at h3;cases h3
   ext Ā;let#[j,q,r1,r2]:=Rl M é hsz h fuel (n+1) _ (Uh M h n kn hk) (λ q hq=>by
    rcases za8 q kn with w | w
    .show ho q w
    .have e:=hwalk (q-kn) ⋯;rw[show kn+(q-kn)=q by lia] at e;rw[e];show occ _ ⋯) #[n',⋯,⋯,h3]
   show#[j,q,r1,r2]
structure Lay ħ (hs:Â) Ü7 (m:Nat):Prop where
 size:Û9=M+1
 below:∀ (j k:Nat),Â1->k<m
 each:∀ Ý3,k<m->∃ (j:Nat),Â1
 once:∀ (i j k:Nat),é[i]?=↑↑k->Â1->i=j
 fS:∀ (j k:Nat) h,Â1->hs[k]?=↑h->∃ q,(way M h q).j=j/\ì8
theorem Lay.none ò3 Å0 {hs:Â}Ý5{m:Nat}ò4:è2:=by
 rcases è1 (è2) with q | q
 .show q
 .exfalso;have hall:∀ (e:Nat),e<=M->∃ (k:Nat),é[e]?=↑↑k:=λ e he=>by
   have hlt:e<Û9:=by rw[ã0];lia
   cases w:é[e] with
   | none=>show È6 #[e,he,by rw[zB8 hlt,w]] q
   | some k=>show#[k,by rw[zB8 hlt,w]]
  have:=T4 (xs:=(Ć Ŵ).map λ e=>((é[e]?).getD Ì2).getD 0) (ys:=Ć m) (by
   exact zaV.mpr (List.Pairwise.imp_of_mem ?_ zcD);intro a b ha hb hne e;exact hne ?_;let#[k,hk]:=hall a (by have:=zC1.mp ha;lia);let#[k',hk']:=hall b (by have:=zC1.mp hb;lia);rw[hk,hk'] at e;simp at e;subst e;show L.once a b k hk hk') (λ x hx=>by
   let#[e,he,rfl]:=zB0.mp hx;let#[k,hk]:=hall e (by have:=zC1.mp he;lia);rw[hk];show zC1.mpr (L.below e k hk))
  simp at this;lia
def bf Č{xs:ó α}{j i:Nat}{a b:α}(h:(xs.setIfInBounds j a)[i]?=↑b):(i=j/\b=a)\/(i≠j/\xs[i]?=↑b):=by
 rw[zc2] at h;by_cases e:j=i
 .subst e;rw[Ò5] at h;split at h
  .cases h;show ĥ ç6
  .cases h
 .rw[É e] at h;show ń #[λ q=>e q.symm,h]
def Lay.step ò3 Å0 {hs:Â}Ý5{m:Nat}{h:Int}ò4 (hh:hs[m]?=↑h):
  ∃ j,ō=↑j/\Lay M hs (Â2) (m+1):=by
 let#[e,e1,e2]:=L.none hM hm;let#[n',n1,n2]:=Sd M hM h e e1;let#[j,q,r1,r2,r3,r4]:=Rl M é ã0 h (turns M) 0 0 rfl (λ q hq=>⋯) #[n',⋯,by unfold turns;lia,by rw[n2];show e2];have hj:j<Û9:=(ŀ r3).1;have keep:∀ x,j8 é x->j8 (Â2) x:=λ x #[k,hk]=>by
  have hne:j≠x:=λ w=>by subst w;rw[r3] at hk;cases hk
  show#[k,by rw[zc2,É hne];show hk]
 have self:(Â2)[j]?=↑↑m:=by rw[zc2,Ò5,Î hj]
 exact#[j,r1,#[by simp[ã0],λ x k hx=>?_,λ k hk=>?_,λ x y k hx hy=>?_,λ x k g hx hg=>?_]]
 .rcases bf hx with ⟨_,w⟩ | ⟨_,w⟩
  .cases w;lia
  .have:=L.below x k w;lia
 .rcases za8 k m with w | w
  .let#[x,hx]:=L.each k w;have hne:j≠x:=λ w=>by subst w;rw[r3] at hx;cases hx
   show#[x,by rw[zc2,É hne];show hx]
  .have:k=m:=⋯;ext Ü2;show#[j,self]
 .rcases bf hx with ⟨w1,w⟩ | ⟨w1,w⟩ <;> rcases bf hy with ⟨v1,v⟩ | ⟨v1,v⟩
  .lia
  .cases w;have:=L.below y _ v;lia
  .cases v;have:=L.below x _ w;lia
  .show L.once x y k w v
 .rcases bf hx with ⟨w1,w⟩ | ⟨w1,w⟩
  .cases w;rw[hh] at hg;cases hg;subst w1;show#[q,r2,λ q' hq=>keep _ (r4 q' hq)]
  .let#[q,g1,g2]:=L.fS x k g w hg;show#[q,g1,λ q' hq=>keep _ (g2 q' hq)]
theorem Sh ò3 Å0 {hs:Â}(hl:Ä8<=M+1):∀ (rest:Â) Ü7 (m:Nat),m<=Ä8->hs.drop m=rest->Lay M hs é m->
  ∃ owner',rest.foldl (λ acc h=>do
   let (é,k) <- acc
   let j <- ō
   pure (owner.setIfInBounds j ↑k,k+1)) ↑(é,m)=↑(owner',Ä8)/\Lay M hs owner' Ä8
 | [],é,m,hl2,hd,L=>by
  have hm:Ä8<=m:=List.drop_eq_nil_iff.mp hd;have e:m=Ä8:=⋯;subst e;show#[é,rfl,L]
 | h::rest,é,m,hl2,hd,L=>by
  have hm:hs[m]?=↑h:=by
   have:=congrArg (λ l=>l[0]?) hd;exists this
  have hlt:m<Ä8:=(Ø6 hm).1;let#[j,j1,j2]:=L.step hM ⋯ hm;have hd':hs.drop (m+1)=rest:=by
   have:=congrArg List.tail hd;exists this
  let#[o',h1,h2]:=Sh hM hl rest _ (m+1) ⋯ hd' j2;exact#[o',?_,h2];rw[zaQ,<- h1];change _=_;congr 1;change ((ō).bind λ j=>↑(Â2,m+1))=_;rw[j1];rfl
theorem Gf ħ (hs:Â):Lay M hs (Array.replicate Ŵ Ì2) 0:=by
 have no:∀ (j k:Nat),(Array.replicate Ŵ (Ì2:À Nat))[j]?≠↑↑k:=λ j k h=>by
  rw[Array.getElem?_replicate] at h;split at h <;> cases h
 show#[#[],λ j k h=>È6 h (no j k),λ k hk=>⋯,λ i j k h=>È6 h (no i k),λ j k h e=>È6 e (no j k)]
theorem Gg ò3 Å0 Þ6:∃ é,layClean M hashes=↑ é/\Lay M hashes.toList é hashes.size:=by
 let#[o,h1,h2]:=Sh hM (hs:=hashes.toList) (by exists hl) hashes.toList _ 0 Ø1 #[] (Gf M _);exact#[o,?_,by exists h2];unfold layClean;rw[<- Array.foldl_toList,h1];rfl
def lives ħ Ü7:List (Nat×Nat):=(Ć Ŵ).filterMap λ j=>(æ1 j Ì2).map (j,·)
theorem getD_some Ý5{j k:Nat}:æ1 j Ì2=↑k↔ Â1:=by
 unfold Array.getD;split
 .rename_i h;rw[zB8 h];simp
 .rename_i h;rw[zaY ⋯];simp
theorem j_ ò3 Ý5(hs:Û9=M+1) {j k:Nat}:(j,k)∈lives M é ↔ Â1:=by
 unfold lives;rw[zc9];ext ä7
 .rintro⟨x,hx,e⟩;let#[y,e1,e2]:=Ű e;cases (e2);show getD_some.mp e1
 .intro h;have hj:=(ŀ h).1;show#[j,zC1.mpr ⋯,by rw[getD_some.mpr h];rfl]
def TX ħ Ü7:(lives M é).Pairwise λ a b=>a.1<b.1:=by
 unfold lives;rw[List.pairwise_filterMap];exact List.Pairwise.imp ?_ List.pairwise_lt_range;intro a b hab x hx y hy;let#[_,_,e1]:=Ű hx;let#[_,_,e2]:=Ű hy;subst e1 e2;show hab
def Si ò3 Å0 (finger moves:Nat) (led plain:Bool) Þ6:
  ∃ t order,laid M finger moves led plain hashes=↑(t,order)/\ð=M/\t.finger=finger/\t.led=led/\t.plain=plain/\order.toList.Perm (Ć hashes.size)/\Tab t (order.toList.map ð7):=by
 let#[é,h1,L]:=Gg hM hashes hl;exact#[_,_,by unfold laid;rw[h1];rfl,rfl,rfl,rfl,rfl,?_,?_]
 .change (Ĺ Ň).toArray.toList.Perm _;rw[zbP];exact (zcH ?_ zcD).mpr λ k=>?_
  .exact zaV.mpr (List.Pairwise.imp_of_mem ?_ (TX M é));intro a b ha hb hab e;have h2:=(j_ ã0 (j:=a.1) (k:=a.2)).mp ha;have h3:=(j_ ã0 (j:=b.1) (k:=b.2)).mp hb;have e:a.2=b.2:=e;rw[e] at h2;have:=L.once ŕ h2 h3;lia
  .rw[zC1];ext ä7
   .intro h;let#[#[j,k'],h2,rfl]:=zB0.mp h;show L.below j _ ((j_ ã0).mp h2)
   .intro h;let#[j,hj]:=L.each k h;show zB0.mpr #[(j,k),(j_ ã0).mpr hj,rfl]
 .have pl:∀ x,x∈ Ĺ Ē ↔j8 é x:=λ x=>by
   ext ä7
   .intro h;let#[#[j,k],h2,rfl]:=zB0.mp h;show#[k,(j_ ã0).mp h2]
   .rintro⟨k,hk⟩;show zB0.mpr #[(x,k),(j_ ã0).mpr hk,rfl]
  exact#[hM,rfl,?_,?_,?_,?_]
  .change (Ĺ Ē).toArray.size=((Ĺ Ň).toArray.toList.map _).length;simp
  .change lb Õ0;rw[zbP];show zaV.mpr (TX M é)
  .intro x hx;change x<=M;have hx:x∈ Õ0:=hx;rw[zbP] at hx;let#[k,hk]:=(pl x).mp hx;have:=(ŀ hk).1;rw[ã0] at this;lia
  .intro i g x hg hx;have hx:(Ĺ Ē).toArray[i]?=↑x:=hx;have hg:((Ĺ Ň).toArray.toList.map ð7)[i]?=↑g:=hg;rw[List.getElem?_toArray,zA3] at hx;rw[zbP,zA3,zA3] at hg;let#[p,p1,p2]:=Ű hx;rw[p1] at hg;simp![Option.map_some,Option.some.injEq] at hg;let#[j,k]:=p;cases p2;have hm:=(j_ ã0).mp (zB7 p1);have hk:=L.below È hm;let#[q,q1,q2]:=L.fS _ k g hm (by rw[<- hg];simp[hk]);exact#[q,q1,λ q' hq=>?_];change _∈ Õ0;rw[zbP];show (pl _).mpr (q2 q' hq)
section
variable {prog:Î7}{Ä9}{Ļ}{Ò2}{Ú3}
abbrev rk ū:HeapKind ĺ (Â):=tupleKind õ
def items_int {ks:Â}Ò0(h:ItemsAre õ ks vs):∀ v∈vs,∃ n t,v=ò n t:=by
 induction h with
 | nil=>intro v hv;cases hv
 | cons h1 _ ih=>
  intro v hv;rcases Á5 hv with rfl | hv
  .let#[t,e]:=Value.isInt_shape h1;show#[_,t,e]
  .show ih v hv
def T7 {ks:Â}Ė Î5(hk:ũ õ ľ ks a) (h:Q à s):İ Í (ofAClassStatement 8 (å0)) Þ3:=by
 ext É6;unfold ofAClassStatement;exact zcO (zd2 hT ?_);change İ È (pure true >>= _) È s;exact zcO É1;ext Ź;exact zcO (zd0 ho hd ?_);ext Ā;ext ù
 .ext è8;change İ È (pure à >>= _) ŕ;exact zcO É1;ext Ö7;show zD1 #[rfl,rfl,Ï0]
 ext Ę
def GY {ks:Â}Ė Î5(hk:ũ õ ľ ks a) (h:Q true s):İ Í (hashByValue 8 (å0)) Þ3:=by
 ext É6;unfold hashByValue;exact zcO (wpAny_specialOf hT F.slot_tuple_hash.lookup ?_);ext Ā;exact zcO (zd0 ho hd ?_);ext ù
 .ext è8;change İ È (pure true >>= _) ŕ;exact zcO É1;ext Ź;show zD1 #[rfl,rfl,Ï0]
 ext Ę
def Nx {ks:Â}{b:Addr}Î5(hk:ũ õ ľ ks b) (l:zLV) (hl:∀ v∈l,ð8) (h:Q à s):
  İ Í (searchCouldBeSeen (Ý b) l) Þ3:=by
 unfold searchCouldBeSeen;exact zcO ?_;exact wpAny_forIn_list _ (λ rest r s'=>r.1=none/\s'=s/\∀ v∈rest,ð8) _ ?_ ?_ È #[rfl,rfl,hl]
 .ext Ä5;let#[k,c,rfl,hc]:=hall v za1;have rest':∀ u∈rest,∃ k c,u=ł c/\ũ õ s'.heap k c:=Ï0;ext Ā;by_cases e:(b == c||(carriedByValue (Ý b)&&carriedByValue (Ý c)))=true
  .rw[Î e];show zD1 #[rfl,rfl,rest']
  .rw[É e];exact zcO ((rk ĺ).quiet hk ?_);ext Ź;exact zcO ((rk ĺ).quiet hc ?_);ext Ź;exact zcO (T7 hk ?_);ext Ö7;exact zcO (T7 hc ?_);ext Ö7;show zD1 #[rfl,rfl,rest']
 ext Ę
structure jH í1 (es:Ä1) (t:Ç0) (xs:Ó5):Prop where
 es:es.toList=Ī λ e=>Ð0
 is:∀ e∈xs,ũ õ h e.1 e.2
 tab:Tab t (Ã3)
 eX:í<=ð
theorem jH.fits Ÿ:t.fits Ñ8=true:=by
 have hl:Ñ8=í:=Ū
 have h1:=X.tab.len;rw[zA7] at h1;have h2:=X.eX;unfold SetTable.fits SetTable.fill;rw[X.tab.jq,hl,h1];simp;lia
def jH.at Ÿ Ê8{e:Â ×Addr}(he:xs[i]?=↑e):es[i]?=↑ Ð0:=by
 rw[<- zD3,X.es,zA3,he];rfl
theorem Ud Ė{o:Obj}ē{xs:Ó5}{key:Â}{b:Addr}{Q:SetFound->ö}
  (hu:ś<Œ) (ho:Ñ0 a=↑o) (hd:o.data=Ú0) (X:jH Å1 ľ es t xs) (hb:ũ õ ľ key b)
  (h1:key∈ Ī Ē->Q (.there none) s) (h2:key∉ Ī Ē->∀ j,W3 t Ŋ j->Q (.free j à) s):
  ∀ (fuel k:Nat) (stand:À Probe),stand.getD (t.probeStart Ŋ)=way ð Ŋ k->(∀ m<k,Â7)->(∃ K,k<=K/\K<k+fuel/\K<10*(ð+15)/\(way ð Ŋ K).j∉ Û/\∀ m<K,(way ð Ŋ m).j∈ Û)->
   İ Í (ã1 à3 stand) Þ3
 | 0,k,stand,_,_,#[K,q1,q2,_]=>⋯
 | fuel+1,k,stand,hst,hpast,#[K,q1,q2,q3,q4,q5]=>by
  have T:=X.tab;have hodd:t.gaveWay=à:=by
   unfold SetTable.gaveWay;rcases T.mask with e | e | e <;> rw[e] <;> rfl
  unfold ã1;ext ë4;rw[hodd];ext Ö7;have hA:∀ Ù g,(Ã3)[i]?=↑g->((es[i]?).map Ē).getD 0=g:=λ i g hg=>by
   ext ê7;rw[X.at e1];show e2
  let#[k1,g1,g2,g3]:=Rc T (hashAt:=λ i=>((es[i]?).map Ē).getD 0) hA Ŋ (10*turns ð) k #[K,q1,by unfold turns;lia,q4];rw[hst];have look:∀ Ù g,(Ã3)[i]?=↑g->∃ e,xs[i]?=↑e/\Á e.1=g:=λ i g hg=>by
   ext ê7;show#[e,e1,e2]
  have hpast':∀ m<k1,Â7:=λ m hm=>by
   rcases za8 m k with c | c
   .show hpast m c
   .let#[i,g,p1,p2,p3]:=g2 m c hm;let#[e,e1,e2]:=look i g p2;show#[i,e,p1,e1,λ q=>p3 (by rw[<- e2,q])]
  rcases g3 with ⟨n1,n2⟩ | ⟨i,n1,n2,n3⟩
  .have n2':t.probe _ Ŋ (way ð Ŋ k)=_:=n2;simp![SetTable.probe] at n2' ⊢
   erw [n2]
   ext Ā;exact zD1 (h2 (λ hm=>?_) _ #[n1,k1,rfl,λ m hm=>?_])
   .let#[e,he,ek]:=zB0.mp hm;let#[i,hi]:=zcI.mp he;have hh:(Ã3)[i]?=↑ Ŋ:=by rw[zA3,hi,<- ek];rfl
    have hil:i<Ä0:=by rw[T.len];show (Ø6 hh).1
    let#[kk,w1,w2]:=T.fS i È hh (zB8 hil);rcases zbA kk k1 with c | c | c
    .let#[i',e',p1,p2,p3]:=hpast' kk c;rw[w1] at p1;have:i=i':=by
      rw[<- below_at T.ot (zB8 hil),<- below_at T.ot p1]
     ext Ü2;rw[hi] at p2;cases p2;show p3 ek
    .subst c;rw[w1] at n1;show n1 #[]
    .show n1 (w2 k1 c)
   .let#[i',e',p1,_]:=hpast' m hm;show zB7 (by rw[zD3];show p1)
  .simp![SetTable.probe]
   erw [n3]
   ext Ā;let#[e,e1,e2]:=look i _ n2;have hes:=X.at e1;have hey:=X.is e (zB7 e1);have main:İ Í (holding [ł e.2] (eqBool (Ý e.2) (Ý b)) >>= λ equal=>setState a >>= λ x=>match x with
     | (es',_,t')=>if (true&&equal)=true then pure (SetFound.there none) else
      match t'.sameMemory t.moves ð with
      | some same=>
       have jp:=λ still=>match still with
        | none=>do
         rule "set.search.anew"
         ã1 à3 none
        | some i'=>if equal=true then pure (SetFound.there ↑i') else ã1 à3 ↑(way ð Ŋ (k1+1))
       match if same=true then t'.slot (way ð Ŋ k1).j else Slot.empty with
       | .live i'=>match es'[i']? with
        | some (_,y')=>do
         let r <- isSame y' (Ý e.2)
         let still <- pure (if r=true then ↑i' else none)
         jp still
        | none=>do
         let still <- pure none
         jp still
       | _=>do
        let still <- pure none
        jp still
      | _=>ð9 "set.changed-during-lookup:is-the-new-block-at-the-old-address") Þ3:=by
    exact zcO (zcV ((rk ĺ).eqBool hu hey hb ?_));ext ë4;by_cases hk:e.1=key
    .rw[zcS hk];simp![zbM,if_true];show zD1 (h1 (zB0.mpr #[e,zB7 e1,hk]))
    .rw[zcR hk];simp![zaU,zC4,Í1];have sm:t.sameMemory t.moves ð=↑true:=by unfold SetTable.sameMemory;simp
     rw[sm];ext Ā;rw[Ò5,T.live n1];ext Ā;rw[hes];ext Ā;exact zcO (wpAny_isSame_ref_self ?_);exact zcO É1;rw[Ò5];ext Ā;have hKk:k1<K:=by
      rcases zbA K k1 with c | c | c
      .let#[i',e',p1,_]:=hpast' K c;show È6 (zB7 (by rw[zD3];show p1)) q4
      .subst c;show È6 (zB7 (by rw[zD3];show n1)) q4
      .show c
     exact Ud hu ho hd X hb h1 h2 fuel (k1+1) _ rfl (λ m hm=>?_) #[K,⋯,⋯,q3,q4,q5];rcases za8 m k1 with c | c
     .show hpast' m c
     .have:m=k1:=⋯;ext Ü2;show#[i,e,n1,e1,hk]
   rw[hes];by_cases hl:t.led=true
   .rw[hl];ext Ź;show main
   .have hl':t.led=à:=by exists hl
    rw[hl'];simp![zB2,if_true];exact zcO (Nx hb _ (λ v hv=>?_) ?_)
    .let#[p,hp,rfl]:=zB0.mp hv;rw[Array.toList_filter,zC8,X.es] at hp;let#[#[e',he',rfl],_]:=(And.intro (zB0.mp hp.1) hp.2)
     show#[e'.1,e'.2,rfl,X.is e' he']
    .ext Ö7;show main
structure jy ū í1 (a:Addr) (xs:Ó5) (led:Bool):Prop where
 ex:∃ es ep t,į/\jH Å1 h es t xs/\t.led=led/\t.plain=true/\í*5<ð*3
 nd:ã2
def ZK {h h':Heap}{ks:Â}{b a:Addr}ē{c:ú}{d:À Addr}{sl:ó (À ú)}(x:ũ õ h ks b) (ho:h.get? a=↑{ cls:=c,dict:=d,data:=Ú0,slots:=sl }) (hs:Ù0 a h h'):ũ õ h' ks b:=by
 let#[o',items,n,ho',hc,hd',hi]:=x;have hne:b≠a:=by
  rintro rfl;obtain rfl:o'=_:=zD5 (ho'.symm.trans ho);cases hd'
 show#[o',items,n,(hs.2 b hne).trans ho',hc,hd',hi]
theorem bx Ü3 Ė{es es':Ä1}{ep:Nat}{t t':Ç0}(ho:į):(h.update a (Ü0 es' t')).get? a=↑{ cls:=œ,dict:=none,data:=.set es' (ep+1) t' }:=by
 have e:Ü0 es' t' { cls:=œ,dict:=none,data:=Ú0 }={ cls:=œ,dict:=none,data:=.set es' (ep+1) t' }:=putSet_of es' t' rfl;have:=zd4 (Ü0 es' t') ho (by rw[e];rfl);rw[e] at this;show this
theorem Yy Ú2(l:Ĳ) (f:α->β) (d:β):∀ (order:Ö4),(∀ k∈order,k<Û4)->order.map (λ k=>(l.map f).getD k d)=(order.filterMap λ k=>l[k]?).map f
 | [],_=>rfl
 | k::order,h=>by
  have hk:=h k za1;have ih:=Yy l f d order λ j hj=>h j (za2 _ hj);rw[zA6,zbE,zA1 hk];ext Ā;rw[zA6,ih];congr 1;simp[hk]
def Lu Ė ē{xs:Ó5}{led:Bool}{wanted M:Nat}{Q:Unit->ö}
  (ho:Ñ0 a=↑{ cls:=œ,dict:=none,data:=Ú0 }) (X:jH Å1 ľ es t xs) (hled:t.led=led) (hpl:t.plain=true) Å0 (hw:sizeAbove wanted=M+1) (hfew:í*5<M*3) (hnd:ã2)
  (h:∀ h' xs',Ù0 a ľ h'->jy ĺ h' a xs' led->xs'.Perm xs->Q Unit.unit { s with heap:=h' }):İ Í (setRelay a wanted) Þ3:=by
 have hlen:Ñ8=í:=Ū
 have hhs:(es.map Ē).toList=Ã3:=by rw[Array.toList_map,X.es,zD6];rfl
 have hsz:(es.map Ē).size=í:=by rw[zbK,hlen]
 let#[t',order,h1,h2,h3,h4,h5,h6,h7]:=Si hM t.finger (t.movedTo M) t.led t.plain (es.map Ē) (by rw[hsz];lia);rw[hsz] at h6;have hlt:∀ k∈order.toList,k<í:=λ k hk=>by exists h6.mem_iff.mp hk
 unfold setRelay;exact Í0;ext Ā;rw[É (by rw[hw];rcases hM with e | e | e <;> rw[e] <;> decide)];have hr:t.relaid (es.map Ē) wanted=↑(t',order):=by
  unfold SetTable.relaid;rw[hw,Nat.add_sub_cancel];show h1
 rw[hr];have hes':(Š).toList=(à9).map λ e=>Ð0:=by
  rw[Array.toList_filterMap,List.map_filterMap];congr 1;funext k;rw[<- zD3,X.es,zA3]
 have hperm:(à9).Perm xs:=(h6.filterMap _).trans (by rw[List.filterMap_getElem?_range_length]);have hsz':(Š).size=Ñ8:=by
  rw[<- zD2,hes',zA7,Ú1,hlen]
 exact zcO (m:=_) ?_;change İ È (do
  let ↑(t,order):=↑(t',order) | ð9 "internal:set-table-without-room"
  let es':=Š
  if es'.size != Ñ8 then ð9 "internal:set-table-lost-an-element"
  pure (es',t)) ŕ
 ext Ā;rw[É (by rw[hsz'];simp)];exact zD1 ?_;have hsl:(Š).size<=Ó:=by
  rw[hsz',hlen];have:Ó=16777216:=rfl;rcases hM with e | e | e <;> subst e <;> lia
 exact æ2;have sb:=Heap.SameBut.update ľ a (Ü0 (Š) t');exact h È sb #[#[_,ep+1,t',bx ho,#[hes',λ e he=>ZK (X.is e (hperm.mem_iff.mp he)) ho sb,?_,?_],by rw[h4];show hled,by rw[h5];show hpl,?_],ñ0 hnd] hperm
 .rw[<- Yy xs (λ e=>Á e.1) 0 order.toList hlt,<- hhs];show h7
 .rw[Ú1,h2];lia
 .rw[Ú1,h2];show hfew
theorem Ua Î3 ħ Å0 (h1:n*5<M*3) (h2:M*3<=(n+1)*5) (hn:n<70):∃ M',nB M'/\sizeAbove (grown (n+1))=M' + 1/\(n+1)*5<M'*3:=by
 rcases hM with e | e | e <;> subst e
 .have:n=4:=⋯;ext Ü2;show#[31,ń (ĥ rfl),zdK,⋯]
 .have:n=18:=⋯;ext Ü2;show#[127,ń (ń rfl),zdK,⋯]
 .lia
def B1 Ė{xs:Ó5}{key:Â}{b:Addr}{led:Bool}Î5(hu:ś<Œ) (S:jy ĺ ľ a xs led) (hb:ũ õ ľ key b) (hn:í<70)
  (h:∀ h' xs' r,Ù0 a ľ h'->jy ĺ h' a xs' led->(Å5)->Q r { s with heap:=h' }):
  İ Í (setAddHashed a (Ý b) Ŋ) Þ3:=by
 let#[Ñ9,hnd]:=S;have hlen:Ñ8=í:=Ū
 unfold setAddHashed setAddHashedIn;exact zcV (Í0);ext Ā;rw[É (by simp[byScan,Value.scannable])];let#[K,k1,k2,k3]:=X.tab.first (by rw[zA7];show X.eX) Ŋ;have hmk:ð<=127:=Ü1
 exact zcO ?_;unfold setSearch;exact Ud (key:=key) (b:=b) hu ho rfl X hb (λ hm=>?_) (λ hm j F=>?_) 100000 0 none rfl (λ m hm=>⋯) #[K,⋯,⋯,k1,k2,k3]
 .ext Ā;exact zD1 ?_;have:=h ľ xs à #[rfl,λ _ _=>rfl] #[Ñ9,hnd] (ĥ #[hm,rfl]);show this
 .ext Ā;exact Í0;ext Ā;let#[p1,p2,p3]:=X.tab.put F;rw[zA7] at p1;have hpt:(Ñ7).1.plain=true:=by rw[p2];show hpl
  have hmt:(Ñ7).1.mask=ð:=by rw[p2]
  have hlt:(Ñ7).1.led=led:=by rw[p2];show hled
  generalize hT:(Ñ7)=P at *;let#[t1,p]:=P;dsimp only at *;rw[hpt];simp![if_true];exact zcO (GY hb ?_);simp![if_true];let xs1:=Ù9++(key,b)::â9
  have hperm:xs1.Perm (xs++[(key,b)]):=by
   have e:Ù9++â9=xs:=zc1 p xs;have:xs1.Perm ((key,b)::(Ù9++â9)):=List.perm_middle;rw[e] at this;show this.trans (List.perm_append_singleton È).symm
  have hl1:xs1.length=í+1:=by rw[Ú1];simp
  have hes1:(ê).toList=xs1.map λ e=>Ð0:=by
   rw[toList_insertAt,X.es];simp[xs1,zc3,zaZ]
  have hsz1:(ê).size=í+1:=by rw[<- zD2,hes1,zA7,hl1]
  have hsl:(ê).size<=Ó:=by
   rw[hsz1];have:Ó=16777216:=rfl;lia
  exact zcO (æ2);have sb:=Heap.SameBut.update ľ a (Ü0 (ê) t1);have ho1:=bx (es':=ê) (t':=t1) ho;have hm7:7<=ð:=Ü1
  have X1:jH Å1 (s.heap.update a (Ü0 (ê) t1)) (ê) t1 xs1:=by
   exact#[hes1,λ e he=>?_,?_,by rw[hl1,hmt];lia]
   .rcases zB9.mp (hperm.mem_iff.mp he) with q | q
    .show ZK (X.is e q) ho sb
    .cases zB6.mp q;show ZK hb ho sb
   .have:xs1.map (λ e=>Á e.1)=(Ã3).take p++Á key::(Ã3).drop p:=by simp[xs1,zc3,zaZ]
    rw[this];show p3
  have hnd1:(xs1.map Ē).Nodup:=by
   exact ñ0 ?_;rw[zE7,List.nodup_append];exact#[hnd,#[],λ x hx y hy=>?_];simp at hy;subst hy;show λ e=>hm (e▸hx)
  by_cases hf:t1.tooFull=true
  .rw[hf];simp![zB2,zbM,if_true];have hfill:t1.fill=í+1:=by
    ext Ø0
   have hfull:ð*3<=(í+1)*5:=by
    have:=hf;ext Ê9
   let#[M',g1,g2,g3]:=Ua í ð X.tab.mask hfew hfull hn;rw[hlen];exact zcO (Lu (led:=led) ho1 X1 hlt hpt g1 g2 (by rw[hl1];show g3) hnd1 λ h' xs' sb' S' pm=>?_);exact zD1 ?_;show h h' xs' true (sb.trans sb') S' (ń #[hm,pm.trans hperm])
  .have hf':t1.tooFull=à:=by exists hf
   rw[hf'];simp![zB2,zaU,zC4,Í1];exact zD1 ?_;have hfill:t1.fill=í+1:=by
    ext Ø0
   have hfull:(í+1)*5<ð*3:=by
    have:=hf';ext Ê9
   show h _ xs1 true sb #[#[_,ep+1,t1,ho1,X1,hlt,hpt,by rw[hl1,hmt];show hfull],hnd1] (ń #[hm,hperm])
end
def ku Ú4:Bool:=! ü
def oq Ú4:Obj:={ cls:=œ,dict:=none,data:=.set ĩ 0 (.fresh 0 0 (ku w)) }
section
variable {prog:Î7}{Ä9}{Ļ}{Ò2}{Ú3}
set_option maxHeartbeats 3200000 in
def Ce (a:ú) ñ4(h:Q (Ý Æ) { s with heap:=ī }):
  codeAny Í (.call (Í2 "set.__new__") é8) (wants Q E) s:=by
 exact codeAny_of_tree ?_;change İ _ A.in1 (checkBuiltinCall "set.__new__" é8 >>= λ _=>again (Í2 "set.__new__" é8)) È s;exact zcO (wpAny_of_eq (F.newCall_set_1 a) (zD1 #[plainId_quiet F.plain_set_new _,ñ1 F.entry_set_new ?_]));rw[Around.under_plainId F.plain_set_new _];unfold Builtin.«set.__new__» Builtin.Frozenset.newClass newSet setsByText;have sub:=sub_set_self;let#[hp,g,d,tk,os]:=s;ext Ā
 wp_walk
 exact zdA É1;ext Ā;simp![newObj];show zcO (wpAny_alloc (zD1 (zD1 h)))
def MM Ü3 Ė(ho:h.get? a=↑(oq w)):jy ĺ h a [] (ku w):=
 #[#[ĩ,0,_,ho,#[rfl,λ e he=>(by cases he),#[ĥ rfl,rfl,rfl,Û3,λ j hj=>(by cases hj),λ i g j hg=>(by cases hg)],#[]],rfl,rfl,by change 0*5<7*3;lia],Û3]
end
end ST
namespace ST
open è9 PySem.SetTable Ť
section
variable {κ β:Type}[DecidableEq κ]{val:κ->β->ú}{its:zAV}{ks:List κ}{Ê8}{xs xs':Õ6}
structure Up ë6 Ù (xs:Õ6):Prop where
 own:∀ e∈xs,∃ j,j<i/\its[j]?=↑(val e.1 e.2)/\ks[j]?=↑e.1
 all:∀ (j:Nat) r,j<i->ks[j]?=↑r->r∈ Ī Ē
theorem YA:∀ (l m:List κ),l.Nodup->(∀ x∈l,x∈m)->Û4<=m.length
 | [],m,_,_=>zD4 _
 | x::l,m,hn,hs=>by
  have h1:=zaC.mp hn;have hx:=hs x za1;have:=YA l (m.erase x) h1.2 λ z hz=>(List.mem_erase_of_ne (λ e:z=x=>h1.1 (by rw[<- e];show hz))).mpr (hs z (za2 _ hz));rw[List.length_erase_of_mem hx] at this;have:=List.length_pos_of_mem hx;simp![zC0];lia
def Up.len (U:ñ2) (nd:ã2):í<=i:=by
 have:=YA (Ī λ e=>↑e.1) ((Ć i).map λ j=>ks[j]?) (by
  have:(Ī λ e=>↑e.1)=(Ī Ē).map some:=by rw[zD6];rfl
  rw[this];show List.Pairwise.map _ (λ a b h e=>h (zD5 e)) nd) λ x hx=>by
  let#[e,he,rfl]:=zB0.mp hx;let#[j,h1,_,h3]:=U.own e he;show zB0.mpr #[j,zC1.mpr h1,h3]
 exists this
def Up.step {key:κ}{b:β}(U:ñ2) (hi:its[i]?=↑(val key b)) (hr:ks[i]?=↑key)
  (h:Å5):Up Å2 á5 xs':=by
 have eqi:∀ j:Nat,j<i+1->¬ j<i->j=i:=λ j a b=>⋯;rcases h with ⟨hm,rfl⟩ | ⟨_,hp⟩
 .exact ä4
  .let#[j,h1,h2]:=U.own e he;show#[j,zaR h1,h2]
  .by_cases q:j<i
   .show U.all j r q hrj
   .rw[eqi j hj q,hr] at hrj;cases hrj;show hm
 .exact ä4
  .rcases zB9.mp (hp.mem_iff.mp he) with q | q
   .let#[j,h1,h2]:=U.own e q;show#[j,zaR h1,h2]
   .cases zB6.mp q;show#[i,zE2 i,hi,hr]
  .rw[(hp.map Ē).mem_iff,zE7];by_cases q:j<i
   .show zaO _ (U.all j r q hrj)
   .rw[eqi j hj q,hr] at hrj;cases hrj;show zB4 _ za1
structure Kd ū (A:Around) ë6 (Sa:Addr) (wr:List Addr) (Se:ñ3) (Tp:Heap->Prop):Prop where
 nd:∀ {h xs},Se h xs->ã2
 keep:∀ {h h' xs i},(∀ b o,b∉wr->Ñ1->Á4)->ñ2->Se h xs->Se h' xs
 af:∀ {h h'},(∀ b o,b∉Sa::wr->Ñ1->Á4)->Tp h->Tp h'
 add:∀ Ú3{xs:Õ6}Ê8{v:ú}Î5 Ò2,Tp ľ->Se ľ xs->í<70->Í3->
  (∀ h' tk xs' rr k b,v=val k b->ks[i]?=↑k->Ù0 Sa ľ h'->s.toks<=tk->Se h' xs'->(k∈ Ī Ē/\xs'=xs\/k∉ Ī Ē/\xs'.Perm (xs++[(k,b)]))->Q rr { s with heap:=h',toks:=tk })->
  İ Í (setAdd Sa v) Þ3
variable {prog:Î7}{Ä9}{Ļ}{R:Result->ö}{I:Addr}{fp wr:List Addr}{G:ó GenState->ó GenState->Prop}{Ó9}{P:Nat->ú->Prop}{St:Nat->ö}{Sa:Addr}{Se:ñ3}{Tp:Heap->Prop}
def TR (W:WalksS ĺ A.in1 I fp wr G n (λ i v=>P i v) St) (D:Kd ĺ A.in1 Å2 Sa wr Se Tp) (hSf:Sa∉fp) (hP:∀ i v,P i v->Í3) (hn:n<70):
  ∀ (k i:Nat) (s:Á3) (xs:Õ6),n-i=k->i<=n->St i s->Se ľ xs->Tp ľ->ñ2->
   (∀ s' xs',Moved (Sa::wr) G s s'->Se s'.heap xs'->Up Å2 n xs'->R (.ok (.ret .none)) s')->
   codeAny Í (Í2 "set.update.loop" #[[Ý Sa,Ý I],[]]) R s:=by
 have more:∀ b∈wr,b∈Sa::wr:=λ b hb=>za2 _ hb;intro k
 induction k with
 | zero=>
  intro i s xs hk hi hst hS hT hU hR;have e:i=n:=⋯;subst e;ext Ğ;show zcO (W.done s È hst λ s' hm=>zD1 (hR s' xs (hm.mono more) (D.keep hm.heap hU hS) hU))
 | succ k ih=>
  intro i s xs hk hi hst hS hT hU hR;have hlt:i<n:=⋯;ext Ğ;exact zcO (W.item i s È hlt hst λ v s1 hPv hst1 hm=>?_);have hv:=hP i v hPv;have T1:=D.af (λ b o hb e=>hm.heap b o (λ z=>hb (more _ z)) e) hT;have hl:í<70:=by have:=hU.len (D.nd hS);lia
  change İ _ A.in1 (holding [v] (setAdd Sa v) >>= _) È s1;exact zcO (zcV (D.add T1 (D.keep hm.heap hU hS) hl hv λ h' tk xs' rr key b ev hr sb ht S' hx=>?_));subst ev;have fr:=W.frame á5 s1 h' tk hst1 ht λ c hc o e=>(sb.2 c (λ z:c=Sa=>hSf (z▸hc))).trans e;exact zD1 #[plainId_quiet F.plain_set_update_loop _,ih á5 _ xs' ⋯ hlt fr S' (D.af (λ c o hc e=>ß1) T1) (hU.step hv hr hx) λ s2 xs2 hm2 S2 U2=>?_];exact hR s2 xs2 (Moved.trans W.gtrans ((hm.mono more).then_heap ht λ c o hc e=>?_) hm2) S2 U2;show ß1
end
section
variable {prog:Î7}{Ä9}{Ļ}{its:zAV}{Ì4}{Sa:Addr}{wr:List Addr}
def fg ū í1 (its:zAV) Ð2:Prop:=∀ Ù v,Í3->∃ b r,v=Ý b/\rows[i]?=↑r/\ũ õ h r b
def fg.at {h h':Heap}(T:fg ĺ h its rows) (k:∀ Ù b,its[i]?=↑(Ý b)->∀ o,Ñ1->Á4):fg ĺ h' its rows:=λ i v hv=>by
 let#[b,r,rfl,h1,o,items,m,h2,h3]:=T i v hv;show#[b,r,rfl,h1,o,items,m,k i b hv o h2,h3]
abbrev Vv:Â->Addr->ú:=λ _ b=>Ý b
def Gz {led:Bool}(hSw:Sa∉wr) (hu:ś<Œ) (hoff:∀ Ù b,its[i]?=↑(Ý b)->b∉Sa::wr):Kd ĺ A Vv its rows Sa wr (λ h xs=>jy ĺ h Sa xs led) (λ h=>fg ĺ h its rows) where
 nd:=λ S=>S.nd
 keep:=λ{h h' xs i} k U S=>by
  let#[#[es,ep,t,ho,X,r],nd]:=S;exact#[#[es,ep,t,k Sa _ hSw ho,#[X.es,λ e he=>?_,X.tab,X.eX],r],nd];let#[o,items,m,g1,g2]:=X.is e he;let#[j,_,h2,_]:=U.own e he;show#[o,items,m,k È (λ z=>hoff j e.2 h2 (za2 _ z)) g1,g2]
 af:=λ k T=>T.at λ i b hi o e=>k b o (hoff i b hi) e
 add:=λ{s xs i v Q E} T S hl hv hQ=>by
  let#[b,r,rfl,hr,hb]:=T i v hv;unfold setAdd;exact zcV (zcO ((rk ĺ).pyHash (k:=r) (a:=b) (A:=A) hu hb ?_));show B1 (s:={ s with toks:=s.toks+(rk ĺ).draws r }) (A:=A) hu S hb hl λ h' xs' rr sb S' hx=>hQ h' _ xs' rr r b rfl hr sb (zb0 È) S' hx
end
section
variable {prog:Î7}{Ä9}{Ļ}{Ò2}{Ú3}
set_option maxHeartbeats 6400000 in
def Q7 {κ β:Type} [DecidableEq κ] {val:κ->β->ú}{ks:List κ}{Se:ñ3}{Tp:Heap->Prop}{l:Addr}{its:zAV}ñ4(hh:A.handled=none) Ï4 (hn:ì9<70)
  (D:Kd ĺ A.in1.in1.in1 Å2 Æ [Æ+1] Se Tp) (hS0:∀ h,h.get? Æ=↑(oq w)->Se h []) (hT0:∀ h,(∀ b o,ć->Ñ1)->Tp h)
  (h:∀ (h':Heap) (tk:Nat) xs,Se h' xs->Up Å2 ì9 xs->Å3):
  í0:=by
 let#[c,tl,hmro]:=F.called_set.mro;have made:=F.called_set.made;have subm:=F.called_set.sub;exact wpAny_call (codeAny_of_tree ?_);change İ È (callAny (œ) _) ŕ;exact zD1 #[Code.quiet_builtin _ (zdK),ñ1 F.entry_type_call ?_];rw[Around.under_plain (weight_type_call_type "set" [Ý l] []) rfl];have nt:=F.called_set.notType;have cc:=F.called_set.canCreate;have tc:=F.typeCall_set_1 (Ý l)
 ext Á2
 exact codeAny_mono (Ce (Ý l) (E:=E) (Q:=λ obj s₁=>obj=Ý Æ/\s₁={ s with heap:=ī }) ç6) λ r s₁ hr=>?_;cases r with
 | error e=>show hr
 | ok fl=>
  cases fl with
  | ret obj=>
   let#[rfl,rfl]:=hr;have hS:(ī).get? Æ=↑(oq w):=zA9 _ rfl;have hTy:Shared.TypeIs { s with heap:=ī } (Ý Æ) "set":=#[_,hS,rfl];have li:=F.called_set.init.lookup;have bi:=F.called_set.init.bind (Ý Æ)
   ext Á2
   let s1:Á3:={ s with heap:=ī }
   exact codeAny_mono (codeAny_call_builtin (R:=wants (λ r s₂=>r=.none/\∃ h' tk xs,s₂={ s with heap:=h',toks:=tk }/\Se h' xs/\Up Å2 ì9 xs/\
     ∀ b o,b<Æ->ć->Á4) E) F.called_set.init.plain F.entry_set_init (check_set_init_1 hTy ?_)) λ r₂ s₂ hr₂=>?_
   .have hsz:ß2=Æ+1:=Heap.size_push È;have szne:Æ ≠ ß2:=by rw[hsz];show zB3 (zE2 _)
    have low:∀ b:Addr,b<Æ->b≠ ß2:=λ b hb=>by rw[hsz];show zB3 (zaR hb)
    rw[<- hsz] at D;rcases hl with hl | hl
    all_goals
     let#[#[ocls,odict,odata,oslots],hol,hcl,nl,hdl]:=id hl;simp only at hcl hdl;subst hcl hdl;have hol1:=zcP (oq w) hol;have sls:=F.sub_list_set;have slf:=F.sub_list_frozenset;have sts:=F.sub_tuple_set;have stf:=F.sub_tuple_frozenset;have nd:(Û6 "list" == Û6 "dict")=à:=()
     have nd':(Û6 "tuple" == Û6 "dict")=à:=()
     have hlS:l<Æ:=zA8 hol;have hneI:l≠ ß2:=low l hlS;have hl1:=hl.push (oq w);unfold Builtin.«set.__init__» noKeywords Builtin.Frozenset.updateFrom;generalize hPI:pyIter=PI;unfold oq at *
     wp_walk
     subst hPI
     first | exact zd9 hl1 (zcO (wpAny_runValue ?_)) | exact zdD hl1 (zcO (wpAny_runValue ?_))
     first
      | exact TR (A:=A.in1.in1) (P:=λ i v=>Í3) ((Walks.list Ô5).toS) Ó7
      | exact TR (A:=A.in1.in1) (P:=λ i v=>Í3) ((Walks.tuple Ô5).toS) Ó7
     .intro hm;rcases Á5 hm with q | q
      .show szne q
      .show zaF hlS (zB6.mp q)
     .show hS0 _ (zcP _ hS)
     .show hT0 _ λ b o e=>zcP _ (zcP _ e)
     .intro s' xs' hm S' U';let#[h',g',d',tk',os']:=s';obtain rfl:g'=s.gens:=hm.gens;obtain rfl:d'=s.drawn:=hm.drawn;obtain rfl:os'=s.os:=hm.os;exact zD1 (zD1 #[rfl,h',tk',xs',rfl,S',U',λ b o hb e=>?_]);exact hm.heap b o (λ q=>?_) (zcP _ (zcP _ e));rcases Á5 q with q | q
      .show zB3 hb q
      .show low b hb (zB6.mp q)
   .cases r₂ with
    | error e=>show hr₂
    | ok fl₂=>
     cases fl₂ with
     | ret r=>
      let#[rfl,h',tk,xs,rfl,g1,g2,g3]:=hr₂
      ext Á2
      show h h' tk xs g1 g2 g3
     | _=>show hr₂.elim
  | _=>show hr.elim
def C6 {l:Addr}{its:zAV}Ì4 ñ4(hh:A.handled=none) (hu:ś+64<Œ) Ï4 (hT:fg ĺ ľ its rows) (hn:ì9<70)
  (h:∀ (h':Heap) (tk:Nat) xs,jy ĺ h' Æ xs (ku w)->Up Vv its rows ì9 xs->Å3):
  í0:=by
 exact Q7 hh hl hn (Gz #[] (show ś+1+1+1<Œ by lia) λ i b hb hm=>?_) (λ h e=>MM e) (λ h k=>hT.at λ i b _ o e=>k b o e) h;let#[b',r,e,_,o,_,_,ho,_]:=hT i _ hb;cases e;have:=zA8 ho;rcases Á5 hm with q | q
 .show zB3 this q
 .show zB3 (zaR this) (zB6.mp q)
end
end ST
namespace ST
open è9 PySem.SetTable
section facts
def Te:Manifest.owners.lookup (String.ofList ['r','o','t','a','r','e','t','i','_','t','e','s'].reverse)=↑Manifest.sig_set_iterator:=by kernel_rfl
def h_:Slot "set_iterator" "__next__" "set_iterator.__next__":=
 .of (é:="set_iterator") (n:="__next__") Đ
def RE:entryFor table "set_iterator.__next__"=↑Builtin.«set_iterator.__next__»:=entryFor_of_tree Ç1
theorem Po (a:ú):argsOk "set_iterator.__next__" #[[a],[]]:=by
 unfold argsOk;rw[signature?_of (id:="set_iterator.__next__") (n:=['_','_','t','x','e','n','_','_']) ŭ]
 kernel_rfl
def Dx:entryFor table "set.__iter__"=↑Builtin.«frozenset.__iter__»:=entryFor_alias (id':="frozenset.__iter__") Ç1 rfl (zdK) Ç1
def V_:Slot "set_iterator" "__iter__" "set_iterator.__iter__":=
 .of (é:="set_iterator") (n:="__iter__") Đ
def Dw:entryFor table "set_iterator.__iter__"=↑Builtin.«dict_keyiterator.__iter__»:=entryFor_alias (id':="dict_keyiterator.__iter__") Ç1 rfl (zdK) Ç1
theorem Bk (a:ú):argsOk "set_iterator.__iter__" #[[a],[]]:=by
 unfold argsOk;rw[signature?_of (id:="set_iterator.__iter__") (n:=['_','_','r','e','t','i','_','_']) ŭ]
 kernel_rfl
end facts
theorem R7 Č:∀ (l:Ĳ) Ù (x:α),l[i]?=↑x->l.Perm (x::l.eraseIdx i)
 | [],i,x,h=>by simp at h
 | y::l,0,x,h=>by simp at h;subst h;simp
 | y::l,i+1,x,h=>by
  have ih:=R7 l i x (á4);rw[List.eraseIdx_cons_succ];show (ih.cons y).trans (.swap x y _)
theorem UP Č(next:Nat->Nat):∀ (f k:Nat) (left:Ĳ) (out:ó α),left.length=f->(pickOrder.go next f k left out).toList.Perm (out.toList++left)
 | 0,k,left,out,h=>by
  cases left with
  | nil=>unfold pickOrder.go;simp
  | cons _ _=>simp at h
 | f+1,k,left,out,h=>by
  unfold pickOrder.go;have hlt:next k%left.length<left.length:=zbN _ ⋯;rw[zA1 hlt];ext Ā;exact (UP next f (k+1) È (by rw[List.length_eraseIdx_of_lt hlt];lia)).trans ?_;rw[Array.toList_push,zE8];show (R7 left È (zA1 hlt)).symm.append_left _
theorem Kp Č(next:Nat->Nat) (xs:ó α):(pickOrder next xs).toList.Perm xs.toList:=by
 unfold pickOrder;exists UP next Á1 0 xs.toList ĩ #[]
def comes Ú4 Õ8:Ä1:=if ü=true then pickOrder (w.params.setOrder a ep) es else es
def dB Ú4 Õ8:(comes w a es ep).toList.Perm es.toList:=by
 unfold comes;split
 .show Kp È
 .show .refl _
def ja (a:Addr) (slot i n ep:Nat):Obj:={ cls:=.type "set_iterator",data:=.fields [rawInt slot,rawInt i,å0,rawInt n,rawInt ep].toArray }
def slotAt (t:Ç0):Nat->Nat
 | 0=>0
 | i+1=>Ô3+1
theorem Bb {t:Ç0}(hr:lb Û):∀ i,i<=Ä0->below Ĉ (slotAt t i)=i
 | 0,_=>by
  let#[h1,h2,h3]:=aN (xs:=Ĉ) (j:=0) hr;rcases Nat.eq_zero_or_pos (below Ĉ 0) with q | q
  .show q
  .have:=h2 0 ⋯ q;lia
 | i+1,hi=>by
  have hd:Ô3=Ĉ[i]:=Xl ⋯;change below Ĉ (Ô3+1)=i+1;rw[hd];let#[h1,h2,h3]:=aN (xs:=Ĉ) (j:=Ĉ[i] + 1) hr;have ot:∀ a b (ha:a<Ä0) (hb:b<Ä0),a<b->Ĉ[a]<Ĉ[b]:=λ a b ha hb hab=>by
   have r:=zbL.mp hr a b (by exists ha) (by exists hb) hab;rw[zaX,zaX] at r;show r
  rcases zbA (below Ĉ (Ĉ[i] + 1)) á5 with q | q | q
  .have:=h3 i ë;lia
  .show q
  .have a:=h2 á5 ⋯ q;have b:=ot i á5 ë ⋯;lia
structure oB Ú4 í1 Õ8 (t:Ç0):Prop where
 get:į
 fits:t.fits Ñ8=true
 ot:lb Û
 led:t.led=ku w
 plain:t.plain=true
theorem oB.size Ä9 Ü3 Ė ē(S:oB w h a es ep t):Ä0=Ñ8:=by
 have:=S.fits;simp![SetTable.fits,zE5,beq_iff_eq] at this;show this.1
section
variable {prog:Î7}{Ä9}{Ļ}{Ò2}{Ú3}
def T9 Ė ē Ê8{Q:À (ú ×Nat)->ö}(S:oB w ľ a es ep t) (hi:i<=Ñ8) (slot:Nat) (hs:ü=à->slot=slotAt t i)
  (h:∀ slot',(ü=à->slot'=slotAt t á5)->Q ((comes w a es ep)[i]?.map λ e=>(e.2,slot')) s):İ Í (setNext a slot i ep) Þ3:=by
 unfold setNext setsByText;exact é9;ext Ā;exact zcO (zcO (zdA É1));change İ _ A (if ü=true then _ else _) Þ3;cases hb:ü with
 | true=>
  rw[Ò5,É #[]];unfold setWalk setsByText;exact zcO (é9);ext Ā;exact zcO (zcO (zdA É1));change İ _ A (if ü=true then _ else _) _ E s;rw[Î hb];exact zcO (zdA É1);exact zD1 ?_;have:=h slot (λ q=>by rw[hb] at q;cases q);unfold comes at this;rw[Î hb] at this;show this
 | à=>
  rw[É #[]];split
  .rename_i hd;have hd':(!t.plain&&Á6 (Ñ8>1))=true:=hd;rw[S.plain] at hd';simp at hd'
  .change İ _ A ((if (!t.led&&!es.isEmpty)=true then ð9 "set:maker-not-led" else pure Unit.unit) >>= _) Þ3;have hl:t.led=true:=by rw[S.led];unfold ku;rw[hb];rfl
   rw[É (by rw[hl];simp)];exact zcO (zD1 É1);have hsl:=hs hb;have hz:=S.size;rw[hsl,Bb S.ot i (by rw[hz];show hi)];have:=h (slotAt t á5) (λ _=>rfl);unfold comes at this;rw[É (by rw[hb];simp)] at this;rcases za8 i Ñ8 with q | q
   .have hp:i<Ä0:=by rw[hz];show q
    rw[zB8 q] at this;rw[zB8 q,zB8 hp];have e:slotAt t á5=Ĉ[i] + 1:=by change Ô3+1=_;rw[Xl hp]
    rw[e] at this;show this
   .rw[zaY q] at this;rw[zaY q];show this
def ic {a I:Addr}{slot i n ep:Nat}(ho:Ñ0 I=↑(ja a slot i n ep)):s.TypeIs (Ý I) "set_iterator":=#[_,ho,rfl]
)
example:=`(
example å1:=backTo
example Î:=X.env
example Ð5:=(keywordEach [] Î)
example ä:=(backToKw cpos Ð5).all (λ x=>x.1.isSome)
example Â5:=([]:List Keyword).length
example æ7:=(λ x=>!x.1)
example ą:=(if ([]:List Keyword).isEmpty then 0 else 1)
example Ŏ:=decide
example ē:=starEach
example Æ4:=((å1 cpos (ē [e] Î)).all æ7&&ä && Ŏ ([e].length+Â5+ą<30))=true
example Ï2:=zEE X e []
example ñ3:=(apos.endLine == cpos.line)=true
example ĥ(hline:ñ3):=0
example À(hfew:Æ4) ĥ (hs:Ï2) (hplain:zEB X cpos []):=0
example Á:=s.heap.objs.size
example ė:=(e::es)
example è:=eval o Î
example É0 _:=x Î (è)
example Č:=attributeBase
example Â(hbase:Č o name É0=è) (hfew:((å1 cpos (ē ė Î)).all æ7&&ä && Ŏ ((e::es).length+Â5+ą<30))=true) ĥ (hs:zEE X e es) (hplain:zEB X cpos es):=0
example Ã:=PyProof.Rows
example Õ:=false
example ã:=.str
example ŉ:=Expr.Constant (ã y) j1 p1
example Ň:=.Constant (ã z) j2 p2
example ń:=.Constant (ã y) j1 p1
example Ô3:=(Õ,eval (ń) Î)
example Ä(hyz:(y == z)=Õ) (hz:z.length<=14) (hbase:Č o "replace" É0=è) (hfew:((å1 cpos (ē [ŉ,Ň] Î)).all æ7&&ä && Ŏ ([ŉ,Ň].length+Â5+ą<30))=true) ĥ (hs:ē [ŉ,Ň] Î=[Ô3,(Õ,eval (Ň) Î)]):=0
example Å:=.ref
example â8 _:=x prog w
example Å1:=intKind â8
example Æ:=(Å1).hash
example ì7 _:=x o "startswith"
example Ç(hbase:Č ì7 É0=è) (hfew:((å1 cpos (ē [ŉ] Î)).all æ7&&ä && Ŏ ([ŉ].length+Â5+ą<30))=true) ĥ (hs:ē [ŉ] Î=[Ô3]):=0
example È:=PySem.Spec
example Ì7(i:Nat):=0
example Þ:=(x == ("__debug__":Str))=Õ
example É2(hd:Þ:=by decide) (hcd:(x == ("__classdict__":Str))=Õ:=by decide):=0
example Ì8{x:Str}:=0
example É Ì7 Ì8(hN:X.N[i]?=↑x:=by rfl) (hv:i8 X.env.scope x:=by first | show Or.inl rfl | show Or.inr (Or.inl rfl) | show Or.inr (Or.inr rfl)) É2:=0
example Ê:=Option
example Ë:=List Str
example é4:=.none
example È5:=Str.ofString "__next__"
example ø3:=(Å z)
example Œ:=(zD1 ?_)
example ç0 _:=x rfl ?_
example Ì:=by exact zcO (wpAny_attempt (zd1 (name:=È5) hT F.slot_zip_next (zcW F.slot_zip_next hT F.entry_zip_next ?_ (F.args_zip_next_1 _))));exact zcO (m:=field ø3 2) (zcT hz rfl (x:=.bool Õ) ç0);exact zcO (m:=field ø3 3) (zcT hz rfl (x:=Å TI) ç0);exact zcO (m:=seqItems? (Å TI)) (zd0 hti ç0);exact zcO (m:=Builtin.SmallTypes.ownedTupleIsFree ø3) (zcO (m:=field ø3 0) (zcT hz rfl (x:=é4) rfl Œ));simp![if_true]
example Í:=by let#[L,S,r1,r2,z]:=hu
example Ï _:=x (model â8) A
example Ô _:=x _ _
example Ó9:=λ t' k=>#[ã _,H,I.tok k,#[t',rfl],q]
example Ð _:=x (st:=none) #[o,h1,h2,h3] rfl (post_val_or_str #[zE0 (Txt.slice_le z Ô) hz,Ó9])
example Å0:=Value.ref
example ť:=if_neg
example ć:=.int
example Ü8:=by dsimp only
example Ñ:=by let#[ol,g1,_,n,g2]:=hl;exact zcO (zd1 (name:=È5) ht F.slot_tuple_iterator_next (zcW F.slot_tuple_iterator_next ht F.entry_tuple_iterator_next ?_ (F.args_tuple_iterator_next_1 _)));exact zcO (m:=field (Å it) 0) (zcT e1 e3 (x:=Å l) ç0);ext Ü8;rw[ť (show ¬ ((Å0 l == Value.none)=true) from za6)];exact zcO (m:=field (Å it) 1) (zcT e1 e3 (x:=ć i 0) ç0)
example Ù3{w:World}:=0
example ö6:=Program
example Ò{prog:ö6}Ù3:=0
example ã1:=by simp![zj]
example Ó:=(by ext ã1)
example Ö:=(upd H l (.ext (ST.xO w l us)))
example ĕ:=Builtin.SmallTypes.nextOf
example ø2:=IsPair
example è5:=wpAny_onRaise
example ŀ:=Ne.symm
example ø6:=e1.extBut
example Å7 _:=x (s1.on λ o q=>ø6 Ô (ŀ n3) q) (h1.on λ o q=>ø6 Ô a1 q) hx
example Ø:=by exact zcO (zcO (è5 (zcO (m:=ĕ (Å i1)) (draw Å7 λ g2 s12 e2=>zD1 ?_))));have to2:ø2 g2 TO a b:=e2.extBut Ô n8 (ø6 Ô (ŀ n2) hto);exact zcO (zd0 to2 rfl (zcO (wpAny_updateSeq_pair to2 λ g3 to3 e3=>zcO (wpAny_letGo Œ))))
example Ù:=List.replicate
example Ú:=s.heap.push
example á:=.Attribute
example ŭ _:=x [] cpos
example Û _:=x (á ì7 apos) [ń] ŭ
example Ü:=sizeLine
example â5:=or_false
example Ý:=by simp![zaC,zA5,za5,â5,not_or,List.nodup_nil,and_true,not_false_eq_true] at nd f1 f2;let#[#[n1,n2,n3,n4],#[n5,n6,n7],#[n8,n9],n10]:=nd;let#[a1,a2,a3,a4,a5]:=f1;let#[b1,b2,b3,b4,b5]:=f2;let#[hz,hti,#[a,b,hto],s1,s2]:=S;have hT:s.TypeIs ø3 "zip":=#[_,hz,rfl]
example ß:=xs.length
example ď:=Shared
example Ñ9:=Around
example ô:=Value
example à(f:Addr) (cdv:ô) (A:Ñ9) (outer:List Env) (s:ď) (H:Hp) (E:XK):=0
example â:=s.heap.get?
example å:=[z,TI,TO,i1,i2]
example æ _:=x P w K mg base
example ç:=List Int
example é:=by rw[yx (oy q h (by intro z;cases z))];show q
example á2{t:SetTable}:=0
example Í4{es:Array (Int× ô)}:=0
example ê Í4{ep:Nat}á2:=0
example æ8:=mainGlobals
example ë(X:K.In h) (G:h.Ns æ8 mg):=0
example Ð0:=typeIs_str Ô _
example ì _:=x F.slot_str_split (Ð0) F.entry_str_split
example À9:=Value.int
example í:=insertAt es p (Æ n,À9 n tk)
example î(ha:PD X a ta) (hb:PD X b tb):=0
example ï:=by intro X hP hw hK hc i gV s σ H E I hf st hg;subst hP hw hK
example Ű _:=x hbase hfew hline
example ð _:=x Ű hs hplain
example ğ:=.lst
example ţ:=(e1.trans e2).trans
example è1:=zt.ext
example ñ:=by exact#[p,q,xs',ys',rfl,rfl,g3,g5,by rw[<- g4.length,<- g6.length];show b3,?_];have e4:Ext H2 (upd H2 p (ğ (xs'++ys'))):=ğ g3 _;show b4 Ô Ó (ţ e4) (p2.ups e4 #[_,yO,è1 e4 _ (g4.append g6)])
example ò:=s.heap
example ó:=PySem
example õ:=[].toArray
example ö:=(·.1)
example ø{es:List Expr}:=0
example ù:=by exact zcO (wpAny_attempt (zd1 (name:=È5) (ic ho) h_ (zcW h_ (ic ho) RE ?_ (Po _))));exact zcO Œ;ext Ü8;exact zcO (wpAny_fieldsOf ho ç0);dsimp only[rawInt];exact zcO (zcO (zcZ S.get rfl S.fits Œ))
example æ6:=s1.trans s2
example ú:=(æ6).trans
example û{X:Cx}:=0
example Ń:=.type
example ü:=Ń "tuple"
example é6:=Ê Addr
example õ3(l:Addr):=0
example Û1:=Array (Ê ô)
example Ý5(n:Nat):=0
example î3:=items
example ý(t:Tok) õ3 (î3:zAV) Ý5 (dd:é6) (sl:Û1):=0
example þ(he:zEE X e es) (hpl:zEB X pos es):=0
example Ĭ(K:zFr):=0
example õ2(mg:zSV):=0
example Ð7(w:World):=0
example ÿ(P:ö6) Ð7 Ĭ õ2 (base:Heap):=0
example ñ0:=rs.length<64/\∀ r∈rs,r≠[]
example Ā:=(oY ts).bind λ rs=>if ñ0 then ↑(ğ ((L4.qg (qP rs)).map zJ)) else none
example ā:=(λ _=>nofun)
example Ă:=V->List V->Hp->VK->Prop
example Ò7 _:=x X.prog X.w
example ă _:=x Ò7 X.K X.mg X.base
example Å5:=(Calls.evalArgs_plain ?_)
example É7:=Calls.callWith_builtin
example Ą:=by rw[hs] at hA ⊢;exact É7 (by change (Õ||(å1 cpos (ē es Î)).any ö)=Õ;rw[hplain] <;> rfl) Å5;show zH hA λ us s2 #[vs,H2,I2,r2,q2]=>hm gV s2 σ H2 x vs v us Q I2 r1 r2 q2
example å2:=PySem.W.findIn
example Ë4:=.builtin
example Ć(c1:PySem.W.plainGet K C Str.empty=true) (c2:PySem.W.hasDictIn K C=true) (c3:PySem.W.plainOver K C=true) (c4:å2 K (Å C) "__setattr__"=↑↑(Ë4 "object.__setattr__")):=0
example ñ9:=PySem.W.nsIn
example Ĉ:=ñ9 K æ8 x
example Ö8:=za0.mp
example ĉ:=Ö8 e
example Ċ:=k.toNat
example ċ:=by intro gV s σ H x vs v us Q I rx rv h
example À0:=(yk st)
example č _:=x (nQ st) (xV st) À0 é4 kV
example Ď:=λ x S1 v H1 h1 q1 e1 p1=>?_
example Đ _:=x f cdv A outer s H E
example Ì9 _:=x z TI TO .ellipsis
example â0:=wpAny_rule
example đ:=by unfold pyNext;ext Ì;exact zcO (â0 (zcO (zcT hz rfl (x:=Å TO) rfl (zcO (zd6 hz #[] λ g1 hz1 e1=>?_)))));replace hz1:IsZip g1 Ì9:=hz1;exact zcO ?_;simp![zc5,List.zipIdx_nil,zb7,List.forIn_nil]
example Ē _:=x gV s σ H
example ķ{K:zFr}:=0
example Ĕ{P:ö6}Ù3 ķ:=0
example Ï8:=(zA4 _)
example Ė:=I.zI.fresh Ï8
example Ę:=by let#[hp,g,d,tk,os]:=s
example ę:=List T
example Ě:=λ e=>(Æ e.1,À9 e.1 e.2)
example ě:=.Name
example Ĝ:=.Call
example ĝ:=items.size
example Ğ:=by intro gV s σ H xs us Q I r h
example Ġ:=by have nd:=D.nd;simp![zaC,zA5,za5,â5,not_or] at nd
example ġ:=its.toArray
example Ģ(ho:PD X o to):=0
example æ9:=ne_true_of_eq_false
example ĳ:=s.toks
example ģ:=by rw[strsFrom_eq];show hq (numbered ĳ _) _ ((numbered_texts Ô).trans ((ť (æ9 h1)).trans (ť (æ9 hf))).symm)
example Ĥ(hty:typeOf (Ë4 id)=pure (Ń "method_descriptor")) (hm:lg X id r):=0
example á5 _:=x X gV σ
example Ħ:=Inv á5 H s
example ħ:=by let#[u,rfl,ru]:=vals1 r;cases ru
example è4:=compareOp
example Ĩ{op op':CmpOp}{f g:x8}{r r':R2}(ho:yM X (è4 op) r) (ho':yM X (è4 op') r') (hr:wF X.K f r) (hr':wF X.K g r') (hf:qc f) (hg:qc g):=0
example ĩ:=es.size
example ů _:=x S (.refl S)
example Ī:=hq _ ů (Cl.of ā pG)
example ī _:=x k1 k2 ò l1 l2
example ò1(hk:m8 X.K) (ho:PE X o (oW i)):=0
example Õ8{n:Nat}:=0
example ĭ Õ8(hr:y8 n X.A) ò1 (hi:PE X ie (oW j)):=0
example Į:=wpAny
example į:=.cons
example İ:=(upd H r (.ext (m7 r j)))
example ı(hh:A.handled=none):=0
example Ĳ _:=x (model Ò7) X.A
example Ĵ _:=x z TI TO i1 i2 l1 l2
example ĵ:=by simp![zA5,za5,â5] at hb
example Ķ _:=x e1 λ d S1 s1 r1=>?_
example ĸ:=.Subscript
example á3 _:=x r1 r2 z
example Ĺ _:=x á3 λ d S1 v H1 h1 q1 e1 p1=>?_
example ĺ:=.new hp _
example Ļ:=(.refl H)
example ļ:=fun σ H Q hu=>?_
example â1:=Obj.mapSeq
example Ä6:=(seqObj "list" õ 0)
example î6:=vs.toArray
example Ľ:=(Ú Ä6).update Á (â1 (·++î6))
example ø5:=e3.extBut
example ľ:=by have up:∀ c o,c≠z->c≠i1->c≠TO->â c=↑o->g3.get? c=↑o:=λ c o c1 c2 c3 q=>ø5 Ô c3 (e2.extBut Ô c2 (ø6 Ô c1 q))
example Ŀ:=Builtin.List.listExtendWith
example Å2:=r1.ext e1
example Ł _:=x (Å2) p1 h1 λ y S2 w H2 h2 q2 e2 p2=>?_
example Ñ6(a:ñ9 K æ8 "Desk"=↑↑(Å C)):=0
example ł{C f:Addr}{oc:ô}{od an:é6}{osl:Û1}{kV doc pm cdv ct:ô}Ñ6:=0
example Ņ:=.fields [é4,.bool Õ,Å Á,rawInt 0,é4,é4].toArray
example ņ:=zcO (m:=firstArgMember Ô) (wpAny_of_eq (a:=Value.none) (by first | rfl | (simp![firstArgMember];rfl)) (zcY ?_ (by size_fits)))
example ň:=List (Str× ô)
example Ŋ:=by let#[d,d',rfl,h1,h2]:=jL hv;cases h1.str
example ŋ:=â l=↑{ cls:=ü,dict:=dd,data:=.seq î3 n,slots:=sl }
example Á7 _:=x S Z L Y
example Ō:=by let#[ys,e1,e2]:=ĉ;exact h Á7 ys _ hE e1 λ ds S1 s1 r1=>?_
example ō:=w.params.followText "set-order"
example ŏ:=xs.map
example Ő:=.inr
example å6:=h'.get?
example ú2:=â b=↑o
example ő:=ú2->å6 b=↑o
example œ{a:Addr}:=0
example Ŕ(hc:X.calm=true):=0
example ŕ(gV:zLA) (s:ď) (σ:St) (H:Hp):=0
example Ä4:=(.ext (xO X.w l us))
example Ŗ:=by ext ħ;obtain⟨⟨es,ep,t,S,eu⟩,-,-⟩:=(show xQ Ò7 H ò l Ä4 from I.zI l _ hl)
example ŗ:=Ev->Ê (ę)
example Ř:=by let#[w,w1,w2]:=r1.2 i _ h1;let#[y,y1,y2]:=r1.2 j _ h3
example ř _:=x a es ep
example Ś:=zA9 _ rfl
example ś:=s1.heap.objs.size
example Ô6:=Ń "StopIteration"
example ô3:=(∃ o,å6 e=↑o/\o.cls=Ô6)
example Ŝ(hx:xs[i]?=none) (hE:∀ h' e,Heap.ExtBut it ò h'->ô3->E (Å e) { s with heap:=h' }):=0
example Ž:=(Å l)
example ŝ:=by have ht:=hit.typeIs;let#[oi,e1,e2,e3]:=id hit;ext Ñ;ext Ü8;exact zcO (m:=seqItems? Ž) (zd0 g1 g2 ?_);simp![zbB,hx]
example Ş:=List (Str× Ë)
example Ø5:=λ(k:Nat)=>V.int (k:Int)
example ş:=ğ ((List.range j.toNat).map Ø5)
example Ø7:=(Å f)
example Š:=PySem.W.keepIn K Ø7=true
example ö9:=holding
example š(he:∀ whole,isTrue (Ĝ Û) Î whole=(do let v <- whole;standAt (Expr.Call Û).pos;ö9 [v] (truthy v))):=0
example Ţ:=Heap.SameBut.update
example Í8:=V.str
example Ť:=q.1=r.1/\∃ a,r.2=Å a/\∀ H,yw K H a (q.2.map Í8)
example Ŧ:=ss.map
example ŧ:=by let#[_,y]:=e.ds Ô _ z;rw[h] at y;cases y
example Ũ:=.tup
example ũ(ha:y9 X [e] tA):=0
example Ū:=#[_,rfl,h]
example ū:=a.length
example ë3{k:Bool}:=0
example Ŭ ë3{l:Addr}{xs:zAV}:=0
example Ů{k:Nat}(hr:y8 k X.A):=0
example ű:=(·.2)
example Ų:=by let#[d,rfl,h1]:=oU hv
example ų{S:SS}:=0
example ò4:=(.ins C dx [("kept",Å q)])
example ê7:=(upd H q (.dK []))
example Ŵ _:=x ê7 p ò4
example ŵ:=P _ Z L (F1.mut (us:=ğ (ts++us)) (es:=ğ (ds++es)) i h h1 ((zp.sx (pO s1) ts h3).append g4))
example Ŷ(ha:y9 X ė tA):=0
example Ê6:=#[Ń "dict",none,.dict es ep,õ]
example Ð6:=zR.map ö
example û3:=(Ð6).Nodup
example Ö7:=Paired
example ß7:=es.toList
example ô8:=K.lookup
example ŷ:=(a == sysModules)=Õ/\ô8 a=↑ Ê6/\Ö7 (jF w) zR ß7/\û3
example Ÿ{ds:List D}:=0
example Ź:=by rename_i ks ts x h1 h2;let#[p,m,g1,g2,rfl,g4]:=hE.dm h1;let#[d,k1,k2]:=hE.im j _ h2;simp![Sn] at k2;subst k2
example ź:=by have hlen:ĩ=ß:=by have:=congrArg List.length he;exists this
example ù6:=x2.trans e3
example Ż:=fun L5 S5 #[m',b,w5] σ5 H5 b1 b2 b3=>#[(ù6).trans b2,L5,S5,m',b,b1,b3,w5]
example ò0(k1 k2:Bool):=0
example õ1(h:Heap):=0
example ż ò0 õ1 (l1 l2:Addr):=0
example ž:=â c=↑o->å6 c=↑o
example ſ:=Å p
example À1:=ć (if b<a then b else a)
example À2(hg:Gl X x):=0
example À3:=#[_,rfl]
example À4:=call_meets
example À5:=(Txt.splitMax a b k).map
example À6 _:=x L S Ô
example Ú4:=zcP _ e
example ó0:=λ b o e=>Ú4
example ú6:=strValues l
example À7 _:=x (ó0) Ï8 #[by rw[zA7];show h4,ú6,0,by rw[<- e];show ZD l,Ś]
example ú3:=AutoSeq1.wpAny_loadPart' hl
example À8:=by wp_walk using ú3,made hL
example Á0{s:ď}:=0
example Á1 _:=x [] pos
example Ð8{H:Hp}:=0
example Á2{gV:zLA}{σ:St}Ð8:=0
example í2:=by let#[C',c1,c2,c3]:=hk;cases g1.eq c1
example Á3:=by let#[C,dx,q,vs,g1,g2,g3,g4]:=r2 Ô h2;ext í2
example Þ8:=by let#[t,rfl]:=rx
example Á4:=by ext Þ8;let#[_,rfl,u,rfl]:=rv.one
example Á5 _:=x PySem.F.slot_str_split PySem.F.type_str_split
example Á6:=occurrences
example Á8:=by intro gV s σ H x y v u Q I rx ry h
example Á9:=.nil
example Â0:=.inl
example Ø2:=ha.mo
example Â1 _:=x hf hg Ø2 hb.mo hc.mo
example Â2(x:Str):=0
example ô6:=(Ŧ Í8)
example Â3(h2:ô8 a=↑o) (hc:o.cls=ü/\o.dict=none) (hs:o.data=.seq its n) (hz:its.size<=Ü) (r:Vals ô6 its.toList):=0
example Ê3:=by simp![zj] at q1
example ò9:=by ext Ê3;subst q1
example Â4:=by let#[#[ds,hd],h1]:=h1;ext ò9;let#[xs,g1,g2]:=p1 Ô hd;exact#[Â0 #[rfl,xs,y7.of g1],?_]
example Â6:=by have h0:zt K H ([a,b].map D.str) xs:=h0;cases h0.strs
example Û2:=-1000000<=i/\i<=1000000
example ï3:=(ã (toString i))
example Â7:=(λ xs H Q=>∃ i:Int,xs=[ć i]/\(Û2)/\Q ï3 H)
example Â8:=by .let#[es,ep,t,St,e]:=id hSO;show#[hSO,#[_,St.get],λ h1 h2 S1 k=>S1.lZ k]
example Ð1:=Ev->Ê Bool
example Â9{N:Ë}{f1 f2:zEO}{c:Ð1}{ga:ŗ}:=0
example Ã0 _:=x (s2.on λ o q=>up _ o (ŀ n4) (ŀ n10) (ŀ n9) q) (h2.on λ o q=>up _ o b1 b4 b3 q) hy
example Ã1:=callWith pos f first (å1 pos (ē ė Î)) (backToKw pos Ð5)
example Ã2{it l:Addr}{i:Nat}{xs:zAV}:=0
example Ã3 _:=x { nx:=λ _ S'=>Q .zC S',rt:=Q } (pD N ds) S
example Ã4:=λ z=>hb (by simp[z])
example Ã5:=hE.grow (æ6)
example Ã6:=(Ù Ċ its).flatten.toArray
example Ð4:=.zK ks ts
example Ã7:=(qB N (Ð4::ys)).set 2 ↑(.im w)
example Ã8:=["self","name","floor"]
example Ã9(h1:SQ ò k1 l1 xs) (h2:SQ ò k2 l2 ys):=0
example Ä0:=(((yi ĝ 0 lo:Nat):Int) == 0&&(1:Int) == 1&&(yi ĝ ĝ hi-yi ĝ 0 lo) == ĝ)=true
example Ä1:=#[.bl _,H,I,rfl,q]
example Ï6:=if_pos
example Ä2:=(hq [(x,t)] ĳ ((ť (æ9 h1)).trans (Ï6 hf)).symm)
example Ä3:=by let#[#[slot,h1,h2],S]:=st
example Ä5:=(Shared.heap #[hp,g,d,tk,os])
example Ä7 _:=x X (ě x pos)
example ù5:=F.slot_int_rmul
example Ä8 _:=x ù5 (typeIs_int s k t) F.entry_int_rmul (F.args_int_rmul_2 Ô)
example Ä9:=Heap.size_push
example Å3:=(Ù Ċ xs).flatten.length
example Ü4:=h.elim
example Å4:=#[λ _ _ _ _ _ h=>Ü4,λ _ _ _ _ _ _ #[_,_,_,_,h]=>Ü4]
example Å6:=á o "kept" ap
example Å8{apos cpos:Pos}:=0
example Å9 _:=x PySem.F.plainAttrs_list PySem.F.slot_list_extend PySem.F.type_list_extend
example Æ0:=h _ H (by simp![zj,cond]) Ļ h3
example é3:=List (Str×Str)
example Æ1{P:ö6}{base:Heap}{ys:é3}:=0
example Æ2:=by have hp:((comes X.w l es ep).toList.map ű).Perm us:=by rw[<- eu];show (dB X.w l es ep).map _
example Ë8:=us.length
example Æ3:=if ts.length+Ë8<=Ü then ↑(.nx (Y.set i ↑(.own (ğ (ts++us))))) else none
example Æ5:=by let#[x,hx,h1]:=h0.one;subst hx
example Æ6{k1 k2:Bool}{z TI TO i1 i2 l1 l2:Addr}:=0
example Ò3:=PySem.W.fnOf
example Æ7:=ô8 f=↑#[oc,od,.func (Ò3 x x č dc pm an cd ct),sl]
example Ë7(hr:y8 k' X.A):=0
example ü2{sp:qK}(F:FD ă x k ps sp):=0
example Æ8 Ì8{k k':Nat}{ps:Ë}ü2 Ë7:=0
example Æ9 _:=x (m.map ö) ts
example Ö6:=Ń "list"
example Ç0:=â l=↑{ cls:=Ö6,dict:=dd,data:=.seq î3 n,slots:=sl }
example Ç1(S:oB w ò ř t):=0
example Ç2 _:=x "__init__" "Desk.__init__"
example Ç3:=λ e=>Æ e.1
example Ç4:=(Txt.split a b).map
example Ç5:=(ĸ (ě x p) i pos)
example Ç6:=I.ok.hd hc
example Ç7:=(f Y).bind
example á1 _:=x Q E s
example Ç8:=Į Ï (ĕ (Å it)) á1
example Ç9:=g5.objs.size
example È0:=order.toList.filterMap λ k=>xs[k]?
example È1:=HT.yi ß 0 lo=0/\HT.yi ß ß hi=ß
example È2:=by let#[f,oc,od,kV,dc,pm,an,cd,ct,sl,a,l,c,k]:=H
example È3:=ď->Prop
example È4:=.Compare
example È6:=x.length
example È7:=(wc xn æ N "Desk.say" À0 Đ).rl
example È8{E:zVP}:=0
example Õ4{tA:y6}:=0
example È9 Õ4{pos p:Pos}:=0
example É1(X:Cx) (e:Expr):=0
example ê3:=Calls.spliced_cons
example É3:=ê3 (Calls.Constant_str (Calls.spliced_nil ?_))
example É4:=(Ĝ (á o "append" apos) [e] ŭ)
example É5(hm:lastMarks [op,op'] [b,c]=Õ:=by with_unfolding_all rfl):=0
example á7 _:=x Ē _ I h
example É6:=(zH (ha pos á7) λ us s1 #[vs,H1,I1,r1,q1]=>?_)
example É8:=PySem.F.plainAttrs_str
example É9:=by ext Ę;let#[hl,h]:=h
example Ê0:=(Å Á)
example Ê1:=(Ú L0).objs.size
example Ê2:=rows.length
example Ê4:=List (Str×(ę->Ê T))
example Ê5:=Ï6 (by rw[show (Value.type "tuple" == Value.type "tuple")=true from rfl];simp)
example Ê7{e:Expr}:=0
example Ê8:=V->Ê Int->Ê Int->Hp->VK->Prop
example Ê9:=eU (λ _ _ _=>pG) λ _ _ _=>nofun
example Ë0:=tab.lookup
example Ë1{Q:zVP}:=0
example Ë2:=by rename_i hl;cases e2;let#[p,ob,h1,h2,h3,h4]:=F.er.ow i _ h
example Ë3 _:=x X (Ĝ (ě x p) ė Á1) (jv sp tA)
example Ë5:=(ns.map V.int)
example Ë6:=S p=↑(.zK m)
example Ë9:=v1::v2::rest
example Ì0:=Ĝ (ě "range" p2) [e] [] pos2
example Ì1:=h l (h2.none hf) Ô Ó hx (h2.ups hx #[_,yO,zt.gk _])
example Ì2 _:=x F.slot_tuple_mul hT F.entry_tuple_mul (F.args_tuple_mul_2 Ô)
example Ì3{mg:zSV}{base h:Heap}:=0
example Ì4(hit:s.heap.IsTupleIter it l i) (hl:s.heap.IsTuple l xs):=0
example ö8:=ds.length
example Ì5:=ö8+es.length<=Ü/\Q .zC (ups S2 p (ğ (ds++es)))
example Ì6:=L[i]?=↑↑(ſ)
example Í0:=t.mask
example Í1:=(yk st).names.lookup
example Í2:=by ext Ğ;let#[p,ys,rows,rfl,hq,hr,qF,q]:=h;ext ħ
example Í3 _:=x Ô (.new hl _)
example Í5:=by unfold SetTable.tooFull at this;rw[hfill,hmt] at this;exists this
example Í6:=by ext Í;exact rX.go Ø2 á3 λ ds S1 vs H1 h1 q1 e1 p1=>?_
example Í7:=PySem.W.mg_of
example Í9:=[ã a,ã b]
example û2:=Á6 x y 0 È6 (limitOf x k)
example ñ4:=partsBetween
example Î0:=ñ4 x (û2) y.length
example Î1 _:=x _ H Ó Ļ
example Î2 _:=x X (.Tuple es kk pos')
example Î3:=List (ç)
example Î4:=by simp![zA5,za5,â5,not_or] at hc
example Î5:=λ z=>c1 (by subst z;cases ds with | nil=>rfl | cons _ _=>simp at hl)
example Î6:=by have ex:x'=x:=by have:=f1 _ m1;rw[hx'] at this;show (zD5 this).symm
example Î7 _:=x (T:="StopIteration") (b:=true) #[o,ho,hc] isSubtype_stop
example æ0:=ho.mo
example Ø0:=zQ.go
example Î8:=by ext Í;exact Ø0 æ0 á3 Ď
example Î9:=Ĝ (ě "set" p2) [e] [] pos2
example Ï0:=comes w ř
example Ï1:=T->T->Ê T
example Ï3(hf:qc f) (hg:qc g) (ha:yA ta) (hb:yA tb) (hc:yA tc):=0
example Ï4:=by let#[it1,rv1,q1]:=g1.of I;let#[it2,rv2,q2]:=g2.of I
example Ï5:=(Å a)
example Ï7:=ps.map ű
example à4:=[a,b]
example ó2:=(Õ,eval a Î)
example ò2:=(Õ,eval b Î)
example Ï9:=ē à4 Î=[ó2,ò2]
example ä9:=Ń "enumerate"
example ù7:=Ú (nH k l)
example Ð2:=(ù7).push { cls:=ä9,data:=Ņ }
example Ð3:=(Ĝ (á o name apos) ė ŭ)
example Ð9{ss:Ë}:=0
example Ñ0 _:=x gV s1 σ H1 _ I1
example Ñ1(hbase:Č o "split" É0=è):=0
example Ñ2{f:zEO}{te:zy}:=0
example Ñ3:=(Builtin.«int.__rmul__» #[[ć i t,Å l],[]])
example Ñ4:=ĸ (á (ě "self" p1) "kept" p2) (ě "name" p3) p4
example Ñ5:=by let#[a,xs,rfl,g1,g2]:=h1
example õ8{tab:Ş}:=0
example Ñ7 õ8(hk:Zj X.K X.w X.mg x tab) (hi:PD X i ti):=0
example Ñ8:=(.bl (Txt.startswith a b))
example Ò0:=(hE.grow s1)
example Ò1:=zt K H ds xs
example Ò2:=(Ù Ċ xs).flatten
example Ò4:=Ê PySem.Fin×Unit
example Ò5:=(.Dict [] [] pos')
example Ò6:=(Ő x)
example Ò8(hpl:zEB X pos []):=0
example Ò9(kV doc pm:ô) (an:é6) (cdv ct:ô) (us:zLV):=0
example Ó0:=by intro gV s σ H Q tk I h
example Ó1:=by let#[z,e1,e2]:=ĉ;split at e2
example Ó2:=trivial
example Ó3:=ŏ λ e=>(V.ref e.2,e.1)
example Ó4:=order.filterMap (es[·]?)
example Ó5:=IntsAre
example Ó6:=λ b hb=>I1.eW (nw b hb) (I1.zI.fresh (nw b hb))
example Ó7:=λ S3 Z3 L3 F3=>#[m,zE2 m,Z3,Y2,F3,e']
example Ó8:=ñ4 x (Á6 x y 0 È6 (È6+1)) y.length
example Ô0:=List (Int×Tok)
example Ô1:=by simp![zj] at h1 h2
example Ô2:=by have q':ú2:=by rw[Heap.get?_push_ne Ô _ hbs] at q;show q
example Ô4{k:Nat}{ps:Ë}:=0
example Ô5 _:=x ì (F.args_str_split_3 Ô _)
example Ô7:=Ú { cls:=ü,data:=.seq [ć i tk,u].toArray }
example Ô8:=λ us s2 #[vs,H2,I2,r,q2]=>#[I2.r_,?_]
example Ô9 _:=x L S1 Ô
example Õ0:=by ext Á8;let#[c,d,rfl,rfl,q]:=h;cases rx;cases ry
example Õ1(lo hi:Ê Int):=0
example Õ2(he:PD X e te):=0
example Õ3 _:=x č doc pm an cdv ct
example Õ5{xs:List V}:=0
example Õ6:=by let#[x,rfl,r]:=h0.one;simp![zj] at r
example Õ7:=by rw[ho] at hq;show key Ô _ (į À3 (į À3 (į À3 Á9))) #[] hq
example Õ9:=by cases h1:(Ŏ (È6<y.length)||Ŏ (strKind x<strKind y))
example Ö0:=by intro xs n h;simp![zt] at h
example Ö1:=by exact zcO (wpAny_handled ?_);rw[show A.in1.handled=none from hh]
example Ö2:=List Stmt
example Ö3:=g5.push { cls:=ü,data:=.seq [x,y].toArray }
example Ö4:=λ _=>Ő #[o,its,n,h2,hc,hs,hz,r]
example ê9:=behindInMarks
example ã7(hdb:Þ):=0
example Ö5(hm:ê9 .NotIn (ě x p)=Õ) ã7:=0
example Ö9:=(kC f g ta tb tc)
example Ø1:=sb.extBut
example Ù8 _:=x lo hi
example Ø3:=(ã (Txt.slice z Ù8))
example ï9 _:=x x y H Q
example Ø4:=rI oj (λ i j=>ć (i*j)) ï9\/Yq K ï9
example Ø6:=Builtin.List.listTooLong
example Ø8:=(Ŧ D.str)
example Ø9:=ss.idxOf k
example Ù0:=xs=x::rest
example Ù1:=(ã (Txt.replace a y z))
example Ù2:=(.bl (Txt.contains v u))
example Ù4 õ3 (us:zLV):=0
example Ù5{R:Rk}:=0
example Ù6 _:=x Ô hc.2.2.2.2 (up c o hc.1 hc.2.2.2.1 hc.2.2.1 q)
example Ù7{pos:Pos}:=0
example Ù9 _:=x ì (F.args_str_split_2 Ô)
example Ú0:=by have hpl:p≠l:=λ z=>by subst z;rw[yO] at hp;cases hp
example Ú1 _:=x ha.pa () () he hpl
example Ú2 _:=x () () he hpl
example Ú3:=by ext ï;let#[f0,f1,f2,f3,f4,f5]:=hf it #[]
example Ú5:=Ü=16777216
example Ú6:=(ú s3).trans
example Ú7:=ĸ o i pos'
example Ú8:=xs[i]?=↑x
example Ú9:=Heap.SameBut it ò h'->Q x { s with heap:=h' }
example Û0:=items.isEmpty
example Û3:=lj K "Desk" C
example Û4:=["self"]
example Û5:=ã "ok"
example Û6:=x.cps.all (· < 128)=true
example Û7:=lP K w x zR
example Û8(k:Nat):=0
example Û9{h:Heap}:=0
example Ü0 _:=x ho.pe (kj he.pe ki hs) ð
example Ü1 _:=x X (Ĝ (á o "split" apos) [e] ŭ) (oP mq to tA)
example Ü2(hb:Č o "kept" É0=è):=0
example Ü3:=wpAny_isInstance
example Ü5:=its.toArray.size
example Ü6:=#[T,id,pa,slot,hty,h1,h2,?_]
example Ü7:=y8 k (A.deeper (envOfC qual À0 Á f cdv))
example Ü9:=∃ c d,x=.bl c/\y=.bl d/\Q (.bl (c == d)) H
example Ý0:=by .simp![zj] at h2;exact Ő #[h2,?_];rw[SG h1];show Æ0
example Ý1:=by intro gV s σ H x v vl vu lo hi sl Q I rx hs pl pu h
example Ý2:=by have npq:p≠q:=λ z=>by subst z;rw[g2] at hq;cases hq
example Ý3:=H l=none
example Ý4:=Ú { cls:=ü,data:=.seq [u1,u2].toArray }
example Ý6:=Ö7 (λ(q:Str× Ë) (r:Str× ô)=>Ť) tab zR
example Ý7:=∃ c d,x=.bl c/\y=.bl d/\Q (.bl (c != d)) H
example Ý8:=some ↑(.own (ğ ts))
example Ý9:=(λ x y=>D.tup [x,y])
example Þ0:=∀ H,yw K H a ô6
example Þ1:=λ gV s σ H Q I hu=>?_
example Þ2 _:=x Ô n4 (ø5 Ô n2 (e2.extBut Ô n3 hz1))
example Þ3 _:=x x rest H Q
example Þ4:=es.toList.findIdx? (λ e=>(Å1).is n e.2)
example Þ5:=Į Ï (binaryOp .Mult Ž (ć k t)) á1
example Þ6:=hq _ S1 s1 (Ya 0 g2) λ S'' s=>y4.sx g1 s
example Þ7:=yR (wc xn æ N qual À0 Đ).rl (xV st) t
example Þ9 _:=x _ S2 Ô (λ d S' q=>pk.ext (e1.trans a2) q) z
example ß0 _:=x (Tq.or (Tr hr.units)) mS.fits mS.mo ha hb hm
example ß1:=codeAny_builtin
example ß2:=False
example ß3:=I.tuple
example ß4:=ys.length
example ß5:=List α
example ß6:=(way Í0 h K).j
example ß8:=Unit.unit
example ß9:=za3.mp
example à0:=SQ ò k l xs
example à1:=e5.extBut
example à2:=(gH ī).get?
example à3:=u _ (p1 Ô rfl)
example à5:=List.zipWith
example à6:=hq _ ů (Cl.of ā pF)
example à7:=(ŏ λ e=>À9 e.1 e.2)
example à8:=(ć (ns.idxOf k:Nat))
example à9:=b.length≠0
example á0:=(Ĝ (á o "replace" apos) [ń,Ň] ŭ)
example á4 _:=x k1 k2 h l1 l2
example á6:=by let#[x,e1,e]:=ĉ
example á8(pa:PlainAttrs T) (slot:Slot T name id):=0
example á9:=by let#[a,es,ep,h1,h0,h2,h3,h4]:=hk
example â2:=its.length
example â3:=λ l hl=>hq Í3 (mH hz hl (hJ.mpr rfl))
example â4:=(nH k1 l1)
example â6:=(Ŧ T.str)
example â7:=(jt tc (js (oQ (pE mO) (yN 0) ua)) tx)
example â9(k:Bool):=0
example ã0:=(show h.IsTuple l xs from x)
example ã2:=Ú (seqObj "list" (ú6).toArray 0)
example ã3:=by have hh:X.A.handled=none:=Ç6
example ã4:=λ v z=>by cases z
example ã5:=List (Str×Tok)
example ã6:=by rw[h1];exact#[#[ds,h2],hf Á7 Ô F.er Ķ]
example ã8(hk:k<=k'):=0
example ã9:=R (.ok (.ret Value.notImplemented)) s
example ä0:=#[c1,c2,c3,c4]
example ä1:=by let#[a1,us,rfl,g1,g2]:=y4.k d1 p1 s1
example ä2(h:yA to) (h':yA te):=0
example ä3:=by rename_i ts h;let#[y,e1,e2]:=ĉ;split at e2
example ä4:=PySem.SetTable
example ä5:=I.laid
example ä6:=.bl (Ŏ (i<j))
example ä7:=(by simp;lia)
example ä8:=λ q=>hc.1 (by subst q;exists hl.symm)
example å0:=PySem.W.codeIn
example å3{Q:Ê ô->È3}:=0
example å4{Z:Addr->Prop}:=0
example å5{lo hi:Ê Int}:=0
example å7:=(dB w ř).length_eq
example å8:=(Ï0).toList.map ű
example å9:=ys.zip rows
example æ1:=(∀ c o,c∉ å->ž)
example æ2:=h _ H1 e1 p1 λ i H2 S2 x1 x2 hk=>?_
example æ3:=Builtin.Str
example æ4:=its.toArray.isEmpty
example æ5:=by simpa [hab,argBest] using hP.symm
example ç1 _:=x ha hb (nh _)
example ç2 _:=x I1 kk λ b hb=>#[hf' b hb,(hf b hb).2]
example ç3 _:=x Á7 Ô hE
example ç4(hst:zEE X e es) (hpl:zEB X pos es):=0
example ç5:=by rcases T.mask with e | e | e <;> lia
example ç6:=#[by change 2<=Ü;decide,.new _]
example ç7:=(ups S l (ğ ((oH ns).map D.int)))
example ç8 _:=x (by rw[zA0];lia) λ h' tk xs S U k=>?_
example ç9:=h.get?
example è0:=ps.map ö
example è2:=(x1.trans x2)
example è3:=(λ z=>?_)
example è6:=yo K H S
example è7:=#[h.1,hq Ô h.2]
example è8:=Ê (Ev->Ê T)
example è9:=(Cl.of ā nX)
example é0 _:=x ht (λ z=>hne (r.eC.mp z)) h1 (by rw[<- hl];show hz)
example é1:=by simp![zj] at w2 y2;subst w2 y2
example é2:=(by have:=(zA2.mp hj).1;rw[zA0];lia)
example é5:=by cases e;ext Ŋ;cases h2.str
example é7:=.new hf _
example é8:=jU (Y1 hg hm r hd) λ _=>by ext ã1
example é9:=h.IsList l xs
example ê0:=Ũ [ć i,x]
example ê1:=FuncData
example ê2:=[ć a,ć b]
example ê4:=PySem.W.callWith_K
example ê5:=swapsWith
example ê6:=(ups S p (.zK []))
example ê8:=L[j]?=↑↑(ã x)
example ë0:=pD N (ſ::es)
example ë1:=qB N (.zK Æ9::ys)
example ë2:=(upd H l (Ũ ((jW a b).map Í8)))
example ë4 _:=x y d e H S Q h1 h2 h3
example ë5 _:=x d e H S Q h1 h2 h3 h
example ë6(Sc:pX N ps À0) (hn:n=ps.length):=0
example ë7{o e:Expr}:=0
example ë8{y z:Str}{j1 j2:Nat}{p1 p2:Pos}:=0
example ë9:=(((Ţ ..).extBut.push _).push _)
example ì0:=Ö l'=↑(.ext (ST.xO w l' us'))
example ì1:=Â0 (Ra S Z _ z ds Q hz hv e hq)
example ì2:=fun L' S'=>∃ m',m'<m/\W m' L' S'
example ì3:=(Ĝ (á o "extend" apos) [e] ŭ)
example ì4:=(.done (.ret (ć (Ø9:Nat) ĳ)))
example ì5:=λ l hl=>hq Í3 (mH hz hl (hZ _))
example ì6:=by ext Ö0;let#[y,ys,rfl,h1,h2]:=h
example ì8:=by rw[yx npq];show g2
example ì9:=by have kk:∀ b o,ő:=λ b o e=>k b o (zA8 e) e
example í0(D:Zk Ĵ) (S:At ò k1 k2 Ĵ é4 n):=0
example í1{l:Addr}{its:zLV}{k:Int}{t:Tok}:=0
example í3:=S l=none
example í4:=by rcases hb with e | e | e | e | e <;> subst e
example í5:=(ŏ λ e=>Å0 e.2)
example í6:=xs=[ſ]
example í7:=λ d2 S2 s2 r2=>?_
example í8:=pure Õ
example í9:=#[o,f o ho,r]
example î0:=.fields [Å l,ć 0 0].toArray
example î1:=(aj ī).objs.size
example î2:=zp (yn S Z) ts ds
example î4:=PyProof.Rows.slot_tuple_getitem
example î5:=h1.elim
example î7:=(Ĝ (ě "enumerate" p) [a] Á1)
example î8:=List.idxOf_lt_length_iff.mpr hk
example î9:=#[ć _,H,I.tok _,À3,q]
example ï0:=(Ĝ (á o "index" apos) [e] ŭ)
example ï1:=(hq [(x,t)] ĳ (Ï6 h1).symm)
example ï2:=λ ds S2 s2 r2=>?_
example ï4:=(qe m Ò6).isSome
example ï5:=#[(nY x).map D.str,λ _=>True]
example ï6:=(tab.map λ q=>(q.1,zM R q.2))
example ï7:=Ö7 (dQ K) tab zR
example ï8:=by split at e
example ð0 _:=x pos.line Î
example ð1(f:zEO):=0
example ð2{m:List (Key×D)}:=0
example ð3:=(y7 X.K H p ys\/yw X.K H p ys)
example ð4:=fits_of (n:=ß) hlen T #[] ⋯
example ð5:=(È4 a [op,op'] [b,c] pos)
example ð6:=PE.imp
example ð7:=(.bl (cond neg (c != d) (c == d)))
example ð8:=IsTup.new Ô
example ð9:=listItems_at
example ñ1:=ns.length<64
example ñ2:=by simp[hi]
example ñ5:=λ xs H Q=>∃ x rest,Ù0/\r Þ3
example ñ6:=Ĉ=↑↑ Ï5
example ñ7:=(oP mQ to (nR (dC (ã y)) lH))
example ñ8:=(hr.mono hk)
example ò3:=fun σ H R hu=>?_
example ò5:=["self","row"]
example ò6:=PySem.intText? a
example ò7:=(È4 i [.NotIn] [ě x p] pos)
example ú0:=H p=none
example ò8:=by have hpH:ú0:=by rw[yx hpl] at hp;show hp
example ó1:=(Ù Ċ î3).foldl (·++·) õ
example ó3:=[À9 a t1,À9 b t2].toArray
example ó4:=KTab K w mg x zR
example ó5 _:=x K H a xs
example ó6 _:=x σ H Q
example ó7 _:=x S1 Z L Y
example ó8(hit:SI ò k it l i) (hl:à0):=0
example ó9 _:=x Ô9 (λ ds S2 h=>hf Ô Ô hq h) h2
example ô0{es:Array DictEntry}{ep:Nat}:=0
example ô1:=hq Ô h3
example ô2:=Â0 #[_,_,h1,h2,Æ0]
example ô4:=λ _=>ß2
example ô5:=[e,it]
example ô7:=List Key
example ô9:=(Ĝ (á o "keep" ap) ė Á1)
example õ0:=(Ĝ (á o "say" ap) [e] Á1)
example õ4:=by exact#[ĺ,x2.new hp,?_];ext ã1
example õ5:=by let#[its,rv,pl,hz]:=I.list hq
example õ6(hbase:Č o "extend" É0=è):=0
example õ7(m2:PySem.W.isFn K Ø7=true):=0
example õ9 _:=x hi.pe I (Ø0 hi.mo Ĺ) hg hs hdb
example ö0:=by rw[aa] at e;let#[F,e1,rfl]:=ß9 e
example ö1:=#[_,Ś,rfl]
example ö2:=Builtin.List.listLengthHint
example ö3:=rv.length
example ö4:=y4 d S
example ö5:=yw ó5
example ö7:=hperm.length_eq
example ø0:=λ D σ H hu=>?_
example ø1:=SQ h k l xs
example ø4:=e4.extBut
example ø7:=pV K H k1 a1 xs
example ø8:=pV K H k2 a2 ys
example ø9:=λ v z=>by rw[d1] at z;cases z
example ù0:=#[_,rfl,?_]
example ù1:=absurd
example ù2:=PyProof.Rows.callWith_type1
example ù3:=(nS ds Ù8)
example ù4:=yU f te
example ù8:=λ zs hz=>by rw[hz.inj I g1];show hx
example ù9:=by have:=(zA2.mp e1).1;exists this
example ú1(is:List Nat) (c:Ð1) (b:Sm):=0
example ú4:=#[_,ho,rfl]
example ú5:=Decidable
example ú7:=PySem.F.slot_str_startswith
example ú8:=PySem.F.type_str_startswith
example ú9:=eval e Î
example û0:=(putK vs Ò6 t)
example û1:=á (ě "self" sp) "kept" ap
example û4{h h':Heap}:=0
example û5(ha:yU fa ta) (hb:yU fb tb):=0
example û6{pos p pos':Pos}:=0
example û7{ts:ę}:=0
example û8(t:Ê zy):=0
example û9(st:Stmt):=0
example ü0:=by cases rx;let#[u,rfl,ru]:=rv.one
example ü1(a b:Str):=0
example ü3 _:=x x y k t u v hk h1
example ü4(hk:KTab X.K X.w X.mg x zR):=0
example ü5:=by have:Å3=Ċ*ß:=#[];rw[this,zc0];show hz
example ü6:=by let#[_,h,_]:=h;rw[h] at e;cases e
example ü7:=(show X.A.in1.handled=none from Ç6)
example ü8:=by rw[h3.len,g4.len];show hl
def V9 Û8:((k:Int)).toNat=k:=zbB k
def MG {I a:Addr}ê{i slot:Nat}{e:Int× ô}å3(ho:â I=↑(ja a slot i ĩ ep)) Ç1 (hs:ō=Õ->slot=slotAt t i) (he:(Ï0)[i]?=↑e)
  (hi:i<ĩ) (h:∀ h' slot',(ō=Õ->slot'=slotAt t (i+1))->å6 I=↑(ja a slot' (i+1) ĩ ep)->Heap.SameBut I ò h'->Q ↑e.2 { s with heap:=h' }):Į Ï (pyNext (Å I)) á1:=by
 unfold pyNext;ext ù;rw[ť #[]];exact zcO (T9 S ⋯ slot hs λ slot' hs'=>?_);rw[V9] at hs' ⊢;rw[he];dsimp only[Option.map_some];exact zcO (zdB ho rfl #[] ?_);have o1:=zd4 (Obj.mapFields (·.set! 0 (À9 (slot':Int) 0))) ho rfl;exact zcO (zdB o1 rfl #[] ?_);have o2:=zd4 (Obj.mapFields (·.set! 1 (À9 ((i:Int)+1) 0))) o1 rfl;exact zD1 #[_,rfl,zD1 (h _ slot' hs' o2 ((Ţ ..).trans (Ţ ..)))]
def MH {I a:Addr}ê{slot:Nat}å3 ı (ho:â I=↑(ja a slot ĩ ĩ ep)) Ç1 (hs:ō=Õ->slot=slotAt t ĩ)
  (h:∀ h',Heap.ExtBut I ò h'->Q none { s with heap:=h' }):Į Ï (pyNext (Å I)) á1:=by
 have hn:(Ï0)[ĩ]?=none:=by
  have:=å7;simp![zD2] at this;rw[zaY ⋯]
 unfold pyNext;ext ù;rw[ť #[]];exact zcO (T9 S #[] slot (by exists hs) λ slot' hs'=>?_);rw[V9,hn];dsimp only[Option.map_none];exact zcO (zdB ho rfl #[] ?_);exact zcO ?_;simp![newExc,newTuple];exact zcO (zcY ?_ (by size_fits));exact ņ;unfold raiseNew;ext Ö1;exact zcO ((zD1 (wpAny_throw ?_)));exact zcO ((Ü3 (T:="StopIteration") (b:=true) ö1 isSubtype_stop ?_));show zD1 (h _ ë9)
def MF {I a:Addr}{slot i n ep:Nat}Ë1(ho:â I=↑(ja a slot i n ep)) (h:Q (Å I) s):Į Ï (pyIter (Å I)) á1:=by
 exact wpAny_pyIter_slot (ic ho) V_ (zcW V_ (ic ho) Dw ?_ (Bk _));show zD1 #[_,rfl,"set_iterator",_,ic ho,h_.lookup,h]
def oB.keep û4 œ ê(S:oB w h ř t) (k:∀ o,ç9 a=↑o->å6 a=↑o):oB w h' ř t:=#[k _ S.get,S.fits,S.ot,S.led,S.plain]
def Nk ı (I a:Addr) (hne:a≠I) (es:Array (Int× ô)) (ep:Nat) (t:SetTable):
  Walks â8 A I [I,a] [I] ĩ (λ i v=>∃ e,(Ï0)[i]?=↑e/\v=e.2) (λ i h=>(∃ slot,(ō=Õ->slot=slotAt t i)/\ç9 I=↑(ja a slot i ĩ ep))/\oB w h ř t) where
 sub:=λ b hb=>by simp at hb;simp[hb]
 frame:=λ _ _ _ st k=>by
  ext Ä3;show#[#[slot,h1,k I #[] _ h2],S.keep λ o e=>k a #[] o e]
 item:=λ i s Q E hi st hQ=>by
  ext Ä3;have hl:i<(Ï0).size:=by
   have:=å7;simp![zD2] at this;lia
  exact MG h2 S h1 (zB8 hl) hi λ h' slot' g1 g2 g3=>?_;show hQ _ h' ĳ #[_,zB8 hl,rfl] #[#[slot',g1,g2],S.keep λ o e=>(g3.2 a hne).trans e] λ b o hb e=>(g3.2 b (Ã4)).trans e
 done:=λ s Q E st hQ=>by
  ext Ä3;show MH hh h2 S h1 λ h' g=>hQ h' ĳ λ b o hb e=>g b o (Ã4) e
 self:=λ _ _ _ _ st hQ=>by
  ext Ä3;show MF h2 hQ
def HQ:typeLookup (Ń "set") "__len__"=pure ↑(Ë4 "set.__len__"):=F.slot_set_len.lookup
def split_len:splitId "set.__len__"=↑("set","__len__"):=by decide +kernel
def IP œ ê{Q:Bool->È3}Ç1 (h:Q Õ s):Į Ï (setDrawn a) á1:=by
 unfold setDrawn setsByText;exact zcO (zcZ S.get rfl S.fits ?_);ext Ü8;exact zcO (zcO (zdA (zD1 Œ)));change Q (! ō&&(!t.plain&&Ŏ (ĩ>1))) s;rw[S.plain];exists h
set_option maxHeartbeats 4000000 in
theorem IW œ ê{Q:Bool->È3}Ç1 (h:Q Õ s):Į Ï (ö2 Ï5) á1:=by
 have Ty:s.TypeIs Ï5 "set":=#[_,S.get,rfl];unfold ö2;exact zcO (wpAny_specialOf Ty HQ ?_);ext Ü8;rw[split_len];ext Ü8;exact zcO (Ü3 (b:=true) Ty sub_set_self ?_);rw[ť ()];rw[Ï6 (zdK)];exact zcO (zd2 Ty ?_);show zD1 h
set_option maxHeartbeats 4000000 in
def Cc œ ê{Q:List ô->È3}ı Ç1 (hn:ĩ<=Ü)
  (h:∀ (h':Heap) (tk:Nat),(∀ b o,b<Á->ő)->Á<=h'.objs.size->Q (å8) { s with heap:=h',toks:=tk }):Į Ï (collect Ï5) á1:=by
 have ha:a<Á:=zA8 S.get;unfold collect;exact zcO (wpAny_runValue (ß1 F.entry_proto_collect ?_));rw[Around.under_plainId F.plain_proto_collect _];change Į _ A.in1 (newList [] >>= λ l=>again (Ë4 "list.__iadd__" #[[l,Å a],[]])) Ô s;exact zcO (zcY (zD1 #[plainId_quiet F.plain_list_iadd _,ß1 F.entry_list_iadd ?_]));rw[Around.under_plainId F.plain_list_iadd _];let L0:Obj:={ cls:=Ö6,data:=.seq ([]:zLV).toArray }
 have S1:oB w (Ú L0) ř t:=S.keep λ o e=>Ú4;have T1:Shared.TypeIs { s with heap:=Ú L0 } Ï5 "set":=#[_,S1.get,rfl];change Į _ A.in1 (Ŀ Ê0 Ï5 Ê0) Ô { s with heap:=Ú L0 };unfold Ŀ;exact zcO (zd2 T1 ?_);have hne:Á ≠a:=zaF ha;have c1:Builtin.List.listSameRef Ê0 Ï5=Õ:=by simp[Builtin.List.listSameRef,hne]
 rw[ť (by rw[c1];decide)];exact zcO (wpAny_pyIter_slot T1 F.slot_set_iter (zcW F.slot_set_iter T1 Dx ?_ (F.args_set_iter_1 _)));exact zcO (zcO (zD1 Œ));exact zcO (zcO (zcO (zcZ S1.get rfl S1.fits (zD1 Œ))));exact zcO (IP S1 ?_);rw[ť ()];exact zcO Œ;exact zcO (wpAny_setEpoch_of S1.get rfl S1.fits ?_);exact zcO (zcY (zD1 #[_,rfl,"set_iterator",_,ö1,h_.lookup,?_]));let I:=Ê1
 let h2:=(Ú L0).push (ja a 0 0 ĩ ep)
 have S2:oB w h2 ř t:=S1.keep λ o e=>Ú4;have hI:h2.get? I=↑(ja a 0 0 ĩ ep):=Ś;have hL:h2.get? Á=↑L0:=zcP _ (Ś);have hsz:Ê1=Á+1:=Ä9 Ô;change Į _ A.in1 Ô _ { s with heap:=h2 };exact zcO (zcV (IW (s:={ s with heap:=h2 }) S2 ?_));rw[Ï6 (zdK)];exact zcO (â0 ?_);exact zcO ?_;change Į _ A.in1 (updateSeq Á (·.push é4) >>= λ _=>updateSeq Á (·.pop)) Ô { s with heap:=h2 };exact zcO (wpAny_updateSeq hL ç0);have hL2:=zd4 (â1 (·.push Value.none)) hL rfl;exact wpAny_updateSeq hL2 ç0;have hL3:=zd4 (â1 (·.pop)) hL2 rfl;let h3:=(h2.update Á (â1 (·.push Value.none))).update Á (â1 (·.pop))
 have oth:∀ b o,b≠ Á->h2.get? b=↑o->h3.get? b=↑o:=λ b o hb e=>(zdC Ô (ŀ hb)).trans ((zdC Ô (ŀ hb)).trans e);have haI:a≠I:=by change a≠ Ê1;rw[hsz];show zB3 (zaR ha)
 have hIn:I≠ Á:=by change Ê1 ≠_;rw[hsz];show zaF (zE2 _)
 exact zD1 #[plainId_quiet F.plain_extend_loop _,codeAny_extend_loopS ((Nk (A:=A.in1) hh I a haI es ep t).toS) hn Á ?_ _ ĩ 0 { s with heap:=h3 } õ _ rfl (zD4 _) #[#[0,λ _=>rfl,oth I _ hIn hI],S2.keep λ o e=>oth a o (ŀ hne) e] hL3 (ItemsOf.nil _) λ s' acc c' hm hS' hacc=>?_]
 .intro hm;rcases zA5.mp hm with q | q
  .show hIn q.symm
  .show hne (zB6.mp q)
 .exact zcO (wpAny_load hS' Œ);let#[h',g',d',tk',os']:=s';obtain rfl:g'=s.gens:=hm.gens;obtain rfl:d'=s.drawn:=hm.drawn;obtain rfl:os'=s.os:=hm.os;have hcm:(Ï0).size=ĩ:=by
   have:=å7;exists this
  have e:acc.toList=å8:=by
   exact List.ext_getElem? λ j=>?_;rw[zA3];rcases za8 j ĩ with q | q
   .have hjl:j<acc.size:=by rw[hacc.1];show q
    have hj:acc[j]?=↑acc[j]:=zB8 hjl;let#[e,e1,e2]:=hacc.2 j _ hj;rw[zD3,zD3,hj,e1,e2];rfl
   .rw[zD3,zD3,zaY (by rw[hacc.1];show q),zaY (by rw[hcm];show q)];rfl
  rw[e];exact h h' tk' (λ b o hb e=>hm.heap b o (λ q=>?_) (oth b o (zB3 hb) (zcP _ (Ú4)))) ?_
  .rcases zA5.mp q with q | q
   .show zB3 hb q
   .have q':b=Ê1:=zB6.mp q;rw[hsz] at q';show zB3 (zaR hb) q'
  .show zE3 (zA8 hS')
end
end ST
namespace ST
open ó ä4 Ã L4
section
variable {Ò}{A:Ñ9}{È8}{Á0}
def Qv œ ê ı Ç1 (hz:ĩ<=Ü) (Q':List ô->È3)
  (h:∀ h1 tk,(∀ b o,¬ ß2->ú2->h1.get? b=↑o)->Á<=h1.objs.size->Q' (å8) { s with heap:=h1,toks:=tk }):Į Ï (collect Ï5) Q' E s:=
 Cc hh S hz λ h1 tk k1 k2=>h h1 tk (λ b o _ q=>k1 b o (zA8 q) q) k2
end
end ST
namespace ST
open ó ä4 È Ã L2
def xO Ð7 (a:Addr) (us:zLV):Heap->Prop:=λ h=>∃ es ep t,oB w h ř t/\es.toList.map ű=us
def xO.lZ Ù3 œ{us:zLV}{h1 h2:Heap}(S:xO w a us h1) (k:∀ o,h1.get? a=↑o->h2.get? a=↑o):xO w a us h2:=by
 let#[es,ep,t,S,e]:=S;show#[es,ep,t,S.keep k,e]
def jy.at Ò Û9 œ{xs:List (ç ×Addr)}(S:jy â8 h a xs (ku w)):xO w a í5 h:=by
 let#[#[es,ep,t,ho,X,h1,h2,h3],_]:=S;show#[es,ep,t,#[ho,X.fits,X.tab.ot,h1,h2],by rw[X.es,zD6];rfl]
section
variable {û}
theorem SA:∀ {ns:ç}{us:zLV},Vals Ë5 us->∀ Ò,ItemsAre (Å1) ns us
 | [],_,Á9,_,_=>Á9
 | n::ns,_,į r t,prog,w=>by
  let#[tk,rfl]:=r;show į (intKind_is Ô Ô) (SA t)
def C3 Ŕ (hu:X.A.units+64<cLine):xA X (Ń "set") (λ xs H Q=>∃ p ys,∃ rows:Î3,í6/\ð3/\L4.jz X.K H ys rows/\Ê2<64/\
  ∀ Ù4 (ps:List (V× ç)),Ý3->Vals (è0) us->(∀ q∈ps,q∈ å9)->(Ï7).Nodup->(∀ r∈rows,r∈ Ï7)->Q Ž (upd H l Ä4)):=by
 ext Í2;obtain⟨its,rv,pl,hz⟩:∃ its,Vals ys its/\(s.heap.IsList p ġ\/s.heap.IsTuple p ġ)/\True:=by
  rcases hq with hq | hq
  .let#[its,rv,pl,_]:=I.list hq;show#[its,rv,Â0 pl.isList,Ó2]
  .let#[its,rv,pl,_]:=ß3 hq;show#[its,rv,Ő pl,Ó2]
 have hl:=ö3;have hlr:ß4=Ê2:=Paired.length hr;have lq:fg Ò7 ò ġ rows:=λ i v hv=>by
  have hv':its[i]?=↑v:=by exists hv
  have hi:i<â2:=(zA2.mp hv').1;let#[hne,b,hb,hsq]:=L4.Paired.at' hr (i:=i) ⋯ V.zC ([]:ç);have hy:ys[i]?=↑(V.ref b):=by
   rw[zA1 ⋯];have:ys.getD i V.zC=ys[i]'⋯:=by simp[show i<ß4 by lia]
   rw[this] at hb;rw[hb]
  let#[v',e1,e2]:=rv.get hy;rw[hv'] at e1;cases e1;cases (show v=Å0 b from e2);let#[its2,rv2,#[o,e,hcl,n,hd],_]:=ß3 hsq;exact#[b,rows.getD i [],rfl,?_,o,its2.toArray,n,e,hcl,hd,by exists SA rv2];simp[show i<Ê2 by lia]
 ext ã3;exact C6 (A:=X.A) hh hu pl lq ç8;ext ì9;have hfr:H Á=none:=Ė;have hSO:=S.at;have vals:Vals ((Ó3).map ö) í5:=by
  clear S U hSO
  induction xs with
  | nil=>show Á9
  | cons e xs ih=>show į rfl ih
 have snd:(Ó3).map ű=ŏ ö:=by rw[zD6];rfl
 exact#[Å Á,_,ä5 (t':=tk) (o:=.ext (xO X.w Á í5)) kk Ï8 ?_,rfl,q Ô (Ó3) hfr vals (λ x hx=>?_) (by rw[snd];show S.nd) λ r hr'=>?_]
 ext Â8
 .let#[e,he,rfl]:=zB0.mp hx;let#[j,j1,j2,j3]:=U.own e he;have hj':its[j]?=↑(Å0 e.2):=by exists j2
  have hjl:j<ß4:=by rw[hl];show (zA2.mp hj').1
  let#[v',e2,e3]:=rv.get (zA1 hjl);rw[hj'] at e2;cases e2;let#[hne,b,hb,_]:=L4.Paired.at' hr (i:=j) ⋯ V.zC ([]:ç);have:ys.getD j V.zC=ys[j]:=by simp[hjl]
  rw[this] at hb;rw[hb] at e3;cases (show Å0 e.2=Å0 b from e3);exact zB7 (i:=j) ?_;rw[List.getElem?_zip_eq_some];show#[by rw[zA1 hjl,hb],j3]
 .rw[snd];let#[j,hj]:=zcI.mp hr';show U.all j r é2 hj
theorem Paired.mk {α β:Type}{F:α->β->Prop}:∀ {l:ß5}{m:List β},l.length=m.length->(∀ Ì7 a b,l[i]?=↑a->m[i]?=↑b->F a b)->Ö7 F l m
 | [],[],_,_=>Á9
 | a::l,b::m,h,f=>į (f 0 a b rfl rfl) (Paired.mk (by exists h) λ i x y hx hy=>f (i+1) x y (by exists hx) (by exists hy))
 | [],_::_,h,_=>by simp at h
 | _::_,[],h,_=>by simp at h
theorem C2 Ŕ:xA X (Ë4 "sorted") (λ xs H Q=>∃ l us vs,∃ rs:Î3,xs=[Å l]/\H l=↑ Ä4/\Vals vs us/\L4.jz X.K H vs rs/\rs.length<64/\L4.dR (vs.zip rs) H Q):=by
 intro gV s σ H xs us0 Q I r h;let#[l,us,vs,rs,rfl,hl,hv,hr,qF,q]:=h;ext Ŗ
 ext Æ2
 let#[qs,q1,q2]:=L4.Paired.perm hp (L4.VR.of hv hr);have hzl:(vs.zip rs).length<64:=by rw[zc4];lia
 have hes:ĩ<=Ü:=by
  have h1:Ë8=(vs.zip rs).length:=Paired.length (L4.VR.of hv hr);have h2:=congrArg List.length eu;rw[zA7,zD2] at h2;have:Ú5:=rfl;lia
 show L4.ZY I (λ Q' h=>Qv (by show Ç6) S hes Q' h) q2 (by rw[q1.length_eq];show hzl) λ p ps hf hp hs=>q p ps hf (hp.trans q1) hs
end
end ST
namespace L5
open ó È L2 L3
open Ã hiding St
def qP:Î3->Î3
 | []=>[]
 | r::rs=>if r∈qP rs then qP rs else r::qP rs
theorem eE {r:ç}:∀ {rs:Î3},r∈qP rs↔r∈rs
 | []=>.rfl
 | x::rs=>by
  unfold qP;split
  .rename_i h;rw[eE,zA5];show#[Ő,λ h'=>h'.elim (λ e=>e▸eE.mp h) id]
  .rw[zA5,zA5,eE]
theorem bJ:∀ rs:Î3,(qP rs).Nodup
 | []=>Á9
 | x::rs=>by
  unfold qP;split
  .show bJ rs
  .rename_i h;show zaC.mpr #[h,bJ rs]
theorem bK:∀ rs:Î3,(qP rs).length<=rs.length
 | []=>zA4 _
 | x::rs=>by
  unfold qP;have:=bK rs;split <;> simp![zC0] <;> lia
def mr:xx:=λ ds S Q=>match ds with
 | [d]=>∃ rows:Î3,ö4=↑(rows.map oZ)/\Ê2<64/\(∀ r∈rows,r≠[])/\∀ l,í3->Q Ž (ups S l (ğ ((L4.qg (qP rows)).map oZ)))
 | _=>ß2
def fM:zLO
 | [ğ ts]=>Ā
 | [Ũ ts]=>Ā
 | _=>none
def Ra:qL zk fM mr:=λ S Z ys z ds Q hz hv e hq=>by
 have key:∀ y ts,ys=[y]->wH y=↑ts->(Ā)=↑z->mr ds S Q:=λ y ts ey et e'=>by
  subst ey;ext Ų;let#[rs,e1,e2]:=Ö8 e';split at e2
  .rename_i hc;cases e2;cases Yh e1;let#[es,h2,h3]:=h1.seq et;cases hJ.mp h3;show#[rs,h2,hc.1,hc.2,â3]
  .cases e2
 unfold fM at e;ext ï8
 .show key Ô rfl rfl e
 .show key Ô rfl rfl e
 .cases e
section
variable {ķ}{Ê7}{p:Pos}
def mr.mo:qA mr:=λ ds S Q Q' hq h=>by
 unfold mr at h ⊢;split at h
 .let#[rows,h1,h2,h3,h4]:=h;show#[rows,h1,h2,h3,λ l hl=>hq Ô (h4 l hl)]
 .show Ü4
def mr.fits Ù3:pB K mr (λ xs H Q=>∃ p ys,∃ rows:Î3,í6/\(y7 K H p ys\/yw K H p ys)/\L4.jz K H ys rows/\Ê2<64/\
  ∀ Ù4 (ps:List (V× ç)),Ý3->Vals (è0) us->(∀ q∈ps,q∈ å9)->(Ï7).Nodup->(∀ r∈rows,r∈ Ï7)->
   ∃ l' us' vs',∃ rs':Î3,[V.ref l]=[Å l']/\ì0/\Vals vs' us'/\L4.jz K Ö vs' rs'/\rs'.length<64/\L4.dR (vs'.zip rs') Ö Q):=λ xs ds H S Q h0 h2 h=>by
 unfold mr at h;split at h
 .rename_i d;ext Æ5;let#[rows,e,qF,hne,h]:=h;obtain⟨a,ys,rfl,g1,g2⟩:∃ a xs,x=Å a/\(y7 ó5\/ö5)/\zt K H (rows.map oZ) xs:=by
   by_cases hn:∃ ts,d=Ũ ts
   .let#[ts,rfl]:=hn;cases e;simp![zj] at h1;let#[a,xs,q1,q2,q3]:=h1;show#[a,xs,q1,Ő q2,q3]
   .let#[a,ys,q1,q2,q3]:=kR h1 h2 e (λ ts z=>hn #[ts,z]);show#[a,ys,q1,Â0 q2,q3]
  exact#[a,ys,rows,rfl,g1,bh g2 hne,qF,λ l us ps hf hv sub nd all=>?_];have mem:∀ r,r∈ Ï7 ↔r∈rows:=λ r=>#[λ h=>by
   let#[q,hq,rfl]:=zB0.mp h;show (zbF (sub q hq)).2,all r]
  have x1:Ext H Ö:=é7;have g3:zt K H ((Ï7).map oZ) (è0):=zt.bz λ q hq=>zt.cE g2 q (sub q hq);have hper:(Ï7).Perm (qP rows):=(zcH nd (bJ rows)).mpr λ r=>by rw[mem,eE]
  have hzip:(è0).zip (Ï7)=ps:=by rw[List.zip_map',List.map_id''];intro a;rfl
  exact#[l,us,è0,Ï7,rfl,yO,hv,bh (è1 x1 _ g3) λ r hr=>hne r ((mem r).mp hr),by rw[hper.length_eq];have:=bK rows;lia,λ p qs hp hi hs=>?_];rw[hzip] at hi;have heq:=L4.VQ ((hi.map ű).trans hper) hs;ext Ú0
  ext ò8
  have x2:Ext Ö (upd Ö p (ğ (qs.map ö))):=ĺ;have r1:yo K Ö S:=h2.new hf;exact h p (h2.none hpH) Ô Ó è2 (r1.ups x2 #[_,yO,?_]);rw[<- heq];show è1 è2 _ (zt.bz λ q hq=>zt.cE g2 q (sub q (hi.mem_iff.mp hq)))
 .show Ü4
end
end L5
namespace ST
open ó ä4 Ã
theorem Rf á2{hs:ç}(T:Tab t hs) (h:Int):∀ (f k K:Nat),k<=K->K<k+f->ß6 ∉t.place.toList->(∀ m<K,(way Í0 h m).j∈t.place.toList)->probe.go t (λ _=>h+1) h f (way Í0 h k)=↑(.empty ß6 none)
 | 0,k,K,h1,h2,_,_=>⋯
 | f+1,k,K,h1,h2,h3,h4=>by
  by_cases e:k=K
  .subst e;unfold probe.go;rw[T.empty h3,ZC]
  .let#[i,g,p1,_]:=T.at (h4 k ⋯);have ih:=Rf T h f (k+1) K ⋯ ⋯ h3 h4
   conv=>lhs;unfold probe.go
   rw[T.live p1];ext Ü8;rw[ť (by intro q;have:=eq_of_beq q;lia),Wo];show ih
theorem EC á2{hs:ç}(T:Tab t hs) (hl:hs.length<=Í0) (h:Int):∃ j,t.freeSlot h=↑(j,Õ)/\W3 t h j:=by
 let#[K,k1,k2,k3]:=T.first hl h;exact#[ß6,?_,#[k2,K,rfl,k3]];have g:=Rf T h (10*turns Í0) 0 K (zD4 _) (by unfold turns;lia) k2 k3;unfold SetTable.freeSlot;have e:t.probe (λ _=>h+1) h (t.probeStart h)=↑(.empty ß6 none):=g;rw[e];rfl
structure iC (prog:ö6) Ð7 õ1 (a:Addr) (xs:Ô0) (led:Bool):Prop where
 ex:∃ es ep t,ç9 a=↑{ cls:=Ń "set",dict:=none,data:=.set es ep t }/\ß7=ŏ (Ě)/\Tab t (ŏ Ç3)/\t.led=led/\t.plain=true/\ß*5<Í0*3
 nd:(ŏ ö).Nodup
section
variable {Ò}{A:Ñ9}{È8}{Á0}
def fits_of Í4 á2{hs:ç}Õ8(h1:ĩ=n) (T:Tab t hs) (h2:hs.length=n) (h3:n<=Í0):t.fits ĩ=true:=by
 have l:=T.len;unfold SetTable.fits SetTable.fill;rw[T.jq,h1,l,h2];simp;lia
def eM {n m:Int}{t:Tok}:(Å1).is n (ć m t)=true↔n=m:=by
 constructor
 .intro h;let#[t',e]:=Value.isInt_shape (show Value.isInt n (ć m t)=true from h);cases e;rfl
 .rintro rfl;show intKind_is Ô Ô
def Dy Í4{xs:Ô0}(h:ß7=ŏ (Ě)):ElemsOf (Å1) ß7:=λ e he=>by
 rw[h] at he;let#[x,_,rfl]:=zB0.mp he;show#[#[x.1,eM.mpr rfl,rfl],rfl]
def Lv Í4 á2{xs:Ô0}{M wanted:Nat}(he:ß7=ŏ (Ě)) (hM:nB M) (hw:sizeAbove wanted=M+1) (hfew:ß*5<M*3):
  ∃ es' t',∃ xs':Ô0,relayAll t es wanted=(es',t',Õ)/\es'.toList=xs'.map (Ě)/\xs'.Perm xs/\Tab t' (xs'.map Ç3)/\t'.mask=M/\t'.led=t.led/\t'.plain=t.plain/\es'.size=ĩ:=by
 ext ź
 have hhs:(es.map ö).toList=ŏ Ç3:=by rw[Array.toList_map,he,zD6];rfl
 have hsz:(es.map ö).size=ß:=by rw[zbK,hlen]
 let#[t',order,h1,h2,h3,h4,h5,h6,h7]:=Si hM t.finger (t.movedTo M) t.led t.plain (es.map ö) (by rw[hsz];lia);rw[hsz] at h6;have hlt:∀ k∈order.toList,k<ß:=λ k hk=>by exists h6.mem_iff.mp hk
 have hr:t.relaid (es.map ö) wanted=↑(t',order):=by
  unfold SetTable.relaid;rw[hw,Nat.add_sub_cancel];show h1
 have hes':(Ó4).toList=(È0).map Ě:=by
  rw[Array.toList_filterMap,List.map_filterMap];congr 1;funext k;rw[<- zD3,he,zA3]
 have hperm:(È0).Perm xs:=(h6.filterMap _).trans (by rw[List.filterMap_getElem?_range_length]);have hsz':(Ó4).size=ĩ:=by
  rw[<- zD2,hes',zA7,ö7,hlen]
 have hT:Tab t' ((È0).map Ç3):=by
  rw[<- Yy xs (Ç3) 0 order.toList hlt,<- hhs];show h7
 exact#[_,t',_,?_,hes',hperm,hT,h2,h4,h5,hsz'];have yh:coversAll order ĩ=true:=by
  unfold coversAll;rw[List.isPerm_iff,hlen];show h6
 have fit:t'.fits (Ó4).size=true:=fits_of (n:=ß) (by rw[hsz',hlen]) hT (by rw[zA7,ö7]) (by rw[h2];lia);unfold relayAll;rw[hr];ext Ü8;rw[yh,fit];rfl
def add_int œ{xs:Ô0}{n:Int}{tk:Tok}{led:Bool}{Q:Bool->È3}(S:iC â8 ò a xs led) (hn:ß<70)
  (h:∀ h' xs' r,Heap.SameBut a ò h'->iC â8 h' a xs' led->(n∈ ŏ ö/\xs'=xs\/n∉ ŏ ö/\xs'.Perm (xs++[(n,tk)]))->Q r { s with heap:=h' }):
  Į Ï (setAddHashed a (ć n tk) (Æ n)) á1:=by
 have S0:=S;let#[#[es,ep,t,ho,he,T,hled,hpl,hfew],hnd]:=S;ext ź
 have hm7:7<=Í0/\Í0<=127:=ç5
 have fit:t.fits ĩ=true:=ð4;have hel:=Dy (prog:=prog) (w:=w) he;unfold setAddHashed setAddHashedIn;exact zcV (zcO (zcZ ho rfl fit ?_));ext Ü8;have bs:byScan (ć n tk) es=true:=by
  have h1:Ŏ (ĩ<scanBound)=true:=zcS (by unfold scanBound;lia);have h2:es.all (·.2.scannable)=true:=by
   rw[Array.all_eq_true_iff_forall_mem];intro e hm;show (hel e (by exists hm)).2
  unfold byScan;rw[h1,h2];rfl
 rw[Ï6 bs];exact zcO ?_;unfold setAddByScan;exact zcO (â0 (zcO (wpAny_setScan_of (k:=n) (eM.mpr rfl) ho rfl fit hel ?_)));have hfind:(Þ4).isSome=true↔n∈ ŏ ö:=by
  rw[he,List.findIdx?_isSome,zD0];constructor
  .rintro⟨e,hm,q⟩;let#[x,hx,rfl]:=zB0.mp hm;show zB0.mpr #[x,hx,(eM.mp q).symm]
  .intro hm;let#[x,hx,rfl]:=zB0.mp hm;show#[_,zB0.mpr #[x,hx,rfl],eM.mpr rfl]
 cases hc:Þ4 with
 | some j=>
  ext Ü8;have hm:=hfind.mp (by rw[hc];rfl);exact zD1 ?_;ext Ü8;show zD1 (h ò xs Õ #[rfl,λ _ _=>rfl] S0 (Â0 #[hm,rfl]))
 | none=>
  ext Ü8;have hm:n∉ ŏ ö:=λ q=>by have:=hfind.mpr q;rw[hc] at this;cases this
  let#[j,fs,F]:=EC T (by rw[zA7];lia) (Æ n);let#[p1,p2,p3]:=T.put F;rw[zA7] at p1;have hpt:(t.put j).1.plain=true:=by rw[p2];show hpl
  have hmt:(t.put j).1.mask=Í0:=by rw[p2]
  have hlt:(t.put j).1.led=led:=by rw[p2];show hled
  generalize hT:(t.put j)=P at *;let#[t1,p]:=P;dsimp only at *;let xs1:=xs.take p++(n,tk)::xs.drop p
  have hperm:xs1.Perm (xs++[(n,tk)]):=by
   have e:xs.take p++xs.drop p=xs:=zc1 p xs;have:xs1.Perm ((n,tk)::(xs.take p++xs.drop p)):=List.perm_middle;rw[e] at this;show this.trans (List.perm_append_singleton Ô).symm
  have hl1:xs1.length=ß+1:=by rw[ö7];simp
  have hes1:(í).toList=xs1.map Ě:=by
   rw[toList_insertAt,he];simp[xs1,zc3,zaZ]
  have hsz1:(í).size=ß+1:=by rw[<- zD2,hes1,zA7,hl1]
  have T1:Tab t1 (xs1.map Ç3):=by
   have:xs1.map (Ç3)=(ŏ Ç3).take p++Æ n::(ŏ Ç3).drop p:=by simp[xs1,zc3,zaZ]
   rw[this];show p3
  have fit1:t1.fits (í).size=true:=fits_of (n:=ß+1) hsz1 T1 (by rw[zA7,hl1]) (by rw[hmt];lia);have hlay:layNew t es (Æ n) (ć n tk)=(í,t1,Õ,Õ):=by
   unfold layNew;rw[fs];ext Ü8;rw[hT];ext Ü8;unfold SetTable.orStandIn;rw[fit1];rfl
  have hsl:(í).size<=Ü:=by
   rw[hsz1];have:Ú5:=rfl;lia
  have hnd1:(xs1.map ö).Nodup:=by
   exact (hperm.map _).nodup_iff.mpr ?_;rw[zE7,List.nodup_append];exact#[hnd,#[],λ x hx y hy=>?_];simp at hy;subst hy;show λ e=>hm (e▸hx)
  have ho1:=bx (es':=í) (t':=t1) ho;have sb:=Ţ ò a (Obj.putSet (í) t1);have hfill:t1.fill=ß+1:=by
   have l:=T1.len;rw[zA7,hl1] at l;unfold SetTable.fill;rw[T1.jq,l];simp
  rw[hlay];ext Ü8;exact zcO (m:=pure ß8) Œ;rw[hpt];simp![if_true];exact zcO (m:=pure true) Œ;simp![if_true];exact zcO (wpAny_storeSet_of ho ç0 hsl);by_cases hf:t1.tooFull=true
  .rw[hf];simp![zB2,zbM,if_true];have hfull:Í0*3<=(ß+1)*5:=by
    have:=hf;ext Í5
   let#[M',g1,g2,g3]:=Ua ß Í0 T.mask hfew hfull hn;let#[es2,t2,xs2,r1,r2,r3,r4,r5,r6,r7,r8]:=Lv (prog:=prog) (w:=w) (t:=t1) hes1 g1 (wanted:=grown (í).size) (by rw[hsz1];show g2) (by rw[hl1];show g3);rw[r1];ext Ü8;exact zcO (m:=pure ß8) (zD1 (zcO (wpAny_storeSet_of ho1 ç0 (by rw[r8];show hsl))));exact zD1 ?_;ext Ü8;exact zD1 (h _ xs2 true (sb.trans (Ţ _ a _)) #[#[es2,ep+1+1,t2,bx ho1,r2,r4,by rw[r6];show hlt,by rw[r7];show hpt,by rw[r3.length_eq,hl1,r5];show g3],(r3.map _).nodup_iff.mpr hnd1] (Ő #[hm,r3.trans hperm]))
  .have hf':t1.tooFull=Õ:=by exists hf
   rw[hf'];simp![zB2,zaU,zC4,if_false];have hfull:(ß+1)*5<Í0*3:=by
    have:=hf';ext Í5
   exact zD1 ?_;ext Ü8;show zD1 (h _ xs1 true sb #[#[_,ep+1,t1,ho1,hes1,T1,hlt,hpt,by rw[hl1,hmt];show hfull],hnd1] (Ő #[hm,hperm]))
end
def Nums (its:zAV) (ns:ç):Prop:=∀ Ì7 v,its[i]?=↑v->∃ n t,v=ć n t/\ns[i]?=↑n
section
variable {Ò}{A:Ñ9}{È8}{Á0}{its:zAV}{ns:ç}
def G0 {led:Bool}{Sa:Addr}{wr:List Addr}(hSw:Sa∉wr) (hN:Nums its ns):Kd â8 A À9 its ns Sa wr (λ h xs=>iC â8 h Sa xs led) (λ _=>True) where
 nd:=λ S=>S.nd
 keep:=λ k _ S=>let #[#[es,ep,t,ho,r],nd]:=S;#[#[es,ep,t,k Ô hSw ho,r],nd]
 af:=λ _ T=>T
 add:=λ{s xs i v Q E} _ S hl hv hQ=>by
  let#[m,t,rfl,hr]:=hN i v hv;unfold setAdd;exact zcV (zcO ((Å1).pyHash (A:=A) (k:=m) (eM.mpr rfl) ?_));show add_int (s:={ s with toks:=ĳ+1 }) (A:=A) S hl λ h' xs' rr sb S' hx=>hQ h' _ xs' rr m t rfl hr sb (zb0 Ô) S' hx
def MN Û9 œ(ho:ç9 a=↑(oq w)):iC â8 h a [] (ku w):=
 #[#[õ,0,_,ho,rfl,#[Â0 rfl,rfl,rfl,Á9,λ j hj=>(by cases hj),λ i g j hg=>(by cases hg)],rfl,rfl,by change 0*5<7*3;lia],Á9]
def C5 {l:Addr}Ë1 ı (hl:s.heap.IsList l its) (hT:Nums its ns) (hn:its.size<70)
  (h:∀ (h':Heap) (tk:Nat) xs,iC â8 h' Á xs (ku w)->Up À9 its ns its.size xs->(∀ b o,b<Á->ő)->Q Ê0 { s with heap:=h',toks:=tk }):
  Į Ï (call (Ń "set") [Å l]) á1:=
 Q7 hh (Â0 hl) hn (G0 #[] hT) (λ h e=>MN e) (λ _ _=>Ó2) h
end
end ST
namespace L4
open ó Ã
def Ca Ò{A:Ñ9}È8 Á0{vs:zLV}{ns:ç}(hI:Ó5 vs ns) (h2:2<=vs.length) (qF:vs.length<64):
  Core â8 A E vs (λ out=>∃ ns',Ó5 out.toList ns'/\ns'.Perm ns/\ns'.Pairwise (·<=·)) s:=by
 obtain⟨v1,v2,rest,rfl⟩:∃ v1 v2 rest,vs=Ë9:=by
  match vs,h2 with
  | Ë9,_=>show#[v1,v2,rest,rfl]
 unfold Core;rw[keyKind_ints hI];exact zD1 #[rfl,?_];exact zcU (wpS_sortRuns (a₀:=pairsOf (Ë9)) (st:=SortSt.mk' oneType' ((Ë9).toArray.zip (Ë9).toArray) õ 7 none)
   (Q:=λ _ st'=>(arrOf st').Perm (pairsOf (Ë9))/\failedOf st'=none/\SortedTo (arrOf st') (pairsOf (Ë9)).size)
   hI.intKeys #[Array.Perm.refl _,rfl,rfl,rfl] (by rw[pairsOf_size];simp) (by rw[pairsOf_size];show qF) λ st' a1 a2 a3=>#[a1,a2,a3]) ?_ λ _ _ e=>e
 rintro⟨⟨⟩,st'⟩ s' ⟨rfl,hp,hf,hs⟩;show#[rfl,hf,sorted_out hI hp hs,by rw[hp.size_eq,pairsOf_size]]
end L4
namespace L5
open ó È L2 L3
open Ã hiding St
structure Bq õ2:Prop where
 set:mg "set"=none
 zip:mg "zip"=none
 enumerate:mg "enumerate"=none
section
variable {û}{ķ}{a b c e:Expr}{ta tb tc:zy}{Ù7}{fa fb fc:zEO}
def kC (f g:x8) (ta tb tc:zy):zy:=fun L S Q=>ta L S λ x S1=>tb L S1 λ y S2=>f x y S2 λ z S3=>match z with
 | .bl k=>if k=true then tc L S3 λ w S4=>g y w S4 Q else Q (.bl Õ) S3
 | _=>ß2
def kC.mo {f g:x8}Ï3:yA Ö9:=fun L S Q Q' hq h=>
 ha À6 (λ x S1 h=>hb Ô9 (λ y S2 h=>hf x y S2 Ô (λ z S3 h=>by
  cases z <;> first
   | show ph (hc L S3 Ô λ w S4 h=>hg y w S4 Ô hq h) (hq Ô) h
   | show h) h) h) h
theorem V4 {f g:x8}{r r':R2}(hr:wF K f r) (hr':wF K g r') Ï3 {σ:St}Ð8{Q:VK}(h:zQ K Ö9 ó6):ZR r r' (zQ K ta) (zQ K tb) (zQ K tc) ó6:=by
 let#[L,S,r1,r2,h]:=h;exact Ø0 ha r1 r2 h Ď;exact Ø0 hb Ł;exact hr v w x y H2 S2 _ (zj.ext e2 x q1) q2 p2 (hf x y S2 Ô (λ d S3 z v3 H3 q3 e3 p3=>?_) h2);cases d with
 | bl k=>
  simp![zj] at q3;exact#[k,q3,ph è3 è3 z]
  .exact Ø0 hc (r1.ext (ţ e3)) p3 z λ w4 S4 v4 H4 h4 q4 e4 p4=>?_;show hr' w v4 y w4 H4 S4 Q (zj.ext (e3.trans e4) y q2) q4 p4 (hg y w4 S4 Ô (λ d S' z=>z.ext ((ţ e3).trans e4)) h4)
  .show z _ H3 Ó (ţ e3) p3
 | _=>show z.elim
@[simp] def dD (f g:Ï1) (fa fb fc:zEO):zEO:=fun Y=>(fa Y).bind λ x=>(fb Y).bind λ y=>(f x y).bind λ b=>match b with
 | .bl k=>if k=true then (fc Y).bind λ z=>g y z else ↑(.bl Õ)
 | _=>none
def rb {f g:Ï1}{F G:x8}(hf:Good2 zk f F) (hg:Good2 zk g G) û5 (hc:yU fc tc):xX (dD f g fa fb fc) (kC F G ta tb tc):=λ S Z L Y y Q hE e hq=>by
 let#[x1,e1,e]:=ĉ;let#[x2,e2,e]:=ĉ;let#[b,e3,e]:=ĉ;exact ha Á7 x1 _ hE e1 λ d1 S1 s1 r1=>?_;exact hb ó7 x2 _ Ò0 e2 í7;exact hf S2 Z x1 x2 b d1 d2 _ (Ã5).zd (Vw.grow r1 s2) r2 e3 λ c S3 s3 r3=>?_;ext ï8
 .have:=r3.1;simp![Sn] at this;subst this;ext ï8
  .rename_i hk;let#[x4,e4,e5]:=ĉ;ext Ü8;rw[Ï6 hk];exact hc S3 Z L Y x4 _ (hE.grow (ú s3)) e4 λ d4 S4 s4 r4=>?_;show hg S4 Z x2 x4 y d2 d4 Q (hE.grow (Ú6 s4)).zd (Vw.grow r2 (s3.trans s4)) r4 e5 λ c' S5 s5 r5=>hq c' S5 ((Ú6 s4).trans s5) (Cl.cl (Ú6 s4) r5)
  .rename_i hk;ext Ü8;rw[ť hk];cases e;show hq _ S3 (ú s3) (Cl.of ā pG)
 .cases e
def uO Ĩ î (hc:PD X c tc)
  É5:PD X ð5 Ö9:=
 #[kC.mo Â1,ð6 (Ja ho ho' ha.pe hb.pe hc.pe hm) λ _ _ _ h=>V4 hr hr' Â1 h]
def vc Ĩ î (hc:PD X c tc)
  É5:zE X ð5 (px Ö9):=by
 exact#[px.mo (kC.mo Â1),PT.imp (LU ho ho' ha.pe hb.pe hc.pe hm) fun σ H Q h=>?_];let#[L,S,r1,r2,h]:=h;exact V4 hr hr' Â1 #[L,S,r1,r2,kC.mo Â1 À6 (λ d S' z v H' a b c=>?_) h];cases d with
 | bl k=>simp![zj] at a;show#[k,a,z H' b c]
 | _=>show z.elim
end
end L5
namespace L2
open ó È Ã
section
variable {û}
def JO:yM X (è4 .Is) (λ x y H Q=>Ü9):=by
 ext Õ0;show is_bool Ä1
def Ti:yM X (è4 .IsNot) (λ x y H Q=>Ý7):=by
 ext Õ0;show isnot_bool Ä1
end
end L2
namespace L5
open ó È L2 L3
open Ã hiding St
section
variable {û}{ķ}{a b c e o i v:Expr}{ø}{ta tb td ty tv:zy}{û6}
def nM:x8:=λ x y S Q=>match x,y with
 | ć i,ć j=>Q (ä6) S
 | Ũ ds,Ũ es=>∃ ns ms:ç,ds=ns.map D.int/\es=ms.map D.int/\Q (.bl (HT.lexLt ns ms)) S
 | _,_=>ß2
def xw:Ï1
 | ć i,ć j=>↑(ä6)
 | Ũ ts,Ũ us=>(nI ts).bind λ ns=>(nI us).map λ ms=>.bl (HT.lexLt ns ms)
 | _,_=>none
def nM.mo:qc nM:=λ x y S Q Q' hq h=>by
 unfold nM at h ⊢;split at h
 .show hq Ô h
 .let#[ns,ms,h1,h2,h3]:=h;show#[ns,ms,h1,h2,ô1]
 .show Ü4
def nM.fits:wF K nM (λ x y H Q=>ou (λ i j=>ä6) ï9\/Ys K ï9):=λ x y d e H S Q h1 h2 h3 h=>by
 unfold nM at h;split at h
 .ext Ô1;show Â0 #[_,_,h1,h2,h Î1 h3]
 .let#[ns,ms,rfl,rfl,h]:=h;ext Ô1;ext Ñ5;let#[b,ys,rfl,g3,g4]:=h2;rw[g2.ints] at g1;rw[g4.ints] at g3;show Ő #[a,b,ns,ms,rfl,rfl,g1,g3,h Î1 h3]
 .show Ü4
def yc:Good2 zk xw nM:=λ S Z x y z d e Q hz hx hy ef hq=>by
 unfold xw at ef;split at ef
 .cases ef;cases hx.int;cases hy.int;show Ī
 .let#[ns,e1,e2]:=Ö8 ef;let#[ms,e3,rfl]:=ß9 e2;cases eN e1;cases eN e3;let#[ds,rfl,h2]:=hx.tup;let#[es,rfl,h4]:=hy.tup;show#[ns,ms,kc.mp h2,kc.mp h4,Ī]
 .cases ef
def Tn Ů:yM X (è4 .Lt) (λ x y H Q=>ou (λ i j=>ä6) ï9\/Ys X.K ï9):=JM.or (JL (by have:=hr.units;lia))
def um Ů î:PD X (È4 a [.Lt] [b] pos) (yT nM ta tb):=jV (Tn hr) nM.fits nM.mo ç1
def wR Ů î:zE X (È4 a [.Lt] [b] pos) (px (yT nM ta tb)):=l8 (Tn hr) nM.fits nM.mo ç1
def qS (neg:Bool):x8:=λ x y S Q=>match x,y with
 | .bl c,.bl d=>Q ð7 S
 | x,.zC=>Q (.bl (cond neg (!gC x) (gC x))) S
 | _,_=>ß2
def mf (neg:Bool):Ï1
 | .bl c,.bl d=>↑ ð7
 | x,.zC=>↑(.bl (cond neg (!isNone x) (isNone x)))
 | _,_=>none
def qS.mo {neg:Bool}:qc (qS neg):=λ x y S Q Q' hq h=>by
 unfold qS at h ⊢;split at h
 .show hq Ô h
 .show hq Ô h
 .show Ü4
def qS.fits:wF K (qS Õ) (λ x y H Q=>(Ü9)\/(y=.zC/\Q (.bl (Ŏ (x=.zC))) H)):=λ x y d e H S Q h1 h2 h3 h=>by
 unfold qS at h;split at h
 .ext Ô1;show ô2
 ext Ý0
 .show Ü4
def qS.Rw:wF K (qS true) (λ x y H Q=>(Ý7)\/(y=.zC/\Q (.bl (! Ŏ (x=.zC))) H)):=λ x y d e H S Q h1 h2 h3 h=>by
 unfold qS at h;split at h
 .ext Ô1;show ô2
 ext Ý0
 .show Ü4
def GC ų å4{x:T}{d:D}(hx:Vw S Z x d):gC d=isNone x:=by
 cases x with
 | zC=>cases hx.zC;rfl
 | bl _=>cases hx.bl;rfl
 | int _=>cases hx.int;rfl
 | str _=>cases hx.str;rfl
 | tup _=>let#[ds,rfl,_]:=hx.tup;rfl
 | lst _=>obtain⟨ds,rfl | ⟨a,rfl,h1⟩,h2⟩:=hx.lst <;> rfl
 | zK _ _=>let#[a,m,#[rfl,_],h1]:=hx.zK;rfl
def rM {neg:Bool}:Good2 zk (mf neg) (qS neg):=λ S Z x y z d e Q hz hx hy ef hq=>by
 unfold mf at ef;split at ef
 .cases ef;cases hx.bl;cases hy.bl;show Ī
 .cases ef;cases hy.zC;have key:Q (.bl (cond neg (!gC d) (gC d))) S:=by
   rw[GC hx];show Ī
  unfold qS;cases d <;> show key
 .cases ef
def u0 î:PD X (È4 a [.IsNot] [b] pos) (yT (qS true) ta tb):=jV (Ti.or Th) qS.Rw qS.mo ç1
def wX î:zE X (È4 a [.Is] [b] pos) (px (yT (qS Õ) ta tb)):=l8 (JO.or JN) qS.fits qS.mo ç1
def wW î:zE X (È4 a [.IsNot] [b] pos) (px (yT (qS true) ta tb)):=l8 (Ti.or Th) qS.Rw qS.mo ç1
def Qg (td ty tv:zy):xg:=λ E L S=>tv L S λ v S1=>td L S1 λ x S2=>ty L S2 λ y S3=>∃ p ds k j,x=ſ/\y=ć k/\S3 p=↑(ğ ds)/\qj ö8 k=↑j/\E.nx L (ups S3 p (ğ (ds.set j v)))
theorem zt.set Ð8{d:D}{x:V}(h:zj K H d x):∀ Ÿ Õ5(j:Nat),Ò1->zt K H (ds.set j d) (xs.set j x)
 | [],xs,j,r=>by simp![zt] at r;subst r;show Á9
 | c::ds,xs,0,r=>by
  simp![zt] at r;let#[y,ys,rfl,_,r2]:=r;show į h r2
 | c::ds,xs,j+1,r=>by
  simp![zt] at r;let#[y,ys,rfl,r1,r2]:=r;show į r1 (zt.set h j r2)
def vj (ho:PD X o td) (hi:PD X i ty) (hv:PD X v tv) (hs:swapsWithSole [Ú7] v ð0=í8) (hw:swappedStores [Ú7] v Î=pure none)
  (h1:(assignEach [Ú7] Î).map ű=[assign (Ú7) Î])
  (ha:∀ v,assign (Ú7) Î v=(do
   let ov <- ö9 [v] (è)
   let iv <- ö9 [v,ov] (eval i Î)
   standAt pos'
   ö9 [v,ov,iv] (setItem ov iv v)
   release [v,ov,iv] [])):zv X (.Assign [Ú7] v pos) (Qg td ty tv):=by
 exact#[λ E E' L S hE z=>hv.mo À6 (λ w S1 z=>æ0 Ô9 (λ x S2 z=>hi.mo L S2 Ô (λ y S3 #[p,ds,k,j,a,b,c,d,h]=>#[p,ds,k,j,a,b,c,d,hE.nx Ô h]) z) z) z,PS.imp (UL hv.pe (K1 ho.pe hi.pe set_list ha) hs hw h1) ø0];ext Í;exact Ø0 hv.mo á3 λ w S1 w1 H1 h1 q1 e1 p1=>?_;exact Ø0 æ0 (Å2) p1 h1 λ x S2 w2 H2 h2 q2 e2 p2=>?_;exact Ø0 hi.mo ((Å2).ext e2) p2 h2 λ y S3 w3 H3 h3 q3 e3 p3=>?_;let#[p,ds,k,j,rfl,rfl,c1,c2,h]:=h3;simp![zj] at q2 q3;subst q2 q3;let#[xs,g1,g2]:=p3 Ô c1;have e4:Ext H3 (upd H3 p (ğ (xs.set j w1))):=ğ g1 _;exact#[p,xs,k,j,rfl,rfl,g1,by rw[<- g2.length];show c2,?_];show h σ _ ((((Å2).ext e2).ext e3).ext e4) ((ţ e3).trans e4) (p3.ups e4 #[_,yO,è1 e4 _ (zt.set (zj.ext (e2.trans e3) w q1) j g2)])
@[simp] def gr Ý5 (f v:zEO):Sm:=fun Y=>(v Y).bind λ z=>Ç7 λ y=>match Y[n]?,y with
 | Ý8,ć k=>(qj ts.length k).map λ j=>.nx (Y.set n ↑(.own (ğ (ts.set j z))))
 | _,_=>none
def tp Ù5 Ý5 {f v:zEO}(hf:yU f ty) (hv:q8 v tv):yp R (gr n f v) (Qg (yN n) ty tv):=λ S0 Z0 S Z L Y o E F e P=>by
 let#[z,e1,e]:=ĉ;let#[x,e2,e3]:=ĉ;split at e3
 .rename_i ts k h;let#[j,hj,rfl]:=ß9 e3;exact hv Á7 z _ F.er e1 λ dz S1 s1 r1=>?_;have F1:=F.grow s1;let#[p,ob,h1,h2,h3,h4]:=F1.er.ow n _ h;cases ob with
  | lst ds=>
   change yN n L S1 _;unfold yN;rw[h1];exact hf ó7 Ô F1.er e2 λ d S2 s2 r2=>?_;cases Vw.int r2;have h5:zp (yn S2 Z) ts ds:=zp.sx (pO s2) ts h3;show#[p,ds,k,j,rfl,rfl,s2 Ô h2,by rw[h5.len];show hj,P _ Z L ((F1.grow s2).mut (us:=ğ (ts.set j z)) (es:=ğ (ds.set j dz)) n h h1 (h5.Uc j (Sn.sx (pO s2) z r1)))]
  | _=>show h3.elim
 .cases e3
def Js {x y:Str}{u:ô}(hm:X.mg x=↑u) (r:RelV (ã y) u) À2 (hd:Þ):PD Ä7 (dC (ã y)):=é8
def Jt Ì8{n:Int}{u:ô}(hm:X.mg x=↑u) (r:RelV (ć n) u) À2 (hd:Þ):PD Ä7 (dC (ć n)):=é8
end
end L5
namespace ZP
open ó Ã
def YZ â9:String:=cond k "tuple_iterator" "list_iterator"
def SI õ1 â9 (it l:Addr) Ì7:Prop:=∃ o,ç9 it=↑o/\o.cls=Ń (YZ k)/\o.data=.fields [Å l,ć i 0].toArray
def SQ õ1 â9 õ3 (xs:zAV):Prop:=match k with
 | true=>h.IsTuple l xs
 | Õ=>é9
def SI.on û4 ë3{it l:Addr}{i:Nat}(x:SI h k it l i) (f:∀ o,ç9 it=↑o->å6 it=↑o):SI h' k it l i:=
 let #[o,ho,r]:=x;í9
def SQ.on û4 Ŭ(x:ø1) (f:∀ o,ç9 l=↑o->å6 l=↑o):SQ h' k l xs:=by
 cases k with
 | true=>let#[o,ho,r]:=ã0;show í9
 | Õ=>let#[o,ho,r]:=(show é9 from x);show í9
def SQ.lt Û9 Ŭ(x:ø1):l<h.objs.size:=by
 cases k with
 | true=>let#[o,ho,_]:=ã0;show zA8 ho
 | Õ=>let#[o,ho,_]:=(show é9 from x);show zA8 ho
theorem SQ.cls Û9 Ŭ(x:ø1):∃ o,ç9 l=↑o/\o.cls=Ń (cond k "tuple" "list"):=by
 cases k with
 | true=>let#[o,ho,c,_]:=ã0;show#[o,ho,c]
 | Õ=>let#[o,ho,c,_]:=(show é9 from x);show#[o,ho,c]
section
variable {Ò}{A:Ñ9}{È8}{Á0}
def made Ŭ Ë1(hl:à0)
  (hQ:Q Ê0 { s with heap:=Ú { cls:=Ń (YZ k),data:=î0 } }):Į Ï (pyIter Ž) á1:=by
 cases k with
 | true=>show zdD hl hQ
 | Õ=>show zd9 hl hQ
def DD Ã2{x:ô}Ë1 Ì4 (hx:Ú8)
  (hQ:∀ h',h'.IsTupleIter it l (i+1)->Ú9):Ç8:=by
 ext ŝ;have there:=zd4 (Obj.mapFields λ y=>y.setIfInBounds 1 (rawInt ((i:Int)+1))) e1 (Obj.isFreed_of_fields (Obj.data_mapFields e3 _));exact zcO (zdB e1 e3 #[] (zD1 #[x,rfl,zD1 (hQ _ #[_,there,(Obj.cls_mapFields ..).trans e2,?_] (Ţ ..))]));rw[Obj.data_mapFields e3];simp[rawInt]
def Dv Ã2 Ë1 ı Ì4 Ŝ:Ç8:=by
 ext ŝ;exact zcO (â0 (zcO (zdB e1 e3 #[] ?_)));exact zcO (m:=newExc (Ô6) []) ?_;simp![newExc,newTuple];exact zcO (zcY (ņ) (by size_fits));simp![raiseNew];ext Ö1;show zcO (zD1 (wpAny_throw (hE Ô ë9 ö1)))
def draw ë3 Ã2{x:ô}Ë1 ó8 (hx:Ú8)
  (hQ:∀ h',SI h' k it l (i+1)->Ú9):Ç8:=by
 cases k with
 | true=>show DD hit hl hx hQ
 | Õ=>show wpAny_nextOf_list_item hit hl hx hQ
def aD ë3 Ã2 Ë1 ı ó8 Ŝ:Ç8:=by
 cases k with
 | true=>show Dv hh hit hl hx hE
 | Õ=>show wpAny_nextOf_list_end hh hit hl hx hE
structure Zk (z TI TO i1 i2 l1 l2:Addr):Prop where
 nd:[z,TI,TO,i1,i2].Nodup
 f1:l1∉ å
 f2:l2∉ å
structure At õ1 ò0 (z TI TO i1 i2 l1 l2:Addr) (f0:ô) Ý5:Prop where
 z:IsZip h z TI TO f0
 ti:ø2 h TI (Å i1) (Å i2)
 to:∃ a b,ø2 h TO a b
 s1:SI h k1 i1 l1 n
 s2:SI h k2 i2 l2 n
def At.keep û4 Æ6{f0:ô}Õ8(S:At h k1 k2 Ĵ f0 n) (f:∀ b∈ å,∀ o,ç9 b=↑o->å6 b=↑o):At h' k1 k2 Ĵ f0 n:=
 #[f z #[] _ S.z,f TI #[] _ S.ti,let #[a,b,e]:=S.to;#[a,b,f TO #[] _ e],S.s1.on (f i1 #[]),S.s2.on (f i2 #[])]
def item Æ6 Õ8{xs ys:zAV}{x y:ô}å3 í0
  Ã9 (hx:xs[n]?=↑x) (hy:ys[n]?=↑y)
  (hQ:∀ h',At h' k1 k2 Ĵ (rawInt Á) (n+1)->ø2 h' Á x y->æ1->Q ↑ Ê0 { s with heap:=h' }):
  Į Ï (pyNext ø3) á1:=by
 let#[nd,f1,f2]:=D;ext Ý;ext đ;ext Ø;replace to3:ø2 g3 TO x b:=to3;ext ľ;exact zcO (zcO (è5 (zcO (m:=ĕ (Å i2)) (draw Ã0 λ g4 s24 e4=>zD1 ?_))));have to4:ø2 g4 TO x b:=ø4 Ô n9 to3;exact zcO (zd0 to4 rfl (zcO (wpAny_updateSeq_pair to4 λ g5 to5 e5=>zcO (wpAny_letGo (zD1 Œ)))));replace to5:ø2 g5 TO x y:=to5;exact zcO (zd0 to5 rfl (zcO (wpAny_newTuple ?_)));have sz:Ç9=Á:=by rw[e5.1,e4.1,e3.1,e2.1,e1.1]
 have hz5:IsZip g5 Ì9:=à1 Ô n2 (ø4 Þ2);have up5:∀ c o,c∉ å->â c=↑o->g5.get? c=↑o:=λ c o hc q=>by
  ext Î4;show à1 Ô hc.2.2.1 (ø4 Ù6)
 have ti5:ø2 g5 TI (Å i1) (Å i2):=à1 Ô n5 (ø4 Ô n7 (up Ô (ŀ n1) n6 n5 hti));have s15:SI g5 k1 i1 l1 (n+1):=s12.on λ o q=>à1 Ô (ŀ n8) (ø4 Ô n10 (ø5 Ô (ŀ n8) q));have s25:SI g5 k2 i2 l2 (n+1):=s24.on λ o q=>à1 Ô (ŀ n9) q;have lz:z<Ç9:=zA8 hz5;exact zcO (m:=Builtin.SmallTypes.ownedTupleHandOut ø3 (Å Ç9)) ?_;have hz6:IsZip (Ö3) Ì9:=zcP _ hz5;exact zcO (zd6 hz6 #[] λ g7 hz7 e7=>?_);replace hz7:IsZip g7 z TI TO (rawInt Ç9):=hz7;exact zd6 hz7 #[] λ g8 hz8 e8=>?_;replace hz8:IsZip g8 z TI TO (rawInt Ç9):=hz8;have up8:∀ c o,c≠z->(Ö3).get? c=↑o->g8.get? c=↑o:=λ c o c1 q=>e8.extBut Ô c1 (e7.extBut Ô c1 q);have T8:ø2 g8 Ç9 x y:=up8 Ô (zaF lz) (Ś);have up9:∀ c o,c≠z->g5.get? c=↑o->g8.get? c=↑o:=λ c o c1 q=>up8 c o c1 (zcP _ q);rw[sz] at hz8 T8;exact zD1 #[Å Ç9,rfl,zD1 ?_];change Q ↑(Å Ç9) _;rw[sz];exact hQ g8 #[hz8,up9 Ô (ŀ n1) ti5,#[x,y,up9 Ô (ŀ n2) to5],s15.on λ o q=>up9 _ o (ŀ n3) q,s25.on λ o q=>up9 _ o (ŀ n4) q] T8 λ c o hc q=>up9 c o (λ e=>hc (by simp[e])) (up5 c o hc q)
def stop Æ6 Õ8{xs ys:zAV}å3 ı í0
  Ã9 (hend:xs[n]?=none\/ys[n]?=none)
  (hQ:∀ h',æ1->Q none { s with heap:=h' }):
  Į Ï (pyNext ø3) á1:=by
 let#[nd,f1,f2]:=D;ext Ý;have fin:∀ (h':Heap) (e:Addr),æ1->ô3->
   Į Ï (do if <- isInstance (Å e) (Ô6) then pure none else throw (Å e)) Q E { s with heap:=h' }:=λ h' e k1 k2=>by
  let#[o,ho,hc]:=k2;show zcO (Ü3 Î7 (zD1 (hQ _ k1)))
 ext đ;cases hx:xs[n]? with
 | none=>
  exact zcO (zcO (è5 (zcO (m:=ĕ (Å i1)) (aD hh Å7 λ g2 ex e2 he=>?_))));have hz2:IsZip g2 Ì9:=e2 Ô n3 hz1;let#[oe,q1,q2]:=he;have ne:ex≠z:=λ q=>by subst q;rw[hz2] at q1;cases q1;simp at q2
  exact zd6 hz2 #[] λ g3 _ e3=>fin g3 ex (λ c o hc q=>?_) #[oe,ø5 Ô ne q1,q2];ext Î4;show ø5 Ô hc.1 (e2 Ô hc.2.2.2.1 (ø6 Ô hc.1 q))
 | some x=>
  have hy:ys[n]?=none:=hend.resolve_left (by rw[hx];simp);ext Ø;ext ľ;exact zcO (zcO (è5 (zcO (m:=ĕ (Å i2)) (aD hh Ã0 λ g4 ex e4 he=>?_))));have hz4:IsZip g4 Ì9:=e4 Þ2;let#[oe,q1,q2]:=he;have ne:ex≠z:=λ q=>by subst q;rw[hz4] at q1;cases q1;simp at q2
  exact zd6 hz4 #[] λ g5 _ e5=>fin g5 ex (λ c o hc q=>?_) #[oe,à1 Ô ne q1,q2];ext Î4;show à1 Ô hc.1 (e4 Ù6)
end
abbrev nH â9 õ3:Obj:={ cls:=Ń (YZ k),data:=î0 }
abbrev gI ż:Heap:=(h.push â4).push (nH k2 l2)
abbrev ak ż:Heap:=(gI á4).push { cls:=ü,data:=.seq [Å h.objs.size,Å (h.push â4).objs.size].toArray }
abbrev aj ż:Heap:=(ak á4).push { cls:=ü,data:=.seq [é4,é4].toArray }
abbrev gH ż:Heap:=(aj á4).push { cls:=Ń "zip",data:=.fields [é4,.bool Õ,.bool Õ,Å (gI á4).objs.size,Å (ak á4).objs.size].toArray }
def Hz ò0 (l1 l2:Addr) (xs ys:zAV):Meets (Builtin.«zip.__new__» #[[Ń "zip",Å l1,Å l2],[]]) (λ _ R s=>SQ ò k1 l1 xs/\SQ ò k2 l2 ys/\
   R (.ok (.ret (Å î1))) { s with heap:=gH ī }):=
 .of_wp λ prog w A R s h=>by
  ext Ę;let#[q1,q2,h]:=h;have hsub:=sub_zip;have m1:SQ Ä5 k1 l1 xs:=q1;have m2:SQ (Shared.heap #[hp.push â4,g,d,tk,os]) k2 l2 ys:=q2.on λ o e=>Ú4
  wp_walk using made m1,made m2
  show Ū
section
variable {Ò}{A:Ñ9}{È8}{Á0}
def new {k1 k2:Bool}{l1 l2:Addr}{xs ys:zAV}Ë1 Ã9
  (h:∀ h' z TI TO i1 i2,(∀ b∈ å,Á<=b)->Zk Ĵ->At h' k1 k2 Ĵ é4 0->(∀ c o,ž)->Q ø3 { s with heap:=h' }):
  Į Ï (call (Ń "zip") [Å l1,Å l2]) á1:=by
 exact callType_new F.called_zip () (F.typeCall_zip_2 Ô) (F.newCall_zip_2 Ô) (λ obj=>F.args_object_init_3 obj Ô) F.entry_zip_new (Hz k1 k2 l1 l2 xs ys) #[h1,h2,?_];have z1:(Ú â4).objs.size=Á+1:=Ä9 ..;have z2:(gI ī).objs.size=Á+2:=by rw[Ä9,z1]
 have z3:(ak ī).objs.size=Á+3:=by rw[Ä9,z2]
 have z4:î1=Á+4:=by rw[Ä9,z3]
 have p1:∀ õ1 (o:Obj),o.isFreed=Õ->(h.push o).get? h.objs.size=↑o:=λ h o e=>zA9 _ e;have u:∀ Û9{b:Addr}{o:Obj}(o':Obj),ç9 b=↑o->(h.push o').get? b=↑o:=λ o' e=>Ú4;have g5:à2 î1=↑_:=p1 Ô rfl;have g4:à2 (ak ī).objs.size=↑_:=à3;have g3:à2 (gI ī).objs.size=↑_:=u _ (à3);have g2:à2 (Ú â4).objs.size=↑(nH k2 l2):=u _ (u _ (à3));have g1:à2 Á=↑ â4:=u _ (u _ (u _ (à3)));have a1:=h1.lt;have a2:=h2.lt;rw[z2,z3,z4] at g5;rw[z1,z2] at g3;rw[z3] at g4;rw[z1] at g2;generalize hN:Á=N at *;have lt:∀ {m:Nat},m<N->∀ j:Nat,¬ m=N+j:=λ hm j=>⋯;have ne:∀ {i j:Nat},i≠j->¬ (N+i=N+j):=λ hij e=>hij ⋯;change _/\_;rw[z4];exact#[#[_,g5,rfl],h _ (N+4) (N+2) (N+3) N (N+1) (λ b hb=>?_) #[?_,?_,?_] #[g5,g3,#[_,_,g4],#[_,g1,rfl,rfl],#[_,g2,rfl,rfl]] λ c o e=>u _ (u _ (u _ (u _ (u _ e))))]
 .ext ĵ;have h0:N<=N:=zA4 N;ext í4
  .show zb0 N 4
  .show zb0 N 2
  .show zb0 N 3
  .show h0
  .show zb0 N 1
 .have e0:∀ {i:Nat},i≠0->¬ (N+i=N):=λ hi e=>hi ⋯;have e0':∀ {i:Nat},i≠0->¬ (N=N+i):=λ hi e=>hi ⋯;simp![zaC,zA5,za5,â5,not_or,List.nodup_nil,and_true,not_false_eq_true];show#[#[ne (),ne (),e0 (),ne ()],#[ne (),e0 (),ne ()],#[e0 (),ne ()],e0' ()]
 .simp![zA5,za5,â5,not_or];show#[lt a1 4,lt a1 2,lt a1 3,zB3 a1,lt a1 1]
 .simp![zA5,za5,â5,not_or];show#[lt a2 4,lt a2 2,lt a2 3,zB3 a2,lt a2 1]
end
end ZP
namespace L2
open ó È Ã ZP
section
variable {û}{Á2}{Á0}
def Inv.cM {h':Heap}{t':Nat}{fp:List Addr}(I:Ħ) (k:∀ b o,b∉fp->ő) (hf:∀ b∈fp,nW X gV H b):Inv á5 H { s with heap:=h',toks:=t' }:=by
 have nit:∀ b u,H b=↑u->b∉fp:=λ b u e z=>by rw[(hf b z).1] at e;cases e
 exact I.step (g':=s.gens) (d':=s.drawn) (ch:=fp) (λ b hb=>?_) (λ b o _ _ hc e _=>k b o hc e) (λ b o _ _ hc e _=>#[o.slots,k b o hc e]) (λ _ _ _ _ n=>n)
  (λ b o hc e=>#[o,k b o hc e]) (λ _ _ e=>e) (λ _ _ _ e=>e) (λ b ps e=>#[õ,by rw[e];simp]) (λ m hm=>?_) (λ b u e=>?_) I.bare
 .let#[_,q1,_,q2,q3,q4]:=hf b hb;show#[q2,q1,q3,q4]
 .let#[o,es,ep,ho,r]:=hm;show#[o,es,ep,k _ o (λ z=>(hf _ z).2.1 rfl) ho,r]
 .exact (I.zI b u e).lZ (λ c v hc q=>k c v ?_ q) (λ _ q=>q) λ _ _ q=>q;rcases hc with z | z
  .rw[z];show nit b u e
  .show nit c _ z
def pV Ĭ (H:Hp) â9 (a:Addr) (xs:List V):Prop:=match k with
 | true=>ö5
 | Õ=>y7 ó5
def pV.of (I:Ħ) ë3 œ Õ5(h:pV X.K H k a xs):∃ its:List ô,Vals xs its/\SQ ò k a ġ:=by
 cases k with
 | true=>let#[its,rv,p,_]:=ß3 h;show#[its,rv,p]
 | Õ=>let#[its,rv,p,_]:=I.list h;show#[its,rv,p.isList]
def pV.inj (I:Ħ) ë3 œ{xs ys:List V}(h:pV X.K H k a xs) (h':pV X.K H k a ys):xs=ys:=by
 cases k with
 | true=>show I.ZJ h h'
 | Õ=>show I.YJ h h'
def PV Ĭ ò0 (a1 a2:Addr):It:=
 #[λ i H=>∃ xs ys x y,ø7/\ø8/\Ú8/\ys[i]?=↑y,
   λ i H v H'=>∃ p x y,v=ſ/\ú0/\H'=upd H p (Ũ [x,y])/\(∀ xs,ø7->Ú8)/\∀ ys,ø8->ys[i]?=↑y,
   λ i H=>∃ xs ys,ø7/\ø8/\(ß<=i\/ß4<=i)]
def N3 Ĕ ø{kk} Ù7{k1 k2:Bool}{z TI TO i1 i2 a1 a2:Addr}(D:Zk z TI TO i1 i2 a1 a2):
  Turn P w K (.Tuple es kk pos) (PV K k1 k2 a1 a2) å z (λ i h=>At h k1 k2 z TI TO i1 i2 a1 a2 é4 i) where
 mem:=#[]
 obj:=λ i h st b hb=>by
  let#[q1,q2,#[_,_,q3],#[o1,q4,_,d1],#[o2,q5,_,d2]]:=st;ext ĵ;ext í4
  .show#[_,q1,ã4]
  .show#[_,q2,ã4]
  .show#[_,q3,ã4]
  .show#[_,q4,ø9]
  .show#[_,q5,λ v z=>by rw[d2] at z;cases z]
 keep:=λ i h h' st k=>st.keep k
 item:=by
  ext ï;let#[xs,ys,x,y,g1,g2,hx,hy]:=hg;ext Ï4;let#[u1,e1,r1]:=rv1.get hx;let#[u2,e2,r2]:=rv2.get hy;exact ZP.item D st q1 q2 (x:=u1) (y:=u2) (by exists e1) (by exists e2) λ h' S' T' up=>ù0;exact wpAny_letOwnedTupleGo_zip S'.z λ h2 z2 sb=>?_;have nT:Á ∉ å:=λ hb=>by
   let#[o,ho,_]:=(show ∃ o,â Á=↑o/\True from by
    let#[w1,w2,#[_,_,w3],#[o1,w4,_],#[o2,w5,_]]:=st;ext ĵ;rcases hb with e | e | e | e | e <;> rw[e]
    .show#[_,w1,Ó2]
    .show#[_,w2,Ó2]
    .show#[_,w3,Ó2]
    .show#[_,w4,Ó2]
    .show#[_,w5,Ó2])
   show ù1 (zA8 ho) (zE1 _)
  have nz:Á ≠z:=λ e=>nT (by simp[e]);have fr:H Á=none:=Ė;have I1:Inv á5 (upd H Á (Ũ [x,y])) { s with heap:=Ý4,toks:=ĳ }:=
   ä5 (o:=Ũ [x,y]) (λ b u q=>zcP _ q) Ï8 #[ç6,[u1,u2],į r1 (į r2 Á9),ð8]
  have hf':∀ b∈ å,upd H Á (Ũ [x,y]) b=none:=λ b hb=>by
   rw[yx (λ e=>nT (by rw[<- e];show hb))];show (hf b hb).1
  have kk:∀ b o,b∉ å->(Ý4).get? b=↑o->h2.get? b=↑o:=λ b o hb q=>by
   have hbz:b≠z:=λ e=>hb (by simp[e]);by_cases hbs:b=Á
   .subst hbs;rw[Ś] at q;cases q;show Ø1 Ô nz T'
   .ext Ô2
    show Ø1 Ô hbz (up b o hb q')
  have I2:=Inv.cM (h':=h2) (t':=ĳ) (fp:=å) ç2;exact#[Å Á,_,I2,rfl,#[_,x,y,rfl,fr,rfl,ù8,λ zs hz=>by rw[hz.inj I g2];show hy],#[z2,?_,?_,?_,?_],hf']
  .ext Ġ;show Ø1 Ô (ŀ nd.1.1) S'.ti
  .let#[a,b,e]:=S'.to;ext Ġ;show#[a,b,Ø1 Ô (ŀ nd.1.2.1) e]
  .ext Ġ;show S'.s1.on λ o q=>Ø1 Ô (ŀ nd.1.2.2.1) q
  .ext Ġ;show S'.s2.on λ o q=>Ø1 Ô (ŀ nd.1.2.2.2) q
 done:=by
  ext ï;let#[xs,ys,g1,g2,hx]:=hg;ext Ï4;have l1:=rv1.length;have l2:=rv2.length;exact ZP.stop (Ç6) D st q1 q2 ?_ λ h' up=>#[rfl,I.cM (t':=ĳ) up hf];rcases hx with hx | hx
  .show Â0 ä7
  .show Ő ä7
 self:=λ _ _ _ _ _ st h=>wpAny_pyIter_zip st.z h
def GP Ĭ (ta:TA):TI:=fun σ H R=>ta σ H λ vs H1=>∃ a1 a2 k1 k2,vs=[Å a1,Å a2]/\(∃ xs,pV K H1 k1 a1 xs)/\(∃ ys,pV K H1 k2 a2 ys)/\R (PV K k1 k2 a1 a2) H1
theorem Ks {a b:Expr}{ta:TA}{p pos pos':Pos}ø{kk} (hg:Gl X "zip") (hm:X.mg "zip"=none) (ha:PA X à4 ta) (hs:Ï9:=by rfl) (hs2:ē [b] Î=[ò2]:=by rfl):
  PI Î2 (Ĝ (ě "zip" p) à4 Á1) (GP X.K ta):=by
 intro gV s σ H R I h;exact Call_ (ib I hg hm boot_zip (ù2 É6 (by rw[hs,hs2]) (by rw[hs2];rfl)));let#[a1,a2,k1,k2,rfl,#[xs,g1],#[ys,g2],q]:=q1;cases r1 with
 | cons r rr=>
  cases rr with
  | cons r' rr=>
   cases rr;cases r;cases r';let#[it1,_,q1]:=g1.of I1;let#[it2,_,q2]:=g2.of I1;exact ZP.new q1 q2 λ h' z TI TO i1 i2 nw D S up=>wpAny_pyIter_zip S.z ?_;show#[z,å,_,_,H1,rfl,I1.kept (t':=s1.toks) up,N3 D,S,Ó6,q]
end
end L2
namespace L5
open ó È L2 L3
open Ã hiding St
section
variable {ķ}{a:Expr}{p:Pos}
def Sv (t:y6):pz:=fun L S R=>t L S λ ds S1=>∃ d e xs ys,ds=[d,e]/\y4 d S1=↑xs/\y4 e S1=↑ys/\R #[à5 Ý9 xs ys,λ S=>ö4=↑xs/\y4 e S=↑ys] S1
def eK:D->Bool
 | Ũ _=>true
 | _=>Õ
def y4.k Ð8 ų{d:D}{v:V}Ÿ(r:zj K H d v) (p:è6) (e:ö4=↑ds):∃ a xs,v=Å a/\pV K H (eK d) a xs/\Ò1:=by
 by_cases q:∃ ts,d=Ũ ts
 .let#[ts,rfl]:=q;cases e;simp![zj] at r;let#[a,xs,h1,h2,h3]:=r;show#[a,xs,h1,h2,h3]
 .let#[a,xs,h1,h2,h3]:=kR r p e λ ts z=>q #[ts,z];exact#[a,xs,h1,?_,h3];have:eK d=Õ:=by cases d <;> first | rfl | show ù1 À3 q
  rw[this];show h2
end
section
variable {û}{a b:Expr}{Õ4}{û6}{ø}{kk:Nat}
def vy (hm:X.mg "zip"=none) (ha:y9 X à4 tA) (hg:Gl X "zip") (hs:Ï9) (hs2:ē [b] Î=[ò2]):
  yu Î2 (Ĝ (ě "zip" p) à4 Á1) (Sv tA):=by
 exact#[fun L S Q Q' hq z=>Ø2 À6 (λ ds S1 #[d,e,xs,ys,h1,h2,h3,h4]=>#[d,e,xs,ys,h1,h2,h3,hq Ô h4]) z,PI.imp (Ks hg hm ha.pa hs hs2) ò3];ext Í6;let#[d,e,xs,ys,rfl,s1,s2,h]:=h1;let#[v,u,rfl,d1,d2]:=q1.two;ext ä1;let#[a2,ws,rfl,g3,g4]:=y4.k d2 p1 s2;exact#[a1,a2,eK d,eK e,rfl,#[us,g1],#[ws,g3],æ2];let#[b1,us2,q1,m1,m2]:=y4.k (zj.ext x1 d d1) x2 hk.1;cases q1;let#[b2,ws2,q2,m3,m4]:=y4.k (zj.ext x1 e d2) x2 hk.2;cases q2;have l1:=m2.length;have l2:=m4.length;exact#[λ dd hd=>?_,λ hl=>#[us2,ws2,m1,m3,?_]]
 .rw[List.getElem?_zipWith] at hd;split at hd
  .rename_i dx dy hx hy;cases hd;let#[x,hx',rx]:=m2.get hx;let#[y,hy',ry]:=m4.get hy;exact#[#[us2,ws2,x,y,m1,m3,hx',hy'],λ v H' q=>?_];let#[pp,x',y',rfl,hp,rfl,f1,f2]:=q;ext Î6
   have ey:y'=y:=by have:=f2 _ m3;rw[hy'] at this;show (zD5 this).symm
   subst ex ey;ext õ4;show#[pp,_,rfl,yw.of yO,è1 (ĺ) _ (į rx (į ry Á9))]
  .cases hd
 .have hl':(à5 Ý9 xs ys).length<=i:=hl;rw[List.length_zipWith] at hl';lia
@[simp] def lT:ę->Ê (ę)
 | [x,y]=>(wH x).bind λ xs=>(wH y).map λ ys=>à5 (λ a b=>T.tup à4) xs ys
 | _=>none
theorem VU ų:∀ {ts us:ę}{ds es:List D},zp S ts ds->zp S us es->zp S (à5 (λ a b=>T.tup à4) ts us) (à5 Ý9 ds es)
 | [],us,ds,es,h,h'=>by simp![zp] at h;subst h;exists zp.nil
 | t::ts,[],ds,es,h,h'=>by simp![zp] at h';subst h';exists zp.nil
 | t::ts,u::us,ds,es,h,h'=>by
  simp![zp] at h h';let#[c,cs,rfl,h1,h2]:=h;let#[c',cs',rfl,h3,h4]:=h';show zp.cons (ly (zp.cons h1 (zp.cons h3 zp.nil))) (VU h2 h4)
def y4.sx {S S':SS}{d:D}Ÿ(h:ö4=↑ds) (s:Sx S S'):y4 d S'=↑ds:=by
 unfold y4 at h ⊢;split at h
 .show h
 .show h
 .split at h
  .rename_i q;cases h;rw[s Ô q]
  .cases h
 .cases h
def tH {g:ŗ}(h:nA g tA):lO Õ (xC lT g) (Sv tA):=λ S Z L Y ts Q hE e hq=>by
 ext Ō;unfold lT at e2;split at e2
 .let#[xs,e3,e4]:=Ö8 e2;let#[zs,e5,rfl]:=ß9 e4;let#[d,d',rfl,h1,h2]:=jL r1;let#[es,g1,g2]:=h1.seq e3;let#[es',g3,g4]:=h2.seq e5;show#[d,d',es,es',rfl,g1,g3,hq _ S1 s1 (VU g2 g4) λ S'' s=>#[y4.sx g1 s,y4.sx g3 s]]
 .cases e2
theorem y4.yn ų å4{y:T}{d:D}û7(h:Sn (yn S Z) y d) (e:wH y=↑ts):∃ ds,y4 d (yn S Z)=↑ds/\î2:=by
 cases y with
 | tup us=>cases e;simp![Sn] at h;let#[ds,rfl,h2]:=h;show#[ds,rfl,h2]
 | lst us=>
  cases e;simp![Sn] at h;obtain⟨ds,⟨rfl,_⟩ | ⟨a,rfl,h1⟩,h2⟩:=h
  .show#[ds,rfl,h2]
  .show#[ds,by unfold y4;ext Ü8;rw[h1],h2]
 | _=>cases e
end
end L5
namespace L2
open ó È Ã Builtin æ3
section
variable {û}
def U3:Ê8:=λ x lo hi H Q=>∃ z,x=ã z/\z.length<=Ü/\Q Ø3 H
def MD:kH X U3:=by
 ext Ý1;let#[z,rfl,hz,q]:=h;ext Þ8;exact#["str",_,F.slot_str_getitem.lookup,Ð0,?_];let#[o,h1,h2,h3]:=hs;cases pl with
 | none=>
  cases pu with
  | none=>show zdF (l:=none) (u:=none) Ð
  | int j uj=>show zdF (l:=none) (u:=↑(j,uj)) Ð
 | int i ui=>
  cases pu with
  | none=>show zdF (l:=↑(i,ui)) (u:=none) Ð
  | int j uj=>show zdF (l:=↑(i,ui)) (u:=↑(j,uj)) Ð
end
end L2
namespace HT
open ó Ã
section
variable {Ò}{A:Ñ9}{È8}{Á0}
def DT {t sl:Addr}{î3:zAV}{vl vu:ô}å5 Ë1(ht:IsTup ò t î3) (hs:s.heap.IsSliceOf sl vl vu é4) (pl:IsPart vl lo) (pu:IsPart vu hi)
  (hw:yi ĝ 0 lo=0/\yi ĝ ĝ hi=ĝ) (h:Q (Å t) s):Į Ï (getItem (Å t) (Å sl)) á1:=by
 have hT:=ht.typeIs;let#[os,e1,e2,e3]:=id hs;have hS:s.TypeIs (Å sl) "slice":=#[os,e1,e2];unfold getItem
 try with_reducible exact zcV ?_
 first | exact zcO Œ | skip
 exact zcO (wpAny_sequenceKey hT () (zcO (zd1 (name:=Str.ofString "__getitem__") hT î4 (zcW î4 hT entry_tuple_getitem ?_ (args_tuple_getitem Ô)))));exact zcO (m:=Builtin.Tuple.tupleItemsOf (Å t)) (tupleItemsOf_ ht (zcO (zd2 hS ?_)));rw[Ï6 ()];exact zcO (VZ hs pl pu ?_);have yes:Ä0:=by rw[hw.1,hw.2];simp
 change Į Ô (if Ä0 then _ else _) Ô s;rw[Ï6 yes];exact zcO (m:=Builtin.Tuple.tupleIsExact (Å t)) (zcO (zd2 hT Œ));rw[Ï6 ()]
 first
  | show zcO (â0 (zD1 #[_,rfl,zD1 h]))
  | show zcO (â0 (zcO (zD1 (zD1 #[_,rfl,zD1 h]))))
end
end HT
namespace L2
open ó È Ã
section
variable {û}
def U0 Ĭ:Ê8:=λ x lo hi H Q=>∃ a xs,x=Å a/\ö5/\(È1)/\Q Ï5 H
theorem MB:kH X (U0 X.K):=by
 ext Ý1;let#[a,xs,rfl,hx,hw,q]:=h;cases rx;let#[its,r,ht,hz]:=ß3 hx;have hlen:Ü5=ß:=by rw[zA0];show r.length.symm
 show#["tuple",_,PyProof.Rows.slot_tuple_getitem.lookup,ht.typeIs,HT.DT ht hs pl pu (by rw[hlen];show hw) #[Å a,H,I,rfl,q]]
end
end L2
namespace L5
open ó È L2 L3
open Ã hiding St
def nS {α:Type}(xs:ß5) Õ1:ß5:=(xs.drop (HT.yi ß 0 lo)).take (HT.yi ß ß hi-HT.yi ß 0 lo)
section
variable {û}{ķ}{Ê7}{lo hi:Ê Expr}{te:zy}{tl th:Ê zy}{pos p2:Pos}
def mY û8:yX->SS->(Ê Int->SS->Prop)->Prop:=fun L S Q=>match t with
 | none=>Q none S
 | some t=>t L S λ d S1=>match d with
  | ć i=>Q ↑i S1
  | _=>ß2
def PR û8:Prop:=∀ u,t=↑u->yA u
def mY.mo (h:PR tl):∀ L S (Q Q':Ê Int->SS->Prop),(∀ d S',Q d S'->Q' d S')->mY tl L S Q->mY tl L S Q':=fun L S Q Q' hq z=>by
 cases tl with
 | none=>show hq Ô z
 | some t=>show h t rfl À6 (λ d S1 z=>by cases d <;> first | show hq Ô z | show z) z
def Nv Ĭ û8:TO:=fun σ H Q=>∃ L S,xF K H L σ/\è6/\mY t L S λ o S1=>∀ H1,Ext H H1->yo K H1 S1->Q o H1
structure Zb (X:Cx) (e:Ê Expr) û8:Prop where
 mo:PR t
 po:PO X e (Nv X.K t)
def vx:Zb X none none:=#[nofun,λ gV s σ H Q I h=>by
 let#[L,S,r1,r2,z]:=h;show Km Ē Q I (z H Ļ r2)]
def vw (h:PD X e te):Zb X ↑e ↑te:=#[λ u q=>by cases q;show h.mo,λ gV s σ H Q I hu=>by
 exact Kl h.pe Ē Q I ?_;ext Í;exact Ø0 h.mo Ĺ;cases d with
 | int i=>ext Ê3;show#[i,q1,h1 H1 e1 p1]
 | zC=>show î5
 | bl _=>show î5
 | str _=>show î5
 | tup _=>show î5
 | qC _=>show î5
 | ref _=>show î5]
def mR (d:D) Õ1 (S:SS) (Q:DK):Prop:=match d with
 | Ũ ds=>Q (Ũ ù3) S
 | ã z=>z.length<=Ü/\Q Ø3 S
 | d=>∃ ds,ö4=↑ds/\∀ p,S p=none->Q (ſ) (ups S p (ğ ù3))
def mR.mo {d:D}å5 ų{Q Q':DK}(hq:∀ d S',Q d S'->Q' d S') (h:mR d Ù8 S Q):mR d Ù8 S Q':=by
 unfold mR at h ⊢;split at h
 .show hq Ô h
 .show è7
 .let#[ds,h1,h2]:=h;show#[ds,h1,λ p hp=>hq Ô (h2 p hp)]
def zt.cut Ð8 Ÿ Õ5(h:Ò1) Õ1:zt K H ù3 (lI xs Ù8):=by
 have hd:∀ Ÿ Õ5 Ý5,Ò1->zt K H (ds.drop n) (xs.drop n):=by
  intro ds
  induction ds with
  | nil=>ext Ö0;subst h;exists zt.nil
  | cons d ds ih=>
   ext ì6;cases n with
   | zero=>show į h1 h2
   | succ n=>show ih n h2
 have ht:∀ Ÿ Õ5 Ý5,Ò1->zt K H (ds.take n) (xs.take n):=by
  intro ds
  induction ds with
  | nil=>ext Ö0;subst h;exists zt.nil
  | cons d ds ih=>
   ext ì6;cases n with
   | zero=>show Á9
   | succ n=>show į h1 (ih n h2)
 unfold nS lI;rw[h.length];show ht _ (hd _ h)
def DU Õ5 å5(h:È1):lI xs Ù8=xs:=by
 unfold lI;rw[h.1,h.2];simp
abbrev fT Ĭ:Ê8:=λ x lo hi H Q=>U4 K x Ù8 H Q\/(U1 K x Ù8 H Q\/U0 K x Ù8 H Q)\/U3 x Ù8 H Q
theorem mR.fits {d:D}{v:V}å5 Ð8 ų{Q:VK}(h1:zj K H d v) (h2:è6) (h:mR d Ù8 S (pk K H Q)):fT K v Ù8 H Q:=by
 unfold mR at h;split at h
 .simp![zj] at h1;ext Ñ5;by_cases hw:È1
  .exact Ő (Â0 (Ő #[a,xs,rfl,g1,hw,h _ H ?_ Ļ h2]));ext ã1;exact#[a,xs,rfl,g1,?_];have:=zt.cut g2 Ù8;rw[DU hw] at this;show this
  .exact Ő (Â0 (Â0 #[a,xs,rfl,g1,hw,λ p hp=>h Ô ?_ (ĺ) (h2.new hp)]));ext ã1;show#[p,_,rfl,yw.of yO,è1 (ĺ) _ (zt.cut g2 Ù8)]
 .simp![zj] at h1;show Ő (Ő #[_,h1,h.1,h.2 Î1 h2])
 .rename_i hn _;let#[ds,e,h]:=h;let#[a,xs,rfl,g1,g2]:=kR h1 h2 e (λ ts z=>hn ts z);show Â0 #[a,xs,rfl,g1,λ p hp=>h p (h2.none hp) Ô Ó (ĺ) (h2.ups (ĺ) #[_,yO,è1 (ĺ) _ (zt.cut g2 Ù8)])]
def Qb (te:zy) (tl th:Ê zy):zy:=fun L S Q=>te L S λ x S1=>mY tl L S1 λ l S2=>mY th L S2 λ u S3=>mR x l u S3 Q
def vQ Õ2 (hl:Zb X lo tl) (hh:Zb X hi th):PD X (ĸ e (.Slice Ù8 none p2) pos) (Qb te tl th):=by
 exact#[fun L S Q Q' hq z=>he.mo À6 (λ x S1 z=>mY.mo hl.mo Ô9 (λ l S2 z=>mY.mo hh.mo L S2 Ô (λ u S3 z=>mR.mo hq z) z) z) z,
  ð6 (KH (ME.or ((MC.or MB).or MD)) he.pe hl.po hh.po) ļ]
 ext Í;exact Ø0 he.mo á3 Ď;exact#[L,S1,Å2,p1,mY.mo hl.mo Ô9 (λ l S2 h2 H2 e2 p2=>?_) h1];exact#[L,S2,(Å2).ext e2,p2,mY.mo hh.mo L S2 Ô (λ u S3 h3 H3 e3 p3=>?_) h2];show mR.fits (zj.ext (e2.trans e3) x q1) p3 (mR.mo (λ d S' z=>z.ext (ţ e3)) h3)
@[simp] def i4:è8->Ev->Ê (Ê Int)
 | none,_=>↑none
 | some f,Y=>Ç7 λ x=>match x with
  | ć i=>↑↑i
  | _=>none
def Zh (f:è8) û8:Prop:=∀ S Z L Y y Q,ER Á7->i4 f Y=↑y->(∀ S',Sx S S'->Q y S')->mY t L S Q
def tZ:Zh none none:=λ S Z L Y y Q hE e hq=>by cases e;show hq ů
def tY {f:zEO}(h:ù4):Zh ↑f ↑te:=λ S Z L Y y Q hE e hq=>by
 let#[x,e1,e2]:=ĉ;exact h Á7 x _ hE Ķ;split at e2
 .cases e2;cases Vw.int r1;show hq S1 s1
 .cases e2
@[simp] def iy Õ1:T->Ê T
 | Ũ ts=>↑(Ũ (nS ts Ù8))
 | ğ ts=>↑(ğ (nS ts Ù8))
 | ã z=>if z.length<=Ü then ↑ Ø3 else none
 | _=>none
@[simp] def oX ð1 (lo hi:è8):zEO:=fun Y=>Ç7 λ x=>(i4 lo Y).bind λ l=>(i4 hi Y).bind λ u=>iy l u x
def zp.cut ų û7 Ÿ(h:zp S ts ds) Õ1:zp S (nS ts Ù8) ù3:=by
 unfold nS;rw[h.len];show zp.take' _ (zp.drop' _ h)
def sE {f:zEO}{l u:è8}(h:ù4) (hl:Zh l tl) (hu:Zh u th):xX (oX f l u) (Qb te tl th):=λ S Z L Y y Q hE e hq=>by
 ext á6;let#[l',e2,e]:=ĉ;let#[u',e3,e]:=ĉ;exact h Á7 x _ hE Ķ;exact hl ó7 l' _ Ò0 e2 λ S2 s2=>?_;exact hu S2 Z L Y u' _ (Ã5) e3 λ S3 s3=>?_;have r3:Vw S3 Z x d:=Vw.grow r1 (s2.trans s3);have hz:=(hE.grow (ú s3)).zd;unfold iy at e;ext ï8
 .cases e;let#[ds,rfl,h2]:=r3.tup;show hq _ S3 (ú s3) (Cl.of ā (ly (zp.cut h2 Ô)))
 .cases e;let#[ds,h1,h2]:=r3.seq rfl;have key:∃ ds,y4 d S3=↑ds/\∀ p,S3 p=none->Q (ſ) (ups S3 p (ğ (nS ds l' u'))):=#[ds,h1,λ p hp=>hq Ô (Ú6 (ĺ)) (Cl.cl (ú s3) (mH hz hp (zp.cut h2 Ô)))];obtain⟨_,q | ⟨a,q,_⟩,_⟩:=r3.lst
  .subst q;show key
  .subst q;show key
 .ext ï8
  .rename_i h0;cases e;cases r3.str;show#[h0,hq _ S3 (ú s3) è9]
  .cases e
 .cases e
end
end L5
namespace TM
open ó Ã
def noFill:fillsNumberSlot (ü) "mul"=í8:=
 PySem.fillsNumberSlot_seq (id:="tuple.__mul__") (r:=↑(Ë4 "tuple.__rmul__")) F.slot_tuple_mul.lookup (zdK) F.slot_tuple_rmul.lookup (zdK)
def rep:seqRepeat? (ü)=pure ↑(Ë4 "tuple.__mul__"):=by
 have a:=PySem.seqSlot_of (T:="tuple") (name:="__mul__") (id:="tuple.__mul__") F.slot_tuple_mul.lookup (zdK);have b:=PySem.seqSlot_of (T:="tuple") (name:="__rmul__") (id:="tuple.__rmul__") F.slot_tuple_rmul.lookup (zdK);unfold seqRepeat?;rw[a,b];rfl
def declines (i:Int) ý:
  Meets Ñ3 (λ _ R s=>ŋ/\ã9):=
 .of_wp λ prog w A R s h=>by
  ext É9
  wp_walk
  show Ū
theorem Xp {α:Type}(xs:ß5):∀ (m:Nat) (acc:Array α),(Ù m xs.toArray).foldl (·++·) acc=acc++(Ù m xs).flatten.toArray
 | 0,acc=>#[]
 | m+1,acc=>by
  rw[zaH,zaQ,Xp xs m,zaH,zaP,Array.append_assoc];simp
def Hg (k:Int) ý (h1:¬ (Ŏ (k < -(2 ^ 63))||Ŏ (k≥2 ^ 63))=true) (h2:¬ (Û0||k == 1)=true) (h3:¬ (Ŏ (k<=0)||Û0)=true)
  (h4:¬ (ĝ*k>(2 ^ 63-1)/8)) (h5:¬ Builtin.Tuple.tupleTooMany (ĝ*k)=true) (h6:(ó1).size<=Ü):
  Meets (Builtin.«tuple.__mul__» #[[Å l,ć k t],[]]) (λ _ R s=>ŋ/\
   R (.ok (.ret Ê0)) { s with heap:=Ú { cls:=ü,data:=.seq (ó1) } }):=
 .of_wp λ prog w A R s h=>by
  ext É9;have e0:IsTup Ä5 l î3:=#[_,hl,rfl,n,rfl]
  wp_walk
  rw[ť h1];exact zcO (m:=Builtin.Tuple.tupleItemsOf Ž) (tupleItemsOf_ e0 ?_);ext Ü8;rw[ť h2,ť h3,ť h4,ť h5];show zcO (m:=Builtin.Tuple.tupleExact _) (zcY (zD1 Ū) h6)
def Hh ý:
  Meets (Builtin.«tuple.__mul__» #[[Å l,ć 1 t],[]]) (λ _ R s=>ŋ/\R (.ok (.ret Ž)) s):=
 .of_wp λ prog w A R s h=>by
  ext É9;have c:(Û0||(1:Int) == 1)=true:=#[]
  wp_walk
  show Ū
section
variable {Ò}{A:Ñ9}{È8}{Á0}
def times í1 Ë1(ht:IsTup ò l ġ) (hne:its≠[]) (h0:1<=k) (hz:â2*Ċ<=Ü)
  (one:k=1->Q Ž s) (more:k≠1->Q Ê0 { s with heap:=Ú { cls:=ü,data:=.seq Ã6 } }):
  Þ5:=by
 have hT:=ht.typeIs;let#[#[cls,dd,data,sl],ho,hc,n,hd]:=id ht;simp only at hc hd;subst hc hd;exact wpAny_binaryOp_repeat_ref (T:="tuple") (U:="int") () hT (λ s'=>typeIs_int s' k t) noFill F.fills_int_mul ù5 rep F.slot_int_index.lookup
  (À4 Ä8 (declines k t l ġ n dd sl) #[ho,rfl,hT,?_])
 have hlen:0<â2:=List.length_pos_iff.mpr hne;have hem:æ4=Õ:=by cases its with
  | nil=>show ù1 rfl hne
  | cons a r=>rfl
 by_cases h1:k=1
 .subst h1;show À4 Ì2 (Hh t l ġ n dd sl) #[ho,one rfl]
 .have hks:Ċ<=Ü:=zE0 (Nat.le_mul_of_pos_left _ hlen) hz;have hl:Ú5:=rfl;have hk2:k<=16777216:=⋯;have hcast:((Ü5:Nat):Int)*k=((â2*Ċ:Nat):Int):=by
   rw[zA0,Int.natCast_mul,zF2 ⋯]
  have hf:(Ù Ċ ġ).foldl (·++·) õ=Ã6:=by rw[Xp];simp
  have hfl:(Ù Ċ its).flatten.length=Ċ*â2:=#[];exact À4 Ì2 (Hg k t l ġ n dd sl ?_ ?_ ?_ ?_ ?_ ?_) #[ho,?_]
  .simp![zE6,decide_eq_true_eq,not_or];show#[⋯,⋯]
  .rw[hem];exists h1
  .rw[hem];simp;lia
  .rw[hcast];lia
  .rw[hcast];intro q;unfold Builtin.Tuple.tupleTooMany at q;have:=of_decide_eq_true q;lia
  .rw[hf,zA0,hfl,zc0];show hz
  .rw[hf];show more h1
end
end TM
namespace L2
open ó È Ã
def Yq Ĭ:R2:=λ x y H Q=>∃ a k xs,x=Å a/\y=ć k/\ö5/\xs≠[]/\1<=k/\ß*Ċ<=Ü/\(k=1->Q Ï5 H)/\(k≠1->∀ p,ú0->Q (ſ) (upd H p (Ũ Ò2)))
theorem JH û:yM X (binaryOp .Mult) (Yq X.K):=by
 ext Á8;let#[a,k,xs,rfl,rfl,hx,hne,h1,hz,q1,q2]:=h;cases rx;let#[t,rfl]:=ry;let#[its,r,ht,_]:=ß3 hx;have hl:=r.length;exact TM.times é0 (λ e=>#[Å a,H,I,rfl,q1 e]) λ e=>?_;have hlen:Å3<=Ü:=by
  ext ü5
 show#[Å _,_,ä5 (t':=ĳ) (o:=Ũ Ò2) (λ b ob q=>zcP _ q) Ï8 #[#[hlen,.new _],_,r.rep Ċ,ð8],rfl,q2 e _ (Ė)]
end L2
namespace L5
open ó È L2 L3
open Ã hiding St
section
variable {ķ}{a:Expr}
def lE:x8:=λ x y S Q=>match x,y with
 | ć i,ć j=>oj i j/\Q (ć (i*j)) S
 | Ũ ds,ć k=>(ds≠[]/\1<=k/\ö8*Ċ<=Ü)/\Q (Ũ (Ù Ċ ds).flatten) S
 | _,_=>ß2
def nj:Ï1
 | ć i,ć j=>if oj i j then ↑(ć (i*j)) else none
 | Ũ ts,ć k=>if ts≠[]/\1<=k/\ts.length*Ċ<=Ü then ↑(Ũ (Ù Ċ ts).flatten) else none
 | _,_=>none
def lE.mo:qc lE:=λ x y S Q Q' hq h=>by
 unfold lE at h ⊢;split at h
 .show è7
 .show è7
 .show Ü4
theorem zt.rep Ð8 Ÿ Õ5(h:Ò1):∀ n:Nat,zt K H (Ù n ds).flatten (Ù n xs).flatten
 | 0=>Á9
 | n+1=>by
  rw[zaH,zaH,zaP,zaP];show h.append (zt.rep h n)
def lE.fits:wF K lE (λ x y H Q=>Ø4):=λ x y d e H S Q h1 h2 h3 h=>by
 unfold lE at h;split at h
 .ext Ô1;show Â0 #[_,_,h1,h2,h.1,h.2 Î1 h3]
 .rename_i ds k;let#[#[c1,c2,c3],h]:=h;have h1':=h1;ext Ô1;ext Ñ5;have hl:=g2.length;exact Ő #[a,k,xs,rfl,h2,g1,Î5,c2,by rw[<- hl];show c3,λ e=>?_,λ e p hp=>?_]
  .subst e;exact h _ H ?_ Ļ h3;have:(Ù (1:Int).toNat ds).flatten=ds:=#[];rw[this];show h1'
  .exact h Ô ?_ (ĺ) (h3.new hp);ext ã1;show#[p,_,rfl,yw.of yO,è1 (ĺ) _ (zt.rep g2 _)]
 .show Ü4
theorem zp.rep ų û7 Ÿ(h:zp S ts ds):∀ n:Nat,zp S (Ù n ts).flatten (Ù n ds).flatten
 | 0=>Á9
 | n+1=>by
  rw[zaH,zaH,zaP,zaP];show h.append (zp.rep h n)
def wA:Good2 zk nj lE:=λ S Z x y z d e Q hz hx hy ef hq=>by
 unfold nj at ef;split at ef
 .split at ef
  .rename_i hc;cases ef;cases hx.int;cases hy.int;show#[hc,à6]
  .cases ef
 .split at ef
  .rename_i hc;cases ef;let#[ds,rfl,h2]:=hx.tup;cases hy.int;have hl:=h2.len;show#[#[ä8,hc.2.1,by rw[hl];show hc.2.2],hq _ ů (Cl.of ā (ly (zp.rep h2 _)))]
  .cases ef
 .cases ef
end
end L5
namespace L4
open ó Ã
section
variable {Ò}{A:Ñ9}{È8}{Á0}
def Cd {l:Addr}{vs:zLV}{Q:List ô->È3}(hl:IsTup ò l î6) (hz:vs.length<=Ü)
  (h:Q vs { s with heap:=Ľ }):Į Ï (collect Ž) á1:=by
 let#[o,ho,hc,n,hd]:=id hl;have new:(Ú Ä6).get? Á=↑ Ä6:=Ś;have ho':(Ú Ä6).get? l=↑o:=zcP _ ho;unfold collect;exact zcO (wpAny_runValue (ß1 entry_proto_collect' (zcO (m:=newList []) (wpAny_newList (zD1 #[Code.quiet_builtin _ (zdK),ß1 entry_list_iadd' ?_])))));change Į Ô (Ŀ Ê0 Ž Ê0) Ô { s with heap:=Ú Ä6 };unfold Ŀ;exact zcO (zd2 (T:="tuple") #[o,ho',hc] ?_);rw[Ê5];exact zcO (ð9 ho' hd (zcO (ð9 (xs:=õ) (n:=0) new ç0)));rw[ť #[]];exact zcO (listUpdate_at (xs:=õ) (n:=0) new rfl Œ (zD4 _) (by change (õ++î6).size<=Ü+1;simp![Array.size_append,zA0,zaE];lia));exact zcO (m:=load Á) (wpAny_load (get?_update_seq new _) ?_);change Į Ô (pure ((õ:zAV)++î6).toList) Q E _;have e:((õ:zAV)++î6).toList=vs:=#[];rw[e];show zD1 h
end
section
open L2 È
variable {û}
def UI Á0{vs:zLV}:∀ b o,¬ ß2->ú2->(Ľ).get? b=↑o:=λ b o _ q=>by
 rw[zdE Ô Ô (zB3 (zA8 q))];show zcP _ q
theorem C0:xA X (Ë4 "sorted") (λ xs H Q=>∃ p ys,∃ rows:Î3,í6/\ð3/\jz X.K H ys rows/\Ê2<64/\dR (å9) H Q):=by
 ext Í2;have hl:(å9).length<64:=by rw[zc4];lia
 have sz:∀ vs:List ô,Á<=(Ľ).objs.size:=λ vs=>by rw[Heap.size_update,size_push'];show Nat.le_succ _
 rcases hq with hq | hq
 .ext õ5;show ZY I (λ Q' h=>collect_list pl.isList (h _ ĳ UI (sz its)) (by rw[<- ö3];show hz)) (VR.of rv hr) hl q
 .let#[its,rv,pl,hz]:=ß3 hq;show ZY I (λ Q' h=>Cd pl (by rw[<- ö3];show hz) (h _ ĳ UI (sz its))) (VR.of rv hr) hl q
end
end L4
namespace L5
open ó È L2 L3
open Ã hiding St
section
variable {û}{ķ}{Ê7}{ø}{È9}
def jg:xx:=λ ds S Q=>∃ d,∃ rows:Î3,ds=[d]/\ö4=↑(rows.map oZ)/\Ê2<64/\(∀ r∈rows,r≠[])/\∀ l,í3->Q Ž (ups S l (ğ ((L4.qg rows).map oZ)))
def i_:zLO
 | [y]=>(wH y).bind λ ts=>(oY ts).bind λ rs=>if ñ0 then ↑(ğ ((L4.qg rs).map zJ)) else none
 | _=>none
def rB:qL zk i_ jg:=λ S Z ys z ds Q hz hv e hq=>by
 unfold i_ at e;ext ï8
 .ext Ų;let#[ts,e0,e]:=ĉ;let#[rs,e1,e2]:=ĉ;split at e2
  .rename_i hc;cases e2;cases Yh e1;let#[es,h2,h3]:=h1.seq e0;cases hJ.mp h3;show#[d,rs,rfl,h2,hc.1,hc.2,â3]
  .cases e2
 .cases e
def jg.mo:qA jg:=λ ds S Q Q' hq #[d,rows,h0,h1,h2,h3,h4]=>#[d,rows,h0,h1,h2,h3,λ l hl=>hq Ô (h4 l hl)]
def xA.or {f:ô}{r r':List V->Hp->VK->Prop}(h:xA X f r) (h':xA X f r'):xA X f (λ xs H Q=>r xs H Q\/r' xs H Q):=λ gV s σ H xs us Q I rv q=>
 q.elim (λ q=>h Ē xs us Q I rv q) λ q=>h' Ē xs us Q I rv q
def jg.fits:pB K jg (λ xs H Q=>∃ p ys,∃ rows:Î3,í6/\(y7 K H p ys\/yw K H p ys)/\L4.jz K H ys rows/\Ê2<64/\L4.dR (å9) H Q):=λ xs ds H S Q h0 h2 h=>by
 let#[d,rows,rfl,e,qF,hne,h]:=h;ext Æ5;let#[a,ys,rfl,g1,g2]:=y4.sq h1 h2 e;have hl:=g2.length;rw[zA7] at hl;exact#[_,ys,rows,rfl,g1,bh g2 hne,qF,λ l ps hf hp hs=>?_];have heq:=L4.VQ (rows:=rows) (by have:=hp.map ű;rwa [List.map_snd_zip ⋯] at this) hs;have hx:Ext H (upd H l (ğ (è0))):=é7;exact h l (h2.none hf) Ô Ó hx (h2.ups hx #[_,yO,?_]);rw[<- heq];show è1 hx _ (zt.bz λ q hq=>zt.cE g2 q (hp.mem_iff.mp hq))
def vP (hm:X.mg "sorted"=none) Ŷ (hg:Gl X "sorted") þ:PD X (Ĝ (ě "sorted" p) ė Á1) (qo jg tA):=
 ma (l7 L4.C0 hg hm boot_sorted Ú1) jg.mo jg.fits Ø2
end
end L5
namespace L2
open ó È Ã
section
variable {û}
def m7 (r:Addr) (j:Int):Heap->Prop:=λ h=>∃ t u v,IsRange h r 0 j 1 t u v
def C7:xA X (Ń "range") (λ xs H Q=>∃ j,xs=[ć j]/\∀ r,H r=none->Q (Å r) İ):=by
 ext Ğ;let#[j,rfl,q]:=h;let#[u,rfl,ru]:=vals1 r;let#[t,rfl]:=ru;exact call_range_1 #[Å Á,_,ä5 (o:=.ext (m7 Á j)) (ó0) Ï8 ?_,rfl,q _ (Ė)];have here:m7 Á j (Ú { cls:=Ń "range",data:=.fields [ć 0 ĳ,ć j t,ć 1 (ĳ+1)].toArray }):=#[_,_,_,IsRange.new ..];exact#[here,#[_,Ś],λ h1 h2 S k=>?_];let#[a,b,c,e]:=S;show#[a,b,c,k _ e]
theorem CD Ŕ:xA X (Ö6) (λ xs H Q=>∃ r j,xs=[Å r]/\H r=↑(.ext (m7 r j))/\0<=j/\j<=16777216/\∀ l,Ý3->Q Ž (upd H l (ş))):=by
 ext Ğ;let#[a,j,rfl,hr,h0,h1,q]:=h;ext ħ;obtain⟨⟨t,u,v,hR⟩,-,-⟩:=(show xQ Ò7 H ò a (.ext (m7 a j)) from I.zI a _ hr)
 have hsz:Builtin.Range.rangeSize 0 j 1=((j.toNat:Nat):Int):=by rw[rangeSize_one];split <;> lia
 exact call_list_range (n:=j.toNat) (Ç6) hR (small_one () () ⋯ ⋯) hsz ⋯ λ h' tk acc c k e hi=>?_;exact#[Å Á,_,ä5 (o:=ş) k Ï8 #[?_,acc.toList,c,?_,by exists e],rfl,q _ (Ė)]
 .have:Ú5:=rfl;simp;lia
 .let#[hn,hi]:=hi;exact ST.Paired.mk (by simp[hn]) λ i a b ha hb=>?_;rw[zA3] at ha;let#[k',hk,rfl]:=ß9 ha;let#[hk1,hk2]:=zA2.mp hk;simp at hk2;subst hk2;let#[w,hw]:=hi i b (by exists hb);subst hw;show#[w,#[]]
end
end L2
namespace L5
open ó È L2 L3
open Ã hiding St
section
variable {û}{ķ}{Ê7}{Õ4}{pos p pos2 p2:Pos}
def k9:xx:=λ ds S Q=>∃ j:Int,ds=[ć j]/\0<=j/\j<=16777216/\∀ l,í3->Q Ž (ups S l (ğ (nc 0 j.toNat)))
def b_:zLO
 | [ć j]=>if 0<=j/\j<=16777216 then ↑(ğ (rangeT 0 j.toNat)) else none
 | _=>none
def rH:qL zk b_ k9:=λ S Z ys z ds Q hz hv e hq=>by
 unfold b_ at e;ext ï8
 .ext Ų;ext ï8
  .rename_i hc;cases e;cases h1.int;show#[_,rfl,hc.1,hc.2,λ l hl=>hq Í3 (mH hz hl (Z_ Ô))]
  .cases e
 .cases e
def k9.mo:qA k9:=λ ds S Q Q' hq #[j,h0,h1,h2,h3]=>#[j,h0,h1,h2,λ l hl=>hq Ô (h3 l hl)]
theorem Ls Ð8 Ý5:zt K H (nc 0 n) ((List.range n).map Ø5):=by
 unfold nc
 induction List.range n with
 | nil=>show Á9
 | cons k l ih=>show į (by ext ã1;rw[zbC]) ih
def k9.fits:pB K k9 (λ xs H Q=>∃ j,xs=[ć j]/\∀ r,H r=none->∃ r' j',[V.ref r]=[Å r']/\İ r'=↑(.ext (m7 r' j'))/\0<=j'/\j'<=16777216/\
  ∀ l,İ l=none->Q Ž (upd İ l (ğ ((List.range j'.toNat).map Ø5)))):=λ xs ds H S Q h0 h2 h=>by
 let#[j,rfl,c1,c2,h]:=h;ext Æ5;simp![zj] at h1;subst h1;exact#[j,rfl,λ r hr=>#[r,j,rfl,yO,c1,c2,λ l hl=>?_]];have x1:Ext H İ:=.new hr _;have hlr:l≠r:=λ z=>by subst z;rw[yO] at hl;cases hl
 have hlH:Ý3:=by rw[yx hlr] at hl;show hl
 have x2:Ext İ (upd İ l (ş)):=.new hl _;show h l (h2.none hlH) Ô Ó è2 ((h2.new hr).ups x2 #[_,yO,Ls _])
def uq (hm:X.mg "list"=none) (hm2:X.mg "range"=none) ũ Ŕ (hg:Gl X "list") (hg2:Gl X "range")
  (he2:Ï2)
  (he:ē [Ì0] Î=(Õ,eval (Ì0) Î)::ē [] Î) Ò8 (hpl2:zEB X pos2 []):
  PD X (Ĝ (ě "list" p) [Ì0] Á1) (qo k9 tA):=by
 have h:=jT (p:=p) (CD hc) hg hm PyProof.Rows.boot_list (kj (jT C7 hg2 hm2 boot_range ha.pa () () he2 hpl2) ki he) Ú2;show#[qo.mo k9.mo Ø2,ð6 h λ _ _ _ hu=>V5 k9.mo k9.fits Ø2 hu]
end
end L5
namespace ST
open ó ä4 È Ã L2
def GL {us us':zLV}(p:us'.Perm us):∀ {ms:ç},Ó5 us ms->∃ ms',Ó5 us' ms'/\ms'.Perm ms:=by
 induction p with
 | nil=>intro ms h;show#[ms,h,.refl _]
 | cons x _ ih=>
  intro ms h;cases h with
  | cons n t h=>
   let#[ms',h1,h2]:=ih h;show#[n::ms',į n t h1,h2.cons n]
 | swap x y l=>
  intro ms h;cases h with
  | cons n t h=>
   cases h with
   | cons m u h=>show#[m::n::_,į m u (į n t h),.swap Ô _]
 | trans _ _ ih1 ih2=>
  intro ms h;let#[m1,h1,h2]:=ih2 h;let#[m2,h3,h4]:=ih1 h1;show#[m2,h3,h4.trans h2]
theorem iC.at Ò Û9 œ{xs:Ô0}(S:iC â8 h a xs (ku w)):xO w a à7 h:=by
 let#[#[es,ep,t,ho,he,T,h1,h2,h3],_]:=S;have hm:7<=Í0/\Í0<=127:=ç5
 ext ź
 show#[es,ep,t,#[ho,ð4,T.ot,h1,h2],by rw[he,zD6];rfl]
theorem SO:∀ xs:Ô0,Ó5 à7 (ŏ ö)
 | []=>Á9
 | e::xs=>į e.1 e.2 (SO xs)
theorem Vp:∀ {us:zLV}{ns:ç},Ó5 us ns->Vals Ë5 us
 | _,_,Á9=>Á9
 | _,_,į n t h=>į #[t,rfl] (Vp h)
section
variable {û}
def C4 Ŕ:xA X (Ń "set") (λ xs H Q=>∃ p,∃ ns:ç,í6/\y7 X.K H p Ë5/\ñ1/\
  ∀ Ù4 (ms:ç),Ý3->Ó5 us ms->ms.Nodup->(∀ n,n∈ms↔n∈ns)->Q Ž (upd H l Ä4)):=by
 ext Ğ;let#[p,ns,rfl,hq,qF,q]:=h;ext ħ;ext õ5;have hl:=ö3;rw[zA7] at hl;have iA:Ó5 its ns:=intsAre_of rv;have nums:Nums ġ ns:=λ i v hv=>by
  have hv':its[i]?=↑v:=by exists hv
  have hi:i<ns.length:=by rw[hl];show (zA2.mp hv').1
  let#[u,e1,t,e2]:=rv.get (i:=i) (x:=V.int ns[i]) (ñ2);rw[hv'] at e1;cases e1;show#[ns[i],t,e2,ñ2]
 ext ã3;exact C5 (A:=X.A) hh pl.isList nums ç8;ext ì9;have hSO:=S.at;exact#[Å Á,_,ä5 (t':=tk) (o:=.ext (xO X.w Á à7)) kk Ï8 ?_,rfl,q Ô (ŏ ö) (Ė) (SO xs) S.nd λ n=>#[λ hn=>?_,λ hn=>?_]]
 ext Â8
 .let#[e,he,rfl]:=zB0.mp hn;let#[j,_,_,hj]:=U.own e he;show zB7 hj
 .let#[j,hj]:=zcI.mp hn;show U.all j n é2 hj
def C1 Ŕ:xA X (Ë4 "sorted") (λ xs H Q=>∃ l us,∃ ms:ç,xs=[Å l]/\H l=↑ Ä4/\Ó5 us ms/\ms.length<64/\
  ∀ (p:Addr) (ns:ç),ú0->ns.Perm ms->ns.Pairwise (·<=·)->Q (ſ) (upd H p (ğ Ë5))):=by
 intro gV s σ H xs us0 Q I r h;let#[l,us,ms,rfl,hl,hm,qF,q]:=h;ext Ŗ
 have hlen:ĩ=Ë8:=by rw[<- eu];simp
 have hml:=hm.length;ext ã3;ext Æ2
 let#[ms',i1,i2]:=GL hp hm;have hcl:=hp.length_eq;have hl24:Ú5:=rfl;exact L4.VP (N:=ô4) (Out:=λ out=>∃ ns',Ó5 out.toList ns'/\ns'.Perm ms'/\ns'.Pairwise (·<=·)) (λ Q' h=>Qv (by show hh) S (by rw[hlen,hml];lia) Q' h) (by rw[hcl,hml];lia) (λ h2 s6 k=>L4.Ca i1 h2 (by rw[hcl,hml];show qF)) (λ h1=>#[ms',by simpa using i1,.refl _,?_]) λ out h' tk p ho hs hp' k hat=>?_
 .have:ms'.length<2:=by rw[<- i1.length];show h1
  match ms',this with
  | [],_=>show Á9
  | [_],_=>show zcB Ô
 .let#[ns,g1,g2,g3]:=ho;let#[e,he]:=hat;exact#[ſ,_,ä5 (t':=tk) (o:=ğ Ë5) (λ b o e=>k b o id e) hp' ?_,rfl,q p ns (I.zI.fresh hp') (g2.trans i2) g3];show#[by rw[zA7,g2.length_eq,i2.length_eq];lia,out.toList,e,Vp g1,by exists he]
end
end ST
namespace L5
open ó È L2 L3
open Ã hiding St
def insI (n:Int):ç->ç
 | []=>[n]
 | m::l=>if n<m then n::m::l else if n=m then m::l else m::insI n l
def oH:ç->ç
 | []=>[]
 | n::ns=>insI n (oH ns)
theorem YF {n k:Int}:∀ {l:ç},k∈insI n l↔k=n\/k∈l
 | []=>by simp[insI]
 | m::l=>by
  unfold insI;split
  .simp
  .split
   .rename_i h;subst h;simp
   .rw[zA5,YF,zA5];constructor
    .rintro (h | h | h)
     .show Ő (Â0 h)
     .show Â0 h
     .show Ő (Ő h)
    .rintro (h | h | h)
     .show Ő (Â0 h)
     .show Â0 h
     .show Ő (Ő h)
theorem bQ {k:Int}:∀ {l:ç},k∈oH l↔k∈l
 | []=>.rfl
 | n::l=>by unfold oH;rw[YF,bQ,zA5]
theorem SR {n:Int}:∀ {l:ç},l.Pairwise (· < ·)->(insI n l).Pairwise (· < ·)
 | [],_=>zcB Ô
 | m::l,h=>by
  have h':=za9.mp h;unfold insI;split
  .rename_i c;exact za9.mpr #[λ x hx=>?_,h];rcases zA5.mp hx with e | e
   .rw[e];show c
   .show Int.lt_trans c (h'.1 x e)
  .split
   .show h
   .rename_i c1 c2;exact za9.mpr #[λ x hx=>?_,SR h'.2];rcases YF.mp hx with e | e
    .rw[e];lia
    .show h'.1 x e
theorem V2:∀ l:ç,(oH l).Pairwise (· < ·)
 | []=>Á9
 | n::l=>SR (V2 l)
theorem Nu {l m:ç}(h1:l.Nodup) (h2:l.Pairwise (·<=·)) (h3:m.Pairwise (· < ·)) (h:∀ k,k∈l↔k∈m):l=m:=by
 have nm:m.Nodup:=h3.imp λ h e=>⋯;exact L4.Yz (r:=λ a b:Int=>a<=b) (λ a b p q=>⋯) ((zcH h1 nm).mpr h) h2 (h3.imp λ h=>⋯)
section
variable {û}{ķ}{Ê7}{Õ4}{pos pos2 p p2:Pos}
def eY:xx:=λ ds S Q=>mr ds S Q\/∃ d,∃ ns:ç,ds=[d]/\(∀ ts,d≠ Ũ ts)/\ö4=↑(ns.map D.int)/\ñ1/\∀ l,í3->Q Ž ç7
def iZ:zLO
 | [ğ ts]=>match nI ts with
  | some ns=>if ñ1 then ↑(ğ ((oH ns).map T.int)) else none
  | none=>fM [ğ ts]
 | [Ũ ts]=>fM [Ũ ts]
 | _=>none
def rA:qL zk iZ eY:=λ S Z ys z ds Q hz hv e hq=>by
 unfold iZ at e;ext ï8
 .ext ï8
  .rename_i ns hns;ext ï8
   .rename_i hc;cases e;cases eN hns;ext Ų;let#[es,h2,h3]:=h1.seq rfl;cases kc.mp h3;exact Ő #[d,ns,rfl,?_,h2,hc,λ l hl=>hq Í3 (mH hz hl (kc.mpr rfl))];obtain⟨_,q | ⟨a,q,_⟩,_⟩:=h1.lst <;> subst q <;> show λ _=>nofun
   .cases e
  .show ì1
 .show ì1
 .cases e
theorem eY.mo:qA eY:=λ ds S Q Q' hq h=>by
 rcases h with h | ⟨d,ns,h1,h2,h3,h4,h5⟩
 .show Â0 (mr.mo ds S Q Q' hq h)
 .show Ő #[d,ns,h1,h2,h3,h4,λ l hl=>hq Ô (h5 l hl)]
def EU Ù3 Õ5 Ð8 ų{Q:VK}{d:D}{ns:ç}(h0:zt K H [d] xs) (h2:è6) (hn:∀ ts,d≠ Ũ ts) (e:ö4=↑(ns.map D.int)) (qF:ñ1) (h:∀ l,í3->pk K H Q Ž ç7):
  ∃ p,∃ ns':ç,í6/\y7 K H p (ns'.map V.int)/\ns'.length<64/\
   ∀ Ù4 (ms:ç),Ý3->Ó5 us ms->ms.Nodup->(∀ n,n∈ms↔n∈ns')->
    ∃ l' us',∃ ms':ç,[V.ref l]=[Å l']/\ì0/\Ó5 us' ms'/\ms'.length<64/\
     ∀ (p:Addr) (ns:ç),Ö p=none->ns.Perm ms'->ns.Pairwise (·<=·)->Q (ſ) (upd Ö p (ğ Ë5)):=by
 ext Æ5;let#[a,ys,rfl,g1,g2]:=kR h1 h2 e hn;rw[g2.ints] at g1;exact#[a,ns,rfl,g1,qF,λ l us ms hf hi nd hmem=>#[l,us,ms,rfl,yO,hi,?_,λ p ns2 hp pm srt=>?_]]
 .have:=ST.YA ms ns nd λ x hx=>(hmem x).mp hx;lia
 .have x1:Ext H Ö:=é7;ext Ú0
  ext ò8
  have x2:Ext Ö (upd Ö p (ğ (ns2.map V.int))):=ĺ;have heq:ns2=oH ns:=Nu (pm.nodup_iff.mpr nd) srt (V2 ns) λ k=>by rw[pm.mem_iff,hmem,bQ]
  exact h p (h2.none hpH) Ô Ó è2 ((h2.new hf).ups x2 #[_,yO,?_]);rw[<- heq];show zt.Y7 ns2
def vO Ů (hm:X.mg "sorted"=none) (hm2:X.mg "set"=none) ũ Ŕ (hg:Gl X "sorted") (hg2:Gl X "set")
  (he2:Ï2)
  (he:ē [Î9] Î=(Õ,eval (Î9) Î)::ē [] Î) Ò8 (hpl2:zEB X pos2 []):
  PD X (Ĝ (ě "sorted" p) [Î9] Á1) (qo eY tA):=by
 have h:=l7 (p:=p) (xA.or (ST.C2 hc) (ST.C1 hc)) hg hm boot_sorted (kj (jT (xA.or (ST.C3 hc hr.units) (ST.C4 hc)) hg2 hm2 PyProof.Rows.boot_set ha.pa () () he2 hpl2) ki he) Ú2;exact#[qo.mo eY.mo Ø2,ð6 h ļ];ext Í;exact rX.go Ø2 á3 λ ds S1 xs H1 h1 q1 e1 p1=>?_;rcases h1 with h1 | ⟨d,ns,rfl,c1,c2,c3,h1⟩
 .let#[p,ys,rows,a1,a2,a3,a4,a5]:=mr.fits (w:=X.w) xs ds H1 S1 Q q1 p1 (mr.mo ds S1 Ô (λ d S' z=>z.ext e1) h1);show Â0 #[p,ys,rows,a1,a2,a3,a4,λ l us ps b1 b2 b3 b4 b5=>Â0 (a5 l us ps b1 b2 b3 b4 b5)]
 .let#[p,ns',a1,a2,a3,a4]:=EU (w:=X.w) q1 p1 c1 c2 c3 (λ l hl=>(h1 l hl).ext e1);show Ő #[p,ns',a1,a2,a3,λ l us ms b1 b2 b3 b4=>Ő (a4 l us ms b1 b2 b3 b4)]
end
end L5
namespace L5
open ó È L2 L3
open Ã hiding St
section
variable {û}{e st:Expr}
def l9:Sm:=λ _=>none
def X5:xg:=λ _ _ _=>ß2
def yD {st:Stmt}:zv X st X5:=Å4
def tm Ù5:yp R l9 X5:=λ S0 Z0 S Z L Y o E F e P=>by cases e
end
end L5
namespace L5
open ó L2 L3
def yd:Good2 zk mN aA:=Ê9
def ye:Good2 zk Xh Xs:=Ê9
def yf:Good2 zk jc aB:=Ê9
end L5
namespace L5
open ó È L2 L3
open Ã hiding St
section
variable {û}{Ê7}{te:zy}{pos p q:Pos}
def u4 (T:Bt X.mg) Õ2 (hg:Gl X "isinstance") (hg2:Gl X "str") (h1:zEE X e [ě "str" q]) (h2:zEB X pos [ě "str" q]) (h3:zEE X (ě "str" q) []):
  PD X (Ĝ (ě "isinstance" p) [e,ě "str" q] Á1) (gU "str" te):=bD #[] T.isinstance T.str PyProof.Rows.boot_str hg2 () () he hg h1 h2 h3
end
end L5
namespace L3
open ó Ã L2
section
variable {û}{Ù7}
def wE (E:jG) (W:Nat->yX->SS->Prop) (m:Nat):jG:={ E with nx:=ì2,ct:=ì2,bk:=E.nx }
def dq (c:xf) (tb:xg):xg:=λ E L S=>∃ W:Nat->yX->SS->Prop,(∃ m,W m L S)/\∀ m L S,W m L S->
 c L S λ b S1=>if b=true then tb (wE E W m) L S1 else E.nx L S1
def dq.mo {c:xf}{tb:xg}(hc:oh c) (hb:lh tb):lh (dq c tb):=λ E E' L S hE #[W,w0,ws]=>
 #[W,w0,λ m L S hw=>hc À6 (λ b S1 z=>ph (λ z=>hb (wE E W m) (wE E' W m) L S1 #[λ _ _ q=>q,hE.rt,hE.nx,λ _ _ q=>q] z) (λ z=>hE.nx Ô z) z) (ws m L S hw)]
def vf {c:Expr}{body:Ö2}{tc:xf}{tb:xg}(hp:PassesOwn Ĳ Î X.xe) (hc:zE X c tc) (hb:yR X body tb):zv X (.While c body Á1) (dq tc tb):=by
 exact#[dq.mo hc.mo hb.mo,PS.imp (LZ hp hc.pt hb.ps) ø0];let#[L,S,r1,r2,W,#[m0,w0],ws]:=hu;exact#[λ m σ' H'=>Ext H H'/\∃ L S,xF X.K H' L σ'/\yo X.K H' S/\W m L S,#[m0,.refl _,L,S,r1,r2,w0],?_];rintro m σ2 H2 ⟨x2,L2,S2,q1,q2,w2⟩;exact qY.go hc.mo q1 q2 (ws m L2 S2 w2) λ k S3 H3 h3 e3 p3=>ph è3 è3 h3
 .exact#[fun σ' H'=>Ext H H'/\∃ L S m',m'<m/\xF X.K H' L σ'/\yo X.K H' S/\W m' L S,fun σ' H' #[a,L',S',m',b,c,d,e]=>#[m',b,a,L',S',c,d,e],L2,S3,q1.ext e3,p3,?_];show hb.mo (wE (my X.K H D) W m) _ L2 S3 #[Ż,λ _ _ q=>pk.ext (ù6) q,λ _ _ q=>oO.ext (ù6) q,Ż] z
 .show z σ2 H3 (q1.ext e3) (ù6) p3
end
end L3
namespace L5
open ó Ã L2 L3
def oz ú1:Nat->Ev->Ê Out
 | 0,_=>none
 | n+1,Y=>(c (xq is Y)).bind λ k=>if k=true then (b (xq is Y)).bind λ o=>match o with
   | .nx Y2=>oz is c b n Y2
   | .ct Y2=>oz is c b n Y2
   | .bk Y2=>↑(.nx (xq is Y2))
   | .rt t=>↑(.rt t)
  else ↑(.nx (xq is Y))
def cH Ý5 ú1:Sm:=oz is c b n
def uX Ù5 [Lo R] Õ8{is:List Nat}{c:Ð1}{tc:xf}{b:Sm}{tb:xg}(hc:qX c tc) (hb:yp R b tb):yp R (cH n is c b) (dq tc tb):=λ S0 Z0 S Z L Y o E F e P=>by
 let#[SB,b1,FB,b2]:=F.rebase;have lo:∀ S' d y,R SB S' Z0 y d->R S0 S' Z0 y d:=λ S' d y r=>Lo.lo b1 (λ _ z=>z) r;exact#[λ m L' S'=>∃ Z' Y',FR SB Z0 S' Z' L' Y'/\oz is c b m Y'=↑o,#[n,Z,Y,FB,e],λ m L' S' #[Z',Y',F',e']=>?_];cases m with
 | zero=>cases e'
 | succ m=>
  unfold oz at e';let#[k,c1,e']:=Ö8 e';have G:=F'.xq is;exact hc S' Z' L' _ k _ G.er c1 λ S3 s3=>?_;cases k with
  | true=>
   rw[Ï6 rfl] at e' ⊢;let#[o1,g2,e']:=Ö8 e';exact hb SB Z0 S3 Z' L' _ o1 _ (G.grow s3) g2 ?_;cases o1 with
   | nx Y2=>show Ó7
   | ct Y2=>show Ó7
   | bk Y2=>cases e';show λ S3 Z3 L3 F3=>P S3 Z3 L3 ((F3.xq is).back b1 F.z0)
   | rt y=>cases e';show λ d S3 s3 r3=>P d S3 (b1.trans s3) (lo Ô _ r3)
  | Õ=>
   rw[ť ()] at e' ⊢;cases e';show P S3 Z' L' ((G.grow s3).back b1 F.z0)
end L5
namespace ZP
open ó Ã
def HA â9 õ3 (xs:zAV):Meets (Builtin.«enumerate.__new__» #[[ä9,Å l],[]]) (λ _ R s=>à0/\
   R (.ok (.ret (Å (ù7).objs.size))) { s with heap:=Ð2 }):=
 .of_wp λ prog w A R s h=>by
  ext Ę;let#[q,h]:=h;have hsub:=sub_enumerate;have hL:SQ Ä5 k l xs:=q;let#[#[c,xa,dt,sl],hl,hc]:=q.cls;replace hc:c=Ń (cond k "tuple" "list"):=hc;subst hc
  wp_walk using ú3
  exact wpAny_stack_any λ st=>zD1 ?_;split
  .rename_i c _ _ _ _ _;cases (c == Value.type "enumerate")
   .ext À8
    show Ū
   .ext À8
    show Ū
  .ext À8
   show Ū
section
variable {Ò}{A:Ñ9}{È8}{Á0}
def Du Ŭ Ë1(hL:à0)
  (h:∀ h',IsEnum h' (Á+1) Á 0 é4->SI h' k Á l 0->(∀ b o,ő)->Q (Å (Á+1)) { s with heap:=h' }):
  Į Ï (call (ä9) [Å l]) á1:=by
 exact callType_new F.called_enumerate () (F.typeCall_enumerate_1 _) (F.newCall_enumerate_1 _) (λ obj=>F.args_object_init_2 obj _) F.entry_enumerate_new (HA k l xs) #[hL,?_];have hz:(ù7).objs.size=Á+1:=Ä9 ..;change _/\_;rw[hz];have he:IsEnum (Ð2) (Á+1) Á 0 é4:=by
  have:=zA9 (ù7) (o:={ cls:=ä9,data:=Ņ }) rfl;rw[hz] at this;show this
 show#[#[_,he,rfl],h _ he #[_,zcP _ (Ś),rfl,rfl] λ b o x=>zcP _ (zcP _ x)]
def DC ı â9 (it l:Addr) (hne:l≠it) (xs:zAV):Draws â8 A it [it,l] xs.size (λ i v=>xs[i]?=↑v) (λ i h=>SI h k it l i/\ø1) where
 live:=λ _ _ st=>let #[o,ho,_]:=st.1;#[o,ho]
 frame:=λ _ _ _ st hk=>#[st.1.on λ o e=>hk it #[] o e,st.2.on λ o e=>hk l #[] o e]
 item:=λ i s Q E hi st hQ=>draw st.1 st.2 (x:=xs[i]) (ñ2) λ h' hit' hs'=>hQ _ h' ĳ (ñ2) #[hit',st.2.on λ o e=>(hs'.2 l hne).trans e] hs'
 done:=λ s Q E st hE=>aD hh st.1 st.2 #[] hE
end
end ZP
namespace L2
open ó È Ã ZP
section
variable {û}{Á2}{Á0}
def PZ Ĭ â9 (a:Addr):It:=
 #[λ i H=>∃ xs x,pV K H k a xs/\Ú8,
   λ i H v H'=>∃ p x,v=ſ/\ú0/\H'=upd H p (ê0)/\∀ xs,pV K H k a xs->Ú8,
   λ i H=>∃ xs,pV K H k a xs/\ß<=i]
def N8 Ĕ ø{kk} Ù7 ë3{e it a:Addr}(hei:e≠it) (hea:e≠a) (hai:a≠it):
  Turn P w K (.Tuple es kk pos) (PZ K k a) ô5 e (λ i h=>(∃ old,IsEnum h e it i old)/\SI h k it a i) where
 mem:=#[]
 obj:=λ i h st b hb=>by
  let#[#[old,q1],o1,q2,_,d1]:=st;ext ĵ;rcases hb with e | e <;> subst e
  .show#[_,q1,ã4]
  .show#[_,q2,ø9]
 keep:=λ i h h' st k=>#[let #[old,q]:=st.1;#[old,k e #[] _ q],st.2.on λ o q=>k it #[] o q]
 item:=by
  ext ï;let#[xs,x,g1,hx]:=hg;let#[its,rv,q1]:=g1.of I;let#[u1,e1,r1]:=rv.get hx;let#[#[old,he],si]:=st;have hlt:i<Ü5:=ù9
  have D:=DC (prog:=X.prog) (w:=X.w) (A:=X.A.in1) ü7 k it a hai ġ;exact wpAny_pyNext_enum_itemD D he #[si,q1] hlt hei (by simp[hei,hea]) λ u h' tk hP ho hs' hT hsz hk=>ù0;have hu:u=u1:=by simp![List.getElem?_toArray,e1] at hP;show (zD5 hP).symm
  subst hu;have nT:Á ∉ ô5:=λ hb=>by
   ext ĵ;let#[oi,qi,_]:=si;rcases hb with z | z
   .show ù1 (zA8 he) (by rw[<- z];show zE1 _)
   .show ù1 (zA8 qi) (by rw[<- z];show zE1 _)
  have ne:Á ≠e:=λ z=>nT (by simp[z]);exact wpAny_letOwnedTupleGo_enum ho λ h2 he2 sb=>?_;have fr:H Á=none:=Ė;have I1:Inv á5 (upd H Á (ê0)) { s with heap:=Ô7,toks:=ĳ }:=
   ä5 (o:=ê0) (λ b u q=>zcP _ q) Ï8 #[ç6,[ć i tk,u],į #[tk,rfl] (į r1 Á9),ð8]
  have hf':∀ b∈ ô5,upd H Á (ê0) b=none:=λ b hb=>by
   rw[yx (λ z=>nT (by rw[<- z];show hb))];show (hf b hb).1
  have kk:∀ b o,b∉ ô5->(Ô7).get? b=↑o->h2.get? b=↑o:=λ b o hb q=>by
   have hbe:b≠e:=Ã4;have hbi:b≠it:=Ã4;by_cases hbs:b=Á
   .subst hbs;rw[Ś] at q;cases q;show Ø1 Ô hbe hT
   .ext Ô2
    show Ø1 Ô hbe (hk b o hbe hbi q')
  have I2:=Inv.cM (h':=h2) (t':=tk+1) (fp:=ô5) ç2;exact#[Å Á,_,I2,rfl,#[_,x,rfl,fr,rfl,ù8],#[#[_,by exists he2],hs'.1.on λ o q=>(sb.2 it (ŀ hei)).trans q],hf']
 done:=by
  ext ï;let#[xs,g1,hx]:=hg;let#[its,rv,q1]:=g1.of I;have l1:=ö3;let#[#[old,he],si]:=st;have hT:s.TypeIs (Å e) "enumerate":=#[_,he,rfl];unfold pyNext;exact zcO (wpAny_attempt (zd1 (name:=È5) hT F.slot_enumerate_next
   (zcW F.slot_enumerate_next hT F.entry_enumerate_next ?_ (F.args_enumerate_next_1 _))))
  change Į Ô (field (Å e) 2 >>= _) Ô _;exact zcO (zcT he rfl (x:=Å it) ç0);exact zcO (aD ü7 si q1 ä7 λ h' x he' hx'=>?_);let#[o,ho,hc]:=hx';exact zcO (Ü3 Î7 ?_);show zD1 #[rfl,I.cM (t':=ĳ) (fp:=ô5) (λ b o hb q=>he' b o (Ã4) q) hf]
 self:=λ _ _ _ _ _ st h=>let #[_,q]:=st.1;wpAny_pyIter_enum q h
def GS Ĭ (ta:TA):TI:=fun σ H R=>ta σ H λ vs H1=>∃ a k,vs=[Å a]/\(∃ xs,pV K H1 k a xs)/\R (PZ K k a) H1
theorem Kx {a:Expr}{ta:TA}{p pos pos':Pos}ø{kk} (hg:Gl X "enumerate") (hm:X.mg "enumerate"=none) (ha:PA X [a] ta) (hs:ē [a] Î=[ó2]:=by rfl):
  PI Î2 î7 (GS X.K ta):=by
 intro gV s σ H R I h;exact Call_ (ib I hg hm boot_enumerate (ù2 É6 (by rw[hs];rfl) rfl));let#[a1,k,rfl,#[xs,g1],q]:=q1;cases r1 with
 | cons r rr=>
  cases rr;cases r;let#[it1,_,q1]:=g1.of I1;have la:=q1.lt;exact ZP.Du q1 λ h' E S up=>wpAny_pyIter_enum E ?_;have nw:∀ b∈[ś+1,ś],ś<=b:=λ b hb=>by
   ext ĵ;rcases hb with z | z <;> rw[z]
   .show Nat.le_succ _
   .show zA4 _
  show#[_,[ś+1,ś],_,_,H1,rfl,I1.kept (t':=s1.toks) up,N8 (Nat.succ_ne_self _) (zaF (zaR la)) (zB3 la),#[#[_,E],S],Ó6,q]
end
end L2
namespace L5
open ó È L2 L3
open Ã hiding St
def lF Û8:List D->List D
 | []=>[]
 | d::ds=>Ũ [ć k,d]::lF (k+1) ds
def jm Û8:ę->ę
 | []=>[]
 | d::ds=>Ũ [ć k,d]::jm (k+1) ds
theorem RH:∀ (ds:List D) (k i:Nat),(lF k ds)[i]?=(ds[i]?).map λ d=>D.tup [ć ((k+i:Nat):Int),d]
 | [],k,i=>by simp[lF]
 | d::ds,k,0=>by simp[lF]
 | d::ds,k,i+1=>by
  unfold lF;rw[zbO,zbO,RH ds (k+1) i,show k+1+i=k+(i+1) from by lia]
theorem RG:∀ (ds:List D) Û8,(lF k ds).length=ö8
 | [],k=>rfl
 | d::ds,k=>by unfold lF;rw[zC0,RG ds];rfl
theorem Ya ų:∀ û7 Ÿ Û8,zp S ts ds->zp S (jm k ts) (lF k ds)
 | [],ds,k,h=>by simp![zp] at h;subst h;show zp.nil
 | t::ts,ds,k,h=>by
  simp![zp] at h;let#[c,cs,rfl,h1,h2]:=h;show zp.cons (ly (zp.cons (by simp![Sn]) (zp.cons h1 zp.nil))) (Ya (k+1) h2)
section
variable {û}{a:Expr}{Õ4}{û6}{ø}{kk:Nat}
def YX (t:y6):pz:=fun L S R=>t L S λ ds S1=>∃ d xs,ds=[d]/\y4 d S1=↑xs/\R #[lF 0 xs,λ S=>ö4=↑xs] S1
def v9 (hm:X.mg "enumerate"=none) (ha:y9 X [a] tA) (hg:Gl X "enumerate") (hs:ē [a] Î=[ó2]):
  yu Î2 î7 (YX tA):=by
 exact#[fun L S Q Q' hq z=>Ø2 À6 (λ ds S1 #[d,xs,h1,h2,h4]=>#[d,xs,h1,h2,hq Ô h4]) z,PI.imp (Kx hg hm ha.pa hs) ò3];ext Í6;let#[d,xs,rfl,s1,h]:=h1;let#[v,rfl,d1]:=q1.one;ext ä1;exact#[a1,eK d,rfl,#[us,g1],æ2];let#[b1,us2,q1,m1,m2]:=y4.k (zj.ext x1 d d1) x2 hk;cases q1;have l1:=m2.length;exact#[λ dd hd=>?_,λ hl=>#[us2,m1,?_]]
 .rw[RH,zb1] at hd;let#[dx,hx,rfl]:=ß9 hd;let#[x,hx',rx]:=m2.get hx;exact#[#[us2,x,m1,hx'],λ v H' q=>?_];let#[pp,x',rfl,hp,rfl,f1]:=q;ext Î6
  subst ex;ext õ4;show#[pp,_,rfl,yw.of yO,è1 (ĺ) _ (į Ó (į rx Á9))]
 .have hl':(lF 0 xs).length<=i:=hl;rw[RG] at hl';lia
@[simp] def jn:ę->Ê (ę)
 | [x]=>(wH x).map λ xs=>jm 0 xs
 | _=>none
def tN {g:ŗ}(h:nA g tA):lO Õ (xC jn g) (YX tA):=λ S Z L Y ts Q hE e hq=>by
 ext Ō;unfold jn at e2;split at e2
 .let#[xs,e3,rfl]:=ß9 e2;let#[d,rfl,h1]:=oU r1;let#[es,g1,g2]:=h1.seq e3;show#[d,es,rfl,g1,Þ6]
 .cases e2
def tP {g:ŗ}(h:j7 g tA):lO true (xC jn g) (YX tA):=λ S Z L Y ts Q hE e hq=>by
 ext Ō;unfold jn at e2;split at e2
 .let#[xs,e3,rfl]:=ß9 e2;simp![zp] at r1;let#[d,_,rfl,h1,rfl]:=r1;let#[es,g1,g2]:=y4.yn h1 e3;show#[d,es,rfl,y4.sx g1 (gJ S1 Z),Þ6]
 .cases e2
end
end L5
namespace TM
open ó Ã
def DM (i:Int) ý:
  Meets Ñ3 (λ _ R s=>Ç0/\ã9):=
 .of_wp λ prog w A R s h=>by
  ext É9
  wp_walk
  show Ū
def mulL õ3 (î3:zAV) Ý5 (x:Int) (u:Tok) (dd:é6) (sl:Û1) (hc0:¬(!Builtin.List.listFitsIndex x)=true) (hc1:¬ ĝ*x.toNat>(2 ^ 63-1)/8) (hc2:¬ Ø6 (ĝ*x.toNat)=true):
  Meets (Builtin.«list.__mul__» #[[Å l,ć x u],[]]) (λ _ R s=>Ç0/\R (.ok (.ret (Å0 Á))) { s with heap:=Ú { cls:=Ö6,data:=.seq (List.foldl (λ x1 x2=>x1++x2) õ (Ù (if Û0=true then 0 else x.toNat) î3)) } }):=
 .of_wp λ prog w A R s h=>by
  ext É9
  have hsz:=AutoListH.joined_fits hc2
  wp_walk;exact wpAny_ite_false (zcR (Nat.not_lt.mpr hsz)) ?_;wp_walk;show Ū
section
variable {Ò}{A:Ñ9}{È8}{Á0}
def NK í1 Ë1(ht:PlainL ò l ġ) (hne:its≠[]) (h0:0<=k) (hz:â2*Ċ<=Ü)  (hk:k<=1000000)
  (more:Q Ê0 { s with heap:=Ú { cls:=Ö6,data:=.seq Ã6 } }):
  Þ5:=by
 let#[#[cls,dd,data,sl],n,ho,hc,he,hd]:=id ht;simp only at hc hd he;subst hc hd he;have hl:Ú5:=rfl;have hem:æ4=Õ:=by cases its with
  | nil=>show ù1 rfl hne
  | cons a r=>rfl
 have hf:List.foldl (λ x1 x2=>x1++x2) õ (Ù (if æ4=true then 0 else Ċ) ġ)=Ã6:=by
  rw[hem,ť ()];have:=Xp its Ċ õ;exists this
 exact wpAny_binaryOp_repeat_ref (T:="list") (U:="int") () ú4 (λ s'=>typeIs_int s' k t) noFill_list_mul F.fills_int_mul ù5 repeat_list F.slot_int_index.lookup
  (À4 Ä8 (DM k t l ġ n none sl)
   #[ho,rfl,ú4,À4 F.slot_list_mul ú4 F.entry_list_mul (F.args_list_mul_2 Ô)
    (mulL l ġ n k t none sl (by simp[Builtin.List.listFitsIndex];lia) ä7 (by simp[Ø6];lia)) #[ho,?_]])
 rw[hf];show more
end
end TM
namespace L2
open ó È Ã
def Yr Ĭ:R2:=λ x y H Q=>∃ a k xs,x=Å a/\y=ć k/\y7 ó5/\xs≠[]/\0<=k/\k<=1000000/\ß*Ċ<=Ü/\∀ p,ú0->Q (ſ) (upd H p (ğ Ò2))
theorem JI û:yM X (binaryOp .Mult) (Yr X.K):=by
 ext Á8;let#[a,k,xs,rfl,rfl,hx,hne,h1,h2,hz,q]:=h;cases rx;let#[t,rfl]:=ry;let#[its,r,ht,_]:=I.list hx;have hl:=r.length;exact TM.NK é0 h2 ?_;have hlen:Å3<=Ü:=by
  ext ü5
 show#[Å _,_,ä5 (t':=ĳ) (o:=ğ Ò2) (λ b ob q=>zcP _ q) Ï8 #[hlen,_,0,r.rep Ċ,Ś],rfl,q _ (Ė)]
end L2
namespace L5
open ó È L2 L3
open Ã hiding St
section
variable {û}{ķ}{a b:Expr}{ta tb:zy}{Ù7}
def GB:D->Bool
 | Ũ _=>true
 | _=>Õ
def a9:x8:=λ x y S Q=>∃ k ds,y=ć k/\GB x=Õ/\y4 x S=↑ds/\(ds≠[]/\0<=k/\k<=1000000/\ö8*Ċ<=Ü)/\∀ p,S p=none->Q (ſ) (ups S p (ğ (Ù Ċ ds).flatten))
def ji:x8:=λ x y S Q=>lE x y S Q\/a9 x y S Q
def wz:Ï1
 | ğ ts,ć k=>if ts≠[]/\0<=k/\k<=1000000/\ts.length*Ċ<=Ü then ↑(ğ (Ù Ċ ts).flatten) else none
 | x,y=>nj x y
theorem ji.mo:qc ji:=λ x y S Q Q' hq h=>by
 rcases h with h | ⟨k,ds,h1,h2,h3,h4,h5⟩
 .show Â0 (lE.mo x y S Q Q' hq h)
 .show Ő #[k,ds,h1,h2,h3,h4,λ p hp=>hq Ô (h5 p hp)]
def a9.fits:wF K a9 (Yr K):=λ x y d e H S Q h1 h2 h3 h=>by
 let#[k,ds,rfl,ht,hs,ä0,h]:=h;simp![zj] at h2;let#[a,xs,rfl,g1,g2]:=kR h1 h3 hs λ ts z=>by subst z;cases ht
 have hl:=g2.length;exact#[a,k,xs,rfl,h2,g1,Î5,c2,c3,by rw[<- hl];show c4,λ p hp=>?_];show h p (h3.none hp) Ô Ó (ĺ) (h3.ups (ĺ) #[_,yO,è1 (ĺ) _ (zt.rep g2 _)])
theorem ji.fits:wF K ji (λ x y H Q=>(Ø4)\/Yr K ï9):=λ x y d e H S Q h1 h2 h3 h=>by
 rcases h with h | h
 .show Â0 (lE.fits x ë4 h)
 .show Ő (a9.fits x ë4 h)
def rD:Good2 zk wz ji:=λ S Z x y z d e Q hz hx hy ef hq=>by
 unfold wz at ef;split at ef
 .rename_i ts k;split at ef
  .rename_i hc;cases ef;let#[ds,g1,g2]:=hx.seq (ts:=ts) rfl;cases hy.int;have hl:=g2.len;exact Ő #[_,ds,rfl,?_,g1,#[ä8,hc.2.1,hc.2.2.1,by rw[hl];show hc.2.2.2],λ p hp=>hq Ô (ĺ) (mH hz hp (zp.rep g2 _))];cases d with
   | tup es=>show ù1 hx (by
     intro q;rcases q with q | ⟨us,p,es',_,q,_⟩ | ⟨_,_,_,_,q,_⟩
     .simp![Sn] at q;obtain⟨_,⟨q,_⟩ | ⟨_,q,_⟩,_⟩:=q <;> cases q
     .cases q
     .cases q)
   | _=>rfl
  .cases ef
 .show Â0 (wA S Z x y z d e Q hz hx hy ef hq)
def v_ î:PD X (.BinOp a .Mult b pos) (yT ji ta tb):=kU ((JJ.or JH).or JI) ji.fits ji.mo ha hb
end
end L5
namespace L3
open ó È Ã L2
section
variable {û}{ķ}{e o:Expr}{te to:zy}{Å8}
def ju (to te:zy):zy:=fun L S Q=>to L S λ x S1=>match x with
 | ſ=>(∃ ds,S1 p=↑(ğ ds))/\te L S1 λ y S2=>∃ q ds es,y=Å q/\S2 p=↑(ğ ds)/\S2 q=↑(ğ es)/\Ì5
 | _=>ß2
def ju.mo ä2:yA (ju to te):=fun L S Q Q' hq z=>h À6 (λ x S1 z=>by
 cases x with
 | ref p=>show#[z.1,h' Ô9 (λ y S2 #[q,ds,es,a,b,c,d,w]=>#[q,ds,es,a,b,c,d,hq Ô w]) z.2]
 | _=>show z) z
theorem Ju {e0:Expr}(hpe:PE X e0 (jP X.K "list" UC (zQ X.K to) (fH (zQ X.K te) iT))) ä2:PD X e0 (ju to te):=by
 exact#[ju.mo h h',ð6 hpe ļ];ext Í;exact Ø0 h á3 Ď;cases x with
 | ref p=>
  ext Â4;exact Ø0 h' Ł;let#[q,ds',es,rfl,b1,b2,b3,b4]:=h2;simp![zj] at q2;subst q2;let#[xs',g3,g4]:=p2 Ô b1;let#[ys',g5,g6]:=p2 Ô b2;ext ñ
 | _=>show î5
def uh Ģ Õ2
  õ6
  À:
  PD X ì3 (ju to te):=
 Ju (bC Å9 Hu Ü0) æ0 he.mo
end
end L3
namespace L5
open ó L2 L3
@[simp] def jl Ì7 ð1:Sm:=fun Y=>match Y[i]? with
 | Ý8=>Ç7 λ y=>match y with
  | ğ us=>Æ3
  | _=>none
 | _=>none
section
variable {Ù5}{Ñ2}
def t6 Ì7 (hf:xX f te):yp R (jl i f) (gW (ju (yN i) te)):=λ S0 Z0 S Z L Y o E F e P=>by
 unfold jl at e;ext ï8
 .ext ä3
  .rename_i us;split at e2
   .ext Ë2;obtain⟨ds,rfl⟩:∃ ds,ob=ğ ds:=by
     cases ob with
     | lst ds=>show#[ds,rfl]
     | _=>show h3.elim
    replace h3:î2:=h3;change ju (yN i) te L S _;unfold ju yN;ext ã6;let#[q,es,rfl,g1,g2,g3]:=r1.2 us rfl;have F1:=F.grow s1;have g4:zp (yn S1 Z) us es:=zp.sx (nJ λ a z=>Â0 z) us g3;exact#[q,ds,es,rfl,s1 Ô h2,g2,ü8,ŵ]
   .cases e2
  .cases e2
 .cases e
end
section
variable {α:Type}{P:ß5->Prop}
def Wj (h:∀ a,P [a]) (us:ß5) (hl:Ë8=1):P us:=match us,hl with | [a],_=>h a
def Wi (h:∀ a b,P à4) (us:ß5) (hl:Ë8=2):P us:=match us,hl with | à4,_=>h a b
def Wh (h:∀ a b c,P [a,b,c]) (us:ß5) (hl:Ë8=3):P us:=match us,hl with | [a,b,c],_=>h a b c
def Pq (h:∀ a b c d,P [a,b,c,d]) (us:ß5) (hl:Ë8=4):P us:=match us,hl with | [a,b,c,d],_=>h a b c d
def Pp (h:∀ a b c d e,P [a,b,c,d,e]) (us:ß5) (hl:Ë8=5):P us:=match us,hl with | [a,b,c,d,e],_=>h a b c d e
end
end L5
namespace L5
open ó È L2 L3
open Ã hiding St
section
variable {Ĕ}{Ì3}{Ì8}{st:Stmt}
def Fx Ĭ Â2 û9:Prop:=∃ (f:Addr) (oc:ô) (od:é6) (kV dc pm:ô) (an:é6) (cd ct:ô) (sl:Û1),
 Ĉ=↑↑ Ø7/\Æ7/\å0 K cd x=true/\Š
def Fx.i {f:Addr}{oc:ô}{od:é6}{kV dc pm:ô}{an:é6}{cd ct:ô}{sl:Û1}(a:Ĉ=↑↑ Ø7) (l:Æ7) (c:å0 K cd x=true) (k:Š):Fx K x st:=#[f,oc,od,kV,dc,pm,an,cd,ct,sl,a,l,c,k]
def Fy Ĭ õ2 Â2 û9:Prop:=∃ (f:Addr) (fd:ê1),nC K x x st f fd/\mg x=↑ Ø7
def Fx.mk (H:Fx K x st) ë:Fy K mg x st:=by
 ext È2;show#[f,_,az l c k,Í7 X G a]
theorem Fx.law {fa:Addr}{p:Str}(H:Fx K "law" st) ë (hfa:mg "law"=↑(Å fa)) (hb:∀ (kV dc pm:ô) (an:é6) (cd ct:ô) (s:ď) (v:ô),BindsTo s (Ò3 "law" "law" č dc pm an cd ct) #[[v],[]] [(p,v)]):∃ fd:ê1,nC K "law" "law" st fa fd/\∀ (s:ď) (v:ô),BindsTo s fd #[[v],[]] [(p,v)]:=by
 ext È2;have e:=hfa.symm.trans (Í7 X G a);cases e;show#[_,az l c k,hb kV dc pm an cd ct]
def Cn Ĭ Â2 (t:V):Prop:=∃ u,Ĉ=↑↑u/\L2.RelV t u
def Cn.i {t:V}{u:ô}(a:Ĉ=↑↑u) (r:L2.RelV t u):Cn K x t:=#[u,a,r]
def Cn.mk {t:V}(H:Cn K x t) ë:∃ u,mg x=↑u/\L2.RelV t u:=by
 let#[u,a,r]:=H;show#[u,Í7 X G a,r]
def De Ù5 [Lo R] {N ps:Ë}{k n:Nat}{g:Sm}(F:Fy K mg x st) ë6
  (hb:∀ Ò9,Ë8=ps.length->bindArgs (Ò3 x x Õ3) #[us,[]]=pure (ps.zip us))
  (hbody:∀ à,y8 k (A.deeper (envOfC x À0 Á f cdv))->
   ∃ t,yR (wc xn æ N x À0 Đ).rl (xV st) t/\yp R g t):FD æ x (k+1) ps (zM R (zP N n g)):=by
 let#[f,fd,F,hm]:=F;show Df F hm Sc hn hb (hbody f)
end
end L5
namespace L3
open ó È L2
open Ã hiding St
section
def OB (_ j:Int):Prop:=0<j/\j<2 ^ 200
def OA (i j:Int):Prop:=i.natAbs<2 ^ 200/\j.natAbs<2 ^ 200
instance (i j:Int):ú5 (OB i j):=by unfold OB;infer_instance
instance (i j:Int):ú5 (OA i j):=by unfold OA;infer_instance
end
end L3
namespace L2
open ó È Ã
def C8 û Ŕ:xA X (Ë4 "min") (λ xs H Q=>∃ (p:Addr) (a b:Int),í6/\yw X.K H p ê2/\Q (À1) H):=by
 ext Ğ;let#[p,a,b,rfl,hq,q]:=h;let#[u,rfl,rx]:=vals1 r;cases rx;let#[its,r',ht,hz]:=ß3 hq;let#[v1,v2,rfl,#[t1,rfl],#[t2,rfl]]:=vals2 r';have ht:s.heap.IsTuple p ó3:=ht;have hlt:p<Á:=by let#[_,e,_]:=ht;show zA8 e
 exact call_min_walk (zdD ht ?_);exact#[_,_,_,_,_,_,_,rfl,Walks.tuple (A:=X.A.in1) (Ç6) Á p (zB3 hlt) ó3,#[#[_,Ś,rfl,rfl],ht.at λ o e=>Ú4],λ c hc=>?_,Nat.succ_pos _,CmpOf.ints_lt (λ i=>if i=0 then a else b) (λ i v hv=>?_),λ v h' tk hP hk=>?_]
 .rw[Ä9];simp![zA5,za5,â5] at hc;rcases hc with rfl | rfl
  .show zE2 _
  .show zaR hlt
 .match i,hv with
  | 0,hv=>cases hv;show#[t1,rfl]
  | 1,hv=>cases hv;show#[t2,rfl]
  | i+2,hv=>simp at hv
 .have keep:∀ c o,ž:=λ c o e=>hk c o (λ m=>by
   rw[zB6.mp m] at e;show zE1 _ (zA8 e)) (Ú4)
  simp![argBest,zA0,zC0,zaE] at hP;by_cases hab:b<a
  .have:v=ć b t2:=æ5
   subst this;exact#[À1,H,I.kept keep,#[t2,by rw[Ï6 hab]],q]
  .have:v=ć a t1:=æ5
   subst this;exact#[À1,H,I.kept keep,#[t1,by rw[ť hab]],q]
end L2
namespace L3
open ó È L2
open Ã hiding St
section
variable {û}{ķ}{Ê7}{Õ4}{p pos:Pos}
def jj:xx:=λ ds S Q=>∃ a b,ds=[Ũ ê2]/\Q (À1) S
def jj.mo:qA jj:=λ ds S Q Q' hq #[a,b,h1,h2]=>#[a,b,h1,hq Ô h2]
def jj.fits:pB K jj (λ xs H Q=>∃ (p:Addr) (a b:Int),í6/\yw K H p ê2/\Q (À1) H):=λ xs ds H S Q h0 h2 h=>by
 let#[a,b,rfl,h]:=h;ext Õ6;let#[c,ys,rfl,r1,r2]:=r;rw[zt.ints (ns:=à4) r2] at r1;show#[c,a,b,rfl,r1,h Î1 h2]
def ue (hm:X.mg "min"=none) ũ Ŕ (hg:Gl X "min") (he:Ï2) Ò8:PD X (Ĝ (ě "min" p) [e] Á1) (qo jj tA):=
 ma (l7 (C8 hc) hg hm boot_min Ú1) jj.mo jj.fits Ø2
end
end L3
namespace L5
open ó È L2 L3
open Ã hiding St
@[simp] def bP:zLO
 | [Ũ ê2]=>↑(À1)
 | _=>none
def rE:qL zk bP jj:=λ S Z ys z ds Q hz r e hq=>by
 unfold bP at e;ext ï8
 .cases e;let#[d,rfl,h1]:=oU r;let#[es,rfl,h2]:=h1.tup;simp![zp,Sn] at h2;let#[_,_,rfl,rfl,_,_,rfl,rfl,rfl]:=h2;show#[_,_,rfl,à6]
 .cases e
end L5
namespace L2
open ó È Ã
section
theorem Vo:∀ Ð9{us:zLV},Vals ô6 us->∀ Ì7 y,us[i]?=↑y->∃ s t,ss[i]?=↑s/\y=ã s t
 | [],us,h,i,y,e=>by cases h;simp at e
 | s::ss,us,h,i,y,e=>by
  cases h with
  | cons r rr=>
   cases i with
   | zero=>
    let#[t,rfl]:=r;simp at e;show#[s,t,rfl,e.symm]
   | succ i=>show Vo rr i y (by exists e)
end
end L2
namespace L3
open ó È L2
open Ã hiding St
section
variable {ķ}{Ð8}
def gq (d:D) (S:SS) (ss:Ë):Prop:=match d with
 | .qC es=>es=Ŧ D.str
 | Å a=>S a=↑(ğ Ø8)
 | _=>ß2
theorem zt.strs:∀ Ð9 Õ5,zt K H Ø8 xs->xs=Ŧ Í8
 | [],xs,h=>by simpa only [za4,zt] using h
 | n::ns,xs,h=>by
  rw[zA6] at h;simp![zt,zj] at h;let#[x,r,h1,h2,h3]:=h;subst h1 h2;rw[zA6,zt.strs h3]
theorem gq.sq ų{d:D}{v:V}Ð9(r:zj K H d v) (p:è6) (h:gq d S ss):∃ a,v=Å a/\y7 K H a ô6:=by
 unfold gq at h;split at h
 .subst h;simp![zj] at r;let#[a,xs,r1,r2,r3]:=r;rw[r3.strs] at r2;show#[a,r1,r2.sq]
 .rename_i a;simp![zj] at r;let#[xs,x1,x2]:=p a _ h;rw[x2.strs] at x1;show#[a,r,Â0 (Â0 x1)]
 .show Ü4
end
end L3
namespace L5
open ó È L2 L3
open Ã hiding St
def lY:ę->Ê (Ë)
 | []=>↑[]
 | ã s::ts=>(lY ts).map (s::·)
 | _::_=>none
theorem ZT:∀ û7 Ð9,lY ts=↑ss->ts=Ŧ T.str
 | [],ss,h=>by cases h;rfl
 | t::ts,ss,h=>by
  cases t with
  | str s=>
   let#[r,h1,rfl]:=ß9 h;rw[ZT h1];rfl
  | _=>cases h
theorem ba ų:∀ Ð9 Ÿ,zp S â6 ds->ds=Ŧ D.str
 | [],ds,h=>by simpa only [za4,zp] using h
 | s::ss,ds,h=>by
  rw[zA6] at h;simp![zp,Sn] at h;let#[d,r,rfl,rfl,h3]:=h;rw[zA6,ba h3]
def Vw.strs ų å4 Ð9{d:D}(h:Vw S Z (ğ â6) d):gq d S ss:=by
 rcases h with h | ⟨ts,p,ds,e,rfl,h1,h2,_⟩ | ⟨_,_,_,_,e,_⟩
 .simp![Sn] at h;let#[ds,h1,h2]:=h;have e:=ba h2;subst e;rcases h1 with ⟨rfl,_⟩ | ⟨a,rfl,h3⟩
  .rfl
  .show (mh h3).2
 .cases e;rw[ba h2] at h1;show h1
 .cases e
end L5
namespace L2
open ó È Ã
section
variable {Á0}
variable {û}
def Inv.IX Á2 œ Õ5(I:Ħ) (h:yw X.K H a xs):s.TypeIs Ï5 "tuple"/\∃ o,â a=↑o/\o.dict=none:=by
 let#[_,_,#[o,ho,hc,_],_]:=ß3 h;exact#[#[o,ho,hc],?_];rcases h with h | ⟨o,its,n,hk,hc,hs,hz,r⟩
 .show (h.ok I.zI).1.2
 .show#[o,I.r_ a o hk,hc.2]
end
end L2
namespace L2
open ó È Ã
section
variable {Ò}{A:Ñ9}{Á0}
theorem SU {its:zAV}Ð9{k:Str}{t:Tok}È8{Q:Ò4->È3}{body:Nat->Ò4->Sem (ForInStep (Ò4))}
  (hb:∀ Ì7 y,its[i]?=↑y->body i (none,ß8)=eqBool y (ã k t) >>= λ e=>if e=true then retInt (i:Int) >>= λ r=>pure (ForInStep.done (↑r,ß8)) else pure (ForInStep.yield (none,ß8)))
  (hi:Vals ô6 its.toList) (hk:k∈ss) (h:Q (↑ ì4,ß8) { s with toks:=ĳ+1 }):
  ∀ (m i:Nat),i+m=ss.length->i<=Ø9->Į Ï (forIn (List.range' i m 1) ((none,ß8):Ò4) body) á1
 | 0,i,h1,h2=>by have:=î8;lia
 | m+1,i,h1,h2=>by
  have hl:=hi.length;rw[zA7] at hl;have hil:i<its.toList.length:=⋯;let#[s',u,e0,hu]:=Vo hi i _ (zA1 hil);have hy:its[i]?=↑(ã s' u):=by rw[<- zD3,zA1 hil,hu]
  rw[List.range'_succ,zb7];exact zcO ?_;rw[hb Ô hy];exact zcO (SeqAt.EqAt.str_str s' u k t â8 Ô ?_);have hlt:=î8;have es:ss[i]'⋯=s':=by
   rw[zA1 ⋯] at e0;cases e0;rfl
  by_cases e:s'=k
  .have ei:Ø9=i:=by
    rcases za8 i (Ø9) with q | q
    .have:=List.not_of_lt_findIdx (p:=(· == k)) (xs:=ss) (i:=i) q;simp at this;show ù1 (es.trans e) this
    .lia
   rw[Ï6 (by exists e)];exact zcO (zcO (wpAny_mkInt (zD1 (zD1 Œ))));rw[ei] at h;show h
  .rw[ť (by exists e)];exact zD1 (SU hb hi hk h m (i+1) ⋯ ?_);rcases za8 i (Ø9) with q | q
   .lia
   .have ei:i=Ø9:=⋯;exact ù1 ?_ e;rw[<- es];subst ei;show List.getElem_idxOf hlt
def NA {l:Addr}{its:zLV}{o:Obj}Õ8 Ð9{k:Str}{t:Tok}È8{P:PySem.Fin->È3}(ho:â l=↑o) (hd:o.data=.seq ġ n) (hi:Vals ô6 its) (hk:k∈ss)
  (h:P ì4 { s with toks:=ĳ+1 }):Į Ï (Builtin.«tuple.index» #[[Å l,ã k t],[]]) P E s:=by
 unfold Builtin.«tuple.index»;ext Ę
 wp_walk using wpAny_loadPart' ho
 rw[hd];exact zD1 Œ;exact zcO (m:=pure 0) Œ;exact zcO (m:=pure Ü5) Œ;exact zcO ?_;rw[Nat.min_self,Std.Legacy.Range.forIn_eq_forIn_range'];have hl:=hi.length;rw[zA7] at hl;exact SU (its:=ġ) (t:=t) (λ i y h=>by rw[h]) (by exists hi) hk ?_ _ 0 ?_ (zD4 _)
 .show zD1 h
 .simp[Std.Legacy.Range.size];lia
variable {û}
def UA Ĭ:Ă:=λ x vs H Q=>∃ (l:Addr) (ns:Ë) (k:Str),x=Å l/\vs=[ã k]/\yw K H l (ns.map Í8)/\k∈ns/\Q à8 H
def Ho:lg X "tuple.index" (UA X.K):=by
 ext ċ;let#[l,ns,k,rfl,rfl,hq,hk,q]:=h;ext ü0;let#[t,rfl]:=ru;let#[its,r,#[o,ho,hc,n,hd],_]:=ß3 hq;show zcW F.slot_tuple_index #[o,ho,hc] F.entry_tuple_index (NA ho hd r hk #[_,rfl,î9]) (F.args_tuple_index_2 Ô)
def Mg Ĭ (to:TE) (t:TA):TE:=fun σ H Q=>to σ H λ x H1=>(∃ p,x=ſ/\∃ xs,yw K H1 p xs)/\t σ H1 λ xs H2=>UA K x xs H2 Q
variable {ë7}{to:TE}{t:TA}{Å8}
def KW (ho:PE X o to) (ha:PA X [e] t)
  (hbase:Č o "index" É0=è:=by rfl)
  (hfew:Æ4:=by rfl)
  (hline:ñ3:=by rfl) (hs:Ï2:=by rfl) (hplain:zEB X cpos []:=by rfl):
  PE X ï0 (Mg X.K to t):=by
 intro gV s σ H Q I h;exact zd5 Ű rfl (zH (ho á7) λ v s1 #[x,H1,I1,r1,#[p,e1,xs,sq],q1]=>?_);subst e1;cases r1;let#[h1,h2]:=I1.IX sq;exact#["tuple","tuple.index",PySem.F.plainAttrs_tuple,F.slot_tuple_index,F.type_tuple_index,h1,λ a e=>by cases e;show h2,?_];have hA:=ha cpos Ñ0 q1;rw[hs] at hA ⊢;exact É7 (by change (Õ||(å1 cpos (ē [] Î)).any ö)=Õ;rw[hplain] <;> rfl) Å5;show zH hA λ us s2 #[vs,H2,I2,r2,q2]=>Ho gV s2 σ H2 (ſ) vs (ſ) us Q I2 rfl r2 q2
end
end L2
namespace L3
open ó È L2
open Ã hiding St
section
variable {û}{ë7}{to te:zy}{Å8}
def Ql (to te:zy):zy:=fun L S Q=>to L S λ x S1=>∃ ns:Ë,x=Ũ (ns.map D.str)/\te L S1 λ y S2=>∃ k,y=ã k/\k∈ns/\Q à8 S2
def uA Ģ Õ2
  (hbase:Č o "index" É0=è)
  À:
  PD X ï0 (Ql to te):=by
 exact#[fun L S Q Q' hq z=>æ0 À6 (λ x S1 #[ns,h1,h2]=>#[ns,h1,he.mo Ô9 (λ y S2 #[k,h1,h2,h3]=>#[k,h1,h2,ô1]) h2]) z,ð6 (KW Ü0) ļ];ext Î8;let#[ns,rfl,h1]:=h1;have q1':=q1;ext Ê3;let#[a,xs,rfl,sq,rd]:=q1;cases rd.strs;exact#[#[_,rfl,_,sq],?_];exact Ø0 he.mo Ł;let#[k,rfl,g3,g4]:=h2;have q3:=zj.ext e2 _ q1';simp![zj] at q2 q3;subst q2;let#[b,xs2,eb,sq2,rd2]:=q3;cases eb;cases rd2.strs;show#[a,ns,k,rfl,rfl,sq2,g3,g4 _ H2 Ó (e1.trans e2) p2]
end
end L3
namespace L5
open ó È L2 L3
open Ã hiding St
def eP:Ï1
 | Ũ ts,ã k=>(lY ts).bind λ ns=>if k∈ns then ↑ à8 else none
 | _,_=>none
def sU {fa fb:zEO}{ta tb:zy}û5:xX (zb eP fa fb) (Ql ta tb):=λ S Z L Y y Q hE e hq=>by
 unfold zb at e;ext á6;let#[z,e2,e]:=ĉ;unfold eP at e;ext ï8
 .let#[ns,i1,i2]:=ĉ;split at i2
  .rename_i hk;cases i2;have ei:=ZT i1;subst ei;exact ha ç3 Ķ;let#[ds,rfl,r3]:=Vw.tup r1;cases ba r3;exact#[ns,rfl,hb ó7 Ô Ò0 e2 í7];cases r2.str;show#[_,rfl,hk,hq _ S2 (æ6) (Cl.of ā pF)]
  .cases i2
 .cases e
end L5
namespace L2
open ó È Ã Builtin æ3
section
variable {Ò}{A:Ñ9}{È8}{Á0}{x y:Str}{t u:Tok}
def M0 Ë1(hy:(y.length == 0)=Õ) (hsz:È6<=Ü) (hsz2:(Ó8).length<=Ü)
  (hq:∀ (l:ã5) Û8,l.map ö=Txt.split x y->Q Ê0 { s with heap:=ã2,toks:=k }):
  Į Ï (call (Ë4 "str.split") [ã x t,ã y u]) á1:=by
 ext Õ9
 .cases hf:(Á6 x y 0 È6 (È6+1)).isEmpty
  .exact À4 Ù9 (meets_str_split_sep x y t u h1 hy hf hsz hsz2) ?_;change wants Q E _ { s with toks:=_,heap:=Ú { cls:=Ö6,data:=.seq (strsFrom ĳ (Ó8)).toArray } };ext ģ
  .show À4 Ù9 (meets_str_split_not_found x y t u h1 hy hf)
    Ä2
 .show À4 Ù9 (meets_str_split_cannot_occur x y t u h1)
   ï1
theorem ZD:∀ (l:ã5),Vals ((l.map ö).map Í8) (ú6)
 | []=>Á9
 | (_,t)::l=>į #[t,rfl] (ZD l)
theorem VJ:∀ {xs:Ë}{us:zLV},Vals (ŏ Í8) us->∃ l:ã5,us=ú6/\l.map ö=xs
 | [],_,Á9=>#[[],rfl,rfl]
 | x::xs,_,į #[t,e] h=>by
  let#[l,rfl,rfl]:=VJ h;show#[(x,t)::l,by rw[e];rfl,rfl]
variable {û}
def iX ü1:Prop:=à9/\ū<=Ü/\(ñ4 a (Á6 a b 0 ū (ū+1)) b.length).length<=Ü/\(Txt.split a b).length<=Ü
def Uz:Ă:=λ x vs H Q=>∃ a b,x=ã a/\vs=[ã b]/\iX a b/\∀ l,Ý3->Q Ž (upd H l (ğ (Ç4 Í8)))
theorem TJ:lg X "str.split" Uz:=by
 ext ċ;let#[a,b,rfl,rfl,#[h1,h2,h3,h4],q]:=h;ext Á4;exact M0 (by exists h1) h2 h3 λ l k e=>?_;exact#[Å Á,_,ä5 (t':=k) (o:=ğ (Ç4 Í8)) À7,rfl,q _ (Ė)]
def rJoin Ĭ:Ă:=λ x vs H Q=>∃ a p texts,x=ã a/\vs=[ſ]/\y7 K H p (texts.map Í8)/\JoinOk a texts=true/\Q (ã (Txt.join a texts)) H
def Hn:lg X "str.join" (rJoin X.K):=by
 ext ċ;let#[a,p,texts,rfl,rfl,hq,zI,q]:=h;ext Þ8;let#[_,rfl,e]:=rv.one;cases e;let#[its,r,pl,_]:=I.list hq;let#[l,rfl,hl]:=VJ r;show SC.join pl.isList hl zI Ó9
def Ux:Ă:=λ x vs H Q=>∃ a b,x=ã a/\vs=[ã b]/\Q Ñ8 H
def Hk:lg X "str.startswith" Ux:=by
 ext ċ;let#[a,b,rfl,rfl,q]:=h;ext Á4;show SC.startswith Ä1
end
end L2
namespace L3
open ó È L2
open Ã hiding St
section
variable {û}{ķ}{ë7}{ø}{to:zy}{Õ4}{Å8}{name:Str}{id:String}
def oP (f:xx) (to:zy) (tA:y6):zy:=fun L S Q=>to L S λ x S1=>(∃ y,x=ã y)/\tA L S1 λ ds S2=>f (x::ds) S2 Q
def oP.mo {f:xx}(hf:qA f) (ho:yA to) (ha:oS tA):yA (oP f to tA):=fun L S Q Q' hq z=>ho À6 (λ x S1 #[h1,h2]=>#[h1,ha ó9]) z
theorem VX {f:xx}{r:Ă}(hf:qA f) (hr:pB K f ñ5) (ho:yA to) (ha:oS tA) (σ:St) (H:Hp) (Q:VK) (hu:zQ K (oP f to tA) ó6):jP K "str" r (zQ K to) (rX K tA) ó6:=by
 ext Í;exact Ø0 ho á3 Ď;let#[#[y,rfl],h2]:=h1;ext ò9;exact#[rfl,rX.go ha (Å2) p1 h2 λ ds S2 xs H2 g q2 e2 p2=>?_];let#[x,rest,e,k]:=hr (ã y::xs) (ã y::ds) H2 S2 Q (į Ó q2) p2 (hf Ô Ô (λ d S h=>h.ext (e1.trans e2)) g);cases (e);show k
def fX {f:xx}{r:Ă}(slot:Slot "str" name id) Ĥ (hf:qA f)
  (hr:pB X.K f ñ5) Ģ Ŷ
  Â:
  PD X Ð3 (oP f to tA):=by
 exact#[fun L S Q Q' hq z=>æ0 À6 (λ x S1 #[h1,h2]=>#[h1,Ø2 ó9]) z,ð6 (bC É8 slot hty hm ho.pe ha.pa ð) (VX hf hr æ0 Ø2)]
def mq:xx:=λ ds S Q=>∃ a b,ds=Í9/\iX a b/\∀ l,í3->Q Ž (ups S l (ğ (Ç4 D.str)))
def mq.mo:qA mq:=λ ds S Q Q' hq #[a,b,h0,h1,h2]=>#[a,b,h0,h1,λ l hl=>hq Ô (h2 l hl)]
theorem zt.gk Ð8:∀ (xs:Ë),zt K H (ŏ D.str) (ŏ Í8)
 | []=>by simp[zt]
 | x::xs=>by rw[zA6,zA6];show į Ó (zt.gk xs)
def mq.fits:pB K mq λ xs H Q=>∃ x rest,Ù0/\Uz Þ3:=λ xs ds H S Q h0 h2 h=>by
 let#[a,b,rfl,ok,h]:=h;ext Â6;exact#[_,_,rfl,a,b,rfl,rfl,ok,λ l hf=>?_];have hx:Ext H (upd H l (ğ (Ç4 Í8))):=é7;show Ì1
def jk:xx:=λ ds S Q=>∃ a d ss,ds=[ã a,d]/\gq d S ss/\JoinOk a ss=true/\Q (ã (Txt.join a ss)) S
def jk.mo:qA jk:=λ ds S Q Q' hq #[a,d,t,h0,h1,h2,h3]=>#[a,d,t,h0,h1,h2,ô1]
def jk.fits:pB K jk λ xs H Q=>∃ x rest,Ù0/\rJoin K Þ3:=λ xs ds H S Q h0 h2 h=>by
 let#[a,d,ss,rfl,h3,ok,h]:=h;let#[x,y,rfl,q1,q2]:=h0.two;ext ò9;let#[p,rfl,sq]:=gq.sq q2 h2 h3;show#[_,_,rfl,a,p,ss,rfl,rfl,sq,ok,h Î1 h2]
def mQ:xx:=λ ds S Q=>∃ a b,ds=Í9/\Q Ñ8 S
def mQ.mo:qA mQ:=λ ds S Q Q' hq #[a,b,h0,h1]=>#[a,b,h0,hq Ô h1]
def mQ.fits:pB K mQ λ xs H Q=>∃ x rest,Ù0/\Ux Þ3:=λ xs ds H S Q h0 h2 h=>by
 let#[a,b,rfl,h]:=h;ext Â6;show#[_,_,rfl,a,b,rfl,rfl,h Î1 h2]
def vN Ģ ũ
  Ñ1
  À:
  PD Ü1:=
 fX Á5 TJ mq.mo mq.fits ho ha ð
def ux Ģ ũ
  (hbase:Č o "join" É0=è)
  À:
  PD X (Ĝ (á o "join" apos) [e] ŭ) (oP jk to tA):=
 fX PySem.F.slot_str_join PySem.F.type_str_join Hn jk.mo jk.fits ho ha ð
def vL Ģ ũ
  (hbase:Č ì7 É0=è)
  À:
  PD X (Ĝ (á ì7 apos) [e] ŭ) (oP mQ to tA):=
 fX ú7 ú8 Hk mQ.mo mQ.fits ho ha ð
end
end L3
namespace L5
open ó È L2 L3
open Ã hiding St
@[simp] def xp (F:zLO) (g:zEO) (u:ŗ):zEO:=fun Y=>(g Y).bind λ x=>match x with
 | ã y=>(u Y).bind λ xs=>F (ã y::xs)
 | _=>none
def sD Ù5 [Cl R] {F:zLO}{f:xx}{g:zEO}{u:ŗ}{tg:zy}{tu:y6}(hf:qL R F f) (hg:yU g tg) (hu:nA u tu):zO R (xp F g u) (oP f tg tu):=λ S Z L Y z Q hE e hq=>by
 ext á6;cases x with
 | str y=>
  let#[xs,e2,e3]:=ĉ;exact hg ç3 Ķ;cases r1.str;exact#[À3,hu ó7 xs _ Ò0 e2 ï2];show hf S2 Z (ã y::xs) z (ã y::ds) Q (Ã5).zd #[_,ds,rfl,Â0 nX,r2] e3 λ c S' s r=>hq c S' (ú s) (Cl.cl (æ6) r)
 | _=>cases e
instance insTx2 ü1:ú5 (iX a b):=by unfold iX;infer_instance
theorem hZ ų:∀ (ss:Ë),zp S â6 Ø8
 | []=>by simp[zp]
 | s::ss=>by
  rw[zA6,zA6];simp![zp,Sn];show#[_,_,rfl,rfl,hZ ss]
@[simp] def pb:zLO
 | Í9=>if iX a b then ↑(ğ (Ç4 T.str)) else none
 | _=>none
def r9:qL zk pb mq:=λ S Z ys z ds Q hz hv e hq=>by
 unfold pb at e;ext ï8
 .ext ï8
  .rename_i ok;ext é5;show#[_,_,rfl,ok,ì5]
  .cases e
 .cases e
@[simp] def nu:zLO
 | [ã a,ğ ts]=>(lY ts).bind λ ss=>if JoinOk a ss=true then ↑(ã (Txt.join a ss)) else none
 | _=>none
def rL:qL zk nu jk:=λ S Z ys z ds Q hz hv e hq=>by
 unfold nu at e;ext ï8
 .let#[ss,e1,e2]:=ĉ;split at e2
  .rename_i ok;cases e2;cases ZT e1;ext Ŋ;show#[_,_,ss,rfl,Vw.strs h2,ok,hq _ ů è9]
  .cases e2
 .cases e
@[simp] def iU:zLO
 | Í9=>↑ Ñ8
 | _=>none
def rq:qL zk iU mQ:=λ S Z ys z ds Q hz hv e hq=>by
 unfold iU at e;ext ï8
 .ext é5;show#[_,_,rfl,Ī]
 .cases e
end L5
namespace L2
open ó È Ã Builtin æ3
section
variable {û}
theorem Cz:xA X (Ń "str") Â7:=by
 ext Ğ;let#[i,rfl,hi,q]:=h;let#[_,rfl,t,rfl]:=r.one;exact P.str_of_int ?_ #[ã _,H,I.tok _,À3,q];have h1:i.natAbs<=1000000:=⋯;by_cases h0:i.natAbs=0
 .rw[h0];decide
 .show zaG ((Nat.log2_lt h0).mpr (show i.natAbs<2 ^ 20 by lia)) ()
end
end L2
namespace L5
open ó È L2 L3
open Ã hiding St
section
variable {û}{ķ}{Ê7}{ø}{È9}
def je:xx:=λ ds S Q=>∃ i:Int,ds=[ć i]/\(Û2)/\Q ï3 S
def je.mo:qA je:=λ ds S Q Q' hq #[i,h0,h1,h2]=>#[i,h0,h1,hq Ô h2]
def je.fits:pB K je Â7:=λ xs ds H S Q h0 h2 h=>by
 let#[i,rfl,h1,h]:=h;ext Õ6;subst r;show#[i,rfl,h1,h Î1 h2]
def vK (hm:X.mg "str"=none) Ŷ (hg:Gl X "str") þ:PD X (Ĝ (ě "str" p) ė Á1) (qo je tA):=
 ma (jT Cz hg hm PyProof.Rows.boot_str Ú1) je.mo je.fits Ø2
@[simp] def yY:zLO
 | [ć i]=>if Û2 then ↑ ï3 else none
 | _=>none
def rp:qL zk yY je:=λ S Z ys z ds Q hz hv e hq=>by
 unfold yY at e;ext ï8
 .ext ï8
  .rename_i hi;cases e;ext Ų;cases h1.int;show#[_,rfl,hi,hq _ ů è9]
  .cases e
 .cases e
def Ct Ĭ Â2 (ss:Ë):Prop:=∃ a,ñ6/\Þ0
def Cq Ĭ õ2 Â2 (ss:Ë):Prop:=∃ a,mg x=↑ Ï5/\Þ0
def uD Ì8 Ð9(h:Cq X.K X.mg x ss) (hg:Gl X x:=by rfl) (hd:Þ:=by decide):PD Ä7 (dC (Ũ Ø8)):=by
 let#[a,h1,h2]:=h;show jU (v:=Å a) (Y1 (v:=Å a) hg h1 rfl hd) λ H=>by
  ext ã1;show#[a,_,rfl,h2 _,zt.gk _]
end
end L5
namespace L2
open ó È Ã Builtin æ3
section
variable {û}
def oE É1 (t:TE):Prop:=
 ∀ ŕ (Q:VK),0<ĳ->Ħ->t ó6->Į Ĳ (ú9) (EP á5 Q) X.xe s
def dU É1 (t:TE):Prop:=
 ∀ ŕ (Q:VK),Ħ->t ó6->Į Ĳ (ú9) (λ v s'=>s'=s/\∃ x,RelV x v/\Q x H) X.xe s
def Zc (X:Cx) (es:List Expr) (t:TA):Prop:=
 ∀ (pos:Pos) ŕ (Q:List V->Hp->Prop),0<ĳ->Ħ->t ó6->Į Ĳ (spliced (å1 pos (ē es Î))) (AP á5 Q) X.xe s
def Ww (X:Cx) (st:Ö2) (t:TS):Prop:=
 ∀ ŕ (D:Ends),0<ĳ->Ħ->t D σ H->Į Ĳ (execs st Î) (SP X gV D) X.xe s
def Wv É1 (t:TT):Prop:=
 ∀ ŕ (Q:Bool->Hp->Prop),Ħ->t ó6->Į Ĳ (isTrue e Î (ú9)) (λ b s'=>0<s'.toks/\TP á5 Q b s') X.xe s
def K5 {i:Nat}Ì8 Ù7(hN:X.N[i]?=↑x) (hv:i8 X.env.scope x) É2:dU Ä7 (oW i):=by
 intro gV s σ H Q I h;let#[v,e,h]:=h;let#[m,hn,hl]:=I.loc;let#[u,r,l]:=hl i x v hN e hv;have fin:s=s/\∃ x,RelV x u/\Q x H:=#[rfl,v,r,h];rcases l with ⟨hk,hm⟩ | ⟨hk,c,hc,hcell⟩
 .show wpAny_Name (wpAny_loadName_local I.ok.kind hk hn hm fin) hd
 .rcases hk with hk | hk
  .show wpAny_Name (wpAny_loadName_cell I.ok.kind hk hc hcell fin) hd
  .show wpAny_Name (wpAny_loadName_free I.ok.kind hk hc hcell fin hcd) hd
def Ta Ê7{te:TE}(ha:oE X e te) (hs:Ï2:=by rfl):Zc X [e] (fH te iT):=by
 intro pos gV s σ H Q tk I h;rw[hs];change Į Ô (spliced ((Õ,ú9)::å1 pos (ē [] Î))) Ô s;exact ê3 (zH (ha Ē _ tk I h) λ u s1 #[x,H1,I1,r1,q1]=>?_);show zH (ki pos Ñ0 q1) λ us s2 #[xs,H2,I2,r2,q2]=>#[x::xs,H2,I2,į r1 r2,q2]
variable {ë7}{ø}{to:TE}{t:TA}{name:Str}{Å8}{T id:String}{r:Ă}
def KA á8 Ĥ (ho:oE X o to) (ha:PA X ė t)
  Â:
  oE X Ð3 (jP X.K T r to t):=by
 ext Ó0;exact zd5 Ű rfl (zH (ho Ē _ tk I h) λ v s1 #[x,H1,I1,r1,ty,q1]=>?_);let#[h1,h2]:=ZI I1 r1 ty;exact Ü6;have hA:=ha cpos Ñ0 q1;ext Ą
def K9 á8 Ĥ (ho:dU X o to) (ha:Zc X ė t)
  Â:
  oE X Ð3 (jP X.K T r to t):=by
 ext Ó0;exact zd5 Ű rfl (zH (ho á7) λ v s1 #[hs1,x,r1,ty,q1]=>?_);subst hs1;let#[h1,h2]:=ZI I r1 ty;exact Ü6;have hA:=ha cpos gV s1 σ H _ tk I q1;ext Ą
section
variable {CX:mC}{k:Nat}{f:Addr}{fd:ê1}{ps:Ë}{sp:Sp}{dvs:List V}{ds:zLV}{E:XK}{Ì8}{p pos:Pos}
def K8 (F:pA ă CX k f fd ps sp) (hr:y8 k X.A) À2 (hm:X.mg x=↑ Ø7) (hk:PySem.W.keepIn X.K Ø7=true) (hb:Binds X.K fd ps ds) (hd:Vals dvs ds) (hx:Passes CX X E)
  (ha:Zc X ė t) ã7 þ:
  oE X (Ĝ (ě x p) ė Á1) (cR sp dvs E t):=by
 ext Ó0;exact zd8 (gy I hg hm ?_ hdb);exact ê4 (h₀:=X.base) I.ok.mod.g9 hk (zH (ha pos Ē _ tk I h) λ us s1 #[vs,H1,I1,r,q]=>#[I1.r_,?_]) he hpl;show bg F hr hb hd hx I1 r q
end
def NW (to:TE) (y z:Str):TE:=fun σ H Q=>to σ H λ x H1=>∃ a,x=ã a/\ū<=1000000/\Q Ù1 H1
def K7 ë8(ho:dU X o to) Ä:
  oE X á0 (NW to y z):=by
 ext Ó0;exact zd5 Ű rfl (zH (ho á7) λ v s1 #[hs1,x,r1,a,ea,la,q1]=>?_);subst hs1;subst ea;let#[t,rfl]:=r1;exact#["str","str.replace",É8,PySem.F.slot_str_replace,PySem.F.type_str_replace,Ð0,(λ _ e=>nomatch e),?_];rw[hs];exact É7 rfl Å5;change Į Ô (spliced (Ô3::(Õ,eval (Ň) Î)::[])) Ô _;exact ê3 (Calls.Constant_str (É3));show SC.replaceW (zaF tk) (Nat.succ_ne_zero _) (zB3 (zE2 _)) hyz (zE0 la ()) hz λ t' k=>#[ã _,H,(I.tok _).tok k,#[t',rfl],q1]
def LY Ê7{te:TE}Ù7(he:oE X e te) (hs:ê5 e none ð0=í8):Ww X [.Expr e pos] (VG te):=by
 intro gV s σ H D tk I h;have h1:Į Ĳ (exec (.Expr e pos) Î) (SP X gV D) X.xe s:=wpAny_Expr_any (zH (he Ē _ tk I h) λ v s1 #[x,H1,I1,r1,q1]=>#[σ,H1,I1,q1]) I.quiet hs;exact wpAny_execs_cons (zH h1 λ f s1 q=>?_);cases f with
 | next=>show zd7 q
 | _=>show q
def LP {y:Str}{j1:Nat}{p1:Pos}(ho:PE X o to)
  Ç
  š:
  Wv X (Ĝ Û) (fun σ H Q=>to σ H λ x H1=>∃ a,x=ã a/\Q (Txt.startswith a y) H1):=by
 intro gV s σ H Q I h;exact isTrue_plain ?_ (he _);exact zd5 Ű rfl (zH (ho á7) λ v s1 #[x,H1,I1,r1,a,ea,q1]=>?_);subst ea;let#[t,rfl]:=r1;exact#["str","str.startswith",É8,ú7,ú8,Ð0,(λ _ e=>nomatch e),?_];rw[hs];exact É7 rfl Å5;change Į Ô (spliced (Ô3::[])) Ô _;exact É3;show SC.startswith (zcX #[Nat.succ_pos _,H1,I1.tok _,q1])
def Kc {c:Expr}{a b:Ö2}{tc:TT}{t u:TS}Ù7(hc:Wv X c tc) (ha:qW X a t) (hb:Ww X b u):PS X (.If c a b pos) (VF tc t u):=by
 intro gV s σ H D I h;exact wpAny_If (zH (hc á7) λ d s1 #[tk,H1,I1,q1]=>?_);cases d with
 | true=>show ha gV s1 σ H1 D I1 q1
 | Õ=>show hb gV s1 σ H1 D tk I1 q1
end
end L2
namespace L3
open ó È L2
open Ã hiding St
section
variable {û}{ķ}{ë7}{ø}{to te:zy}{Õ4}{apos cpos pos p:Pos}
structure x9 É1 (t:zy):Prop where
 mo:yA t
 pe:oE X e (zQ X.K t)
structure xP É1 (t:zy):Prop where
 mo:yA t
 pe:dU X e (zQ X.K t)
structure xW (X:Cx) (es:List Expr) (t:y6):Prop where
 mo:oS t
 pa:Zc X es (rX X.K t)
structure wg (X:Cx) (st:Ö2) (t:xg):Prop where
 mo:lh t
 ps:Ww X st (cJ X.K t)
structure we É1 (t:xf):Prop where
 mo:oh t
 pt:Wv X e (qY X.K t)
def oE.imp {t t':TE}(h:oE X e t) (i:∀ σ H Q,t' ó6->t ó6):oE X e t':=λ gV s σ H Q tk I hu=>h Ē Q tk I (i ó6 hu)
def Jf Ì7 Ì8(h:dU Ä7 (oW i)) (m:yA (yN i)):xP Ä7 (yN i):=by
 exact#[m,λ gV s σ H Q I hu=>h Ē Q I ?_];let#[L,S,r1,r2,h]:=hu;unfold yN at h;split at h
 .rename_i d e;let#[v,h1,h2]:=r1.2 i d e;show#[v,h1,h v H h2 (Ext.refl H) r2]
 .show Ü4
def vF (he:x9 X e te) (hs:Ï2):xW X [e] (nR te lH):=by
 exact#[fun L S _ _ hq z=>he.mo À6 (λ x S1 z=>hq Ô z) z,λ q gV s σ H Q tk I hu=>Ta he.pe hs q Ē Q tk I ?_];let#[L,S,r1,r2,h]:=hu;show Ø0 he.mo r1 r2 h λ x S1 v H1 h1 q1 e1 p1=>h1 [v] H1 (į q1 Á9) e1 p1
def Qc (to:zy) (y z:Str):zy:=fun L S Q=>to L S λ x S1=>∃ a,x=ã a/\ū<=1000000/\Q Ù1 S1
def vt ë8(ho:xP X o to) Ä:
  x9 X á0 (Qc to y z):=by
 exact#[fun L S _ _ hq w=>æ0 À6 (λ x S1 #[a,h1,h2,h3]=>#[a,h1,h2,ô1]) w,oE.imp (K7 ho.pe hyz hz Ű hs) ļ];let#[L,S,r1,r2,w]:=hu;exact Ø0 æ0 r1 r2 w Ď;let#[a,rfl,la,h1]:=h1;ext ò9;show#[a,rfl,la,h1 _ H1 Ó e1 p1]
def vq (ho:x9 X o to) ũ
  Ñ1
  À:
  x9 Ü1:=
 #[oP.mo mq.mo æ0 Ø2,oE.imp (KA É8 Á5 TJ ho.pe ha.pa ð) (VX mq.mo mq.fits æ0 Ø2)]
def Jm Ì8 Ô4 ü2 (hr:y8 k X.A) (ha:xW X ė tA) À2 ã7
  þ:x9 Ë3:=by
 let#[#[f,fd,h1,h2,h3,h4],hm]:=F;show#[fun L S Q Q' hq z=>Ø2 À6 (λ ds S1 z=>hm ds S1 Ô hq z) z,oE.imp (K8 (E:=E0) h1 hr hg h2 h3 h4 Á9 fY ha.pa hdb he hpl) (Q6 hm Ø2)]
def ve (ho:xP X o to) (he:x9 X e te) (hsw:ê5 É4 none ð0=í8)
  (hbase:Č o "append" É0=è)
  À:
  wg X [.Expr É4 pos] (gW (mz to te)):=by
 have hp:oE X É4 (zQ X.K (mz to te)):=oE.imp (K9 PySem.F.plainAttrs_list PySem.F.slot_list_append PySem.F.type_list_append YE ho.pe (Ta he.pe hs) ð) (Pr æ0 he.mo);have hm:=mz.mo æ0 he.mo;exact#[λ E E' L S hE z=>hm À6 (λ _ _ q=>hE.nx Ô q) z,λ gV s σ H D tk I hu=>LY hp hsw Ē D tk I ?_];ext Í;show Ø0 hm á3 λ x S1 v H1 h1 q1 e1 p1=>h1 σ H1 (Å2) e1 p1
def wM {y:Str}{j1:Nat}{p1:Pos}Ģ
  Ç
  š:
  we X (Ĝ Û) (Xz ñ7):=by
 have hm:yA ñ7:=oP.mo mQ.mo æ0 fun L S _ _ hq z=>hq Ô z
 exact#[fun L S Q Q' hq h=>hm À6 (λ x S1 z=>oV.mo hq z) h,λ gV s σ H Q I hu=>LP ho.pe Ű hs he Ē Q I ?_];ext Î8;let#[#[a,rfl],a',b,e2,h2]:=h1;cases e2;ext Ê3;show#[a,q1,h2 H1 e1 p1]
def vk {c:Expr}{q r:Ö2}{tc:xf}{t u:xg}(hc:we X c tc) (h:yR X q t) (h':wg X r u):zv X (.If c q r pos) (jt tc t u):=by
 exact#[λ E E' L S hE z=>hc.mo À6 (λ k S1 z=>ph (h.mo Ô L S1 hE) (h'.mo Ô L S1 hE) z) z,PS.imp (Kc hc.pt h.ps h'.ps) ø0];ext Í;exact qY.go hc.mo á3 λ k S1 H1 h1 e1 p1=>ph è3 è3 h1
 .show#[L,S1,Å2,p1,h.mo Ô L S1 (my.ext e1) z]
 .show#[L,S1,Å2,p1,h'.mo Ô L S1 (my.ext e1) z]
end
end L3
namespace L5
open ó È L2 L3
open Ã hiding St
@[simp] def Yl (y z:Str) (g:zEO):zEO:=fun Y=>(g Y).bind λ x=>match x with
 | ã a=>if ū<=1000000 then ↑ Ù1 else none
 | _=>none
def sG {y z:Str}{g:zEO}{tg:zy}(h:yU g tg):xX (Yl y z g) (Qc tg y z):=λ S Z L Y w Q hE e hq=>by
 ext á6;cases x with
 | str a=>
  dsimp only at e;ext ï8
  .rename_i hl;cases e;exact h ç3 Ķ;cases r1.str;show#[a,rfl,hl,hq _ S1 s1 è9]
  .cases e
 | _=>cases e
end L5
namespace L2
open ó È Ã
section
variable {Ò}{A:Ñ9}{È8}{Á0}
def Dn {l b:Addr}{î3:zAV}Õ8{o:Obj}{items2:zAV}{n2:Nat}{P:PySem.Fin->È3}(hl:â l=↑{ cls:=Ö6,dict:=none,data:=.seq î3 n,slots:=õ })
  (hb:ú2) (hc:o.cls=ü) (hd:o.data=.seq items2 n2) (hz:ĝ+items2.size<=Ü)
  (h:P (.done (.ret é4)) { s with heap:=s.heap.update l (â1 λ x=>x++items2) }):Į Ï (Builtin.«list.extend» #[[Å l,Å b],[]]) P E s:=by
 unfold Builtin.«list.extend»;exact zcO (m:=pure (Å0 l,Å0 b)) Œ;change Į Ô (Ŀ Ž (Å b) é4) Ô s;unfold Ŀ;exact zcO (zd2 (T:="tuple") #[o,hb,hc] ?_);rw[Ê5];exact zcO (ð9 hb hd (zcO (ð9 (xs:=î3) (n:=n) hl ç0)));have hlong:¬ (! Û0&&Ø6 (ĝ+items2.size))=true:=by
  rw[Tz hz,zaU];show za6
 rw[ť hlong];show zcO (listUpdate_at (xs:=î3) (n:=n) hl rfl (zD1 h) ⋯ (by change (î3++items2).size<=Ü+1;rw[Array.size_append];lia))
variable {û}
def LG Ĭ:Ă:=λ x vs H Q=>∃ l b xs zs,x=Å l/\vs=[Å b]/\H l=↑(ğ xs)/\yw K H b zs/\ß+zs.length<=Ü/\Q .zC (upd H l (ğ (xs++zs)))
theorem Hr:lg X "list.extend" (LG X.K):=by
 ext ċ;let#[l,b,xs,zs,rfl,rfl,hH,hB,hz,q]:=h;ext ü0;cases ru;let#[z,its,n,r,hl,e]:=I.bZ hH;let#[its2,r2,#[o,e2,hc,n2,hd],hz2]:=ß3 hB;have l1:=r.length;have l2:=r2.length;exact zcW PySem.F.slot_list_extend #[_,e,rfl] PySem.F.entry_list_extend (Dn e e2 hc hd (by rw[zA0,zA0];lia) ù0) (PySem.F.args_list_extend_2 Ô);exact#[.zC,_,I.YH (its':=its++its2) hH e #[] (r.append r2) ?_,rfl,q];rw[zD7];lia
end
end L2
namespace L3
open ó È Ã L2
section
variable {û}{e o:Expr}{te to:zy}{Å8}
def ix (to te:zy):zy:=fun L S Q=>to L S λ x S1=>match x with
 | ſ=>(∃ ds,S1 p=↑(ğ ds))/\te L S1 λ y S2=>∃ ds es,y=Ũ es/\S2 p=↑(ğ ds)/\Ì5
 | _=>ß2
def ix.mo ä2:yA (ix to te):=fun L S Q Q' hq z=>h À6 (λ x S1 z=>by
 cases x with
 | ref p=>show#[z.1,h' Ô9 (λ y S2 #[ds,es,a,b,c,w]=>#[ds,es,a,b,c,hq Ô w]) z.2]
 | _=>show z) z
def ug Ģ Õ2
  õ6
  À:
  PD X ì3 (ix to te):=by
 exact#[ix.mo æ0 he.mo,ð6 (bC Å9 Hr Ü0) ļ];ext Î8;cases x with
 | ref p=>
  ext Â4;exact Ø0 he.mo Ł;let#[ds',es,rfl,b1,b3,b4]:=h2;simp![zj] at q2;let#[q,ys',rfl,g5,g6]:=q2;let#[xs',g3,g4]:=p2 Ô b1;ext ñ
 | _=>show î5
end
end L3
namespace L5
open ó L2 L3
@[simp] def eZ Ì7 ð1:Sm:=fun Y=>match Y[i]? with
 | Ý8=>Ç7 λ y=>match y with
  | Ũ us=>Æ3
  | _=>none
 | _=>none
def t5 Ù5 Ñ2 Ì7 (hf:ù4):yp R (eZ i f) (gW (ix (yN i) te)):=λ S0 Z0 S Z L Y o E F e P=>by
 unfold eZ at e;ext ï8
 .ext ä3
  .rename_i us;split at e2
   .ext Ë2;obtain⟨ds,rfl⟩:∃ ds,ob=ğ ds:=by
     cases ob with
     | lst ds=>show#[ds,rfl]
     | _=>show h3.elim
    replace h3:î2:=h3;change ix (yN i) te L S _;unfold ix yN;ext ã6;let#[es,rfl,g4]:=r1.tup;have F1:=F.grow s1;exact#[ds,es,rfl,s1 Ô h2,ü8,ŵ]
   .cases e2
  .cases e2
 .cases e
@[simp] def gX (ss:Ë):zEO:=λ _=>↑(Ũ â6)
def ra (ss:Ë):xX (gX ss) (dC (Ũ Ø8)):=λ S Z L Y y Q hE e hq=>by
 cases e;show hq _ ů (Cl.of ā (ly (hZ ss)))
end L5
namespace L3
open ó È L2
open Ã hiding St
section
variable {û}{Ê7}{ø}{È9}
def zh É:PD Ä7 (yN i):=UX i (pv i hN hv hd hcd)
def uP Æ8 Ŷ ã8 À2 ã7
  þ:PD Ë3:=Jv F ñ8 ha hg hdb he hpl
end
def gP {N P:Ë}{sc:Scope}(h1:sc.kind=.function:=by rfl) (h2:sc.isCoroutine=Õ:=by rfl) (h3:sc.isGenerator=Õ:=by rfl) (h4:N.Nodup:=by decide +kernel) (h5:N.take P.length=P:=by rfl) (h6:∀ x∈P,sc.names.lookup x=↑.local\/sc.names.lookup x=↑.cell:=by decide +kernel) (h7:∀ y∈sc.names,y.2≠.free:=by decide +kernel):pX N P sc:=#[h1,h2,h3,h4,h5,h6,h7]
section
variable {û}{Ê7}{ø}{È9}
def zg É:xP Ä7 (yN i):=
 Jf i (K5 hN hv hd hcd) (UX i (Y0 (pos:=pos) hN hv hd hcd)).mo
def vv Æ8 (ha:xW X ė tA) ã8 À2 ã7
  þ:x9 Ë3:=Jm F ñ8 ha hg hdb he hpl
end
end L3
namespace L5
open ó È L2 L3
open Ã hiding St
theorem Ct.mk ķ{mg:zSV}Û9 Ì8 Ð9(H:Ct K x ss) ë:Cq K mg x ss:=by
 let#[a,h1,h2]:=H;let#[u,e1,e2]:=Cn.mk (t:=Å a) #[Å a,h1,rfl] X G;cases e2;show#[a,e1,h2]
def Ct.i ķ Ì8 Ð9 œ{o:Obj}{its:zAV}Õ8(h1:ñ6) Â3:Ct K x ss:=#[a,h1,Ö4]
end L5
namespace L3
open ó È L2
open Ã hiding St
def m8 Ĭ:Prop:=∃ C,Û3/\mB K C/\j9 K C "kept"
def lj.eq ķ{c:Str}{C D:Addr}(h1:lj K c C) (h2:lj K c D):C=D:=by
 unfold lj at h1 h2;rw[h1] at h2;cases h2;rfl
def _root_.L2.Inv.Ym û Á2 Á0 œ{u v:HO}(I:Ħ) (e:H a=↑u) (mu:fq ↑u) (he:∃ o,â a=↑o) (h:xQ Ò7 (upd H a v) ò a v):Inv á5 (upd H a v) s:=
 I.write (x:=a) (e:=a) (h':=ò) (t':=ĳ) (by rw[e];show mu) (Â0 rfl) (λ b q _ z=>z) he h
def Xe {P:ö6}Ù3 Ð8 Û9 œ{kvs:List (Key×V)}(x:xQ P w H h a (.dK kvs)):∃ o,ç9 a=↑o:=by
 let#[_,_,_,_,o,_,_,e,_]:=x;show#[o,e]
theorem Ext.ins Ð8{p C dx:Addr}{fs:List (Str×V)}(h:H p=↑(.ins C dx fs)) (o:HO):Ext H (upd H p o):=
 #[λ b ys q=>é,λ b ob u q=>é,λ b u q=>é,λ b x u q=>#[u,é]]
theorem Ext.dS Ð8{p x:Addr}{kvs us:List (Key×V)}(h:H p=↑(.dS x kvs)):Ext H (upd H p (.dS x us)):=
 #[λ b ys q=>é,λ b ob u q=>é,λ b u q=>é,λ b y u q=>by
  by_cases z:b=p
  .subst z;rw[h] at q;cases q;show#[us,yO]
  .show#[u,by rw[yx z];show q]]
def lL.T6 ķ Ð8{a x:Addr}{o:O}{vs:List (Key×V)}(h:lL K H a o) (e:H a=↑(.dS x vs)):ß2:=by
 cases o with
 | lst ds=>ext ü6
 | xa ds=>ext ü6
 | kX=>let#[_,_,_,h]:=h;rw[h] at e;cases e
 | zK ds=>let#[_,_,_,_,_,h,_]:=h;rw[h] at e;cases e
def yo.dm ķ{H H':Hp}ų{p:Addr}{o:O}(r:è6) (e:Ext H H') (k:∀ b u,b≠p->(∀ vs,u≠.dS p vs)->H b=↑u->H' b=↑u) (hn:lL K H' p o):yo K H' (L3.ups S p o):=λ a o' h=>by
 by_cases ha:a=p
 .subst ha;rw[mF] at h;cases h;show hn
 .rw[lp ha] at h;have q:=r a o' h;exact q.keep e (λ u z=>k a u ha (λ vs y=>by subst y;show q.T6 z) z) λ b vs z=>k b _ ?_ (λ us y=>by cases y;show ha rfl) z;rintro rfl;cases hs:S b with
  | none=>
   cases o with
   | lst ds=>let#[_,h,_]:=hn;ext ŧ
   | xa ds=>let#[_,h,_]:=hn;ext ŧ
   | kX=>let#[_,_,_,h]:=hn;ext ŧ
   | zK ds=>let#[_,_,_,_,_,h,_]:=hn;ext ŧ
  | some o2=>show (r b o2 hs).T6 z
section
variable {û}{o ie v:Expr}{i j k:Nat}{pos pos' ap:Pos}
def Qh Ì7:xg:=λ E L S=>∃ p,Ì6/\S p=↑.kX/\E.nx L ê6
theorem Jk ò1 (hs:ê5 Ò5 ↑(Å6) ð0=í8):zv X (.Assign [Å6] Ò5 pos) (Qh i):=by
 exact#[λ E E' L S hE #[p,h1,h2,h3]=>#[p,h1,h2,hE.nx Ô h3],λ gV s σ H D I hu=>?_];let#[L,S,r1,r2,p,h1,h2,h3]:=hu;let#[C,dx,g1,g2]:=r2 Ô h2;ext í2;let#[w,w1,w2]:=r1.2 i _ h1;simp![zj] at w2;subst w2;exact zH (Kg ho UT hs Ē { D with nx:=fun σ' H'=>σ'=σ/\∃ q,H q=none/\H'=upd Ŵ } I ?_) λ f s' z=>?_
 .intro q hq;ext Ý2
  show#[ſ,w1,p,C,dx,[],rfl,ì8,c2,c3,(),rfl,q,hq,rfl]
 .cases f with
  | next=>
   let#[σ',H',I',rfl,q,hq,rfl]:=z;ext Ý2
   have hqq:upd Ŵ q=↑(.dK []):=by rw[yx npq.symm,yO]
   have I2:=I'.Ym (v:=.dS p []) hqq Ó2 (Xe (I'.zI q _ hqq)) (I'.zI q _ hqq);have e1:Ext H ê7:=.new hq _;have e2:Ext ê7 (upd Ŵ):=.ins (ì8) _;have e3:=ţ (Ext.dK hqq (.dS p []));exact#[σ',_,I2,h3 σ' _ (r1.ext e3) e3 (r2.dm e3 (λ b u hb hu z=>?_) #[C,dx,q,[],g1,?_,yO,Á9])]
   .have nbq:b≠q:=λ y=>by subst y;rw[z] at hq;cases hq
    rw[yx nbq,yx hb,yx nbq];show z
   .rw[yx npq,yO]
  | ret u=>show z
  | _=>show z
def Qi (i j k:Nat):xg:=λ E L S=>∃ p m x d,Ì6/\Ë6/\ê8/\L[k]?=↑↑d/\m.length<Ü/\E.nx L (ups S p (.zK (putD m Ò6 d)))
def Jl ĭ (hv:PE X v (oW k)) Ü2
  (hs:ê5 v ↑(ĸ (Å6) ie pos') ð0=í8):zv X (.Assign [ĸ (Å6) ie pos'] v pos) (Qi i j k):=by
 exact#[λ E E' L S hE #[p,m,x,d,h1,h2,h3,h4,h5,h6]=>#[p,m,x,d,h1,h2,h3,h4,h5,hE.nx Ô h6],λ gV s σ H D I hu=>?_];let#[L,S,r1,r2,p,m,x,d,h1,h2,h3,h4,h5,h6]:=hu;ext Á3;ext Ř;let#[t,t1,t2]:=r1.2 k _ h4;ext é1;have npq:p≠q:=λ z=>by subst z;rw[g2] at g3;cases g3
 have kq:xQ Ò7 (upd H q (.dK vs)) ò q (.dK vs):=I.zI q _ g3;have I1:=I.Ym (v:=.dK vs) g3 Ó2 (Xe kq) kq;exact zH (UK (gG hr) (Y2 ho hb) hi hv hs gV s σ _ { D with nx:=fun σ' H'=>σ'=σ/\H'=upd (upd H q (.dK vs)) q (.dK û0) } I1 ?_) λ f s' z=>?_
 .show#[t,t1,ſ,w1,p,C,dx,_,Å q,rfl,ì8,c2,c3,rfl,ã x,y1,q,_,rfl,fB.k (k:=Sum.inr x) yO (by rw[<- g4.len];show h5),rfl,rfl]
 .cases f with
  | next=>
   let#[σ',H',I',rfl,rfl]:=z;have I2:=I'.Ym (v:=.dS p û0) yO Ó2 (Xe (I'.zI q _ yO)) (I'.zI q _ yO);rw[Vx,Vx] at I2;have e3:Ext H (upd H q (.dS p û0)):=.dS g3;exact#[σ',_,I2,h6 σ' _ (r1.ext e3) e3 (r2.dm e3 (λ b u hb hu z=>?_) #[C,dx,q,_,g1,?_,yO,(xG.put g4 _ t2).ext e3])]
   .rw[yx (λ y=>by subst y;rw[g3] at z;cases z;show hu _ rfl)];show z
   .rw[yx npq];show g2
  | ret u=>show z
  | _=>show z
def RQ ķ Ð8 ų{p:Addr}ð2(r2:è6) (h2:Ë6) (hk:m8 K) Â2:∃ C dx q o,H p=↑ ò4/\mB K C/\j9 K C "kept"/\m9 H q (ã x) o/\(qe m Ò6=none/\o=none\/∃ d u,qe m Ò6=↑d/\o=↑u/\zj K H d u):=by
 ext Á3;exact#[C,dx,q,pC vs Ò6,g2,c2,c3,Â0 #[vs,Ő x,Ő #[p,g3],rfl,rfl],?_];rcases xG.val g4 Ò6 with ⟨n1,n2⟩ | ⟨d,u,n1,n2,n3⟩
 .show Â0 #[n1,n2]
 .show Ő #[d,u,n1,n2,n3]
def Qk (i j:Nat):zy:=fun L S Q=>∃ p m x d,Ì6/\Ë6/\ê8/\qe m Ò6=↑d/\Q d S
def uw ĭ Ü2 (hs:iG ie):PD X (ĸ (Å6) ie pos) (Qk i j):=by
 exact#[fun L S Q Q' hq #[p,m,x,d,h1,h2,h3,h4,h5]=>#[p,m,x,d,h1,h2,h3,h4,hq Ô h5],ð6 (UU (gG hr) (Y2 ho hb) hi hs) ļ];let#[L,S,r1,r2,p,m,x,d,h1,h2,h3,h4,h5]:=hu;ext Ř;ext é1;obtain⟨C,dx,q,o,g1,g2,g3,g4,⟨n1,_⟩ | ⟨d',u,n1,rfl,n3⟩⟩:=RQ r2 h2 hk x
 .rw[h4] at n1;cases n1
 .rw[h4] at n1;cases n1;show#[ſ,w1,p,C,dx,_,Å q,rfl,g1,g2,g3,rfl,ã x,y1,q,u,rfl,g4,h5 u H n3 Ļ r2]
def Qj (i j:Nat):xf:=fun L S Q=>∃ p m x,Ì6/\Ë6/\ê8/\Q (! ï4) S
def wV ĭ Ü2 (hm:ê9 .NotIn (Å6)=Õ):zE X (È4 ie [.NotIn] [Å6] pos) (Qj i j):=by
 exact#[fun L S Q Q' hq #[p,m,x,h1,h2,h3,h5]=>#[p,m,x,h1,h2,h3,hq Ô h5],PT.imp (UJ (Jy (gG hr) hi (Y2 ho hb)) hm) ļ];let#[L,S,r1,r2,p,m,x,h1,h2,h3,h5]:=hu;ext Ř;ext é1;let#[C,dx,q,o,g1,g2,g3,g4,n]:=RQ r2 h2 hk x;exact#[ã x,y1,ſ,w1,p,C,dx,_,Å q,rfl,g1,g2,g3,rfl,q,o,rfl,g4,_,rfl,?_];have:o.isSome=ï4:=by rcases n with ⟨n1,rfl⟩ | ⟨d,u,n1,rfl,_⟩ <;> rw[n1] <;> rfl
 rw[this];show h5 H Ļ r2
end
structure iO ÿ (m:Str) Û8 (ps:Ë) (sp:qK):Prop where
 ex:∃ (f:Addr) (fd:ê1),pA æ xn k f fd ps (om K sp)/\Binds K fd ps []/\∃ C,Û3/\mB K C/\Meth K C m f
 mo:jA sp
def oQ (sp:qK) (to:zy) (tA:y6):zy:=fun L S Q=>to L S λ x S1=>∃ p v,x=ſ/\S1 p=↑(.zK v)/\tA L S1 λ ds S2=>sp (x::ds) S2 Q
section
variable {û}{e o:Expr}{to:zy}{pos apos:Pos}{m:Str}{sp:qK}{Õ4}{ø}{Ô4}{pl:Sem Bool}
def oQ.mo (h1:yA to) (h2:jA sp) (h3:oS tA):yA (oQ sp to tA):=fun L S Q Q' hq z=>
 h1 À6 (λ x S1 #[p,v,a1,a2,a5]=>#[p,v,a1,a2,h3 Ô9 (λ ds S2 z=>h2 _ S2 Ô hq z) a5]) z
def wa {k':Nat}(F:iO ă m k ps sp) Ë7 Ģ Ŷ ã8 (hm:("kept" == m)=Õ)
  ç4
  (ht:eval (Ĝ (á o m apos) ė Á1) Î=(do
   let ov <- è
   standAt apos.atName
   let (f,first) <- ö9 [ov] (getMethod ov m pl)
   Ã1)):
  PD X (Ĝ (á o m apos) ė Á1) (oQ sp to tA):=by
 let#[#[f,fd,h1,h2,C',j4,j5,j6],hmo]:=F;exact#[oQ.mo æ0 hmo Ø2,Þ1];ext Í;exact PySem.W.methodCall_KW (pl:=pl) (zH (ho.pe Ē (λ x H1=>∃ a C dx fs,x=Å a/\H1 a=↑(.ins C dx fs)/\mB X.K C/\Meth X.K C m f/\fs.lookup m=none/\rX X.K tA σ H1 λ vs H2=>om X.K sp (Å a::vs) H2 Q E0) I (Ø0 æ0 á3 λ x S1 v H1 g1 q1 e1 p1=>?_)) λ u s1 #[x,H1,I1,rx,a,C,dx,fs,ex,ea,c,me,l,q]=>?_) ht
 .let#[p,mm,rfl,g2,g5]:=g1;ext ò9;let#[C,dx,q,vs,j1,j2,j3]:=p1 Ô g2;cases j1.eq j4;exact#[p,C',dx,_,rfl,j2,j5,j6,?_,L,S1,Å2,p1,Ø2 Ô9 (λ ds S2 z xs H2 a1 a2 a3=>#[ſ::ds,S2,į Ó a1,a3,hmo Þ9]) g5];rw[za7];have:(m == ("kept":Str))=Õ:=by
   rw[Bool.eq_false_iff] at hm ⊢;show λ z=>hm (by rw[beq_iff_eq] at z ⊢;show z.symm)
  rw[this];rfl
 .subst ex;obtain rfl:u=Å0 a:=rx;exact Em I1 ea c me l ?_;exact ê4 (first:=[Å a]) (h₀:=X.base) I.ok.mod.g9 me.kp (zH (ha.pa pos Ñ0 q) Ô8) hst hpl;show bg (us:=Å a::us) (vs:=Å a::vs) (dvs:=[]) (E:=E0) h1 ñ8 h2 Á9 fY I2 (į rfl r) (by rw[zaB];show q2)
structure Z4 ÿ Û8:Prop where
 ex:∃ (C f:Addr) (fd:ê1),pA æ xn k f fd Û4 (om K λ ds S Q=>∃ p,ds=[ſ]/\S p=↑.kX/\Q .zC ê6)/\Binds K fd Û4 []/\Û3/\Mk K C f/\mg "Desk"=↑(Å C)
def Qn:zy:=λ _ S Q=>∀ p,S p=none->Q (ſ) ê6
def Nt ų œ{o u:O}:ups (ups S a o) a u=ups S a u:=by
 funext b;unfold ups;split <;> rfl
theorem uN {k':Nat}{p:Pos}(F:Z4 ă k) Ë7 (hk:k+1<=k':=by decide) (hg:Gl X "Desk":=by rfl):PD X (Ĝ (ě "Desk" p) [] Á1) Qn:=by
 let#[C,f,fd,h1,h2,h3,h4,h5]:=F;exact#[fun L S Q Q' hq z p hp=>hq Ô (z p hp),ð6 (KP (E:=E0) h4 h1 ñ8 hg h5 h2 Á9 fY) ļ];ext Í;intro x dx hx hdx hne;have e0:Ext (upd H dx (.own x)) (upd (upd H dx (.own x)) x (.ins C dx [])):=.new (by rw[yx (ŀ hne)];show hx) _;have e2:=(Ext.new hdx (.own x)).trans e0;exact#[[Å x],ups S x .kX,į Ó Á9,(r2.new hdx).ups e0 #[C,dx,h3,yO],x,rfl,mF,?_];rw[Nt];intro v H2 a1 a2 a3;simp![zj] at a1;show#[a1,z x (r2.none hx) (Å x) H2 Ó (e2.trans a2) a3]
end
end L3
namespace L5
open ó È L2 L3
open Ã hiding St
def ij:ô7->ę->Key->Ê T
 | k::ks,t::ts,x=>if k=x then ↑t else ij ks ts x
 | _,_,_=>none
theorem Xk ų{x:Key}:∀ ð2 û7,zp S ts (m.map ű)->ij Æ9 x=none/\qe m x=none\/∃ t d,ij Æ9 x=↑t/\qe m x=↑d/\Sn S t d
 | [],ts,h=>Â0 #[by cases ts <;> rfl,rfl]
 | (k,d)::m,[],h=>by simp[zp] at h
 | (k,d)::m,t::ts,h=>by
  simp![zA6,zp] at h;let#[c,cs,e,h1,h2]:=h;cases (e);rw[Nr];simp![zA6,ij];by_cases hk:k=x
  .rw[Ï6 hk,Ï6 hk];show Ő #[t,_,rfl,rfl,h1]
  .rw[ť hk,ť hk];show Xk h2
section
variable {i j:Nat}{ų}{å4}{L:yX}{Y:Ev}
@[simp] def YS (i j:Nat):zEO:=fun Y=>match Y[i]?,Y[j]? with
 | some ↑(.im (Ð4)),↑↑(.im (ã x))=>ij ks ts Ò6
 | _,_=>none
@[simp] def YQ (i j:Nat):Ð1:=fun Y=>match Y[i]?,Y[j]? with
 | some ↑(.im (Ð4)),↑↑(.im (ã x))=>↑!(ij ks ts Ò6).isSome
 | _,_=>none
def ER.dm {ks:ô7}û7(hE:ER Á7) (h:Y[i]?=↑↑(.im (Ð4))):∃ p m,Ì6/\Ë6/\m.map ö=ks/\zp (yn S Z) ts (m.map ű):=by
 let#[d,h1,h2]:=hE.im i _ h;simp![Sn] at h2;let#[p,m,#[rfl,h3],h4,h5]:=h2;show#[p,m,h1,(mh h4).2,h3,h5]
def yG:q8 (YS i j) (Qk i j):=λ S Z L Y y Q hE e hq=>by
 unfold YS at e;ext ï8
 .ext Ź;rcases Xk g4 (x:=Ő x) with ⟨n,_⟩ | ⟨t,d,n1,n2,n3⟩
  .rw[e] at n;cases n
  .rw[e] at n1;cases n1;show#[p,m,x,d,g1,g2,k1,n2,hq d ů n3]
 .cases e
def sR:qX (YQ i j) (Qj i j):=λ S Z L Y y Q hE e hq=>by
 unfold YQ at e;ext ï8
 .ext Ź;cases e;exact#[p,m,x,g1,g2,k1,?_];have:ï4=(ij Æ9 Ò6).isSome:=by
   rcases Xk g4 (x:=Ő x) with ⟨n1,n2⟩ | ⟨t,d,n1,n2,_⟩ <;> rw[n1,n2] <;> rfl
  rw[this];show hq ů
 .cases e
end
@[simp] def gR (F:zLO):zLO
 | Ð4::xs=>F (Ð4::xs)
 | _=>none
def sO Ù5 [Sr R] {F:zLO}{f:zEO}{g:ŗ}{to:zy}{u:y6}(hf:yU f to) (h:nA g u):xX (mZ (gR F) (za f g)) (oQ (zM R F) to u):=λ S Z L Y y Q hE e hq=>by
 let#[xs,e1,e2]:=ĉ;let#[y',e4,e3]:=Ö8 e2;let#[x,e5,e6]:=Ö8 e1;let#[zs,e7,e8]:=Ö8 e6;cases e8;split at e3
 .rename_i hp;obtain rfl:y'=y:=by injection e3
  cases x with
  | zK ks ts=>
   exact hf ç3 e5 λ d S1 s1 r1=>?_;let#[p,m,#[rfl,h2],h3,h4]:=Vw.zK r1;exact#[p,m,rfl,h3,h ó7 zs _ Ò0 e7 ï2];have r3:kF S2 Z (Ð4::zs) (ſ::ds):=#[_,_,rfl,Vw.grow r1 s2,r2];exact#[λ a=>Z a/\D.ref a∉D.ref p::ds,_,_,λ a z=>(Ã5).zd a z.1,r3.free (λ a z=>z.1) (λ a ha z=>z.2 ha),e4,λ d S' s r=>hq d S' (ú s) ?_];show Cl.of (UO hp) (b8 _ hp (Sr.sn r))
  | _=>cases e4
 .cases e3
@[simp] def RO Ì7:Sm:=fun Y=>↑(.nx (Y.set i ↑(.own (.zK [] []))))
def t7 Ù5 Ì7:yp R (RO i) (qy Qn (hName i)):=λ S0 Z0 S Z L Y o E F e P=>by
 cases e;intro p hp;show P Ô _ (F.Yd (ts:=.zK [] []) (ds:=.zK []) (ĺ) i hp mF #[rfl,Á9])
section
variable {Ĕ}{Ì3}{m qual:Str}{st:Stmt}
def Fk Ĭ (m qual:Str) û9:Prop:=∃ (f:Addr) (fd:ê1) (C:Addr),nC K m qual st f fd/\Û3/\mB K C/\Meth K C m f
def Fk.i ł (b:å2 K (Å C) m=↑↑ Ø7) Ć õ7 (m3:Š) (l:ô8 f=↑#[oc,od,.func (Ò3 m qual Õ3),osl])
  (cd:å0 K cdv qual=true):Fk K m qual st:=#[f,_,C,az l cd m3,a,ä0,b,m2,m3]
def Fi Ĭ û9:Prop:=∃ (C f:Addr) (fd:ê1),nC K Ç2 st f fd/\Û3/\Mk K C f
def Fi.i ł (b:å2 K (Å C) "__init__"=↑↑ Ø7) (l:ô8 f=↑#[oc,od,.func (Ò3 Ç2 Õ3),osl])
  (cd:å0 K cdv "Desk.__init__"=true) (k2:Š) (m1:PySem.W.makesIn K C=true) õ7 (m3:PySem.W.keepIn K (Å C)=true):Fi K st:=#[C,f,_,az l cd k2,a,m1,b,m2,m3]
def m8.i {C:Addr}Ñ6 Ć (n:å2 K (Å C) "kept"=↑none):m8 K:=#[C,a,ä0,n]
abbrev jJ û9 (m qual:Str) (ps:Ë):Prop:=∀ Ò9,Ë8=ps.length->bindArgs (Ò3 m qual Õ3) #[us,[]]=pure (ps.zip us)
variable {N ps:Ë}{k n:Nat}{g:Sm}
def E_ Ù5 [Lo R] (F:Fk K m qual st) ë6 (hb:jJ st m qual ps)
  (hbody:∀ à,Ü7->
   ∃ t,Þ7/\yp R g t):iO æ m (k+1) ps (zM R (zP N n g)):=by
 let#[f,fd,C,F,hc]:=F;exact#[#[f,fd,ay F Sc (λ ds S Q h=>by rw[h.len,hn]) λ cdv A outer s H E hr=>?_,F.binds hb,C,hc],zM.mo];let#[t,h1,h2]:=hbody Đ hr;show#[t,h1,λ ds S Q h=>QS h2 h]
end
def Cf:Stmt->Ö2
 | .ClassDef Ô _ b Ô Ô Ô _=>b
 | _=>[]
abbrev KF:=ô7->ę->ę->Ê (T× ô7 × ę)
def pE (F:KF):qK:=λ ds S Q=>∃ p m es ts ys r,(ds=ſ::es/\Ë6)/\(zp S ts (m.map ű)/\qO ts=true)/\(zp S ys es/\qO ys=true)/\F Æ9 ys=↑r/\
 ∀ d S1 m',Sx S S1->Sn S1 r.1 d->m'.map ö=r.2.1->zp S1 r.2.2 (m'.map ű)->Q d (ups S1 p (.zK m'))
def pE.mo {F:KF}:jA (pE F):=λ _ _ _ _ hq #[p,m,es,ts,ys,r,h1,h2,h3,h4,h5]=>#[p,m,es,ts,ys,r,h1,h2,h3,h4,λ d S1 m' a b c e=>hq Ô (h5 d S1 m' a b c e)]
def mO:KF:=λ ks ts ys=>match ys with
 | [ã x,f]=>if (ks.any λ k=>Ŏ (k=Ő x))=true\/¬ ks.length<Ü then none else ↑(Û5,ks++[Ő x],ts++[f])
 | _=>none
def LL ð2{k:Key}{d:D}(h:¬ ((m.map ö).any λ j=>Ŏ (j=k))=true):putD m k d=m++[(k,d)]:=by
 unfold putD;rw[zbD] at h;show ť h
theorem Gy {N:Ë}(hN:N.length=3) Ÿ ų{Q:DK}(h:pE mO ds S Q):kB (Qi 0 1 2) (js (dC (Û5))) Ã3:=by
 let#[p,m,es,ts,ys,r,#[rfl,h2],#[h3,h3'],#[h4,h4'],h5,h6]:=h;unfold mO at h5;split at h5
 .rename_i x f;split at h5
  .cases h5
  .rename_i hn;cases h5;simp![not_or,Classical.not_not] at hn;simp![zp,Sn] at h4;let#[_,_,rfl,rfl,d,_,rfl,h7,rfl]:=h4;have hl:m.length<Ü:=by have:=hn.2;rwa [zA7] at this
   have e:=LL (d:=d) hn.1;exact#[p,m,x,d,rfl,h2,rfl,rfl,hl,?_];rw[e];exact h6 Ô _ (.refl S) nX #[] ?_;rw[zE7];show h3.append (į h7 Á9)
 .cases h5
def ke (N:Ë) (f1 f2:zEO) (c:Ð1) (ga:ŗ):KF:=λ ks ts ys=>if (ß4=1/\N.length=4) then
 (f1 (qB N (Ð4::ys))).bind λ w=>(f2 (Ã7)).bind λ v=>
  (c ((Ã7).set 3 ↑(.im v))).bind λ b=>if b=true then
   (ga ((Ã7).set 3 ↑(.im v))).bind λ zs=>if qO zs=true then mO ks ts zs else none
  else none
 else none
def ER.IE ų{N:Ë}{ys:ę}Ÿ(h:zp S ys ds):ER S (ô4) (pD N ds) (qB N ys):=by
 exact#[λ _ z=>z.elim,λ i t e=>?_,λ i c e=>?_]
 .let#[y,e1,e2]:=iV e;cases e2;let#[d,e3,e4]:=h.au e1;show#[d,VN e3,by rw[show yn S (ô4)=S from funext λ a=>o7 (λ z=>z)];show e4]
 .let#[y,_,e2]:=iV e;cases e2
def GV ų:yn S (ô4)=S:=funext λ a=>o7 (λ z=>z)
def MT Â9{te1 te2:zy}{tc:xf}{ua:y6}{tx ty:xg}(h1:q8 f1 te1) (h2:q8 f2 te2) (hc:qX c tc) (ha:nA ga ua) Ÿ ų{Q:DK}(hs:pE (ke N f1 f2 c ga) ds S Q):
  kB (qy te1 (hName 2)) (kB (qy te2 (hName 3)) (kB â7 ty)) Ã3:=by
 let#[p,m,es,ts,ys,r,#[rfl,g1],#[g2,g2'],#[g3,g3'],g4,g5]:=hs;unfold ke at g4;split at g4
 .rename_i hl;let#[hl1,hl2]:=hl;let#[w,a1,g4]:=Ö8 g4;let#[v,a2,g4]:=Ö8 g4;let#[b,a3,g4]:=Ö8 g4;split at g4
  .rename_i hb;subst hb;let#[zs,a4,g4]:=Ö8 g4;split at g4
   .rename_i hp;have hd:Sn S (.zK Æ9) (ſ):=by simp![Sn];show#[p,m,#[rfl,rfl],g1,g2]
    have E0:ER S (ô4) (ë0) (ë1):=ER.IE (į hd g3);have L0:(ë0).length=(ë1).length:=by simp[pD,qB,g3.len]
    exact h1 S Ô _ w _ E0 a1 λ d1 S1 s1 r1=>?_;have E1:=(E0.grow s1).jR L0 2 r1;have L1:((ë0).set 2 ↑d1).length=((ë1).set 2 ↑(.im w)).length:=by simp![zbH];show L0
    exact h2 S1 Ô _ v _ E1 a2 í7;have E2:=(E1.grow s2).jR L1 3 r2;exact hc S2 Ô _ true _ E2 a3 λ S3 s3=>?_;rw[Ï6 rfl];have e0:(((ë0).set 2 ↑d1).set 3 ↑d2)[0]?=↑↑(ſ):=by
     rw[p_ (),p_ ()];rfl
    change oQ (pE mO) (yN 0) ua _ S3 Q;unfold oQ yN;rw[e0];exact#[p,m,rfl,s3 Ô (s2 Ô (s1 Ô g1)),ha S3 Ô _ zs _ (E2.grow s3) a4 λ xs S4 s4 r4=>?_];have s14:=Ú6 s4;exact#[p,m,xs,ts,zs,r,#[rfl,s14 Ô g1],#[zp.sx s14 ts g2,g2'],#[?_,hp],g4,λ d S5 m' b1 b2 b3 b4=>g5 d S5 m' (s14.trans b1) b2 b3 b4];have:=r4.free (Z':=ô4) (λ a z=>z) (λ a _ z=>z)
    rwa [GV] at this
   .cases g4
  .cases g4
 .cases g4
@[simp] def fN (j:Nat) (F:KF) ð1 (g2:Sm):Sm:=fun Y=>match Y[j]? with
 | some ↑(.own (Ð4))=>Ç7 λ y=>if qO (y::ts)=true then (F ks ts [y]).bind λ r=>if L3.eqT r.1 (Û5)=true/\qO (r.1::r.2.2)=true then g2 (Y.set j ↑(.own (.zK r.2.1 r.2.2))) else none else none
 | _=>none
def Kn {x:T}(h:L3.eqT x (Û5)=true):x=Û5:=by
 cases x <;> simp[L3.eqT] at h
 rw[h]
def tf Ù5{j:Nat}{F:KF}Ñ2{g2:Sm}{t1 t2:xg}(hf:q8 f te) (h2:yp R g2 t2):yp R (fN j F f g2) (jt (px (yT (pj true) (oQ (pE F) (yN j) (nR te lH)) (dC (Û5)))) t1 t2):=λ S0 Z0 S Z L Y o E Fr e P=>by
 unfold fN at e;ext ï8
 .rename_i ks ts h0;let#[y,e1,e]:=ĉ;ext ï8
  .rename_i hp;let#[r,e2,e3]:=ĉ;split at e3
   .rename_i hq;let#[z,ks',ts']:=r;let#[hz,hp']:=hq;cases Kn hz;simp![qO,zE5] at hp hp';let#[p,ob,k1,k2,k3,k4]:=Fr.er.ow j _ h0;cases ob with
    | zK m=>
     let#[rfl,k6]:=k3;change oQ (pE F) (yN j) (nR te lH) L S _;unfold oQ yN;rw[k1];exact#[p,m,rfl,k2,hf Á7 y _ Fr.er Ķ];exact#[p,m,[d],ts,[y],_,#[rfl,s1 Ô k2],#[b7 ts hp.2 k6,hp.2],#[į (b8 y hp.1 r1) Á9,by simp![qO,Bool.and_true];show hp.1],e2,λ c S2 m' b1 b2 b3 b4=>?_];simp![Sn] at b2;subst b2;exact#[Û5,Û5,nX,nX,by simp[dep],by simp[dep],?_];exact h2 S0 Z0 _ Z L _ o E ((Fr.grow (s1.trans b1)).mut (us:=.zK ks' ts') (es:=.zK m') j h0 k1 #[b3,b7 ts' hp'.2 b4]) e3 P
    | _=>show k3.elim
   .cases e3
  .cases e
 .cases e
section
variable {Ĕ}{Ì3}{m qual:Str}{st:Stmt}{N ps:Ë}{k:Nat}
def R0 {F:KF}(Fn:Fk K m qual st) (Sc:pX N ps À0) (hb:jJ st m qual ps) (hl:∀ ks ts ys r,F ks ts ys=↑r->ß4+1=ps.length)
  (hbody:∀ à,Ü7->
   ∃ t,Þ7/\∀ ds S Q,pE F ds S Q->t Ã3):iO æ m (k+1) ps (pE F):=by
 let#[f,fd,C,Fn,hc]:=Fn;exact#[#[f,fd,ay Fn Sc (λ ds S Q h=>?_) λ cdv A outer s H E hr=>hbody Đ hr,Fn.binds hb,C,hc],pE.mo];let#[p,mm,es,ts,ys,r,#[rfl,_],_,#[h3,_],h4,_]:=h;rw[<- hl Ô Ô h4,zC0,h3.len]
def Dd (Fn:Fi K st) ë (Sc:pX Û4 Û4 À0) (hb:jJ st Ç2 Û4)
  (hbody:∀ à,yR (wc xn æ Û4 "Desk.__init__" À0 Đ).rl (xV st) (Qh 0)):Z4 æ (k+1):=by
 let#[C,f,fd,Fn,hc,hk]:=Fn;exact#[C,f,fd,ay Fn Sc (λ ds S Q #[p,h,_]=>by rw[h];rfl) λ cdv A outer s H E hr=>#[_,hbody Đ,λ ds S Q #[p,e,h1,h2]=>?_],Fn.binds hb,hc,hk,Í7 X G hc];subst e;show#[p,rfl,h1,h2]
end
end L5
namespace L3
open ó È L2
open Ã hiding St
section
variable {û}{ë7}{i:Nat}{pos ap:Pos}
def zf É:PE Ä7 (oW i):=Y0 hN hv hd hcd
structure iM ÿ (m:Str) Û8 (ps:Ë) (sp:qK):Prop where
 k:iO æ m k ps sp
variable {to:zy}{Õ4}{sp:qK}{Ô4}{ø}{pl:Sem Bool}
def vi {k':Nat}{rpos:Pos}(F:iM ă "keep" k ps sp) Ë7 Ģ Ŷ ã8
  ç4
  (ht:eval ô9 Î=(do
   let ov <- è
   standAt ap.atName
   let (f,first) <- ö9 [ov] (getMethod ov "keep" pl)
   Ã1)):
  zv X (.Return ↑ ô9 rpos) (js (oQ sp to tA)):=xZ (wa F.k hr ho ha hk () hst hpl ht)
def vh {k':Nat}{cp2 cp3 ip:Pos}Õ8{p q:Ö2}{t u:xg}{te:zy}(F:iM ă "say" k ps sp) Ë7 Ģ (ha:PD X e te) (h:yR X p t) (h':yR X q u) ã8
  (hst:Ï2) Ò8
  (ht:eval õ0 Î=(do
   let ov <- è
   standAt ap.atName
   let (f,first) <- ö9 [ov] (getMethod ov "say" pl)
   callWith pos f first (å1 pos (ē [e] Î)) (backToKw pos Ð5))):
  zv X (.If (È4 õ0 [.NotEq] [.Constant (Û5) n cp2] cp3) p q ip) (jt (px (yT (pj true) (oQ sp to (nR te lH)) (dC (Û5)))) t u):=
 wq (wo hr (wa F.k hr ho (wu ha wt hst) hk () hst hpl ht) x_) h h'
end
end L3
namespace L5
open ó È L2 L3
open Ã hiding St
section
variable {Ĕ}{Ì3}{st:Stmt}{k:Nat}
def Dc (hk:m8 K) (F:Fi K st) ë {pos' ap pos sp:Pos}(e:xV st=[.Assign [û1] Ò5 pos]:=by rfl) (Sc:pX Û4 Û4 À0:=by show gP) (hb:jJ st Ç2 Û4:=by show λ _ _ _ _ _ _=>Wj λ _=>rfl) (hl:Í1 ("self":Str)=↑.local:=by rfl)
  (hs:∀ env:Env,ê5 Ò5 ↑(û1) pos.line env=í8:=by show λ _=>rfl):Z4 æ (k+1):=by
 exact Dd F X G Sc hb λ f cdv A outer s H E=>?_;rw[e];show xY (Jk hk (zf 0 rfl (Or.inl hl)) (hs _))
def EZ (hk:m8 K) (F:Fk K "keep" "Desk.keep" st) {p1 p2 p3 p4 p5 p6 p7 p8:Pos}Õ8(e:xV st=[.Assign [Ñ4] (ě "floor" p5) p6,.Return ↑(.Constant (Û5) n p7) p8]:=by rfl) (Sc:pX Ã8 Ã8 À0:=by show gP)
  (hb:jJ st "keep" "Desk.keep" Ã8:=by show λ _ _ _ _ _ _=>Wh λ _ _ _=>rfl) (hl:Í1 ("self":Str)=↑.local/\Í1 ("name":Str)=↑.local/\Í1 ("floor":Str)=↑.local:=by show#[rfl,rfl,rfl])
  (hs:∀ env:Env,ê5 (ě "floor" p5) ↑(Ñ4) p6.line env=í8:=by show λ _=>rfl):iM æ "keep" (k+1) Ã8 (pE mO):=by
 exact#[R0 F Sc hb (λ ks ts ys r h=>?_) λ f cdv A outer s H E hr=>#[_,?_,λ ds S Q h=>Gy rfl h]]
 .unfold mO at h;split at h
  .rfl
  .cases h
 .rw[e];show xJ (Jl hr hk (zf 0 rfl (Or.inl hl.1)) (zf 1 rfl (Or.inl hl.2.1)) (zf 2 rfl (Or.inl hl.2.2)) rfl (hs _)) (xY (xZ x_))
def MZ Â9{ks:ô7}{ts ys:ę}{r:T× ô7 × ę}(h:ke N f1 f2 c ga ks ts ys=↑r):ß4+1=2:=by
 unfold ke at h;split at h
 .rename_i hl;rw[hl.1]
 .cases h
def Jh û{sts:Ö2}:yR X sts X5:=Å4
def EY Â9{s1 s2 s3:Stmt}{rest:Ö2}(F:Fk K "say" "Desk.say" st) (Sc:pX N ò5 À0) (hb:jJ st "say" "Desk.say" ò5) (he:xV st=s1::s2::s3::rest)
  (hbody:∀ à,y8 k (A.deeper (envOfC "Desk.say" À0 Á f cdv))->
   ∃ te1 te2 tc ua tx,(zv È7 s1 (qy te1 (hName 2))/\zv È7 s2 (qy te2 (hName 3))/\zv È7 s3 â7)/\q8 f1 te1/\q8 f2 te2/\qX c tc/\nA ga ua):
  iM æ "say" (k+1) ò5 (pE (ke N f1 f2 c ga)):=by
 exact#[R0 F Sc hb (λ ks ts ys r h=>MZ h) λ f cdv A outer s H E hr=>?_];let#[te1,te2,tc,ua,tx,#[h1,h6,h7],h2,h3,h4,h5]:=hbody Đ hr;rw[he];show#[_,xJ h1 (xJ h6 (xJ h7 Jh)),λ ds S Q h=>MT h2 h3 h4 h5 h]
end
end L5
namespace L2
open ó È Ã
def nY Â2:Ë:=x.cps.toList.map λ c=>#[[c].toArray]
def W2 Â2:It:=#[λ i _=>i<x.cps.size,λ i H v H'=>H'=H/\∃ c,x.cps[i]?=↑c/\v=ã #[[c].toArray],λ i _=>x.cps.size<=i]
def N5 Ĕ{tg:Expr}Â2 (t:Tok) (it:Addr):Turn P w K tg (W2 x) [it] it (λ i h=>h.IsStrIter it "str_ascii_iterator" x t i) where
 mem:=#[]
 obj:=λ i h st b hb=>by
  have e:b=it:=by exists hb
  subst e;let#[o,e,c,d]:=st;show#[o,e,λ v z=>by rw[d] at z;cases z]
 keep:=λ i h h' st k=>by
  let#[o,e,c,d]:=st;show#[o,k it #[] o e,c,d]
 item:=by
  ext Ú3;have hx:x.cps[i]?=↑(x.cps[i]'hg):=zB8 hg;exact wpAny_pyNext_ascii_item st hx λ h' st' sb=>?_;have I1:Inv á5 H { s with heap:=h',toks:=ĳ+1 }:=I.turned (t':=ĳ+1) (λ b o hb e=>(sb.2 b hb).trans e) f0 f1 f3 f4 f5;let#[o,e,c,d]:=id st';show#[_,rfl,ar (s:={ s with heap:=h',toks:=ĳ+1 }) e c d () #[ã #[[x.cps[i]'hg].toArray],H,I1,À3,#[rfl,_,hx,rfl],st',λ b hb=>(hf b hb).1]]
 done:=by
  ext Ú3;show wpAny_pyNext_ascii_end (Ç6) st (zaY hg) λ h' eb=>#[rfl,I.turned (t':=ĳ) (λ b o hb e=>eb b o hb e) f0 f1 f3 f4 f5]
 self:=λ _ _ _ _ _ st h=>wpAny_pyIter_striter_ascii st h
section
variable {û}{tg:Expr}
def GQ (tl:TE):TI:=fun σ H R=>tl σ H λ v H1=>∃ x,v=ã x/\Û6/\R (W2 x) H1
def Kt {l:Expr}{tl:TE}(hl:PE X l tl):PI X tg l (GQ tl):=by
 intro gV s σ H R I h;exact zH (hl á7) λ v s1 #[y,H1,I1,r1,q1]=>?_;let#[x,e,ha,q]:=q1;subst e;let#[t,rfl]:=r1;exact wpAny_pyIter_ascii ha ?_;exact#[ś,[ś],_,_,H1,rfl,I1.kept (t':=s1.toks) ó0,N5 x t _,#[_,Ś,rfl,rfl],λ b hb=>?_,q];have e:b=ś:=by exists hb
 subst e;show I1.eW Ï8 (I1.zI.fresh Ï8)
end
end L2
namespace L3
open ó È L2
open Ã hiding St
section
variable {û}{tg l:Expr}{te:zy}
def dZ.text ķ{H1:Hp}Ì8:dZ K H1 (W2 x) ï5:=λ i H S _ x2 _=>by
 exact#[λ d hd=>?_,λ hl=>show x.cps.size<=i by simpa [nY] using hl];have hd':((nY x).map D.str)[i]?=↑d:=hd;unfold nY at hd';rw[zD6,zA3] at hd';let#[c,e1,rfl]:=ß9 hd';have hi:i<x.cps.size:=ù9
 exact#[hi,λ v H' q=>?_];let#[rfl,c',e2,rfl]:=q;rw[zD3,e2] at e1;cases e1;show#[.refl _,x2,by simp![zj,Function.comp]]
def Sy (te:zy):pz:=fun L S R=>te L S λ d S1=>∃ x,d=ã x/\Û6/\R ï5 S1
def vz (h:PD X l te):yu X tg l (Sy te):=by
 exact#[fun L S Q Q' hq z=>h.mo À6 (λ d S1 #[x,a,b,c]=>#[x,a,b,hq Ô c]) z,PI.imp (Kt h.pe) ò3];ext Í;exact Ø0 h.mo Ĺ;let#[x,rfl,a,b]:=h1;ext Ê3;show#[x,q1,a,b _ H1 e1 p1 .text]
end
end L3
namespace L5
open ó È L2 L3
open Ã hiding St
@[simp] def SF ð1:ŗ:=fun Y=>Ç7 λ y=>match y with
 | ã x=>if Û6 then ↑((nY x).map T.str) else none
 | _=>none
theorem VV ų:∀ ss:Ë,zp S â6 Ø8
 | []=>Á9
 | s::ss=>į nX (VV ss)
def tI {b:Bool}Ñ2(hf:ù4):lO b (SF f) (Sy te):=λ S Z L Y ts Q hE e hq=>by
 let#[y,e1,e2]:=ĉ;exact hf Á7 y _ hE Ķ;split at e2
 .rename_i x;split at e2
  .rename_i ha;cases e2;cases Vw.str r1;show#[x,rfl,ha,hq _ S1 s1 (VV _) λ _ _=>Ó2]
  .cases e2
 .cases e2
end L5
namespace L2
open ó È Ã Builtin æ3
section
variable {Ò}{A:Ñ9}{È8}{Á0}{x y:Str}{t u v:Tok}{k:Int}
def M4 Ë1(hy:(y.length == 0)=Õ) (hk:(Ŏ (k < -(2 ^ 63:Int))||Ŏ (k≥2 ^ 63))=Õ) (hsz:È6<=Ü) (hsz2:(Î0).length<=Ü)
  (hq:∀ (l:ã5) Ý5,l.map ö=Txt.splitMax x y k->Q Ê0 { s with heap:=ã2,toks:=n }):
  Į Ï (call (Ë4 "str.split") [ã x t,ã y u,ć k v]) á1:=by
 ext Õ9
 .cases hf:(û2).isEmpty
  .exact À4 Ô5 (meets_str_split_sep_max ü3 hy hf hsz hsz2) ?_;change wants Q E _ { s with toks:=_,heap:=Ú { cls:=Ö6,data:=.seq (strsFrom ĳ (Î0)).toArray } };ext ģ
  .show À4 Ô5 (meets_str_split_max_not_found ü3 hy hf)
    Ä2
 .show À4 Ô5 (meets_str_split_max_cannot_occur ü3)
   ï1
variable {û}
def cZ ü1 (k:Int):Prop:=à9/\(0<=k/\k<=1000)/\ū<=Ü/\(ñ4 a (Á6 a b 0 ū (limitOf a k)) b.length).length<=Ü/\(Txt.splitMax a b k).length<=Ü
def Uy:Ă:=λ x vs H Q=>∃ a b k,x=ã a/\vs=[ã b,ć k]/\cZ a b k/\∀ l,Ý3->Q Ž (upd H l (ğ (À5 Í8)))
theorem Hl:lg X "str.split" Uy:=by
 ext ċ;let#[a,b,k,rfl,rfl,#[h1,h0,h2,h3,h4],q]:=h;ext Þ8;cases rv with
 | cons r1 rv=>
  let#[_,rfl,u2,rfl]:=(show Vals [V.int k] _ from rv).one;let#[u,rfl]:=r1;exact M4 (by exists h1) (by rw[Bool.or_eq_false_iff,decide_eq_false_iff_not,decide_eq_false_iff_not];lia) h2 h3 λ l n e=>?_;show#[Å Á,_,ä5 (t':=n) (o:=ğ (À5 Í8)) À7,rfl,q _ (Ė)]
def jW ü1:Ë:=match Á6 a b 0 ū 1 with
 | i::_=>[strSub a 0 i,b,strSub a (i+b.length) ū]
 | []=>[a,Str.empty,Str.empty]
def U5:Ă:=λ x vs H Q=>∃ a b,x=ã a/\vs=[ã b]/\à9/\ū<=Ü/\∀ l,Ý3->Q Ž ë2
theorem Hm:lg X "str.partition" U5:=by
 ext ċ;let#[a,b,rfl,rfl,h1,h2,q]:=h;ext Á4;exact À4 F.slot_str_partition (Ð0) F.entry_str_partition (F.args_str_partition_2 Ô) (meets_str_partition a b t u (by exists h1) h2) ?_;have fr:H Á=none:=Ė;have hq:=q _ fr;unfold jW at hq;have key:∀ (us:zLV) (xs:Ë) Ý5,Vals (ŏ Í8) us->ß<=3->Q Ê0 (upd H Á (Ũ (ŏ Í8)))->
   ∃ v H',Inv á5 H' { s with toks:=n,heap:=Ú { cls:=ü,data:=.seq us.toArray } }/\RelV v Ê0/\Q v H':=λ us xs n r hl z=>
  #[Å Á,_,ä5 (t':=n) (o:=Ũ (ŏ Í8)) (ó0) Ï8 #[#[by rw[zA7];show zE0 hl (),.new _],us,r,ð8],rfl,z]
 cases ho:Á6 a b 0 ū 1 with
 | nil=>ext Õ7
 | cons i r=>ext Õ7
def CI:xA X (Ń "int") (λ xs H Q=>∃ a n,xs=[ã a]/\ò6=↑n/\ū<=640/\Q (ć n) H):=by
 ext Ğ;let#[a,n,rfl,h1,h2,q]:=h;let#[_,rfl,t,rfl]:=r.one;show PySem.W.KIN.call_text h1 h2 î9
end
end L2
namespace L5
open ó È L2 L3
open Ã hiding St
section
variable {û}{ķ}{a b e:Expr}{ø}{ta tb:zy}{È9}
def mS:x8:=λ x y S Q=>(∃ u v,x=ã u/\y=ã v/\Q Ù2 S)\/mT Õ x y S Q
def UB:R2:=λ x y H Q=>∃ u v,x=ã u/\y=ã v/\Q Ù2 H
def Tq:yM X (è4 .In) UB:=by
 intro gV s σ H x y v w Q I rx ry h;let#[u,z,rfl,rfl,q]:=h;ext Þ8;let#[t',rfl]:=ry;show PySem.P.in_str Ä1
theorem mS.mo:qc mS:=λ x y S Q Q' hq h=>Ü4 (λ#[u,v,a,b,c]=>Â0 #[u,v,a,b,hq Ô c]) λ h=>Ő (mT.mo x y S Q Q' hq h)
theorem mS.fits:wF K mS (λ x y H Q=>UB ï9\/bw K Õ ï9):=λ x y d e H S Q h1 h2 h3 h=>by
 rcases h with ⟨u,v,rfl,rfl,c⟩ | h
 .ext Ô1;show Â0 #[u,v,h1,h2,c Î1 h3]
 .show Ő (mT.fits x ë4 h)
def uB Ů î (hm:ê9 .In b=Õ):PD X (È4 a [.In] [b] pos) (yT mS ta tb):=jV ß0
def wY Ů î (hm:ê9 .In b=Õ):zE X (È4 a [.In] [b] pos) (px (yT mS ta tb)):=l8 ß0
def yW:Ï1:=λ x y=>match x,y with
 | ã u,ã v=>↑ Ù2
 | x,y=>qR Õ x y
def rO:Good2 zk yW mS:=λ S Z x y z d e Q hz hx hy ef hq=>by
 unfold yW at ef;split at ef
 .cases ef;cases hx.str;cases hy.str;show Â0 #[_,_,rfl,rfl,Ī]
 .show Ő (wC S Z Ô z d e Q hz hx hy ef hq)
def R5:xx:=λ ds S Q=>∃ a n,ds=[ã a]/\ò6=↑n/\ū<=640/\Q (ć n) S
def u7 (hm:X.mg "int"=none) Ŷ (hg:Gl X "int") þ:PD X (Ĝ (ě "int" p) ė Á1) (qo R5 tA):=
 ma (jT CI hg hm PyProof.Rows.boot_int Ú1) (λ ds S Q Q' hq #[a,n,h0,h1,h2,h3]=>#[a,n,h0,h1,h2,ô1]) (λ xs ds H S Q h0 h2 h=>by
  let#[a,n,rfl,h1,h3,h]:=h;ext Õ6;subst r;show#[a,n,rfl,h1,h3,h Î1 h2]) Ø2
@[simp] def jb:zLO
 | [ã a]=>if ū<=640 then (ò6).map ć else none
 | _=>none
def rN:qL zk jb R5:=λ S Z ys z ds Q hz hv e hq=>by
 unfold jb at e;ext ï8
 .ext ï8
  .rename_i hl;let#[n,e1,rfl]:=ß9 e;ext Ų;cases h1.str;show#[_,n,rfl,e1,hl,à6]
  .cases e
 .cases e
def jf:xx:=λ ds S Q=>∃ a b k,ds=[ã a,ã b,ć k]/\cZ a b k/\∀ l,í3->Q Ž (ups S l (ğ (À5 D.str)))
def jf.mo:qA jf:=λ ds S Q Q' hq #[a,b,k,h0,h1,h2]=>#[a,b,k,h0,h1,λ l hl=>hq Ô (h2 l hl)]
def jf.fits:pB K jf λ xs H Q=>∃ x rest,Ù0/\Uy Þ3:=λ xs ds H S Q h0 h2 h=>by
 let#[a,b,k,rfl,ok,h]:=h;simp![zt,zj] at h0;let#[_,_,rfl,rfl,_,_,rfl,rfl,_,_,rfl,rfl,rfl]:=h0;exact#[_,_,rfl,a,b,k,rfl,rfl,ok,λ l hf=>?_];have hx:Ext H (upd H l (ğ (À5 Í8))):=é7;show Ì1
def jh:xx:=λ ds S Q=>∃ a b,ds=Í9/\à9/\ū<=Ü/\Q (Ũ ((jW a b).map D.str)) S
def jh.mo:qA jh:=λ ds S Q Q' hq #[a,b,h0,h1,h2,h3]=>#[a,b,h0,h1,h2,ô1]
def jh.fits:pB K jh λ xs H Q=>∃ x rest,Ù0/\U5 Þ3:=λ xs ds H S Q h0 h2 h=>by
 let#[a,b,rfl,h1,h3,h]:=h;ext Â6;exact#[_,_,rfl,a,b,rfl,rfl,h1,h3,λ l hf=>?_];have hx:Ext H ë2:=é7;show h Ô (by ext ã1;show#[l,_,rfl,Â0 (Â0 yO),zt.gk _]) hx (h2.new hf)
end
section
variable {û}{o e e2:Expr}{to:zy}{Õ4}{Å8}
def vM Ģ (ha:y9 X [e,e2] tA)
  Ñ1
  (hfew:((å1 cpos (ē [e,e2] Î)).all æ7&&ä
   && Ŏ ([e,e2].length+Â5+ą<30))=true)
  ĥ (hs:ē [e,e2] Î=(Õ,ú9)::ē [e2] Î) (hplain:zEB X cpos [e2]):
  PD X (Ĝ (á o "split" apos) [e,e2] ŭ) (oP jf to tA):=
 fX Á5 Hl jf.mo jf.fits ho ha ð
def vT Ģ ũ
  (hbase:Č o "partition" É0=è)
  À:
  PD X (Ĝ (á o "partition" apos) [e] ŭ) (oP jh to tA):=
 fX PySem.F.slot_str_partition PySem.F.type_str_partition Hm jh.mo jh.fits ho ha ð
instance insTx4 ü1 (k:Int):ú5 (cZ a b k):=inferInstanceAs (ú5 (_/\_))
@[simp] def cY:zLO
 | [ã a,ã b,ć k]=>if cZ a b k then ↑(ğ (À5 T.str)) else none
 | _=>none
def r0:qL zk cY jf:=λ S Z ys z ds Q hz hv e hq=>by
 unfold cY at e;ext ï8
 .ext ï8
  .rename_i ok;cases e;let#[_,_,rfl,h1,_,_,rfl,h2,_,_,rfl,h3,rfl]:=hv;cases h1.str;cases h2.str;cases h3.int;show#[_,_,_,rfl,ok,ì5]
  .cases e
 .cases e
@[simp] def fZ:zLO
 | Í9=>if à9/\ū<=Ü then ↑(Ũ ((jW a b).map T.str)) else none
 | _=>none
def rC:qL zk fZ jh:=λ S Z ys z ds Q hz hv e hq=>by
 unfold fZ at e;ext ï8
 .ext ï8
  .rename_i ok;ext é5;show#[_,_,rfl,ok.1,ok.2,hq _ ů (Cl.of ā (ly (hZ _)))]
  .cases e
 .cases e
end
end L5
namespace L3
open ó È L2
open Ã hiding St
def jF Ð7 (q:Str× ô) (e:DictEntry):Prop:=∃ t,e=#[PyData.keyHash w.params q.1,ã q.1 t,q.2]
def KTab Ĭ Ð7 õ2 Â2 (zR:ň):Prop:=∃ a es ep,mg x=↑ Ï5/\ŷ
abbrev fD (zR:ň):List (Key× ô):=zR.map λ q=>(Ő q.1,q.2)
theorem RB {P:ö6}Ù3:∀ {zR:ň}{es:List DictEntry},Ö7 (jF w) zR es->(∀ e∈es,∃ k,(qw P w).is k e.key=true/\e.hash=(qw P w).hash k)/\Pairs (qw P w) es (fD zR)
 | _,_,Á9=>#[λ _ h=>(nomatch h),Á9]
 | q::zR,e::es,į r t=>by
  let#[tk,rfl]:=r;let#[h1,h2]:=RB (P:=P) t;exact#[λ e he=>?_,į (eI q.1 tk) rfl h2];rcases zA5.mp he with rfl | he
  .show#[Ő q.1,eI q.1 tk,rfl]
  .show h1 e he
def Np (zR:ň) (h:û3):((fD zR).map ö).Nodup:=by
 rw[zD6];have:zR.map ((λ(q:Key× ô)=>q.1) ∘ λ q=>(Sum.inr q.1,q.2))=(Ð6).map Sum.inr:=by rw[zD6];rfl
 rw[this];show List.Pairwise.map _ (λ a b hab z=>hab (Sum.inr.inj z)) h
theorem KTab.at û Á2 Á0 œ ô0{zR:ň}(I:Ħ) (h:X.K.lookup a=↑ Ê6) (r:Ö7 (jF X.w) zR ß7) (nd:û3):s.heap.DictOf (qw Ò7) a (fD zR):=by
 let#[h1,h2]:=RB (P:=X.prog) r;show#[_,es,ep,I.r_ a _ h,#[rfl,rfl,rfl],rfl,λ e he=>h1 e (by exists he),h2,Np zR nd]
def xh (zR:ň) Â2:Ê ô:=(zR.find? λ q=>Ŏ (q.1=x)).map ű
def Vu (zR:ň) Â2:valueAt (fD zR) Ò6=xh zR x:=by
 unfold valueAt xh fD;rw[List.find?_map,Option.map_map];congr 1;congr 1;funext q;simp
section
variable {û}{i:Expr}{ti:zy}{pos p cpos:Pos}{Ì8}{zR:ň}
def Vl {gV:zLA}Á0{σ:St}Ð8 Ë1{t:TE}ü4 (hi:PE X i t) (I:Ħ) (h:t σ H λ v H1=>∃ y u,v=ã y/\xh zR y=↑u/\∀ s1,Inv á5 H1 s1->Q u s1)
  À2 (hs:iG i) ã7:Į Ĳ (eval Ç5 Î) Q X.xe s:=by
 ext á9;exact VI PySem.F.slot_dict_getitem.lookup hs (gy I hg h1 (zH (hi á7) λ iv s2 #[v,H2,I2,rv,y,u,ey,eu,q]=>?_) hdb);subst ey;let#[t,rfl]:=rv;have dd:=KTab.at I2 h2 h3 h4;show#[dd.typeIs,wpAny_getItem_of (k:=Sum.inr y) (eI y t) dd.mapOf (by rw[Vu];show eu) (q _ (I2.tok _))]
def X4 (ks:Ë) (ti:zy):xf:=fun L S Q=>ti L S λ d S1=>∃ y,d=ã y/\Q (!(ks.any λ k=>Ŏ (k=y))) S1
def Jg ü4 (hi:PD X i ti) À2 Ö5:zE X ò7 (X4 (Ð6) ti):=by
 exact#[fun L S Q Q' hq z=>hi.mo À6 (λ d S1 #[y,a,b]=>#[y,a,hq Ô b]) z,PT.imp (UJ (t:=fun σ H Q=>zQ X.K ti σ H λ v H1=>∃ y,v=ã y/\Q (.bl (!((Ð6).any λ k=>Ŏ (k=y)))) H1) (λ gV s σ H Q I h=>?_) hm) ļ]
 .ext á9;exact zH (hi.pe á7) λ iv s1 #[v,H1,I1,rv,y,ey,q]=>gy I1 hg h1 ?_ hdb;subst ey;let#[t,rfl]:=rv;have dd:=KTab.at I1 h2 h3 h4;exact wpAny_notIn_of (k:=Sum.inr y) (eI y t) h0 dd.mapOf #[.bl _,H1,I1.tok _,?_,q];rw[Vu];have:(xh zR y).isSome=(Ð6).any λ k=>Ŏ (k=y):=by
   unfold xh;rw[zbZ,zbD,zC7,List.find?_isSome,zD0];rfl
  rw[this];rfl
 .ext Í;exact Ø0 hi.mo Ĺ;let#[y,rfl,h1]:=h1;ext Ê3;show#[y,q1,_,rfl,h1 H1 e1 p1]
def Zj Ĭ Ð7 õ2 Â2 (tab:Ş):Prop:=∃ zR,ó4/\Ý6
def Qa (tab:Ş) (ti:zy):zy:=fun L S Q=>ti L S λ d S1=>∃ y ss,d=ã y/\Ë0 y=↑ss/\Q (Ũ Ø8) S1
theorem Rm ķ{y:Str}Ð9:∀ õ8{zR:ň},Ý6->Ë0 y=↑ss->∃ a,xh zR y=↑ Ï5/\Þ0
 | _,_,Á9,h=>nomatch h
 | (k,us)::tab,(k',v)::zR,į #[e,a,ea,hs] t,h=>by
  dsimp only at e ea hs;subst e ea;rw[za7] at h;unfold xh;rw[zaL];cases q:(y == k) with
  | true=>
   rw[q] at h;cases h;rw[beq_iff_eq] at q;subst q;simp![decide_true,Option.map_some];show#[a,rfl,hs]
  | Õ=>
   rw[q] at h;have hne:¬ k=y:=λ z=>by subst z;simp at q
   simp![hne,decide_false];show Rm t h
theorem vI Ñ7 À2 (hs:iG i) ã7:PD X Ç5 (Qa tab ti):=by
 let#[zR,hk,hp]:=hk;exact#[fun L S Q Q' hq z=>hi.mo À6 (λ d S1 #[y,ss,a,b,c]=>#[y,ss,a,b,hq Ô c]) z,Þ1];ext Í;exact Vl hk õ9;let#[y,ss,rfl,h2,h3]:=h1;ext Ê3;let#[a,e2,e3]:=Rm hp h2;show#[y,_,q1,e2,λ s1 I1=>#[Å a,H1,I1,rfl,h3 _ H1 (by ext ã1;show#[a,_,rfl,e3 _,zt.gk _]) e1 p1]]
def va Ñ7 À2 Ö5:zE X ò7 (X4 (tab.map ö) ti):=by
 let#[zR,hk,hp]:=hk;have e:tab.map ö=Ð6:=by
  clear hk
  induction hp with
  | nil=>rfl
  | cons r _ ih=>rw[zA6,zA6,ih,r.1]
 rw[e];show Jg hk hi hg hm hdb
structure W0 ÿ Â2 Û8 (ps:Ë) (tab:List (Str×qK)):Prop where
 ex:∃ zR,ó4/\∀ y sp,Ë0 y=↑sp->∃ f fd kk,(xh zR y=↑ Ø7/\kk<=k)/\pA æ xn kk f fd ps (om K sp)/\Binds K fd ps []/\Š
 mo:∀ y sp,Ë0 y=↑sp->jA sp
def Qr (tab:List (Str×qK)) (ti:zy) (tA:y6):zy:=fun L S Q=>ti L S λ d S1=>∃ y sp,d=ã y/\Ë0 y=↑sp/\tA L S1 λ ds S2=>sp ds S2 Q
def uT {tab:List (Str×qK)}Ê7 ø Õ4{k k':Nat}{ps:Ë}(F:W0 ă x k ps tab) Ë7 (hi:PD X i ti) Ŷ ã8 À2 (hs:iG i) ã7
  (he:zEE X e es) (hpl:zEB X cpos es)
  (hc:eval (Ĝ Ç5 ė ŭ) Î=(do callWith cpos (<- eval Ç5 Î) [] (å1 cpos (ē ė Î)) (backToKw cpos Ð5))):
  PD X (Ĝ Ç5 ė ŭ) (Qr tab ti tA):=by
 let#[#[zR,hk1,hk2],hmo]:=F;exact#[fun L S Q Q' hq z=>hi.mo À6 (λ d S1 #[y,sp,a,b,c]=>#[y,sp,a,b,Ø2 Ô9 (λ ds S2 z=>hmo y sp b _ S2 Ô hq z) c]) z,Þ1];ext Í;exact Call_ (Vl hk1 õ9) hc;let#[y,sp,rfl,h2,h3]:=h1;ext Ê3;let#[f,fd,kk,#[g1,g0],g2,g3,g4]:=hk2 y sp h2;exact#[y,_,q1,g1,λ s1 I1=>?_];have q:rX X.K tA σ H1 λ vs H2=>om X.K sp vs H2 Q E0:=#[L,S1,Å2,p1,Ø2 Ô9 (λ ds S2 z xs H2 a1 a2 a3=>#[ds,S2,a1,a3,hmo y sp h2 Þ9]) h3];exact ê4 (h₀:=X.base) I1.ok.mod.g9 g4 (zH (ha.pa cpos Ñ0 q) Ô8) he hpl;show bg (dvs:=[]) (E:=E0) g2 (hr.mono (zE0 g0 hk)) g3 Á9 fY I2 r (by rw[zaB];show q2)
end
end L3
namespace L5
open ó È L2 L3
open Ã hiding St
section
variable {Ñ2}
@[simp] def ZO (ks:Ë) ð1:Ð1:=fun Y=>Ç7 λ y=>match y with
 | ã x=>↑!(ks.any λ k=>Ŏ (k=x))
 | _=>none
def sv {ks:Ë}(h:ù4):qX (ZO ks f) (X4 ks te):=λ S Z L Y y Q hE e hq=>by
 ext Ó1
 .cases e2;show h ç3 e1 λ d S1 s1 r1=>#[_,Vw.str r1,hq S1 s1]
 .cases e2
@[simp] def cP (tab:Ş) ð1:zEO:=fun Y=>Ç7 λ y=>match y with
 | ã x=>(Ë0 x).map λ ss=>Ũ â6
 | _=>none
def sy õ8(h:ù4):xX (cP tab f) (Qa tab te):=λ S Z L Y y Q hE e hq=>by
 ext Ó1
 .let#[ss,e3,rfl]:=ß9 e2;show h ç3 e1 λ d S1 s1 r1=>#[_,ss,Vw.str r1,e3,hq _ S1 s1 (Cl.of ā (ly (hZ _)))]
 .cases e2
@[simp] def Wm (tab:Ê4) ð1 (g:ŗ):zEO:=fun Y=>Ç7 λ y=>match y with
 | ã x=>(Ë0 x).bind λ F=>(g Y).bind F
 | _=>none
theorem aa {α β:Type}(h:α->β) (y:Str):∀ tab:List (Str × α),(tab.map λ q=>(q.1,h q.2)).lookup y=(Ë0 y).map h
 | []=>rfl
 | (k,v)::tab=>by
  rw[zA6,za7,za7];cases (y == k) with
  | true=>rfl
  | Õ=>show aa h y tab
def ya Ù5 [Lo R] {tab:Ê4}{g:ŗ}{u:y6}(hf:ù4) (h:j7 g u):zO R (Wm tab f g) (Qr ï6 te u):=λ S Z L Y y Q hE e hq=>by
 ext Ó1
 .let#[F,e3,e4]:=Ö8 e2;let#[xs,e5,e6]:=Ö8 e4;exact hf ç3 e1 λ d S1 s1 r1=>#[_,_,Vw.str r1,(aa Ô _).trans (congrArg _ e3),?_];exact h ó7 xs _ Ò0 e5 ï2;show#[Z,xs,y,(Ã5).zd,r2,e6,λ d S' s r=>hq d S' (ú s) (Cl.cl (æ6) r)]
 .cases e2
end
section
variable {ķ}{Ù3}{mg:zSV}{Û9}{Ì8}{zR:ň}
def lP Ĭ Ð7 Â2 (zR:ň):Prop:=∃ a es ep,ñ6/\ŷ
def lP.mk (H:Û7) ë:ó4:=by
 let#[a,es,ep,h1,h2]:=H;show#[a,es,ep,Í7 X G h1,h2]
def RD {a:Str}{b:ô}{t:Tok}{es:List DictEntry}(h:Ö7 (jF w) zR es):Ö7 (jF w) ((a,b)::zR) (#[PyData.keyHash w.params a,ã a t,b]::es):=į #[t,rfl] h
def RC:Ö7 (jF w) [] []:=Á9
def lP.i œ ô0(h1:ñ6) (h2:ô8 a=↑ Ê6) (h3:Ö7 (jF w) zR ß7) (h0:(a == sysModules)=Õ) (h4:û3):Û7:=#[a,es,ep,h1,h0,h2,h3,h4]
def dQ Ĭ (q:Str× Ë) (r:Str× ô):Prop:=Ť
def fu Ĭ Ð7 Â2 (tab:Ş):Prop:=∃ zR,Û7/\ï7
theorem fu.mk õ8(H:fu K w x tab) ë:Zj K w mg x tab:=by
 let#[zR,h1,h2]:=H;show#[zR,h1.mk X G,h2]
def NG {k:Str}Ð9 œ{o:Obj}{its:zAV}Õ8 õ8 Â3 (h:ï7):Ö7 (dQ K) ((k,ss)::tab) ((k,Å a)::zR):=
 į #[rfl,a,rfl,Ö4] h
def NF:Ö7 (dQ K) [] []:=Á9
def fu.i õ8(h1:Û7) (h2:ï7):fu K w x tab:=#[zR,h1,h2]
def fw Ĭ Ð7 Â2 (ys:é3):Prop:=∃ zR,Û7/\∀ q∈ys,∃ f,L3.xh zR q.1=↑ Ø7/\ñ9 K æ8 q.2=↑↑ Ø7
def fw.i {ys:é3}(h1:Û7) (h2:ys.all (λ q=>match L3.xh zR q.1 with | some Ø7=>ñ9 K æ8 q.2 == ↑↑ Ø7 | _=>Õ)=true):fw K w x ys:=#[zR,h1,λ q hq=>by
 have:=zE4.mp h2 q hq;split at this
 .rename_i f e;show#[f,e,beq_iff_eq.mp this]
 .cases this]
def Z7 ÿ (ys:é3) Û8 (ps:Ë) (R:Rk) (tab:Ê4):Prop:=∀ y F,Ë0 y=↑F->∃ d kk,(y,d)∈ys/\kk<=k/\FD æ d kk ps (zM R F)
def Bl Æ1 Ô4 Ù5:Z7 æ ys k ps R []:=λ _ _ e=>nomatch e
def Wl Æ1{k kk:Nat}{ps:Ë}Ù5{tab:Ê4}{y d:Str}{F:zLO}(hf:FD æ d kk ps (zM R F)) (h:Z7 æ ys k ps R tab) (h0:(y,d)∈ys) (hk:kk<=k):Z7 æ ys k ps R ((y,F)::tab):=λ x G e=>by
 rw[za7] at e;cases q:(x == y) with
 | true=>rw[q] at e;cases e;rw[beq_iff_eq] at q;subst q;show#[d,kk,h0,hk,hf]
 | Õ=>rw[q] at e;show h x G e
theorem fw.mk Æ1{tab:Ê4}Ô4 Ù5(H:fw K w x ys) ë
  (hd:Z7 æ ys k ps R tab):W0 æ x k ps ï6:=by
 let#[zR,h1,h2]:=H;exact#[#[zR,h1.mk X G,λ y sp e=>?_],λ y sp e=>?_]
 .ext ö0;let#[d,kk,m1,m2,#[f,fd,g1,g2,g3,g4],_]:=hd y F e1;let#[f',e2,e3]:=h2 _ m1;have:=Í7 X G e3;rw[g2] at this;cases this;show#[f,fd,kk,#[e2,m2],g1,g4,g3]
 .ext ö0;show zM.mo
)
example:=`(
example À:=(zc 0)
example Á:=(cI 0)
example Â:=(cI 1)
example Ã:=(zc 1)
example Ä:=(zb zi À Á)
example Å _:=x (retS (cS (.bl false))) yy
example í:=.str
example Æ:=(cS (í " "))
example İ(hc:X.calm=true):=0
example ļ _:=x cl C s H fp
example ĉ:=(xm X N' scope ļ)
example Ç(_:Hq scope N'=true) (hi:yu X tg iter ti) (hg:∀ cl C s H fp,N'.Nodup->nV ĉ tg g) (hf:∀ cl C s H fp,N'.Nodup->fk ĉ ifs tcc) (he:∀ cl C s H fp,N'.Nodup->PD ĉ elt te) (nd:N'.Nodup) İ:=0
example Õ:=(zo 0)
example ä:=(zo 1)
example ė:=(za ä ze)
example È:=(za Õ ė)
example Ķ:=(yk st)
example É _:=x Ķ f cdv A outer s H E
example Ê:=(zT false)
example Ë:=(za Õ ze)
example Ì:=(zc 2)
example Í:=(zb zi À Â)
example ç:=(cI 2)
example Î:=(zb zi À ç)
example ý:=List Str
example Ą:=List (Option Nat)
example Ï:=List (ý × Ą)
example Ð:=(q_ 2 (xi (zG 0) (xi (zG 1) pZ)))
example Ñ _:=x P w K mg base
example Ò:=(o9 λ bs=>bs.all id)
example ĭ _:=x outer s H E trivial Sc.nd rfl rfl hr
example Ó:=λ f cdv A outer s H E hr=>hbody f cdv A ĭ
example Ô _:=x (zG 0) xj
example Ö:=(zc 3)
example Ø:=(za Ã ze)
example Ù:=(zc 4)
example ĵ _:=x zi Ã
example ă:=(zb ĵ ç)
example Ú _:=x [none,↑1,↑3] (xC qN (za (zl rZ (za ă ze)) ze)) (zG 0) (zW (zb Ê (zb zi (zb zi ă À) Á) Ì))
example Û:=(cS (í "keeper"))
example Ü(cdv:Value) (A:Around) (outer:List Env) (s:Shared) (H:Hp) (E:XK):=0
example Ļ _:=x zi Ì
example Ý:=(zb Ļ Á)
example Þ:=(za À ze)
example ĕ:=(cI 3)
example ß:=(zb zi À ĕ)
example à:=["floor","number","number","number"]
example ÿ:=(za (zb zi Ä Á) ze)
example Ā:=(za (zb zi Ä Â) ze)
example á:=(y_ (za (zb zX (zb zX (zb zX (cS (í "brims ")) (zl yY ÿ)) Æ) (zl yY Ā)) ze))
example č:=(cS .zC)
example â:=(retS č)
example ã:=by intro _ _ _ _ _ _;first | show Wj λ _=>rfl | show Wi λ _ _=>rfl | show Wh λ _ _ _=>rfl | show Pq λ _ _ _ _=>rfl | show Pp λ _ _ _ _ _=>rfl
example å:=(zb ĵ Á)
example æ:=(zc 5)
example è _:=x Sc hc hi (λ cl C s H fp=>hg ļ nd) (λ cl C s H fp=>hf ļ nd) (λ cl C s H fp=>he ļ nd)
example é(Sc:pX N ps Ķ:=by show gP) (hn:n=ps.length:=by rfl):=0
example ê:=(zo 2)
example ë:=(.ListComp elt [#[tg,iter,ifs,0]] scope pos)
example Ĥ:=(zo 4)
example ì:=(za Ĥ ze)
example î:=wc xn Ñ N "Desk.say" É
example ï:=(zb ĵ Â)
example ð:=(za Í ze)
example ñ:=(zo 3)
example ò:=(zc 7)
example Ģ:=[none]
example ó _:=x Ģ (yZ À) Ô
example ô:=(zb Ļ Â)
example õ:=(zb zi æ Á)
example ö:=wc xn Ñ N x É
example ø:=(y_ ze)
example ù:=(za (cI 12) ze)
example ú:=(za ê ze)
example û:=(zT true)
example ü:=(za Û (za (cS (í "taker")) ze))
example þ(hg:Gl X x:=by rfl) (hd:(x == ("__debug__":Str))=false:=by decide):=0
example ā:=(zl rZ Þ)
example Ă:=y8 k (A.deeper (envOfC x Ķ s.heap.objs.size f cdv))
example ą:=(retS (cS (.bl true)))
example Ć:=decide (y.2=.local)||decide (y.2=.free)||decide (y.2=.cell)
example ć:=[none,↑1]
example Ĉ:=(qm (xo (instS "tuple" À)))
example Ċ:=(za (zo 5) ze)
example ċ:=(za Ì ze)
example Č:=(za Æ ze)
example Ď:=(za Ä (za Í (za (tupS (za Î (za ß ze))) ze)))
example ď(hs:∀ x,foldedSetIterable iter X.env x=pure x):=0
example Đ:=(q_ 3 (xi (zG 5) (xi (zG 6) (xi (zG 7) pZ))))
example đ:=(instS "str" À)
example Ē:=(cS (í "ever"))
example ē(_:Ht N' pick) (_:X.env.scope=esc) (_:X.N=N):=0
example Ĕ:=(zc 6)
example Ė:=(zl yY Þ)
example Ę:=(kA (zl jD È))
example ę:=(za (zb zi Ù Á) (za (zb zi Ù Â) ze))
example Ě:=(tupS (za (tupS (za Á (za Á ze))) ze))
example ě _:=x st k hs λ X=>∃ t,yR X (xV st) t/\yp R g t
example Ĝ _:=x ↑ Â none
example ĝ:=(retS ä)
example Ğ:=["self","row","words","things"]
example ğ:=(zb zi Î Ì)
example Ġ:=(zb zi Ö Á)
example ġ:=(za Ä ze)
example ģ:=(za ä ú)
example ĥ:=(za ñ ze)
example Ħ _:=x ["thing"] 1
example ħ:=(tupS (za (zo 5) (za (zo 6) ze)))
example Ĩ:=["borders","joined","border"]
example ĩ:=(zW (zb Ê Ý (cS (í "floor"))))
example Ī:=(zM R (zP N n g))
example ī:=(retS (xp nu (cS (í "; ")) Ø))
example Ĭ:=(zW (zb Ê À (cS (í "none"))))
example Į:=["self","row"]
example į:=(gX ["a","b"])
example ı _:=x [none,none] (xC lT (za À Ø)) Ð xj
example Ĳ:=(tupS (za Á ù))
example ĳ:=[a,b,c]
example Ĵ:=["floor","place","pair"]
example ķ:=assignEach
example ĸ:=(zl rZ Ø)
example Ĺ:=(za ô ze)
example ĺ:=(mf false)
end
end L5
namespace L5
open PySem PySem.Spec L2 L3
open PyProof.Rows hiding St
def Cm (mg:zSV) (x:Str) (t:V):Prop:=∃ u,mg x=↑u/\L2.RelV t u
def Hs (_:Ï):Prop:=True
def Hq (s:Scope) (n:ý):Bool:=s.names.all (λ y=>!(Ć)||y.1 == ".0"||n.elem y.1)&&(s.names.filter λ y=>Ć).length == n.length+1
def Ht (_:ý) (_:Ą):Prop:=True
section
variable {n:ý}{p:Ą}{x y:ý × Ą}{r:Ï}
def Hs.a (_:Hs ((n,p)::r)):Ht n p:=trivial
def Hs.b (_:Hs (x::(n,p)::r)):Ht n p:=trivial
def Hs.c (_:Hs (x::y::(n,p)::r)):Ht n p:=trivial
end
section
variable {X:Cx}{N' N:ý}{pick:Ą}{scope esc:Scope}{tg iter elt:Expr}{ifs:List Expr}{ti:pz}{g:rS}{tcc:xf}{te:zy}{pos:Pos}
def pl ē (Sc:kM X N' pick scope) Ç ď:
  PD X ë (mX pick ti g tcc te):=Jr è hs
def wJ {a b:Expr}{k:Nat}{t:pU}(h:fj X [a,b] t) İ (hn:(ķ [a,b] X.env).length=2) (hst:(ķ [a,b] X.env).findIdx? (·.1)=none):nV X (.Tuple [a,b] k pos) (gL 2 t):=UW h hc hn hst
def wI {a b c:Expr}{k:Nat}{t:pU}(h:fj X ĳ t) İ (hn:(ķ ĳ X.env).length=3) (hst:(ķ ĳ X.env).findIdx? (·.1)=none):nV X (.Tuple ĳ k pos) (gL 3 t):=UW h hc hn hst
def uE {x y:Str}(h:Cm X.mg x (í y)) þ:PD X (.Name x pos) (dC (í y)):=let #[_,a,b]:=h;Js a b hg hd
def uF {x:Str}{n:Int}(h:Cm X.mg x (.int n)) þ:PD X (.Name x pos) (dC (.int n)):=let #[_,a,b]:=h;Jt a b hg hd
def zZ {i:Nat}{y:Str}{py spos:Pos}ē (hn:X.N.Nodup) (Sc:kM X N' pick scope)
  (hsw:swapsWith ë ↑(.Name y py) spos.line X.env=pure true) Ç (hy:X.N[i]?=↑y) (hx:Loc X.env.scope y)
  (hfn:X.fn y=true\/X.env.scope.names.lookup y=↑.local) ď:
  zv X (.Assign [.Name y py] ë spos) (qy (mX pick ti g tcc te) (hName i)):=Jj è hn hy hx hsw hfn hs
end
abbrev OC (P:Program) (w:World) (K:zFr) (mg:zSV) (base:Heap) (N:ý) (x:Str) (st:Stmt) (k:Nat) (hs:Ï) (Φ:Cx->Prop):Prop:=
 ∀ (f:Addr) Ü,Hs hs->N.Nodup->(ö).rl.N=N->(ö).rl.env.scope=yk st->Ă->Φ (ö).rl
abbrev Va (x q:Str) (st:Stmt) (ps:ý):Prop:=∀ (kV doc pm:Value) (an:Option Addr) (cdv ct:Value) (us:zLV),us.length=ps.length->bindArgs (PySem.W.fnOf x q (nQ st) (xV st) Ķ .none kV doc pm an cdv ct) #[us,[]]=pure (ps.zip us)
def bA {x q:Str}{st:Stmt}{ps:ý}(h:Va x q st ps:=by ext ã):Va x q st ps:=h
section
variable {P:Program}{w:World}{K:zFr}{mg:zSV}{base:Heap}{x:Str}{st:Stmt}{N ps:ý}{k n:Nat}{g:Sm}{R:Rk}[Lo R]
def yj (hs:Ï) (F:Fy K mg x st)
  (hbody:OC Ñ N x ě)
  é
  (hb:Va x x st ps:=by show bA):FD Ñ x (k+1) ps Ī:=
 De F Sc hn hb Ó
def Rv {m qual:Str}(hs:Ï) (F:Fk K m qual st)
  (hbody:OC Ñ N qual ě)
  é
  (hb:jJ st m qual ps:=by ext ã):iO Ñ m (k+1) ps Ī:=
 E_ F Sc hn hb Ó
def ES {f1 f2:zEO}{c:Ev->Option Bool}{ga:Ev->Option (List T)}{s1 s2 s3:Stmt}{rest:List Stmt}(hs:Ï) (F:Fk K "say" "Desk.say" st) (he:xV st=s1::s2::s3::rest)
  (hbody:∀ (f:Addr) Ü,Hs hs->N.Nodup->(î).rl.N=N->(î).rl.env.scope=yk st->y8 k (A.deeper (envOfC "Desk.say" Ķ s.heap.objs.size f cdv))->
   ∃ te1 te2 tc ua tx,(zv (î).rl s1 (qy te1 (hName 2))/\zv (î).rl s2 (qy te2 (hName 3))/\zv (î).rl s3 (jt tc (js (oQ (pE mO) (yN 0) ua)) tx))/\q8 f1 te1/\q8 f2 te2/\qX c tc/\nA ga ua)
  (Sc:pX N Į Ķ:=by show gP) (hb:jJ st "say" "Desk.say" Į:=by intro _ _ _ _ _ _;show Wi λ _ _=>rfl):iM Ñ "say" (k+1) Į (pE (ke N f1 f2 c ga)):=
 EY F Sc hb he Ó
def EH {f:Addr}{fd:FuncData}(hs:Ï) (F:nC K x x st f fd)
  (hbody:∀ Ü,Hs hs->N.Nodup->(ö).rl.N=N->(ö).rl.env.scope=yk st->Ă->
   ∃ t,yR (ö).rl (xV st) t/\yp R g t)
  é:pA Ñ xn (k+1) f fd ps (om K Ī):=
 Rt F Sc hn λ cdv A outer s H E hr=>hbody cdv A ĭ
end
end L5
namespace zY
open PySem L2 L3 L5
abbrev Vc:Sm:=
 (retS (qp (instS "int" À) (Tx (instS "bool" À))))
def f7:zLO:=zP Ħ Vc
abbrev dF:zEO:=
 yV [none,none] (xC lT (za À (za (oX À Ĝ) ze))) Ð xj (zb xw À Ã)
abbrev Vi:Sm:=
 (retS (zl Ò (za dF ze)))
def iL:zLO:=zP ["things"] 1 Vi
abbrev AQ:Sm:=
 (retS (qp đ (zb yW À (tupS ü))))
def WS:zLO:=zP Ħ AQ
abbrev OI:Sm:=
 (retS (zl rZ ð))
def fy:zLO:=zP ["floor"] 1 OI
abbrev OW:Sm:=
 (retS (qp (zb jc Ä å) (zb jc Í ï)))
def cv:zLO:=zP ["pair","other"] 2 OW
abbrev dJ:Sm:=
 (yq (qG (qm (xo Ã)) (zW (zb xw ô (zb zi (zb ĵ (jX Â)) Â)))) (qU 1 ê) yy)
abbrev OK:Sm:=
 (zu (qT 1 ø)
 (zu (wD [2] (yZ (zl i_ Þ)) (zG 2) dJ)
 (retS (zl lr Ø))))
def iJ:zLO:=zP ["pairs","least","pair"] 1 OK
abbrev Pc:Sm:=
 (zu (qU 4 (lB (zW (zb Ê Ö Á)) ħ (tupS (za (zo 6) Ċ))))
 (zu (zV 5 (zb zX æ ă))
 (zV 6 (zl gm (za Á (za (zb rY Ĕ (zb ĵ ĕ)) ze))))))
abbrev A8:Sm:=
 (zu (zV 3 ï)
 (zu (qT 4 ø)
 (zu (zV 5 (zb Ļ Ö))
 (zu (zV 6 (zb Ļ (zb rY Â Ö)))
 (zu (cH 1000000 [] (zW (zb mN æ (zb zi À Ö))) Pc)
 (gh 4))))))
def WA:zLO:=zP ["brims","stall","pair","purse","pairs","given","got"] 3 A8
abbrev OD:Sm:=
 (zu (zV 3 (oX ğ ↑ ç none))
 (zu (zV 4 (zb zX å Ġ))
 (zu (zV 5 (zb zX ï (zb zi Ö Â)))
 (zu (yq (qG (zW (zb xw Ù Á)) (zW (zb xw æ Á))) â yy)
 (retS (tupS (za (zl nk (za Ù ÿ)) (za (zl nk (za æ Ā)) ze))))))))
def W4:zLO:=zP ["floor","pair","way","coins","first","second"] 3 OD
abbrev Vd:Sm:=
 (zu (zV 4 ï)
 (zu (zV 5 (zb rY (zb Ļ Ù) (zb wz Ö ă)))
 (zu (yq (zW (zb xw æ Á)) â yy)
 (zu (zV 6 (zl nk (za (zb zX (zb Ļ (zb rY Â Ù)) (zb wz Ö (zb ĵ ĕ))) (za (zb zi À (zb rY Â Ù)) ze))))
 (zu (yq (zW (zb Ê Ù Á)) (retS ħ) yy)
 (retS (tupS (za (zo 6) Ċ))))))))
def Zx:zLO:=zP ["brims","stall","pair","times","purse","left","got"] 4 Vd
abbrev A0:Sm:=
 (retS (zb zX (zb zX (zb zX (zb zX (zb zX (zb zX (zl yY ġ) (cS (í ">"))) (zl yY ð)) Æ) (zl yY (za Î ze))) Æ) (zl yY (za ß ze))))
def W5:zLO:=zP ["way"] 1 A0
abbrev A1:Sm:=
 (retS (zb zX (zb zX (zb zX (zb zX (zb zX (zb zX (zb zX (cS (í "stall ")) (zl yY ġ)) Æ) (zb zi į Í)) Æ) (zl yY (za Î ze))) Æ) (zl yY (za ß ze))))
def W6:zLO:=zP ["stall"] 1 A1
abbrev Wc:Sm:=
 (yq (zW (zb Ê À (zl yY Ø))) ĝ yy)
abbrev OG:Sm:=
 (zu (yq (zW (zb yW À į)) (retS (zb eP į À)) yy)
 (zu (wD [1] (xC bp (za (jX (cI 12)) (za (zb zX (cI 12) Â) ze))) (zG 1) Wc)
 â))
def Zn:zLO:=zP ["word","number"] 1 OG
abbrev QM:zEO:=
 yV ć (SF À) Ô (zb yW À Ã)
abbrev AV:Sm:=
 (retS (qp (dD mN mN Â ā Ì) (zl Ò (za QM ze))))
def Zv:zLO:=zP ["word","signs","most"] 3 AV
abbrev A2:Sm:=
 (retS (zb zX (zb zX (zl yY ġ) (cS (í ","))) (zl yY ð)))
def W7:zLO:=zP ["pair"] 1 A2
abbrev AD:Sm:=
 (zu (zV 2 Á)
 (zu (yq (zW (zb xw Ã ā)) (zV 2 (zb xN (zb zi À Ã) (zb fU ç (cI 64)))) yy)
 (retS (zb ql (zb xN (zb zX (zb zX (zb wz Ì (cI 46337)) (zb wz (zb wz (cI 2741) Ã) Ã)) (zb wz (cI 59) Ã)) (cI 2147483629)) ç))))
def iK:zLO:=zP ["_law_script","_law_k","_law_cell"] 2 AD
abbrev aV:Sm:=
 (zu (yq (jo (zW (zb Ê (zb ĵ Ö) Û)) (zW (zb Ê (zb xN À ç) Â))) (qU 2 (tupS (za ñ (za (zb xN (zb ql À ç) ç) (za (zb zX Â (zb xN (zb ql À (cI 4)) (cI 12))) (za (zb xN (zb ql À (cI 48)) (cI 13)) ze)))))) yy)
 (zV 0 (zb ql À (cI 624))))
abbrev OP:Sm:=
 (zu (qT 2 ø)
 (zu (wD [3] (xC qN (za ĸ ze)) (zG 3) aV)
 (retS (zl lr ċ))))
def Zs:zLO:=zP ["_law_cell","_law_owners","_law_found","_law_place"] 2 OP
abbrev OO:Sm:=
 (zu (zV 3 (zb zX å (zb zi ğ ç)))
 (zu (zV 4 (zb zX ï (zb zi ğ ĕ)))
 (zu (yq (qG (zW (zb xw Ö Á)) (zW (zb xw Ù Á))) â yy)
 (retS (tupS (za (zl nk (za Ö ÿ)) (za (zl nk (za Ù Ā)) ze)))))))
def WG:zLO:=zP ["_law_floor_here","_law_pair","_law_way","_law_first","_law_second"] 3 OO
abbrev QK:zEO:=
 yV ć (yZ ß) (zG 0) (zW (zb Ê Ä Ã)) Õ
abbrev aW:Sm:=
 (zu (yq (qG (zW (zb Ê æ ø)) (zW (zb xw (zb zi Ù (zb zi õ Â)) (zb zi õ ç)))) â yy)
 (zu (zV 7 (zb zi õ Â))
 (zu (gr 4 ò (zb rY (zb zi Ù ò) (zb zi õ ç)))
 (gr 4 (zb rY Â ò) (zl nk (za (zb zX (zb zi Ù (zb rY Â ò)) (zb zi õ ĕ)) (za (zb zi Ä (zb rY Â ò)) ze)))))))
abbrev AK:Sm:=
 (zu (qT 4 (zl listS ċ))
 (zu (zV 5 QK)
 (zu (wD [6,7] (xC qN (za (zl nk (za Ö (za (cI 14) ze))) ze)) (zG 6) aW)
 (retS (tupS ę)))))
def WM:zLO:=zP ["_law_floor_here","_law_place","_law_pair","_law_times","_law_held_here","_law_stalls_here","_law_k","_law_purse"] 4 AK
abbrev aU:Sm:=
 (qU 1 (zb zX (zb zX (zb zX (zb zX (zb zX (zb zX (zl yY (za Ý ze)) (cS (í ">"))) (zl yY Ĺ)) Æ) (zl yY (za (zb Ļ ç) ze))) Æ) (zl yY (za (zb Ļ ĕ) ze))))
abbrev aO:Sm:=
 (qU 1 (xp nu Æ (za (y_ (za (cS (í "stall")) (za (zl yY (za Ġ ze)) (za (zb zi (cS (í "ab")) (zb zi Ö Â)) (za (zl yY (za (zb zi Ö ç) ze)) (za (zl yY (za (zb zi Ö ĕ) ze)) ze)))))) ze)))
abbrev OM:Sm:=
 (zu (qT 1 (zb zX á (zl listS ð)))
 (zu (wD [2] (yZ Î) (zG 2) aU)
 (zu (wD [3] (yZ ß) (zG 3) aO)
 ī)))
def WE:zLO:=zP ["_law_floor_here","_law_parts","_law_way","_law_stall"] 1 OM
abbrev Pf:Sm:=
 (zu (cQ (xp fZ Ì (za (cS (í ",")) ze)) (q_ 3 (xi (zG 3) (xi (zG 4) (xi (zG 5) pZ)))))
 (qU 1 (tupS (za (zl jb (za Ö ze)) (za (zl jb (za æ ze)) ze)))))
abbrev AL:Sm:=
 (zu (yq Ĭ (retS ø) yy)
 (zu (qT 1 ø)
 (zu (wD [2,3,4,5] (yZ (xp pb À Č)) (zG 2) Pf)
 (gh 1))))
def cj:zLO:=zP ["_law_text_here","_law_found","_law_word","_law_first","_law_sign","_law_second"] 1 AL
abbrev QJ:zEO:=
 yV [none,none,↑1] (yZ À) Ð xj (qp (zb jc Ý À) (zb jc ô Ã))
abbrev AH:Sm:=
 (retS (zl (o9 λ bs=>bs.any id) (za QJ ze)))
def WJ:zLO:=zP ["_law_border_here","_law_pair"] 2 AH
abbrev Z5:Sm:=
 (retS (qp (zl f7 Ë) (dD mN mN Ã À Ì)))
def kK:zLO:=zP ["thing","least","most"] 3 Z5
abbrev XU:zEO:=
 yV ó (zl WS Ë)
abbrev Vj:Sm:=
 (zu (yq (qG Ĉ (qm (zW (dD mN mN Â ā (cI 8))))) Å)
 (retS (zl Ò (za XU ze))))
def cy:zLO:=zP Ħ Vj
abbrev aM:zEO:=
 yV ć (yZ À) Ô (zl cv (za ä Ë))
abbrev OT:Sm:=
 (retS (zl (o9 λ bs=>bs.any id) (za aM ze)))
def cn:zLO:=zP ["border","pair"] 2 OT
abbrev QN:zEO:=
 yV ó (tupS (za Ä (za Á ð)))
abbrev QC:zEO:=
 yV Ģ (yZ Ã) Ô (tupS (za Ä (za Â ð)))
abbrev Pj:Sm:=
 (zu (X0 3 Ĕ (zl nk (za ò (za (X3 3 Ĕ (zo 7)) ze))))
 (yq (zW (zb Ê (aE 3) ç)) (qU 4 (tupS (za (zo 5) (za (zl gm (za (dk 3 Á) (za (dk 3 Â) ze))) ze)))) yy))
abbrev AZ:Sm:=
 (zu (zV 2 (zb zX QN QC))
 (zu (RP 3)
 (zu (qT 4 ø)
 (zu (wD [5,6,7] (yZ (zl i_ ċ)) Đ Pj)
 (aw 4 (retS (zl iJ ì)))))))
def Zy:zLO:=zP ["border","other","steps","lows","shared","first","side","second"] 2 AZ
abbrev OU:Sm:=
 (retS (zl iJ (za (zb zX (zl listS Þ) (zl listS Ø)) ze)))
def cp:zLO:=zP ["border","other"] 2 OU
abbrev XQ:zEO:=
 yV ć (yZ Ì) Ô (tupS (za (zl gm (za Á (za (zb rY Ä ă) ze))) (za (zl gm (za Á (za (zb rY Í (zb ĵ ĕ)) ze))) ze)))
abbrev CN:zEO:=
 yV [none,↑0] (yZ Ö) (zG 0) (xo (zl cv (za ä Ë))) Õ
abbrev zac:Sm:=
 (zu (zV 3 XQ)
 (retS (zl iJ (za CN ze))))
def WX:zLO:=zP ["brims","way","border","pairs"] 3 zac
abbrev XM:zEO:=
 yV Ģ (yZ Î) Ô (zl W5 Ë)
abbrev XG:zEO:=
 yV Ģ (yZ ß) Ô (zl W6 Ë)
abbrev OE:Sm:=
 (zu (qT 1 á)
 (zu (eZ 1 Í)
 (zu (jl 1 XM)
 (zu (jl 1 XG)
 ī))))
def cb:zLO:=zP ["floor","parts"] 1 OE
abbrev QF:zEO:=
 yV ó (zl Zn Ë)
abbrev A5:Sm:=
 (retS (zl lr (za QF ze)))
def iH:zLO:=zP ["words"] 1 A5
abbrev AU:Sm:=
 (retS (qp (zl Zv (za Õ (za (cS (í "0123456789")) (za (cI 4) ze)))) (bG (zb Ê À (cS (í "0"))) (zb û Ä (cS (í "0"))))))
def Zu:zLO:=zP ["word"] 1 AU
abbrev QD:zEO:=
 yV ó (zl W7 Ë)
abbrev A3:Sm:=
 (retS (lB (xo À) (xp nu Æ (za QD ze)) (cS (í "none"))))
def W8:zLO:=zP ["border"] 1 A3
abbrev dM:Sm:=
 (zu (zV 7 (zl iK (za Õ (za (zb zX Ã Ĕ) ze))))
 (zu (zV 8 (zb xN ò Ì))
 (zu (yq (zW (zb xw Ĕ Ì)) (zV 8 (zo 6)) yy)
 (zu (qT 9 (y_ (za (zb rY (zb xN (zb ql ò (cI 64)) (zb zX (zb wz ç Ù) Â)) Ù) (za (zb rY (zb xN (zb ql ò (cI 2048)) (zb zX (zb wz ç Ù) Â)) Ù) ze))))
 (zu (yq (zW (zb Ê (zb xN (zb ql ò (cI 65536)) (cI 5)) Á)) (gr 9 (zb xN (zb ql ò (cI 327680)) ç) Á) yy)
 (qU 5 (tupS (za (zo 8) (za (zb xN (zb ql ò (cI 8)) Ì) (za (zb zi (zc 9) Á) (za (zb zi (zc 9) Â) ze)))))))))))
abbrev OL:Sm:=
 (zu (qT 5 ø)
 (zu (wD [6,7,8,9] (xC qN (za (zb zX Ì Ö) ze)) (zG 6) dM)
 (retS (zl lr (za (zl iZ (za æ ze)) ze)))))
def Zr:zLO:=zP ["_law_script","_law_at","_law_many","_law_more","_law_span","_law_found","_law_k","_law_number","_law_start","_law_coins"] 5 OL
abbrev AB:Sm:=
 (zu (yq (jo (xo Ì) (zW (zb xw Ã ā))) (retS (zb xN (zb zi À Ã) (zb fU (cI 10) (cI 64)))) yy)
 (zu (zV 3 (zl iK È))
 (retS (zb zX (zb wz (zb wz Ö Ö) Ö) (zb wz (cI 104729) Ö)))))
def WH:zLO:=zP ["_law_script","_law_at","_law_digits","_law_mixed_here"] 3 AB
abbrev QI:zEO:=
 yV Ģ (xC qN (za (cI 13) ze)) Ô Ė
abbrev Pe:Sm:=
 (zu (cQ (xp fZ Ù (za (cS (í ",")) ze)) Đ)
 (yq (qG (zW (zb (qR true) æ Ö)) (zW (zb (qR true) ò Ö))) Å))
abbrev Pa:Sm:=
 (zu (yq (qG (zW (zb Xh (zc 9) å)) (qG (zW (zb Xh (zc 10) ï)) (qG (zW (zb mN (zc 9) (zb zi (zc 8) Á))) (zW (zb jc (zc 10) (zb zi (zc 8) Â)))))) Å)
 (zV 8 (tupS (za (zo 9) (za (zo 10) ze)))))
abbrev AG:Sm:=
 (zu (yq Ĭ ą yy)
 (zu (zV 2 (xp pb À Č))
 (zu (zV 3 QI)
 (zu (wD [4,5,6,7] (yZ ê) (zG 4) Pe)
 (zu (zV 8 (tupS (za (zb rY Á Â) (za (cI 99) ze))))
 (zu (wD [9,10] (yZ (zl cj Ë)) (q_ 2 (xi (zG 9) (xi (zG 10) pZ))) Pa)
 ą))))))
def WI:zLO:=zP ["_law_text_here","_law_brims","_law_pairs","_law_known","_law_word","_law_first","_law_sign","_law_second","_law_ahead","_law_x","_law_y"] 2 AG
abbrev AE:Sm:=
 (zu (zV 5 (zl WG (za Õ (za ñ ì))))
 (retS (qp (zb (mf true) æ č) (zl WJ (za (zb ĵ (zb zi (zb zi Î Ù) Â)) Ċ)))))
def Zt:zLO:=zP ["_law_floor_here","_law_edges","_law_place","_law_held_here","_law_way","_law_behind"] 5 AE
abbrev gZ:zEO:=
 yV ı (zl kK (za Õ (za å (za ï ze))))
abbrev Z6:Sm:=
 (zu (yq (qG Ĉ (zW (zb û ā ĸ))) Å)
 (retS (zl Ò (za gZ ze))))
def kL:zLO:=zP ["thing","bounds"] 2 Z6
abbrev AX:Sm:=
 (yq (qm (xo (zl kK (za ä (za Á (za (zb rY (zl fy Ë) Â) ze)))))) l9 yy)
def jD:zLO:=zP ["floor","place"] 2 AX
abbrev Pk:Sm:=
 (zV 1 (zl cp ģ))
abbrev zaa:Sm:=
 (zu (zV 1 (tupS ze))
 (zu (wD [2] (yZ Õ) (zG 2) Pk)
 ĝ))
def WV:zLO:=zP Ĩ 1 zaa
abbrev Pl:Sm:=
 (zV 1 (zl Zy ģ))
abbrev zab:Sm:=
 (zu (zV 1 Ě)
 (zu (wD [2] (yZ Õ) (zG 2) Pl)
 ĝ))
def WW:zLO:=zP Ĩ 1 zab
abbrev Ph:Sm:=
 (yq (qm (xo (zl cn (za (zb zi Ù Ã) ú)))) (retS ñ) yy)
abbrev AW:Sm:=
 (zu (wD [3,4] (xC jn Ë) (q_ 2 (xi (zG 3) (xi (zG 4) pZ))) Ph)
 â)
def WT:zLO:=zP ["told","place","pair","number","held"] 3 AW
abbrev AA:Sm:=
 (zu (zV 4 (zl W4 (za Õ ģ)))
 (retS (qp (zb (mf true) Ù č) (zl cn (za (zb zi Ö (zb zi ğ Â)) ì)))))
def WD:zLO:=zP ["floor","pair","way","held","behind"] 4 AA
abbrev dI:Sm:=
 (yq (zW (zb yW Ù (tupS ü))) (qU 1 Ĥ) (yq (xo (xp iU Ù (za (cS (í "stall ")) ze))) (qU 3 (zl iH (za (oX (xp pb Ù Č) Ĝ) ze))) (qU 2 (zl iH (za (xp pb (Yl ">" " " Ù) Č) ze)))))
abbrev OH:Sm:=
 (zu (qT 1 ø)
 (zu (qT 2 ø)
 (zu (qT 3 ø)
 (zu (wD [4] (yZ (oX À Ĝ)) (zG 4) dI)
 (zu (zV 5 (zl iH (za (oX (xp pb Ä Č) Ĝ) ze)))
 (retS (tupS (za (zo 5) (za (zl lr Ø) (za (zl lr ċ) (za (zl lr (za Ö ze)) ze)))))))))))
def Zo:zLO:=zP ["parts","owners","ways","stalls","part","brims"] 1 OH
abbrev AR:Sm:=
 (zu (yq (zW (zb Ê Ã (cS (í "text")))) ą yy)
 (zu (yq (zW (zb Ê Ã (cS (í "number")))) (retS (zl Zu Ë)) yy)
 (retS (zl Zv (za Õ (za (cS (í "abcdefghijklmnopqrstuvwxyz")) (za (cI 8) ze)))))))
def jC:zLO:=zP ["word","form"] 2 AR
abbrev dN:Sm:=
 (qU 6 (zb zi (y_ ü) (zb Wb (zb Yc æ ò) Â)))
abbrev Vb:Sm:=
 (zu (zV 5 (zl iK È))
 (zu (qT 6 ø)
 (zu (wD [7] (xC qN ċ) (zG 7) dN)
 (zu (zV 8 (zb zi (y_ (za Â (za ç (za ĕ ù)))) (zb xN (zb ql æ (cI 256)) (cI 4))))
 (zu (zV 9 (tupS ze))
 (zu (yq (zW (zb Ê (zb xN (zb ql æ (cI 1024)) ĕ) Â)) (aw 6 (zV 9 (zl Zs (za (zl WH (za Õ (za (zb zX Ã Â) (za (zb Ê (zb xN (zb ql æ (cI 3072)) ç) Â) ze)))) (za (zo 6) ze))))) yy)
 (retS (tupS (za ñ (za (zl lr (za Ĕ ze)) (za (zl Zr (za Õ (za (zb zX Ã ç) (za ê (za Ĥ (za (zo 8) ze)))))) (za (zo 9) ze))))))))))))
def f6:zLO:=zP ["_law_script","_law_at","_law_many","_law_brims","_law_more","_law_number","_law_owners","_law_place","_law_span","_law_stalls_here"] 5 Vb
abbrev zah:Sm:=
 (zu (yq (zW (zb Ê Ì (cS (í "number")))) (retS (zl jb Ø)) yy)
 (zu (yq (zW (zb û Ì (cS (í "floor")))) ĝ yy)
 (zu (yq (YQ 0 1) l9 yy)
 (retS (YS 0 1)))))
def jE:zLO:=zP ["self","word","form"] 3 zah
abbrev XT:zEO:=
 yV ć (yZ À) Ô (zl kL È)
abbrev Vh:Sm:=
 (retS (qp (instS "tuple" À) (zl Ò (za XT ze))))
def fA:zLO:=zP ["thing","bounds"] 2 Vh
abbrev OX:Sm:=
 (retS (zl kL (za Õ (za (tupS (za Ĳ (za Ĳ ze))) ze))))
def Z2:zLO:=zP Ħ OX
abbrev AY:Sm:=
 (yq (qm (xo (zl kL (za ä (za (tupS (za (tupS (za Á ÿ)) (za (tupS (za Á Ā)) ze))) ze))))) l9 yy)
def Zw:zLO:=zP ["floor","pair"] 2 AY
abbrev CO:zEO:=
 yV [none,none,↑1] (xC jn (za Î ze)) Ð (zW (zb Ê å Ì)) Õ
abbrev Ay:Sm:=
 (zu Ę
 (retS CO))
def Zm:zLO:=zP ["floor","place"] 2 Ay
abbrev aQ:Sm:=
 (yq (zW (zb Ê Ý Ã)) (retS ê) yy)
abbrev Az:Sm:=
 (zu Ę
 (zu (wD [2] (yZ ß) (zG 2) aQ)
 â))
def d_:zLO:=zP ["floor","place","stall"] 2 Az
abbrev QO:zEO:=
 yV ı (zl jC È)
abbrev zae:Sm:=
 (retS (qp (zb Ê ā ĸ) (zl Ò (za QO ze))))
def WZ:zLO:=zP ["words","forms"] 2 zae
abbrev XR:zEO:=
 yV ó Ä
abbrev XI:zEO:=
 yV [none,↑4] (xC qN Ø) Ô (zb yW À Ã)
abbrev Vf:Sm:=
 (zu (zV 2 (tupS (za Á (za (zb rY Ã Â) ze))))
 (zu (zV 3 (tupS (za (jX (cI 12)) ù)))
 (zu (yq (qm (xo (zl fA (za Õ (za (tupS (za ê (za ê (za ñ ĥ)))) ze))))) Å)
 (zu (zV 4 XR)
 (retS (qp (zb mN ā (cI 24)) (qp (zl iL Ë) (zl Ò (za XI ze)))))))))
def cw:zLO:=zP ["thing","places","place","coins","starts"] 2 Vf
abbrev XS:zEO:=
 yV ó Ä
abbrev XJ:zEO:=
 yV ć (yZ À) Ô (zb Ê (zb ĵ Ä) Û)
abbrev Vg:Sm:=
 (zu (zV 2 (tupS (za Á (za (zb rY ĸ Â) ze))))
 (zu (yq (qm (xo (zl fA (za Õ (za (tupS (za ê (za (tupS (za Á (za Â ze))) (za (tupS (za Â ù)) (za Ĳ ze))))) ze))))) Å)
 (retS (qp (zl iL (za XS ze)) (zl Ò (za XJ ze))))))
def cx:zLO:=zP ["thing","owners","place"] 2 Vg
abbrev Pm:Sm:=
 (jl 4 (zl WA (za Ä (za ñ Ċ))))
abbrev zad:Sm:=
 (zu (zV 3 (zl d_ È))
 (zu (yq (zW (zb ĺ Ö č)) (retS ê) yy)
 (zu (qT 4 ø)
 (zu (wD [5] (yZ ê) (zG 5) Pm)
 (aw 4 (retS (zl iJ ì)))))))
def WY:zLO:=zP ["floor","place","border","stall","pairs","pair"] 3 zad
abbrev Ve:Sm:=
 (zu (yq (zW (zb Ê Ö Á)) (retS (tupS (za Ý Ĺ))) yy)
 (zu (zV 4 (zl d_ È))
 (zu (yq (zW (zb ĺ Ù č)) â yy)
 (retS (zl Zx (za Ä (za Ĥ (za ê ĥ))))))))
def cu:zLO:=zP ["floor","place","pair","times","stall"] 4 Ve
abbrev nL:List (Str× ý):=[("floor",["name","text"]),("show",["floor"]),("mirror",["name","floor"]),("border",["floor","number"]),("lasts",à),("deed",à),("way",à),("alone",["floor","number"]),("cheapest",à),("brims",["floor","number","number"]),("compare",["floor","floor"])]
abbrev A6:Sm:=
 (zu (yq (qm (xo đ)) l9 yy)
 (zu (zV 1 (lB (xo (xp iU À (za (cS (í "floor ")) ze))) (xp cY À (za Æ (za ç ze))) (xp pb À Č)))
 (zu (yq (qG (ZO (nL.map (·.1)) å) (qm (xo (zl WZ (za (oX Ã Ĝ) (za (cP nL å) ze)))))) l9 yy)
 ĝ)))
def iI:zLO:=zP ["row","words"] 1 A6
abbrev OS:Sm:=
 (zu (yq (qG Ĉ (zW (zb û ā (cI 4)))) Å)
 (zu (yq (qG (qm (xo (zl Z2 ġ))) (qm (xo (zl cy ð)))) Å)
 (retS (qp (zl cw (za Î (za (zl rZ ð) ze))) (zl cx (za ß ð))))))
def f9:zLO:=zP Ħ OS
abbrev QH:zEO:=
 yV [none,↑0] (yZ (zl Zm È)) Ô (zb zi ă À)
abbrev Q9:zEO:=
 yV [none,↑0,↑2] (yZ Ö) Ô (zl WX (za å (za Õ (za (zb Ļ Í) ze))))
abbrev OJ:Sm:=
 (zu (zV 3 QH)
 (zu (zV 4 Q9)
 (zu (yq (zW (zb Ê (zb zi Í Ã) Û)) (retS (zl WY (za Õ (za ä (za (zl WV ì) ze))))) yy)
 (retS (zl WW ì)))))
def WC:zLO:=zP ["floor","place","last","ways","ahead"] 3 OJ
abbrev We:Sm:=
 (yq (xo (zl WD (za Õ (za (zo 6) (za (zo 7) ĥ))))) (retS (tupS (za (zo 5) (za (zo 7) ze)))) yy)
abbrev Pb:Sm:=
 (zu (wD [7] (yZ Ĥ) (zG 7) We)
 (zu (zV 5 (zb zX æ Â))
 (zV 6 (zl cu (za Õ (za ä (za ê Ċ)))))))
abbrev OV:Sm:=
 (zu (zV 4 (zl Zm È))
 (zu (zV 5 Á)
 (zu (zV 6 ê)
 (zu (cH 1000000 [7] (zW (zb (mf true) Ĕ č)) Pb)
 â))))
def WU:zLO:=zP ["floor","place","pair","held","ways","times","ready","way"] 4 OV
abbrev QG:zEO:=
 yV [none,↑2] (yZ Î) (zG 0) (zW (zb yW Í Ã)) Ä
abbrev Pd:Sm:=
 (gr 3 Ù (zl WC (za Õ (za Ĥ ė))))
abbrev A9:Sm:=
 (zu (qT 3 (zl listS Ø))
 (zu (wD [4] (yZ (zl iZ (za QG ze))) (zG 4) Pd)
 (gh 3)))
def WB:zLO:=zP ["floor","last","fresh","following","place"] 3 A9
abbrev A7:Sm:=
 (zu (yq (qm (xo đ)) l9 yy)
 (zu (zV 1 (zl Zo (za (xp pb À (za (cS (í "; ")) ze)) ze)))
 (zu (yq (qG (qm (xo (zl f9 ė))) (zW (zb û (zl cb ė) À))) l9 yy)
 ĝ)))
def cg:zLO:=zP ["text","floor"] 1 A7
abbrev QE:zEO:=
 yV [none,none,↑3] (xC jn (za Ù ze)) Ð (zW (zb û Ã (zb Ļ À))) Õ
abbrev aR:Sm:=
 (zu (zV 3 (zb ĵ (jX Â)))
 (zu (zV 4 (zl WB (za Õ (za ñ ú))))
 (zu (zV 2 QE)
 (yq (xo Ì) (qU 1 Ĥ) yy))))
abbrev A4:Sm:=
 (zu (qT 1 (y_ (za (zb wz (y_ (za Ě ze)) (zl fy Ë)) ze)))
 (zu (zV 2 (zl b_ (za (zl fy Ë) ze)))
 (zu (cH 1000000 [3,4] (xo Ì) aR)
 (gh 1))))
def kJ:zLO:=zP ["floor","told","fresh","last","following"] 1 A4
abbrev AN:Sm:=
 (zu Ę
 (zu (kA (zl Zw (za Õ ú)))
 (retS (zl WT (za (zl kJ Ë) ģ)))))
def WO:zLO:=zP Ĵ 3 AN
abbrev A_:Sm:=
 (retS (zb zi (zl kJ Ë) (jX Â)))
def Zz:zLO:=zP ["floor"] 1 A_
abbrev AO:Sm:=
 (zu Ę
 (zu (kA (zl Zw (za Õ ú)))
 (zu (yq (zW (zb û (zb zi Í Ã) Û)) â yy)
 (retS (zl WU (za Õ (za ä (za ê (za (zl Zz Ë) ze)))))))))
def WR:zLO:=zP Ĵ 3 AO
abbrev zag:Sm:=
 (zu (kA (zl jD (za Ä ð)))
 (retS (zl W8 (za (zb zi (zl Zz ġ) Í) ze))))
def cC:zLO:=zP ["things"] 1 zag
abbrev OY:Sm:=
 (zu (zV 1 (zl WO Ď))
 (retS (lB (zW (zb ĺ Ã č)) Ē (zl yY Ø))))
def cz:zLO:=zP ["things","steps"] 1 OY
abbrev zaf:Sm:=
 (zu (zV 1 (zl WR Ď))
 (retS (lB (zW (zb ĺ Ã č)) (cS (í "-")) (zb zX (zb zX (zl yY (za å ze)) Æ) (zl yY (za ï ze))))))
def cA:zLO:=zP ["things","deed"] 1 zaf
abbrev aZ:List (Str×(List T->Option T)):=[("border",cC),("lasts",cz),("deed",cA)]
abbrev XW:zEO:=
 yV [none,none,↑0] (xC lT (za (oX Ì Ĝ) (za (cP nL Ý) ze))) Ð xj (mZ (gR jE) (za Ì (za À Ø)))
abbrev zai:Sm:=
 (zu (zV 2 (zl iI ė))
 (zu (zV 3 XW)
 (zu (yq ĩ l9 yy)
 (zu (yq (zW (zb Ê Ý (cS (í "mirror")))) l9 yy)
 (retS (Wm aZ Ý ĥ))))))
def lR:zLO:=zP Ğ 2 zai
def Wr:KF:=ke Ğ (zl iI ė) XW ĩ (za Ġ (za (zl cg (za (zb zi Ö Â) ze)) ze))
abbrev aL:zEO:=
 yV Ģ (yZ (y_ (za ñ ę))) Ô Ė
abbrev QA:zEO:=
 yV Ģ (xC qN (za (cI 14) ze)) Ô Ė
abbrev Q8:zEO:=
 yV Ú Ė
abbrev AJ:Sm:=
 (zu (zV 5 (xp pb (mZ (gR lR) (za À (za (xp nu Æ (za (zb zX (y_ (za (cS (í "deed fa")) ze)) aL) ze)) ze))) Č))
 (zu (zV 6 QA)
 (zu (zV 7 Q8)
 (zu (yq (qG (zW (zb û (zl rZ (za æ ze)) ç)) (qG (zW (zb (qR true) õ Ĕ)) (zW (zb (qR true) (zb zi æ Â) ò)))) Å)
 (zu (zV 8 (zl WM (za ä (za ñ (za Ĥ (za (zl jb (za õ ze)) ze))))))
 (retS (qp (zb (mf true) (zc 8) č) (zl Zt (za ä (za ê (za ñ (za (zo 8) (za (zl jb (za (zb zi æ Â) ze)) ze)))))))))))))
def WL:zLO:=zP ["_law_desk","_law_floor_here","_law_edges","_law_place","_law_pair","_law_words","_law_times","_law_some","_law_held_here"] 5 AJ
abbrev XN:zEO:=
 yV Ģ (yZ (y_ (za ä (za Ý Ĺ)))) Ô Ė
abbrev AF:Sm:=
 (retS (mZ (gR lR) (za À (za (xp nu Æ (za (zb zX (y_ (za (cS (í "lasts fa")) ze)) XN) ze)) ze))))
def jB:zLO:=zP ["_law_desk","_law_place","_law_pair"] 3 AF
abbrev Wd:Sm:=
 (yq (jo (zW (zb jc (zl bP (za Ù ze)) Á)) (zW (zb yW (zl jB (za Õ (za ä ì))) (y_ (za Ē (za (cS (í "0")) (za (cS (í "")) ze))))))) Å)
abbrev AI:Sm:=
 (zu (zV 3 (y_ (za (tupS (za (zb rY Ý Â) Ĺ)) (za (tupS (za Ý (za (zb rY ô Â) ze))) ze))))
 (zu (wD [4] (yZ ñ) (zG 4) Wd)
 (retS (zb Ê (zl jB (za Õ ģ)) Ē))))
def WK:zLO:=zP ["_law_desk","_law_place","_law_pair","_law_some","_law_one"] 3 AI
abbrev QL:zEO:=
 yV Ú Õ
abbrev QB:zEO:=
 yV [none,↑1,↑2,↑3,↑4] (yZ æ) Ô (zl Zt (za ä (za ê (za ñ (za Ĥ Ë)))))
abbrev OQ:Sm:=
 (zu (yq (qm (xo (zl WK (za Õ (za ñ ì))))) Å)
 (zu (yq (zW (zb Ê (zb zi ï Ö) Û)) (retS (zl WL (za Õ (za ä (za ê (za ñ ì)))))) yy)
 (zu (zV 5 QL)
 (retS (zl Ò (za QB ze))))))
def WN:zLO:=zP ["_law_desk","_law_floor_here","_law_edges","_law_place","_law_pair","_law_some"] 5 OQ
abbrev XO:zEO:=
 yV [none,↑4] (xC qN ċ) Ô (mZ (gR lR) (za Ã (za (zb zX (cS (í "border fa ")) Ė) ze)))
abbrev XH:zEO:=
 yV [none,↑3] (yZ æ) Ô (qp đ (zl WI (za Õ (za å ze))))
abbrev XF:zEO:=
 yV Ģ (yZ æ) Ô (zl cj Ë)
abbrev Pg:Sm:=
 (yq (qm (xo (mZ WN (za Ù (za Ö (za Ĕ (za ò (za (zc 8) ze)))))))) Å)
abbrev aP:Sm:=
 (zu (wD [8] (yZ (zb zi Ĕ ò)) (zG 8) Pg)
 (yq (zW (zb û (zb Ê (mZ jB (za Ù (za ò (za Ġ ze)))) Ē) (zb û (zb zi Ĕ ò) ø))) Å))
abbrev AM:Sm:=
 (zu (zV 1 (zl iK (za Õ (za Á ze))))
 (zu (zV 2 (zb zX Â (zb xN Ã ĕ)))
 (zu (zV 3 (zl f6 (za Õ (za ç (za ê (za (tupS (za (zb xN (zb ql Ã (cI 4)) (cI 5)) (za (zb xN (zb ql Ã (cI 24)) (cI 5)) ze))) (za (zb xN (zb ql Ã (cI 144)) (cI 7)) ze)))))))
 (zu (RO 4)
 (zu (fN 4 Wr (zb zX (cS (í "floor fa ")) (zl WE ĥ)) yy)
 (zu (zV 5 XO)
 (zu (yq (qm (xo (zl Ò (za XH ze)))) Å)
 (zu (zV 6 XF)
 (zu (wD [7,8] (xC qN ċ) (zG 7) aP)
 ą)))))))))
def ck:zLO:=zP ["_law_script","_law_number","_law_many","_law_floor_here","_law_desk","_law_texts","_law_edges","_law_place","_law_pair"] 1 AM
end zY
namespace PySem.W.Fast
def te14368902547192427675:=0
)
local macro_rules|`(command|example:=$s:str)=>do
 let mut r:Array Lean.Syntax:=.empty
 let mut n:=0
 let mut k:=0
 for c in s.getString.toList do
  let a:=c.toNat
  n:=n*62+(if a>96 then a-61 else if a>64 then a-55 else a-48)
  k:=k+1
  if k==11 then
   let i:=Lean.mkIdent (.mkSimple s!"tw{n}")
   r:=r.push (<-`(command|theorem $i:ident:True:=trivial))
   n:=0
   k:=0
 return Lean.mkNullNode r
example:="4qG34w15puo7JOpFXW8MU25SkIty1PrnM2CrdbstqcSM3xfXf0uoU7N4pP1Ecmv3iR6mO8lW1jKVn5h6sS6zsx7mFvTsx9G6L1222vJFU8gbsWJ6dTRneigA6AarNHqeTMzGH0lprpTo4Na8KUCA4ycYksISjqe30dSz6KehXicgJV6MLxoEQnfnmBzF9jIVOD28NA8K6SFkxnA0U7fwKDMqpv0C6l2eLKBmXhl6ZYvhGnxs93FebQvoeocIz3w7hMFLhSx13a8jOETHarDLkWIMbmIKzwLMa61VEbTwb0yyrSUTx5CuHSLOIEc1BEt9Z686GTUaJgKGOXUmylZHo5kL16aiVkTg3Zn3sg67mLLDN1QR6XMlFXKORalKpburIKEHB0P9RrNkIHBBJmg6dpqDhjmBtSzTk09impu4Tb1MH666arJi7ZUT5xTY2XDilje1J1vKpsEtyAFCMNeKCAUscBeI7JDNq95qKV92B9dkPsSFIiFvrGgS6o7Ft2ZHWwLvJKHWYUvkOnWSCsEQoSSYlY0CQsU6nmNP2y806DPBY1mDG3AQB7fejJWhKtcto3ZRebvJeHRBxYGIOyIl54GsxDj6w776HICPDgaT0FwgLBBu9A94LFmKNTg1WpBIe08i7KYwaF2frhDnV0IxBzoISWGsxmHLfH3jxtPS9t1B3os2fTq8p7grrKC9VcCD34pguaiA0OrLcOtpprepowHUOiGklMO2i6OvMtMyMrXaLpQEjQGT8IC85mgjFTQCkJBc38YD3conD2eKEArqOuV25k3zjWsxHrf2X9bVTqyf38JEAyHwj3j9H4McJRIJj3mG8sadu8rCSyPCr3cC9lv2bi2ptTnyfxaMfIiJhAhYqaybAzc7AR7qjB6KrjJJjutjslDNrZSPsDHmq3bWvV7CQzgn1F6nlIKBz085RoCXyyz4j1Afh4zlQjLNpCJQ4SKeEhQK1Megv3g6wZt44ovFO7plfbJbDicbW1EHe3yzhO2YXKMxFsu28483JWv260uSsW2zckEO2tBR72aQo0JE6ZKzXcum9UAtfeH5FBQLBxJ1WjqCXW16wpaLASHAYHaUR1PPPSjKGQfUlSmY2XbJwx1Bo0euJn63yXC7iZjVR33fSM1yMbA0GY1srFUf3pQ29mBK1wwlGc7m8KB04D9PR7dwZFlKkOa57rRYogg8x2eFlvHnU7mAvS8wCj34PqHscIpmDNUARhonFP2Fgf0HNAN2x3uOYD9dWI1hgelYWYiudFOLxtrp6GRSEc7PFATTffr8JUciqinec6H97FJgI9axh4oQKK43lhqZ66tCly0WJrvEka80WjbYVmLVFz7JOpQUFGt87gGXOq5h7AvbQsncGUVK3dmjV9EXerKkhRnT8N8S86cc0Z1ovHQi0zoZiFXpjflECROiNgDMrpGSrSi6qgQVtHmpdU3itHedCWAsbnukyWKGFo8z7Ik0VF9jboF9pWeXA0MgVnLLDTBX0tzWRmby5AR4WEKQ6mlxfVEbSECjQ6OhyFhoOUdCD4C70HHXQICU6ivJxAqnVmQVUiBlcorY2dXi6LueP8xWNNyhD7OPRaNlp0N33FXLBTrWXnKfgUUgaCOxW5yUMl0ZHXEbK3JbO9bTWQK38fgExDXQYH02IaM9V3vey9h2x4zyP5fk0XeZ8ClC6Ke7aQcCiL0lyWBLnP7uJVW4aGfVZlcG1JPoBPDKZWAckWG7PHeiNiPYd0GOnDw0gJbXSEo7Cz0NCDBzGE8ln879axhGAow7c7l6BW7oKowp91hu6BnZ9k51T6m2FOvao72QPG1L4ZpksP0riT57qA7L8dqeNIb2aze3UpGQCzwkDBsgarS9L3hUovHUmCGdoN8yuit7b4rNIWfAN7ID2XLMDcV9iJfHhcrDxRqG7sLawt7JiG1wfGDF12AomqeWGkpl3c3Q1tyHaZYK04YaXBB7HxCV1LyUfK3kar4yxOTV1EA3laXsorV06AkDr2T9TnJWmWmjzfO6C9hydMchKUXIJrZyfd7n8PCEJU3xXSkyVsDktEtZxqDodAGFsBsG2Wpy55Qe0YZplOLFlIv5oR3okK9lXWX8FbAT10Of4ZWcRaHT4Voa5dyJd92B5v5aZfbwBz5bVDDscp3JCKItIhidBDVODLVatpsRMaV323T4FC8gdIBK10SFEtakn5XoYNdU9kPUAuCGNLGT7wb6bfhiEnU0VNFlaOx1LjpTHJHxo3lSY7UACJi0CdFYheA4MVgsZ2ISUUEMAO68WZcqL1pXDD5JZvkh9ABS3zZtE3wCB4tsqVosNy9I0Qj9mQhpnGPMNiXGlBsCIclDFivp4Ec0H32w1vFafZLLFQZ1Z8zMq007QwVR74cVIMKZNnxOL27Fk7zRGpF6QL8QKKeiy6NGW5opZwEfAFRp7DPJqDhHODPEfl7GmEmhxuLTDfZjsF0nRJk8Pv9k1uoh1XZIouC3Cgu8fBQnMZnKnm5YzQsyjiQuTGq2zwc3OHBYKIykMA63Fck5ZMfuIKuuyj5fLgaWE0iWWKpJ9R3ABsvxCzh5k3hjqhQJsczTCX2MyrFmbs9E1R1IwAkVQefvpJAGGFRrtl2qGA86w7a74Pe7lW6P9Y3Dp6MLIGiP1c3PXXZM7aD6SjvHulXEa3wWZyzm6BAK9Coh7ZF0b43YsXpCSIjfK7oBbn3s4GjDYXyhbfGeH47bdfI55fM8eHqc3Qi8RsI68ZSdfrZmpELFb1uuvLC7KbFiIGoNYGFMPEAXklDuo3qhGjQNIC4diLd0iJJB7jZlp57W0ERKmKrYvKpqquJl8hEBHLLBuDN6mkYKv6OjliUpfoCeQANsGMwgd1uflhir6nEdHgvdTBqGFmt17HAtoG95xz8lS1MsxhO8uEbY6SjnTElY849mcKeyuIGE2B7Z9d5OTpJMX3hUQbGv8DXQsXEjJIEw6kch36BRhRv6lhkbunPnK81IB4lYDjgLO5sLVL9hdSG68pn16InqugJHWsehtpbZKvAplekpAexkT3RPO3XiagPmCB1a6COFmPdDR9yuNO3Pnu42E7Axrl5Kq9N8Z2GFDByv8L20HXuBVRP82bUnRhrdFFIFdSB5rT7PP48U1LevF53tB9MysOAqVG4BUEMiOBA3Q3Jh0TyLpq5hY9psKbcrN3wUE7CiQiJn8aaCTOK8tFaWu4ANtP48qfLCW9IuWNO3KHJb9ymSgKk613x5AwriM3k1ExEWp6akT3VqNIXglqqVXnto19hTzjy8HgA4k5f3znO9cE3SSFwfS7egp6eq8Ns0yyYrKm3ssGZVBw3KASfewLVvhGDf3Wj22ezA80Z5jQdF6TR1CwXsPOtQu147d5Gc5tQCyI0KAvm3JrCTK15mhNpCPgxKKxe0tRd4jNk8myW0oNMWB80LVg8nGSnCj6E9v601yVsvFGGwNh5xsGXDXPZoCORGWl0wYREYVtU1f6cBRlwRIsj9K3DmBlyXAYn0De2xdiskLL4el1lVrVohn0HZjIHkTbTEHBzwCU6PIJJFYA9KpbHDau8Fxn7FdcZTLIsYutSjkwW3ESFthMcGYh24Yqq5xGb2mfI3KJBTNXreBDhNgG74gQU00Vga9I0gmrz92QIk5IiKckCJZXDqsMitoELOshk1UwF408a6sJyF0T1GNsBLPuZt6QAh7qe8rjC4q644Kxp8Df4WDQQ9Syj4yJf4vBBYi7762zDg9J3c9aIjD8GtNxWEKRzUGNLGUYUF9j0AizjP3jtjhrK0PkbObKetzJZgtZgpE6ooLi2dgmngNrc4cjjl3tUqGJ7eXsWPTH8Ug77Y93KUFldN14Y9w7cRUPKDJzUPaFyCjLB8l8QlAbTMI0tMw792vKopG1e9uTB1LXXGftgErNVderEGa8Natz4KB7qN5gtbi2VuH3nQZiWQOscIYp1xhfpWSgJwg4GskqYP5F2fufKvbswGLoqjTJdTebE9yJXXkxn985AAoMiXcw4ZmL1YvSE6C1yp7VKENQbkPO54I0MtUaaMvv3I2Qnk5T8zu3NsMig1m4NbDo4Eh5g9EpHCbMkGaLiSdu5tud1ZkRqJUF3tF9oXwhMcD0nde9HwF2eJOnW4Afb2wJ5POhzriUX1M6cbgnT5L1kdFkQPmAW54i9FVoxQukv6En3PJuO8Wszr3DYqVGJ0LGaLCcjLwUBFo3j5KJWnRVlw53Lp590ybcghM3jsoraRxOwYEaEwnCm8jcz2oPixqpw9ApBjguABiamft0g59XD7XNZ7AKDStF3eiif5JOg1nFSZVo0CtFXf4pxUwL6VAfkscFaLBzHJFvqhVdGIKINBDlOlde2imj81wggOz4JGyqsv8jTlK9Zi4NBU7fc4hI4L3Nrey6Ah6h9HwLIQrHX8agicpzt10ESGZlmWslvDevuR6CAvBFEtP2xCZyQ7TJZFTloknJb2LwZK2ekNmP5GLGGH4G601yAIxwJwRDBin7wH3L6G4azW9Urs3RB3ZoXIL51dIcPeYA3QRfAYY95qAFNtnqyEcZaM4FOn9I8ZtYRHnzV7LW8XDy74ZvTT5eQNmL2SgInA0tzj04nRmxa5mfcGLVNgvTDktq27Ed7nCLvH47EDrJpfG4bj0rzBe5WtrD587TrUJOxrtk2yW5ejkxqVg84zLSGNwgk84JQl2ATfo9cFi4XNPhbqbW6iqaioJGHLA1r0aBIHgXhc2pbw5SgNFuG1pHQbkErnzsAgwQcEBGdW1LZbDGEMvl6MHug7NfDhOAnGC6qt6jYw0zL5bWls5ascZIGit8AAuRAVBTqzESqMlHP6NbOcfUirbaDrKd33vrqvq8UyoikR30Do0XU0xf4td3DKmMawj1cS1t6aFPcNx4IdUJSSVIJs03CzHvDnSa3mHuIAIOAJ5IiWI26wfku31gM2N4YVSx6RSft99TcEGczh09wKj6sJrv39pcBXAFrtTbpbdIDtATDxmt8gCcjLlbFl2IDDauHFEksxQ6DsiteZJuhXC2kRQK2PNPz42jhGbRXIbrX2Cp68jpDzpJ89uYqyuQ4xu1yVrNAHVL5DJnIANwqqP0i4wkhSiPN5ly55LBr1hHz0BIfATU421D83AnhPnStw5XVCUMTyG7UQ7sCtbwoHHtEoy4lpuvtbh6yvDLoQoOzHAgD57qZdE6ljMQL5SzeOnjabR88A4bqFfdLEKEpXfkuGUdm4BHnv8g17vVAYL507lzdbDB6L5j7ZzpBz7UrmMSEIAbF2ybuGazsRLsLkYt36c3AHVDXLMysxiJ4B6szlUUveco76Md7Pn72kQ6BpNNEgVgPweG2Jdyafqzg2ApmFla1245t3rEFe8gJgilDftQsgRKRFmLU8jzySjzw3GZKpy8Wf2mnLQCJcgEXlHuCAMzsUIa31C3Yk825aoAIVEeMPZfJzrQc3ICPn5fGL2s1g5iuSnrombBQwqlUSBY5yFDgJSJfg9iH43MeJX5tqFpBfL5Ku3btGM9Z6TzGwuVzxKT9s35ZdGXqEgzmuWgmHkZIvupokaDJF0E5nwcwWXGic4y9szweQx8eLvrqWc10llOLiO6PuA9MrxJEZwx3urI1gHwzhmGCE2zBBJ8Ioq5xwdi6uosjXbVy9TEDv6VJdWlbS4ZsiDm4NJLHLKoUMBaMn0OBWBKxKcwWag3RBHfxXrzhb9iTG7Lc5bMOLqclRZJ1LmH98lbknMhoQYIPsbO0NGjB89lrXdInj6qhGeIvbEOLehcEXaEbAOcqp21raXD4HxUfN8Ayg7m5JVrtA5ipzETozqp08jq6fVQZB2C9HdSwDmqf02YQD2HQ3LzY0DhUdT2Qp7j7kcvQJ3df78JgqMkJeE6Gg8n6ASEp3xbPEWTjT4xAYW74rZBH3iuXZR6aIS0vIXnXk3LFEieoVtZQDFbdh1fXo09EQ8ZKoFip5L9g4pGzQnLlTHJmwic8wpD7BM0mhFPcGKQAS6cbVu1fy96dIBtgWCfV60rojCZCU3k113Mx1Tzmkwo4HjJb1lc9V5017xO4gDuf54jZuQlu9TG2IvOjBcmGQCw8d2UQasMQTr6GVwrlLw7R3AL5ygMMuwUkENQkL6LkibIL6gVtMzvR3D5MGiZZoTvc5BthW9JHin0R71f9rI9KqY7KnZjZCHB033JcjCyk2ELzl9sS1MPmqZgG0WSCLFhe0ZM9mVeQq5F2rB89ZlFFEEW1lKlMJxBIF3rBDnev01lsGDP8UglnnFmvTg2YFFCkUNlnW9Zt4EYHzdUGIO3KvvbGn8c83SGvoMhC4FIfDx4cOTEVj8trmG6MHRUoLwSJXxv1p4ZHUE7PfhUOGq8iDjT4FO2BPJFIlkwv9Da819ZVsHM4aLyFH0srEa0c5kAeJEkCwaE0N7Oiu66ts4piHTd6ZUQDCioGXLPikp3etQ9bqbocpz2QZGhU2BqTj1ErB49D2qVIvwz3hOhytKAwEn9R2l3yyOzLlDzdqW4MyU3u3LKPBjJL3JTEDHYpbGAUw3D8MgYhR787ZGxjHrGlGQVy76G2C6xl82x9db1ppIra76GKUb8SQ8INdCongcqZj50gGLwyeSj2xAe8hy46FUMChK3WjXOJgIIZD5anjW5xcFhP5QtJWG9BDcxERpWczxbmw8DW1RmB32VEyBg6jLzULuO02tqH4vewnKoFtUCyXR9ZgsI3ubvTvNlF32BIgPzKJTbWGFcQA3jhE9f1h2uc1UhimtDCplum1MVA0AV4DsdfCCA4FebOPGFy2kzAcRuFV8ABmY9eecYES5lud054qlAz3FJU2hszMhYj7cvLDIm2bktOdAFoEJCcBQZyLEfRvxr0w3yv8qdDg0fkyN2KeyHwdQes5896cWAQPrNc81EcOBxOpxITEn5Uc3nilpWADDZCYxYXlyLPxD6Eo5LRRHM5psSCxEbQ6Zi0gdnID6O49sF3Bh3DXFBIn0ZvxSmHqLvjXMykifl5E7DirV0z2TgIoG1azhZ3xIA2dK5U9EN5V9zqsLp5SbXEDyjMNaAvIlkBz94SM5vzCqDWRtBOCH3PN3n8JPHs6cTO4dtJ6flxofWBU7vlhyKz0oCkMOZHDWBbK71rfhplwIppBHzxOli2B7p65zE0iefe849ww8Sbp11SR5K71CryQ1x79KBvobH6vJD9KAAGEzOvPFLHT3kd0H2Tq7AvyN50VsGSDfSASu3wdmfLk35L2sGkYpECHfNZMm7ob14gl6AeX3jHIcXcz35F0d8LHVZi3IukqR6gfTrB9MGwz0N0y0LpE3QU2at287ACJ5y2EHMQoIw3roCkYIS09n2CGFKvyTTcPEy3HHiOEP6r0fID6wy2GlhRADA40Ual8IdJrAZnXy6L8B70KdusFO3YeOJHbAZOxzcFloB9AApZoQXCR3eBqsNo0xj6EyUCmFOHJOo7LAQ09DMVPN7LuiJiCEKTjF3a7cnj595QAmChhYhHbjnJ5MuTaanfMn03Tu5IziF265rN0SS5SSAy7y9OVAF8bXh3DYxE3mbMst1Ddb7XSZYU1Jqi36qp2h409IWDl3UvxrUKwGTr70BiVKIfHp5Rnv8pP1gLqvpVXxWyL7TrV55Xb10KCYea0ydRZN4poo95ewnLNKJxaQAi0dS8K9mTSic8MNxD5VnhDgTZFwDtYW7bDmggB9qf7AsKVdNK3cvpDyPSOV8J9rYbx5MJ4B6xjsRUesRuoBwkK6SBSLW27KUw700Q8ux8t6JwV12zFPGbxUIelNzjEEAxQBbLVwQmLMRZXugbuyE2UXylaWbuPPA5DxMIsKaFLCI9oG2o0x12CX1YoCeopsdEXCm5Pi8pyPI3SB0ZRWKArF3b2UwcE8so9sX7E5fk0s9Jgpl9EEwEs15x7HiSxFpBSHV4HGNUMCvBLKHyuMyJUld6hlzEC0nUfZH4rfy7iyZLn5m9SCamGS9O5PA9npGHrqa36dGQTDdmSmHFXzck9TSo406t6jOou42zAb96fXxEgH9JQWwr6sMsSgJgQRZpJFBEs6ZM5UL1SCqHEtaklMcI6ou51f0RMuumK52uH6IYNxrQHBGWueHJ3pbk"
example:=`(
example À _:=x K mainGlobals
example Á:=PySem.W.nsIn
end PySem.W.Fast
namespace zY
open PySem L2 L3 L5
open PyProof.Rows hiding St
def top (i:Nat):Stmt:=PySem.Challenge.pw_purseborder_k94_whole_borders_by_texts.main.body.getD i (.Pass #[0,0,0,0])
def met (i j:Nat):Stmt:=(Cf (top i)).getD j (.Pass #[0,0,0,0])
set_option maxHeartbeats 0
structure HH (K:zFr) (w:World):Prop where
 h0:Fx K "is_whole" (top 14)
 h1:Fx K "is_whole_within" (top 15)
 h2:Fx K "is_row_within" (top 17)
 h3:Fx K "are_rows_within" (top 18)
 h4:Fx K "are_rising" (top 19)
 h5:Fx K "are_brims" (top 20)
 h6:Fx K "is_owner" (top 21)
 h7:Fx K "are_owners" (top 22)
 h8:Fx K "are_ways" (top 23)
 h9:Fx K "are_stalls" (top 24)
 Ej:Fx K "is_floor" (top 25)
 Ei:Fx K "places_of" (top 26)
 eR:Fx K "check_place" (top 27)
 Eh:Fx K "check_pair" (top 28)
 Eg:Fx K "ways_from" (top 29)
 Ef:Fx K "stall_at" (top 30)
 S_:Fx K "at_or_above" (top 32)
 Ee:Fx K "least_pairs" (top 33)
 Ed:Fx K "holds" (top 34)
 Ec:Fx K "both" (top 35)
 Eb:Fx K "either" (top 36)
 Ea:Fx K "border_ahead_of_way" (top 38)
 F_:Fx K "pairs_ahead_of_changes" (top 39)
 FZ:Fx K "border_ahead_of_changes" (top 40)
 ao:Fx K "border_of_either" (top 41)
 FY:Fx K "border_of_all" (top 42)
 FX:Fx K "next_border" (top 43)
 FW:Fx K "next_round" (top 44)
 FV:Fx K "rounds" (top 45)
 FU:Fx K "first_without" (top 46)
 FT:Fx K "lasts" (top 47)
 FQ:Fx K "step_by" (top 49)
 eQ:Fx K "change_by" (top 50)
 FP:Fx K "change_at" (top 51)
 FO:Fx K "borders" (top 53)
 FN:Fx K "leads_into" (top 55)
 FL:Fx K "deed_into" (top 56)
 FK:Fx K "keeper_deed" (top 57)
 FJ:Fx K "show_way" (top 66)
 FI:Fx K "show_stall" (top 67)
 FH:Fx K "show_floor" (top 68)
 FG:Fx K "read_word" (top 69)
 FF:Fx K "read_words" (top 70)
 FE:Fx K "read_parts" (top 71)
 FC:Fx K "read_floor" (top 72)
 FA:Fx K "is_made_of" (top 97)
 F9:Fx K "is_number" (top 98)
 F8:Fx K "is_of_form" (top 99)
 F7:Fx K "are_of_forms" (top 100)
 F6:Fx K "read_row" (top 101)
 F5:Fx K "show_pair" (top 102)
 F4:Fx K "show_border" (top 103)
 F0:Fx K "answer_border" (top 106)
 Fz:Fx K "answer_lasts" (top 107)
 Fw:Fx K "answer_deed" (top 108)
 Fv:Fx K "_law_mixed" (top 117)
 Fu:Fx K "_law_ways" (top 118)
 Ft:Fx K "_law_stalls" (top 119)
 Fs:Fx K "_law_stall_cell" (top 120)
 Fq:Fx K "_law_floor" (top 121)
 Fp:Fx K "_law_step" (top 122)
 Fo:Fx K "_law_changed" (top 123)
 Fm:Fx K "_law_text" (top 124)
 Fj:Fx K "_law_border" (top 125)
 qF:Fx K "_law_held" (top 126)
 Fh:Fx K "_law_is_border" (top 127)
 Fg:Fx K "_law_led" (top 128)
 Ff:Fx K "_law_deed_right" (top 129)
 Fe:Fx K "_law_lasting" (top 130)
 Fd:Fx K "_law_fewer" (top 131)
 Fc:Fx K "_law_at_pair" (top 132)
 Fb:Fx K "law" (top 133)
 E5:Cn K "FIGURES" (.str "0123456789")
 E4:Cn K "KEEPER" (.str "keeper")
 Ez:Cn K "LETTERS" (.str "abcdefghijklmnopqrstuvwxyz")
 Ey:Cn K "MOST_COINS" (.int 12)
 Ex:Cn K "MOST_FIGURES" (.int 4)
 Ew:Cn K "MOST_LETTERS" (.int 8)
 Eu:Cn K "MOST_PLACES" (.int 8)
 Et:Cn K "MOST_WAYS" (.int 24)
 Es:Ct K "PURSES" ["a","b"]
 Er:Cn K "TAKER" (.str "taker")
 HI:Fi K (met 115 0)
 TN:Fk K "say" "Desk.say" (met 115 1)
 HF:Fk K "thing_for" "Desk.thing_for" (met 115 2)
 HG:Fk K "keep" "Desk.keep" (met 115 3)
 hk:m8 K
 fo:fu K w "FORMS" nL
 ax:fw K w "ANSWERS" [("border","answer_border"),("lasts","answer_lasts"),("deed","answer_deed")]
 y0:Á À "set"=↑none
 y1:Á À "zip"=↑none
 y2:Á À "enumerate"=↑none
 z0:Á À "len"=↑none
 z1:Á À "range"=↑none
 z2:Á À "any"=↑none
 z3:Á À "all"=↑none
 z4:Á À "sorted"=↑none
 z5:Á À "isinstance"=↑none
 z6:Á À "bool"=↑none
 z7:Á À "int"=↑none
 z8:Á À "str"=↑none
 z9:Á À "list"=↑none
 Nc:Á À "tuple"=↑none
 Nb:Á À "max"=↑none
 Na:Á À "min"=↑none
abbrev HypoOfLaw:Prop:=∀ {q:Program}{loose:List Str}{XP:(Str->Option Value)->Heap->Prop}{YP:World->Heap->Prop}{d:DefRec}{K:Params->zFr},d.params.defaults=[]->(∀ (w:World) (h:Heap),YP w h->(K w.params).In h)->d.name=("law":Str)->(∀ w:World,HH (K w.params) w)->
  PySem.W.WalkO q loose XP YP (PySem.Challenge.rw_purseborder_k94_whole_borders_by_texts).row.toRowW d [] (λ f vs=>PySem.call f vs)
end zY
)
section
open PySem PySem.W PyProof.Rows
set_option maxHeartbeats 0 in
theorem PySem.Challenge.headOfLaw (hy:zY.HypoOfLaw):PySem.Challenge.rw_purseborder_k94_whole_borders_by_texts.Holds:=by
 w_on;o_law
 simp (disch:=show hy) only [@id (PySem.Challenge.rw_purseborder_k94_whole_borders_by_texts.row.Holds) (by k_head;(case hw=>w_witness2);k_fill;rcases (_:zY.HypoOfLaw) with hy;(exact hy rfl (λ w h Y=>PySem.W.kIn_of Y) rfl ?F);(case F=>(intro w;refine' #[?_,?_,?_,?_,?_,?_,?_,?_,?_,?_,?_,?_,?_,?_,?_,?_,?_,?_,?_,?_,?_,?_,?_,?_,?_,?_,?_,?_,?_,?_,?_,?_,?_,?_,?_,?_,?_,?_,?_,?_,?_,?_,?_,?_,?_,?_,?_,?_,?_,?_,?_,?_,?_,?_,?_,?_,?_,?_,?_,?_,?_,?_,?_,?_,?_,?_,?_,?_,?_,?_,?_,?_,?_,?_,?_,?_,?_,?_,?_,?_,?_,?_,?_,?_,?_,?_,?_,?_,?_,?_,?_,?_,?_,?_,?_,?_,?_,?_,?_,?_,?_,?_,?_,?_,?_];(all_goals first | show L5.Fx.i (by k_is) (by k_is) (by k_is) (by k_is) | k_is | show L5.Cn.i (by k_is) (by show#[_,rfl]) | show L5.Ct.i (by k_is) (by k_is) #[rfl,rfl] rfl () (.cons #[_,rfl] (.cons #[_,rfl] .nil)) | show L5.Fk.i (by k_is) (by k_is) (by k_is) (by k_is) (by k_is) (by k_is) (by k_is) (by k_is) (by k_is) (by k_is) | show L5.Fi.i (by k_is) (by k_is) (by k_is) (by k_is) (by k_is) (by k_is) (by k_is) (by k_is) | show L5.m8.i (by k_is) (by k_is) (by k_is) (by k_is) (by k_is) (by k_is) | show L5.fu.i (L5.lP.i (by k_is) (by k_is) (by repeat first | show L5.RC | apply L5.RD) () ()) (by repeat first | show L5.NF | exact L5.NG (by k_is) #[rfl,rfl] rfl () (by repeat first | show .nil | exact .cons #[_,rfl] ?_) ?_) | show L5.fw.i (L5.lP.i (by k_is) (by k_is) (by repeat first | show L5.RC | apply L5.RD) () ()) (by kernel_rfl)))))]
end
example:=`(
example À _:=x rfl rfl
example Á:=Int×Int
example Â _:=x P w K mg base
example Ã:=.int
example Ä:=F.os.length
example Å _:=x x y os ws qs
example Æ:=(k:Int)
example Ç:=List Int
example È:=(zm À rfl)
example É:=false
example Ê:=Option
example Ë:=congrArg
example Ì:=.str
example Í:=List Str
example Î:=.lst
example Ï:=Str.join
example Ð:=List.range
example Ñ:=if_pos
example Ò:=List Bd
example Ó:=decide
example Ô:=T.str
example Õ:=.tup
example Ö:=by let#[a,b,c,d,rfl,ha,hb,hc,hd]:=h
example Ľ{F:zD}:=0
example Ø Ľ(ok:F.Ok):=0
example ï:=(by change 2<=100;decide)
example Ā _:=x _ _
example á5:=(zm À (k8 F))
example õ:=T.int
example Ö3:=(λ z=>↑(õ z))
example Ń:=(Ë Ö3 (mi Ā))
example Ñ1:=(zU (zw rfl (zw (zm á5 À) rfl)) Ń)
example ø:=if_neg
example å:=(λ z=>↑(T.bl z))
example Ù:=by .rw[ø (λ h=>h.elim h1 h2)];show yg (pre _ (zA (yQ (t1 Ā (yv (zm À (Ë å (zcR h2))))) rfl) (yP (qM (zw Ñ1 (zw Ñ1 rfl)) ï)))) rfl
example É4:=zA5.mp
example Ú:=by rcases É4 hp with rfl | hp
example Û:=List T
example ó5:=zB F
example Ü:=(ó5)
example Ý:=[a,b,c,d]
example Þ:=im (nT p)
example Û8:=fr.contains w.t
example ß:=(F.ws.filter λ w=>Û8).map λ w=>(w.f:Int)
example à _:=x F last
example á:=List Nat
example â:=os.length
example ã:=decide_eq_true_eq
example ä:=zN F m
example ó6:=zr q
example æ:=im (ó6)
example ç:=List (Á)
example Þ4:=(f Y).bind _
example è:=by change Þ4=_;rw[h]
example é(F:zD):=0
example ê:=#[⋯,⋯]
example ë:=(.bl true)
example ì{Y:Ev}:=0
example å1:=(zw À)
example Ä3:=(zw rfl å1)
example í:=(zw rfl Ä3)
example æ1 _:=x s sub hi
example î:=forIn (List.range' cur m) st (occBody æ1 limit)
example ð:=by rw[e];simp
example ñ:=List (Ç)
example Ý8:=F.ym s.pu
example é4:=by split <;> assumption
example Õ2:=by have:=ok.a1;have:=ok.b1;unfold zD.ym;ext é4
example ĥ:=o6 (pu:=s.pu).mp
example ò:=by have:=ĥ hq;have:Ý8<=12:=Õ2
example ó:=(qs.getLast?.map (·.2))
example ù6(hp:p<Ä):=0
example Ä5{p:Nat}:=0
example ô Ä5 ù6:=0
example ö:=(Î ((w::ws).map Ô))
example ù:=yb s.pu q
example ú{n:Int}(h0:0<=n) (h1:n<=13):=0
example û:=by simp;lia
example ü{c0:Nat}{yr:á}(hy:L y=c0::yr):=0
example Þ3:=by change ↑(T.bl ((List.map Ā).all id))=_;rw[zaK]
example Å4:=(λ b=>↑(T.bl b))
example õ8:=zE4.mpr
example ý:=by ext Þ3;show Ë Å4 (õ8 λ _ _=>rfl)
example Ô8:=xk F q
example Į{q:Á}:=0
example þ Į(hq:Ô8):=0
example ÿ:=(mD F p).find? (λ wi=>qE F l r wi.1)
example ā:=#[(),()]
example Ä0:=([],[],[])
example Ă _:=x (o_ p0) (ps.foldl wG Ä0)
example ă Ľ{s:Sl}(hs:1<=s.gv/\0<=s.gt):=0
example Ü0:=xH F m
example Ą{m:Nat}(hm:m<=2000)(hr:kJ [ó5]=↑(mG (Ü0)))(R:j0 F m):=0
example ą:=by change ((e Y).bind _).bind qN=_;rw[h];change (if inR (n:Int)=true then ↑(rangeT 0 (n:Int).toNat) else none)=_;rw[Ñ (by unfold inR;simp;lia),Uw];congr 1;show zaD λ k _=>by rw[zbC]
example Ã8:=(F.ym (!s.pu))
example â6:=yS s.pu q
example Ć:=(xv s.pu (ù-s.gv) (min (â6+s.gt) Ã8))
example ć:=List.length
example Ĉ:=p.length
example ĉ:=ts.length
example Ċ:=zB0.mp
example ċ:=by cases pu <;> rfl
example ŕ _:=x p []
example Č:=(ä).getD ŕ
example č{x y:Int}{os:Í}{ws qs:ñ}:=0
example Ď:=of_decide_eq_true
example ď:=(p:Int)
example Ĵ:=.own
example Đ:=(Ĵ (Î ts))
example Ù7(hw:((nL.map (·.1)).any λ k=>Ó (k=w))=true):=0
example ö3:=ws.zip fs
example Ô3:=∀ p∈ ö3,jC [Ì p.1,Ì p.2]=↑ ë
example ū:=ws.length
example ñ0(hl:ū=fs.length) (hm:ū<=100):=0
example đ Ù7 (hk:nL.lookup w=↑fs) ñ0 (hf:Ô3):=0
example Ē(p:Nat):=0
example ē:=im (Dk Ü)
example Ĕ:=λ s=>Ó (s.p=p)
example ĕ:=o8 (Ü0) p q
example Â1:=(Î ((kn 13).map Ô))
example Ü1:=im (Ì (rR bb))
example Ü2:=im (zr (A,B))
example á8:=λ x=>Ô (xU x)
example ů:=im (Î (bb.map á8))
example Ė:=[Ü1,Ü2,ů,im Â1,none,none,none,none,none,none,none]
example ė _:=x F.A F.B
example Ę _:=x ⋯ ⋯
example Ù0:=by exact ext ?_
example Ç5:=(L x).drop
example ñ3:=by rw[strSub_toList];change (Ç5 a).take _=_
example ę:=by congr 1;ext Ù0;change (strSub x a _).cps.toList=_;ext ñ3;rw[e,Nat.add_sub_cancel_left,List.take_left]
example Ě _:=x F p q k (s::ss)
example Ñ5:=fresh
example ě{last:Ò}{Ñ5:á}(s:St à Ñ5):=0
example Ĝ(pu:Bool):=0
example ĝ:=F.os.getD p É
example Ğ:=qs.map
example ř:=(cI 0)
example ğ _:=x zi (zb zi (zc 5) ř)
example Ú6:=bs.length
example ó2:=r.length
example Ġ:=ó2=Ú6/\∀ (i:Nat) x b,r[i]?=↑x->bs[i]?=↑b->b.1<=x/\x<=b.2
example ĳ:=x.length
example ġ:=by congr 1;ext Ù0;change (strSub x a ĳ).cps.toList=_;ext ñ3;rw[zcJ (by rw[zaI,p9];show zA4 _),e]
example è4:=plainT
example Û5:=.zK ks ts
example Ģ(hk:nL.lookup w=↑fs) (hm:ū<=100) (g:Str×Str->T) (h:∀ p∈ ö3,jE [Û5,Ì p.1,Ì p.2]=↑(g p)/\è4 (g p)=true):=0
example Þ6:=(ä).map
example Ì8:=im Ü
example Ë0:=(Ĵ (.zK [.inr "fa"] [ó5]))
example É1:=λ b=>Ô (rR b)
example ģ:=[im s,im (Ã n),im (nT Ä),Ì8,↑ Ë0,im (Î (Þ6 É1)),none,none,none]
example Ĥ:=last.getD
example Ħ:=Õ [Ã F.A,Ã F.B]
example ħ:=(cS (Ì " "))
example Ĩ:=Õ (rs.map zJ)
example ĩ:=ps.length
example Ī{α:Type}:=0
example ī:=Ev->Ê Bool
example Ĭ:=wy à Ñ5
example ĭ:=by obtain⟨m,rfl⟩:∃ k,m=k+1:=#[m-1,⋯]
example į _:=x pu ym give get
example ť:=eq_int
example İ:=by simp[hmx,xw,hk,hN,pN,nj,cm,pm,ps,d64,d2048,d65536,d327680,d8,ť,h5,h2,z2,zJ,hl']
example À2:=L2.yt
example ı:=zm À (by change À2 ((w::ws).map Ô) 0=_;unfold À2 L2.qj;simp)
example Ñ0:=im (eT (ä))
example Ĳ:=[ē,Ì8,Ñ0,Þ,æ,none,none,none,none]
example Ñ7:=(.im (Ì row))
example ĵ:=[↑(.im (Û5)),↑ Ñ7,↑(.im ö),v]
example Ķ(q:Á):=0
example ķ _:=x s.pu (Ý8) s.gv s.gt
example ĸ:=y.length
example Ĺ:=by rw[zb4,zaN];lia
example é2 _:=x ?_ ?_
example ĺ:=by with_reducible first | show yF _ | show yG | exact ya (R:=zq) é2 | exact zS (R:=zq) yL é2 | exact z_ (R:=zq) ?_ | apply yH | apply yI
example Ļ:=ws.map
example ļ{g:T->Ev->Ê Ev}:=0
example ľ _:=x (hns n hn).1 (hns n hn).2
example Ŀ:=(.im (Ì w))
example ŀ:=(oJ F p).map
example Ł:=#[[c].toArray]
example ł:=λ _=>T.bl true
example ń:=told.getD k []
example Ņ:=by simp[hmx,xw,hk,hN,pN,nj,cm,pm,ps,d64,d2048,d65536,d327680,d8,ť,h5,h2,o2,zJ,hl']
example ð5:=Ã (qv s.pu)
example Î6:=(im (nT j))
example ņ _:=x Î6 (im (ð5))
example è0:=os.map Ô
example õ7:=mE many r
example Ň(hw:∀ r∈ws,õ7) (hq:∀ r∈qs,ka (è0) r):=0
example ň:=∃ w∈F.ws,w.f=p
example Ý3:=by dsimp only
example ŉ:=by ext Ý3;lia
example Ŋ:=(num n)
example ŋ{A B:Int}:=0
example Ō:=(zc 0)
example ō:=Ï "; " (xT Å)
example Ŏ _:=x (zm (zm À (iq F)) rfl hi) À
example ŏ:=by simp![zA6,za4,zb2,List.sum_nil,zC0,zaE,e];lia
example Ő:=l.length
example ő:=RN.start
example Œ _:=x none none
example œ:=absurd
example Ŕ:=[Ã a,Ã b,Ã c,Ã d]
example Ŗ:=(Ì "keeper")
example ŗ:=by constructor
example Ř:=b.length
example Ś:=Ê Int
example ś:=Î [ó5,nT p,Ã q.1,Ã q.2]
example õ1:=yb s.pu r
example Ŝ:=(xv s.pu (õ1-s.gv) (yS s.pu r))
example ë5:=Ó (w.f=p)
example ŝ:=F.ws.filter λ w=>ë5
example Ş:=[im s,im (Ã n),im (nT Ä),Ì8,↑ Ë0,none,none,none,none]
example î1:=by have:=Ë ć e;simp at this;lia
example ş:=by ext î1
example Š:=List α
example š:=[(0,12),(0,12)]
example Ţ(n:Nat):=0
example ţ:=by rcases hb with rfl | rfl <;> decide
example Î4:=(x.2:Int)
example Ó0:=(x.1:Int)
example Ť:=num Ó0++" "++num Î4
example Ŧ:=(∀ x∈xs,∃ Y',xq is Y'=Y0/\turn g b (enc x) Y0=↑(if test x=true then .rt (ret x) else .nx Y'))
example ŧ:=qz (by rw[zA3,hw];rfl)
example Ũ:=p.getLast?.getD (-1,99)
example ũ:=Txt.split
example õ3:=(k+1:Nat)
example Ū:=(õ3:Int)
example Ŭ:=Int.le_trans
example ŭ:=num Æ
example Ů:=("floor":Str)
example Ű:=Builtin.Str.strKind
example ß5 _:=x F l p
example ű:=iw ß5 q k (zr r)
example Ų{f:zEO}:=0
example ų:=by rintro⟨p,hp,h1,h2⟩
example Ŵ:=Ï y (ps++[r])
example ŵ:=F.stall p
example Ŷ:=qH F p q
example ŷ(k:Nat):=0
example Ÿ:=by simp[hmx,xw,hk,hN,pN,nj,cm,pm,ps,d64,d2048,d65536,d8,ť,h5,zJ,hl']
example ë9:=q.1+w.a
example ì0:=q.2+w.b
example Ź:=[Ì8,æ,im (nT i),im (Õ [Ã w.a,Ã w.b]),im (Ã (ë9)),im (Ã (ì0))]
example Ð2{f y:T}(hf:è4 f=true):=0
example ź Ð2 {p a b:Int}(hp:0<=p/\p<=13) (ha:0<=a/\a<=13) (hb:0<=b/\b<=13):=0
example Ò0 _:=x È rfl
example Ż:=by .change (y_ Ā).bind wH=_;rw[gp (zw rfl (zw È (zw Ò0))) (by change 3<=100;decide)];rfl
example ż:=List (Ò)
example Ž:=beq_eq_false_iff_ne.mpr
example ž:="floor fa "++t
example ſ _:=x p hp
example À0(last:Ò):=0
example À1:=Ev->Ê (Û)
example À3:=rows.length
example Ð6:=nq (l s) x.2
example À4:=∃ w∈kg (l (!s)) sh x.1 (Ð6),(w.1<=y.1\/w.1<=z.1)/\(w.2<=y.2\/w.2<=z.2)
example À5:=(Ý8+1-yb s.pu x).toNat
example À6:=by .rw[Ñ (.inr h2)];show yg (pre _ (qu (qa (t1 Ā (yv (zm À (Ë å (zcS h2))))) rfl))) rfl
example À7:=λ p hp=>?_
example À8:=(k:Nat)
example á2:=ps.map
example À9:=(.im (Î (á2 zr)))
example Á0:=(q'.1<q.1/\q'.2=q.2)\/(q'.1=q.1/\q'.2<q.2)
example Á1:=Gd A B b
example ñ9:=Txt.contains s c
example Á2:=((nY w).map λ c=>T.bl (ñ9))
example Á3:=(ö3).map
example Á4:=(qB N [Û5,row]).set 2 ↑(.im w)
example Á5{r:Ç}(h:lW r):=0
example Á6:=(.im (pJ ns))
example Á7:=(.im (zB Å))
example Á8:=(F.ws.map rV)
example Á9:=λ k:Nat=>nT k
example Â0:=Txt.replace p ">" " "
example Â2:=zB0.mpr
example Â3:=[ē,Ì8,Ñ0,Þ,æ,none]
example Ë5:=zB6.mp
example Â4:=#[[],last,rfl,λ r hr=>by cases Ë5 hr;show#[s.len,s.gd],rfl,zD4 _]
example Â5:=by change (g Y).bind _=_
example Ü7(x y:Int):=0
example Â6 Ü7 (os:Í) (ws qs:ñ):=0
example Â7:=["_law_desk","_law_floor_here","_law_edges","_law_place","_law_pair"]
example ï6:=(zc 2)
example Â8:=zb zi ï6 ř [↑(.im (Û5)),↑ Ñ7,↑(.im ö),u]
example Â9:=by rw[zA6,eF,h];let#[Y',h1,h2]:=ht x za1;rw[h2,zaL];by_cases c:test x=true
example å7(h0:Y[i]?=↑↑ Đ):=0
example Ó7(hl:ĉ+us.length<=10000):=0
example Ã0{ts us:Û}å7 (h:f Y=↑(Î us)) Ó7:=0
example Ã1:=Õ [Ã w.f,Ã w.t,Ã w.a,Ã w.b]
example Ã2:=by let#[r,hr,rfl]:=Ċ hp
example Ã3:=(.nx (Y.set i ↑(Ĵ (Î (ts++us)))))
example Ã4:=[zr (q.1-1,q.2),zr (q.1,q.2-1)]
example Ã5{pick:List (Ê Nat)}:=0
example ï8:=k<many
example Ã6:=by rw[ø hk] at a3;subst a3;have hN:¬ ï8:=⋯
example Ã7:=(0<=q.1/\q.1<=F.A)/\0<=q.2/\q.2<=F.B
example Ã9:=s.1.length+s.2.1.length+s.2.2.length
example Ä1:=by simp![zE5,ã,zc7,List.contains_eq_mem,decide_eq_false_iff_not] at hk
example Ä2:=by rw[zD6];exact xB õ _ [ď,q.1,q.2] ?_ #[] λ n hn=>nr rfl (xb rfl (mK ?_))
example Ä4:=F.ws.length
example Ä6(h1:(w == Ů)=É) (h2:(w == ("mirror":Str))=É) (hA:aZ.lookup w=↑A):=0
example Ä7:=∀ p∈ps,c0∉L p
example Ä8:=l.getD w.t []
example Ô7:=zN F k
example Ä9:=((Ô7).getD ŕ)
example Ï2 _:=x (Ã i) (Ã j)
example Å0:=zT neg Ï2=↑(.bl (cond neg (! Ó (i=j)) (Ó (i=j))))
example Å1:=Option.map_some
example Å2:=ns.length
example Å3:=(.im (Ã more))
example Å5:=(F.os.map kt)
example Å6:=yg (pre _ (qu (qa (R9 (yv (zm À (Ë å (zcS h1))))) rfl))) rfl
example Å7:=(q::b).map xU
example Å8:=by let#[x,hx,hp]:=zaM.mp hp
example Å9{r:Ç}(h:kS r):=0
example Æ0:=by .rw[ø c];rw[zE9] at c;rw[c];show jZ enc ret test Y0 xs Y' h1 λ y hy=>ht y (za2 _ hy)
example Ô0:=last.length
example Æ1{last fo:Ò}(hl:fo.length=Ô0):=0
example ô7:=partsFrom
example Æ2:=by subst hc;have e2:=iu (iu e);rw[p9 y] at e2;change strSub x a _::ô7 x ĸ _ cs=_
example Û9:=im (nT k)
example Æ3:=∀ o,_->Vd [im (Ħ),im (wj s),æ,Û9,none,none,none]=o
example Æ4:=os.all nF=true
example Æ5:=by simp![zA5,za5,or_false] at hk;rcases hk with rfl | rfl | rfl | rfl <;> lia
example Æ6:=[Ì8,æ,im (nT i),im (Ã (ë9)),im (Ã (ì0))]
example Æ7:=(.im (Ã many))
example Æ8 _:=x (is:=[2]) (g:=zG 2)
example Ü4{i:Nat}:=0
example Æ9 Ü4{w:Wy}(hw:F.ws[i]?=↑w):=0
example Ç0:=F.ss.Pairwise (λ a b=>a.p≠b.p)
example Ç1:=λ q hq=>h q (za2 _ hq)
example Ç2:=(.im (Î (bs.map bT)))
example Ç3 _:=x hA hB hl' (λ x hx=>gb x (za2 _ hx)) (λ x hx=>gc x (za2 _ hx)) hs
example Ç4:=by rw[zD6];exact zaD λ r hr=>?_
example Ç6:=Õ (Ğ zJ)
example Ç7:=sizeLine=16777216
example Ç8:=Str.length_append
example Ç9:=(zb zi (zc f) ř)
example È0:=p++[rk s x]
example È1:=∀ s∈os,s="keeper"\/s="taker"
example È2:=(os.map _).length
example È3{ts:Û}:=0
example È4 _:=x n (g+give) (xM (t-get))
example ø6{Y Y':Ev}:=0
example ö6:=(l6 pick Y)
example È5 ø6{y t:T}(hg:g y ö6=↑Y') (hf:f Y'=↑t):=0
example È6 _:=x ok hm hr R hp
example È7:=Ñ (zE0 hl ())
example È8:=Txt.startswith
example È9:=(.im (Ã at'))
example É0:=("number":Str)
example ø9:=by assumption
example É2:=(by ext ø9)
example Ñ3{r:Ê T}:=0
example É3{x y:T}Ñ3(h1:fa Y=↑x) (h2:fb Y=↑y) (h:f x y=r):=0
example É5:=(Ĵ (Î []))
example É6:=(cI 1)
example É7:=PySem.W.KIN.num_reads
example É8:=y_ (za (cS (Ì "deed fa")) ze)
example É9{b c:Bd}(h:Á1) (h':Gd A B c):=0
example Ê0(he:o5 t=É):=0
example Ê1{f g:zEO}:=0
example ä7:=(.im a)
example Ê2:=[↑ ä7,↑ Đ,v,↑(.im (zJ [p,b,c,d]))]
example Ï8:=by split <;> lia
example Ê3:=by have p0:=hb ſ;have g0:0<=yb s.pu p/\0<=yS s.pu p:=by unfold yb yS;ext Ï8
example õ4:=Õ ts
example Ê4:=∀ ts,t=õ4->∀ r∈ts,qQ r=true
example Ê5{last:Ò}(hg:∀ p,Gd ė (Ĥ ŕ)):=0
example ï0:=zB9.mp
example Ê6:=by rcases ï0 hp with hp | hp
example Ê7:=∀ r,qs++xE r ó=xE (p++r) none
example Ê8:=("keeper":Str)
example Ê9:=by let#[t,ht]:=(i6 (qD hy)).mp h.2.1
example Ë1{k:Nat}:=0
example Ë2(ns:Ç):=0
example Ë3{n:Int}(h:Nm n):=0
example Ë4 _:=x () () () ()
example î9:=Ï y [p,r]
example Ë6:=occurrences (î9) y 0 (î9).length 1
example Ë7:=(λ k:Nat=>õ (0+Æ))
example Ë8:=Î ((p0::ps).map Ô)
example Ë9:=(by with_reducible first | show yc | show yd | show ye | show yf)
example é1{x y:Str}:=0
example Ì0 é1(hy:1<=ĸ):=0
example Ì1:=by let#[w,hw,rfl]:=Ċ hc
example Ì2 _:=x () () ()
example Ì3:=by let#[n,hn,rfl]:=Ċ hp
example Ì4:=List.cons.inj
example Ì5:=(rows.map zJ)
example Ì6:=(.bl É)
example Ì7:=õ (wi.2:Int)
example Ì9:=(many:Int)
example Í0:=zr (x,y)
example Í1:=(b.map zr)
example Í2:=by change (u Y).bind _=_
example ì2:=rs.map fst
example Í3:=by generalize hns:ì2=ns at *;simp![ha,Bool.true_and]
example Í4:=Gd ė b
example Í5:=by simpa [gi] using hk
example Í6:=rs.length
example Í7:=ns.map
example Í8:=L4.qg (qP rows)
example Í9:=qs.length
example Î0:=List (Ś)
example Î1:=λ wi=>Ó (wi.1.f=p)
example Î2:=fr.map λ À8=>õ Æ
example Î3:=yh ((ń).getD ŕ) q
example Î5:=F.ss.filter
example Î7:=by let#[w1,w2]:=zC8.mp hw
example Î8(h:lQ Å):=0
example Î9:=(yz (zU (zw rfl (zw rfl (zw (qM rfl ï) rfl))) h))
example Ï0:=(ts.all λ r=>xS r (sb â))
example ö0:=num (Æ-12)
example Ï1:=(L (ö0)).contains
example Ï3:=by rw[Ñ hk] at a3;subst a3;have hN:ï8:=⋯
example ë7:=k5 (pu:=s.pu).mpr
example Ï4:=by rw[oM,mP] at h2;show#[p,hp,ë7 (by rw[oM,mP];lia)]
example Ï5:=[↑ Ŀ,none]
example Ï6{b:Int}(h:b=0\/b=1):=0
example Ï7:=(i6 (qD hy)).mpr #[_,iu e]
example Ï9:=Â2 #[w,hw,rfl]
example Ð0 _:=x (ts:=[Õ (è0),Õ (Ļ zJ),Ç6]) h.x h.y rfl
example Ð1(ha:P a) (hb:P b) (hc:P c):=0
example Ð3:=eq_str
example Ð4:=os++(Ļ rW++Ğ pd)
example Ð5:=(" ":Str).length=1
example Ð7:=[Õ [Ã 0,Ã 0]]
example Ð8:=(ko (oo (zU (zw (zm À (gB _ p hlen)) rfl) e2)))
example Ð9:=(pS F s q j)
example Ñ2(b:Bd):=0
example Ñ4:=by ext è;rfl
example Ñ6:=(ts.all λ r=>xS r (wb n))
example Ñ8:=PySem.intText?
example Ñ9:=Ñ #[by simp![dep];lia,by simp[dep,xl]]
example Ò1:=[↑(.im (õ4)),↑(.im (Õ (bs.map zr)))]
example Ü9:=α->Bool
example Ò2{b:Sm}(enc ret:α->T) (test:Ü9) (Y0:Ev):=0
example Ò3 _:=x (P:=λ n=>0<=n/\n<=12) (a:=ď) (b:=q.1) (c:=q.2) ê
example Ò4:=xs.length
example Ò5:=∀ k,f<=k->¬ At x y ĳ k
example Ò6:=(mU a s ↑(.im (Ì p)))
example Ò7:=(by rw[zA7];lia)
example Ò8:=(cB " " 1)
example Ò9:=List.Pairwise.imp_of_mem
example Ó1:=rR (q::b)
example Ó2:=(by rw[zC5];lia)
example Ó3:=Sk () rfl λ k hk=>#[_,rfl,xb rfl (mK ê)]
example Ó4:=.Attribute
example Ó5:=(_:Í)
example Ó6(t:T):=0
example Ó8:=(Ĥ w.t [])
example Ó9:=(i:Int)
example Ô1:=T.tup
example Ô2:=Ê L5.W
example Ô4:=Option.bind
example Ô5:=pre++[last]
example Ô6:=λ b g h=>mJ (yv (zm À (Ë å (zcR h1)))) h
example Ô9:=ok.ss s (zaS hs)
example Õ0:=(zc 1)
example Õ1:=((r::rs).map zJ)
example Õ3:=∃ k:Nat,yh b (xv s.pu (ù-k*s.gv) (â6+k*s.gt))=true
example Õ4:=[↑a0,↑a1,none,none,none,none,none,none]
example Õ5(hm:1<=many) (hm8:many<=8):=0
example Õ6 _:=x (pl:=nT p) h4 hwt (R.fx.VH (by rw[md] at hwt;show hwt))
example Õ7{b:Bd}:=0
example Õ8:=[↑ Ŀ,↑(.im (Ã n))]
example Õ9:=(xT Å).length
example Ö0{i j:Int}(h1:f Y=↑(Ã i)) (h2:g Y=↑(Ã j)):=0
example Ö1:=by simp[zT,dep,eqT]
example ç2:=(zJ r)
example Ö2:=[↑ ä7,↑ Đ,↑(.im ç2),w]
example í3:=(zm È À)
example Ö4:=(qM (zw rfl (zw í3 rfl)) (Ď rfl))
example Ö5:=["_law_desk","_law_place","_law_pair"]
example Ö6{p:Str}(h:g Y=↑(Ì p)) (hp:Ĉ<=1000000):=0
example Ö7:=occurrences x y 0 ĳ n
example ç1:=xs.map
example Ö8:=nv (ç1 λ x=>T.bl (g x))=↑(ç1 g)
example Ö9:=(ts.map rowOf).map fst
example Ø0:=StrLaws.join_length_le
example Ø1:=yg (zA (yz rfl) (zA (qk rfl h1) rfl)) rfl
example Ø2:=["lasts fa",num ď,num q.1,num q.2]
example Ø3:=(wx (lA (n:=ď) Ę)).1
example Ø4 _:=x (k:=0) rfl
example Ø5 _:=x #[] Ë4 () rfl () () rfl
example Ø6{g:Á->Bd}{m:Á->Nat}:=0
example Ø7:=by let#[a,b,c,d,rfl,h1,h2,_]:=hw r hr
example Ø8:=Õ [Õ [Ã 0,Ã A],Õ [Ã 0,Ã B]]
example Ø9:=(Î (([ď,q.1,q.2].map num).map Ô))
example Ù1:=by .rintro⟨k,h1,_⟩;exfalso;have:0<=Æ*give:=zb3 Ę;lia
example Ù2:=k5 (pu:=s.pu).mp
example ð7 _:=x Ā _
example Ù3:=by rw[eF];change (turn ð7 [ē,Þ,æ,im _,none]).bind _=_
example Ù4:=by let#[a,b,c,d,rfl]:=Yj (show Ĉ=4 from (hr ſ).2.1)
example Ù5:=m x<=k/\(g x).length<=m x
example Ù6:=many+more
example Ù8:=[↑ Ŀ,↑(.im (Ì s)),↑(.im (Ã m))]
example Ù9(b c:Bd):=0
example Ú0:=by rw[<- p9,hy];simp
example Ú1:=(yP (qM rfl (Ď rfl)))
example Ú2{row w:Str}{ws fs:Í}:=0
example Ú3:=["deed fa",num ď,num q.1,num q.2]
example Ú4:=partsBetween_eq
example Ú5:=(qV à p)
example Ú7:=(ts.zip bs).all λ p=>wh p.1 p.2.1 p.2.2
example Ú8:=(.im (Ã span))
example Ú9:=(zT É)
example Û0:=(gp (zw hb rfl) (Nat.le_add_left 1 99))
example Û1:=L " "
example Û2:=(yQ À)
example Û3:=(qu (qa À))
example Û4:=(Î ((["floor","fa",t]:Í).map Ô))
example ê1:=.inl
example Û6:=nk [Ã y,(xh d (ê1 k)).getD (Ã y)]
example Û7:=l.getD ŕ
example Ü3:=Ó (0<=min q'.1 q'.2)
example Ü5(hA:A<=12) (hB:B<=12):=0
example Ü6(told:ż):=0
example Ü8:=beq_iff_eq
example Ý0:=Î (Ļ Ô)
example Ý1:=[Dk Ü,ó5,eT (ä),nT p,ó6]
example Ý2:=.Subscript
example Ý4{o:Ê Out}:=0
example Ý5 _:=x "keeper" "taker"
example Ý6:=by have g2:Gd A B x:=h x (ð);have l1:=g1.qD hA.1;have l2:=g2.qD hA.1
example Ý7:=jY s n F m (Þ) none
example Ý9:=by show zx hS hN;rfl;decide +kernel
example Þ0(ym give get:Int):=0
example Þ1(hx:0<=x/\x<=4) (hy:0<=y/\y<=4) (hn:â=many):=0
example Þ2:=qZ (Ğ fst)=true
example Þ5:=(["floor","fa"]:Í)
example Þ7(b:Bool):=0
example Þ8:=by unfold xM;ext Ï8
example Þ9:=xB zJ _ rs ?_ hl À7
example ß0:=À2 (Í7 õ) Æ=↑(Ã (ns.getD k 0))
example ß1:=(b.flatMap g).length
example ß2:=ss.any λ s=>Ó (s=x)
example ß3:=(zw rfl (zw rfl í))
example ß4{ps:Í}(h0:ps≠[]):=0
example ß6:=by rw[<- zaZ,cG,List.zip_map_left,zD6];rfl
example ß7{a0 a1 a2:W}{d:List (Key×T)}{S:Û}:=0
example õ2:=(Ð Ä)
example ß8 _:=x 2000 [] (ő F) õ2
example ß9:=by have h3:(qI a b q).1<=A/\(qI a b q).2<=B:=by simpa [ir] using h2
example à0:=by rw[o6 (pu:=s.pu),oM,mP];lia
example à1:=by ext è;show h'
example à2:=if Æ*s.gv<=ù then ↑(pS F s q k) else none
example à3(ha:((L w).all λ c=>Ó (c<128))=true):=0
example à4:=a+(L p).length
example à5:=(told++[last])
example à6:=List.replicate
example à7:=ae (hg w.t) hq
example à8:=(za (cS (Ì k)) (za (cS (Ì l)) ze))
example à9:=(cI 2)
example á0:=Builtin.bitAnd
example á1:=(.im (Ã num))
example á3:=Ï " " (w::ws)
example á4:=(nq (l s) y.2)
example á6:=Ð told.length
example á7:=R.av (zA4 m) p
example á9{xs:Û}(hu:u Y=↑xs) (hl:Ò4<=100):=0
example â0:=by dsimp only at h1 h2
example â1:=by rw[zB1,zb6,Ñ hp];rfl
example â2:=by intro p hp;ext Ú
example â3:=by .simp![zC0,zA7];lia
example â4:=by let#[x,hx,rfl]:=Ċ hp
example â5:=by let#[rs,rfl,hr]:=Uj ha;have hl:Í6<=16777216:=by exists hz'
example â7:=by .intro r hr;let#[q,_,rfl]:=Ċ hr;show Yf q
example â8:=[↑(.im Ü),↑(.im (Ã p)),none]
example â9(ht:w.t<Ő) (hb:(Ä8).length<=10000):=0
example ø2:=(ä).length
example ã0:=by have hwt:w.t<ø2:=by rw[md];show (ok.ws w (zB7 h4)).2
example ã1 _:=x (yb s.pu p) (yS s.pu p)
example ã2:=[im (mG told),Þ,æ,none,none]
example ã3:=by have h':Ó (a<b)=true/\qZ (b::l)=true:=by simpa [qZ] using h
example ã4:=by change (c Y).bind _=o;rw[e];show e'
example ã5 _:=x rfl (zm À (XX F s.pu))
example ã6:=[Ì8,Þ,im (rT l),none,none]
example ã7:=Â2 #[r,hr,rfl]
example ã8:=xK à p
example ã9:=h w w1 (by exists w2)
example ä0:=∀ i,xu (l.getD i []) (m.getD i [])
example ä1:=Ū*s.gv=k*s.gv+s.gv
example ä2:=p.toNat
example ä3:=(zW (zb xw Õ0 (zl rZ (za Ō ze))))
example ä4:=by simp[h]
example ä5:=∀ k:Nat,ï8->∃ r∈rs,fst r=Æ
example ä6:=(∀ r∈qs,ka os r)
example ä8:=ng h0 (k:=2) rfl hc
example ä9:=ng h0 (k:=3) rfl hd
example å0:=(ss.map Ô)
example å2:=bd.map (qI w.a w.b)
example å3:=(zU rfl h1)
example å4:=["ever","0",""]
example å5:=(ŀ λ À8=>Ô (ŭ))
example å6:=["floor","place"]
example å8{n:Nat}:=0
example å9:=(zm (x:=zB Å) À (qz (k:=1) rfl))
example æ0:=[ē,Þ,æ,im V,im (zr q')]
example æ2:=by .rcases bF (h.o ſ) with rfl | rfl <;> decide
example æ3 _:=x (ä) rfl (by rw[hlen];lia) λ b hb=>?_
example æ4:=by have h1:=(wx ha).1;have h2:=(wx hc).1;have h3:=(wx hd).1
example æ5:=by change (c Y).bind _=_;rw[h];show h'
example æ6:=xE (p++[x]++r) none
example æ7:=λ c hc=>h c (by rw[e];simp[hc])
example æ8:=r.1<=p.1/\r.2<=p.2
example æ9:=by unfold qI xM;ext Ý3;ext Ï8
example ç0:=λ i h1 h2=>?_
example ç3:=λ _=>rfl
example ç4:=["thing"]
example ç5:=(zc 3)
example ç6:=(.im (Î os))
example ç7:=λ n=>w == num n
example ç8:=(zc 4)
example ç9:=nU x y
example è1:=qT i f Y=↑(.nx (Y.set i ↑ Đ))
example è2:=[clip a,↑b,clip c,clip d]
example è3:=w.length
example è5:=Bool->Ś
example è6:=(xq is Y)
example è7:=λ p=>T.bl (pP q p)
example è8:=[ó5,Ã p]
example è9:=wy à fr
example é0:=(ah Ā true).trans
example é3(g t:Int):=0
example é5(h:f Y=↑(Î ts)):=0
example é6 _:=x (c0:=32) (yr:=[]) ()
example é7{ks:List Key}:=0
example é8(h:pY q):=0
example é9:=xc.mpr #[p,hp,zC6 _,zC6 _]
example ê0:=(0<=p.1/\p.1<=A)/\0<=p.2/\p.2<=B
example ê2:=(0<=q.1/\q.1<=A)/\0<=q.2/\q.2<=B
example ê3:=PyProof.Rows.split_weight x y hy
example ê4:=by rcases h with rfl | rfl <;> decide
example ê5 _:=x pu (xv pu x y)
example ê6:=by have h2:=Ù2 h1;have h3:=ĥ (show xk F p from hb.yW ſ)
example ê7:=by change (g Y).map _=_;rw[h];rfl
example ê8:=[ē,Þ,æ,im (Î Ã4),none]
example ê9:=by rw[Int.natCast_add,zaN];simp
example ë0:=by unfold zP;rw[Ñ hn,h];rfl
example ë1:=xc.mpr #[q,hq,zC6 _,zC6 _]
example ë2:=Ï y (p::qs++[r])
example ë3:=zC1.mpr
example ë4:=by exists hl
example ë6:=ml last fo
example ë8:=zN F (k+1)
example ì1:=(1:Int)<=(ĉ:Int)
example ì3:=λ k hk=>?_
example ì4:=lV (Ĩ) many=true
example ì5:=Ì "taker"
example ì6:=(za ħ ze)
example ì7:=(zl yY (za (zb zi Ç9 É6) ze))
example ì8:=((h0 Ā).mpr rfl)
example ì9:=L4.qg rows
example í0:=oz is c b (n+1) Y
example í1:=(Ð3 Ā É).trans
example í2:=hg.yW x hx
example í4:=y_ (za (cS (Ì "lasts fa")) ze)
example í5:=(zw (x:=Dk Ü) rfl (zw hj rfl))
example í6:=["things"]
example í7(bs:Ò):=0
example í8(n:Int):=0
example í9(p:Str):=0
example î0(h:f Y=↑(Ì w)):=0
example î2:=by show zx hS hN;decide +kernel
example î3:=by change (f Y).map _=_;rw[h];rfl
example î4:=(og Ě r Î6 none)
example î5:=(Î ((o.map (rk true)).map zJ))
example î6:=(by unfold xk at *;ext Ý3;lia)
example î7{last:Ò}{w:Wy}(hb:Gd ė Ó8):=0
example î8:=(a Y).bind _
example ï1:=(Ĭ).getD ŕ
example ï2:=zC1.mp
example ï3:=(jK F p).any
example ï4:=(Ã k)
example ï5:=Õ [a,Õ os,Õ ws,Õ ss]
example ï7:=Æ<(Å2:Int)
example ï9:=("a":Str) == w
example ð0:=(zl yY (za (zb zi Ç9 ř) ze))
example ð1:=[↑(.im (Ì t)),↑(.im V)]
example ð2:=L (ŭ)
example ð3:=tab.lookup w
example ð4:=(Ĵ (.xa d))
example ð6:=λ k:Nat=>Ô1 [Ã Æ,rT (ń)]
example ð8(s:Rd):=0
example ð9:=by rw[qx,hg,zC9,xj,zC9,hf];rfl
example ñ1(hn:n<=1000) (h:e Y=↑(nT n)):=0
example ñ2:=by have:=h.ln;simp![xT,zC0,zD7,zA7];lia
example ñ4:=ik Ā Ā (by rw[s.len];show hp)
example ñ5:=œ (YG e h.1 z ht) (hf p za1)
example ñ6:=l_ (Ç6) os=true
example ñ7:=(by rw[h1];rfl)
example ñ8:=Ļ (·.map clip)
example ò0:=(by rw[h2];rfl)
example ò1:=[Î [f,Ã p,Ã a,Ã b]]
example ò2:=(Î ((b.map (rk É)).map zJ))
example ò3:=Ô1 [Ã (wi.2:Int),rV wi.1]
example ò4:=(og Ě r' Î6 y)
example ò5 _:=x hs.1 hs.2 100
example ò6:=by unfold lC;exact zD0.mpr #[w,w1,?_]
example ò7(ha:L w=a::as) (h102:a≠102):=0
example ò8(h:∀ x∈b,pY x) (hl:Ř<=20):=0
example ò9:=Eq.trans
example ó0:=qI a b r
example ó1:=bs.foldl
example ó3:=(Õ [br,Õ os,Ĩ,Ç6])
example ó4:=λ c=>Ó (c∈L "0123456789")
example ó7:=(yv (zm (zm Ò0 ho) rfl tk))
example ó8:=["floor","place","pair"]
example ó9:=by rw[h0];ext Ý3
example ô0:=by rw[zD7,zD7,p9,p9 y] at this;lia
example ô1(Ñ5:á):=0
example ô2(hs1:1<=span) (hs2:span<=12):=0
example ô3(b o:ç) (hl:Ř+o.length<64):=0
example ô4:=by have hl':À3<16777216:=⋯
example ô5:=by ext Í2;rw[hu];show È7
example ô6:=by unfold f6 Vb;generalize dN=bb at h1 ⊢
example ô8:=(jx A B a b bd)
example ô9:=oa į n g t
example õ0:=F.ss.length<=60
example õ5:=a::b::l
example õ6:=r.getD
example õ9:=["a","b"]
example ö1:=by rw[za4,za4,zaB];rfl
example ö2:=(fs.map Ô)
example ö4:=l true
example ö5:=(yv (zm À ht))
example ö7:=(p.foldl lG [])
example ö8:=(zU rfl (W9 F))
example ö9:=b.Pairwise (λ x y=>m x<m y)
example ø0:=hm x hx
example ø1:=À2 Á8 Ó9
example ø3:=((j+1:Nat):Int)
example ø4:=pf.length
example ø5{b:Bool}(h:g Y=↑(.bl b)):=0
example ø7 _:=x f g Y
example ø8(x:Int):=0
example ù0(l:Ò):=0
example ù1(enc:α->T):=0
example ù2(g:Ü9) (xs:Š):=0
example ù3(os:Û):=0
example ù4(w:Str):=0
example ù5 _:=x rfl ⋯
example ù7(X:Fix F l):=0
example ù8 _:=x zL zL fit_le fit_le zF.mo zF.mo
example ù9:=by have h1:=aC e;have hle:=YY ok k (m-k) ſ q
example ú0:=(p.foldl m_ qq)
example ú1:=by rintro p x r e Y rfl;have hx:x∈bb:=ð
example ú2:=by have:=(ø0).2.2;have:=(hm y hy).2.2
namespace L5
open PySem L2 L3
section
variable {Ü4}{f:Str}{g h:zEO}{ì}{a:Ê Addr}{c:Str}{x y:T}
def jr (h:g Y=↑y):kA g Y=↑(.nx Y):=ê7
def zU {F:zLO}{u:À1}{xs:Û}(h:u Y=↑xs) (hF:F xs=↑y):zl F u Y=↑y:=by ext Í2;rw[h];show hF
def zw {u:À1}{xs:Û}(h:g Y=↑x) (hu:u Y=↑xs):za g u Y=↑(x::xs):=by ext Â5;rw[h];ext Í2;rw[hu];rfl
theorem qM {u:À1}á9:tupS u Y=↑(Õ xs):=ô5
def yv ø5:zW g Y=↑b:=by ext Â5;rw[h];rfl
theorem kE È3 å7 (h:g Y=↑y) (hl:ĉ<=10000):qU i g Y=↑(.nx (Y.set i ↑(Ĵ (Î (ts++[y]))))):=by
 unfold qU;ext ó9;rw[h];show Ñ (zbI hl ())
def zA {a b:Sm}ø6 Ý4(h:a Y=↑(.nx Y')) (h':b Y'=o):zu a b Y=o:=by change î8=o;rw[h];show h'
def qu {a b:Sm}ì{y:T}(h:a Y=↑(.rt y)):zu a b Y=↑(.rt y):=by change î8=_;rw[h];rfl
def yQ {c:ī}{g h:Sm}ì Ý4(e:c Y=↑ É) (e':h Y=o):yq c g h Y=o:=ã4
def qa {c:ī}{g h:Sm}ì Ý4(e:c Y=↑true) (e':g Y=o):yq c g h Y=o:=ã4
def qk {is:á}{f:À1}ļ{b:Sm}ì È3 Ý4(h:f Y=↑ts) (h':qh is g b ts Y=o):wD is f g b Y=o:=by change Þ4=o;rw[h];show h'
def yz Ü4 Ų ì{y:T}(h:f Y=↑y):zV i f Y=↑(.nx (Y.set i ↑(.im y))):=î3
def VC Ų ļ ø6{y:T}(h:f Y=↑y) (h':g y Y=↑Y'):cQ ø7=↑(.nx Y'):=by ext è;change (g y Y).map _=_;rw[h'];rfl
def yg {N:Í}å8{g:Sm}{ys:Û}{y:T}(h:g (qB N ys)=↑(.rt y)) (hn:ys.length=n):zP N n g ys=↑y:=ë0
abbrev im Ó6:Ê W:=↑(.im t)
abbrev nT Ţ:T:=Ã (n:Int)
def yP (h:g Y=↑y):retS g Y=↑(.rt y):=ê7
def oo ø5:xo g Y=↑b:=by ext Â5;rw[h];rfl
def ko {f:ī}{b:Bool}(h:f Y=↑b):qm f Y=↑(!b):=î3
def mJ {f g:ī}{b:Bool}(h:f Y=↑ É) (h':g Y=↑b):qG ø7=↑b:=à1
def Bp {f g:ī}{b:Bool}(h:f Y=↑true) (h':g Y=↑b):jo ø7=↑b:=à1
def Br {f g:ī}(h:f Y=↑ É):jo ø7=↑ É:=Ñ4
end
end L5
namespace SJ
open PySem PySem.Builtin.Str StrLaws
def L (x:Str):á:=x.cps.toList
def ext é1(h:L x=L y):x=y:=Str.ext' (Array.toList_inj.mp h)
def xR (x y:Str):L (x++y)=L x++L y:=by unfold L;rw[Str.cps_append,Array.toList_append]
def p9 (x:Str):(L x).length=ĳ:=zD2
theorem i6 é1 Ë1(hy:1<=ĸ):At x y ĳ k↔∃ t,Ç5 k=L y++t:=by
 ext ŗ
 .rintro⟨h1,h2⟩;rw[subAt_eq,Ü8] at h2;exact#[(Ç5 k).drop ĸ,?_];have e:L y=(Ç5 k).take ĸ:=h2.symm;rw[e,zc1]
 .rintro⟨t,h⟩;have hl:=Ë ć h;rw[zaI,zD7,p9,p9] at hl;exact#[⋯,?_];rw[subAt_eq,Ü8];change (Ç5 k).take ĸ=L y;rw[h,List.take_append_of_le_length (by rw[p9];show zA4 _),zcJ (by rw[p9];show zA4 _)]
def iu Ī{l p r:Š}{a:Nat}(h:l.drop a=p++r):l.drop (a+Ĉ)=r:=by
 rw[<- List.drop_drop,h,List.drop_left]
theorem YG Ī{l p r t:Š}{a c:Nat}{x:α}(h:l.drop a=p++r) (h1:a<=c) (h2:c<a+Ĉ) (h':l.drop c=x::t):x∈p:=by
 have e:l.drop c=(p++r).drop (c-a):=by rw[<- h,List.drop_drop];congr 1;lia
 rw[List.drop_append_of_le_length ⋯] at e;have hne:p.drop (c-a)≠[]:=λ z=>by have:=Ë ć z;rw[zaI] at this;simp![zaE] at this;lia
 cases hd:p.drop (c-a) with
 | nil=>show œ hd hne
 | cons z zs=>
  rw[hd,h'] at e;cases e;show zcE (by rw[hd];show za1)
def pM (y p q:Str) (r:Í):L (Ï y (p::q::r))=L p++(L y++L (Ï y (q::r))):=by
 change L (p++y++Ï y (q::r))=_;rw[xR,xR,zE8]
def qD {y:Str}ü:1<=ĸ:=Ú0
theorem UZ é1 ü:∀ (cuts:á) (a f:Nat) (ps:Í),ChainG x y ĳ a cuts f->(Ò5)->ps≠[]->(Ä7)->Ç5 a=L (Ï y ps)->ô7 x ĸ a cuts=ps
 | [],a,f,[],_,_,h0,_,_=>œ rfl h0
 | [],a,f,[p],h,hn,h0,hf,e=>by
  change [strSub x a ĳ]=[p]
  ext ġ;rfl
 | [],a,f,p::q::r,h,hn,h0,hf,e=>by
  have e1:f=a:=h;subst e1;rw[pM] at e;show œ (Ï7) (hn _ ⋯)
 | c::cs,a,f,[],_,_,h0,_,_=>œ rfl h0
 | c::cs,a,f,[p],h,hn,h0,hf,e=>by
  ext Ê9;have h2:=h.2.1.1;rw[hy,zc6] at ht;exact œ (YG (p:=L p) (r:=[]) (by rw[zaB,e];rfl) h.1 ?_ ht) (hf p za1);have hl:=Ë ć e;have:(L (Ï y [p]))=L p:=rfl;rw[this,zaI,p9,p9] at hl;have hyl:1<=ĸ:=Ú0
  rw[p9];lia
 | c::cs,a,f,p::q::r,h,hn,h0,hf,e=>by
  rw[pM] at e;ext Ê9;have hA:=Ï7;rw[hy,zc6] at ht;have hc:c=à4:=by
   rcases zbA c (à4) with z | z | z
   .show ñ5
   .show z
   .show œ hA (h.2.2.1 _ ⋯ z)
  ext Æ2;rw[UZ hy cs _ f (q::r) h.2.2.2 hn #[] (λ z hz=>hf z (za2 _ hz)) e2];ext ę
def Sq (x:Str):1<=Ű x:=by
 unfold Ű;split
 .show zA4 _
 .split <;> decide
theorem ZX {y:Str}ü (hk:Ű y=1) ß4 (hf:Ä7):ũ (Ï y ps) y=ps:=by
 have hyl:1<=ĸ:=Ú0
 let#[f,hG,hn]:=occ_tight (Ï y ps) y hyl;have key:=UZ hy _ 0 f ps hG hn h0 hf rfl;have k1:=Sq (Ï y ps);unfold ũ;rw[Ú4,key];split
 .rename_i h;rw[zE6,ã,ã,hk] at h;have hl:(Ï y ps).length<ĸ:=⋯
  match ps,h0 with
  | [p],_=>rfl
  | p::q::r,_=>
   have:=Ë ć (pM y p q r);ext ô0
 .split
  .rename_i h;rw[List.isEmpty_iff.mp h] at key;exact ò9 ?_ key;change [_]=[strSub _ 0 _]
   rw[sub_whole]
  .rfl
theorem Lq {x y z:Str}{c:Nat}(hc:c<256) (hx:c∉L x) (hy:c∉L y):Txt.replace (x++Ł++y) Ł z=x++z++y:=by
 have h:ũ (Ï Ł [x,y]) Ł=[x,y]:=ZX (c0:=c) (yr:=[]) rfl (by unfold Ű;rw[Ñ (by exists hc)]) #[] λ p hp=>by
  ext Ú
  .show hx
  .cases Ë5 hp;show hy
 rw[replace_one];have e:x++Ł++y=Ï Ł [x,y]:=rfl;rw[e,h];rfl
def cV Ì0:È8 x y=true↔∃ t,L x=L y++t:=by
 unfold È8;rw[zE5,ã];show i6 (k:=0) hy
theorem YK (s sub:Str) (hi limit lo:Nat) (hw:1<=sub.length):∀ (m cur:Nat) (st:Array Nat×Nat),ChainG æ1 lo st.fst.toList st.snd->(st.fst.size<limit->∀ k,st.snd<=k->k<cur->¬ At æ1 k)->st.fst.size<=limit->
  ChainG æ1 lo (î).run.fst.toList (î).run.snd/\
  ((î).run.fst.size<limit->∀ k,(î).run.snd<=k->k<cur+m->¬ At æ1 k)/\
  (î).run.fst.size<=limit
 | 0,cur,st,h,hn,hl=>#[h,hn,hl]
 | m+1,cur,st,h,hn,hl=>by
  rw[List.range'_succ,zb7];unfold occBody;have e:cur+(m+1)=(cur+1)+m:=⋯;rw[e];split
  .rename_i hc;exact YK æ1 limit lo hw m (cur+1) _ é2 ?_
   .change ChainG æ1 lo (st.fst.push cur).toList (cur+sub.length);rw[Array.toList_push];show chainG_snoc h hc.1.1.2 #[hc.1.2,hc.2] (hn hc.1.1.1)
   .intro _ k h1 h2;have h1':cur+sub.length<=k:=h1;lia
   .change (st.fst.push cur).size<=limit;rw[Array.size_push];show hc.1.1.1
  .rename_i hc;exact YK æ1 limit lo hw m (cur+1) _ h ?_ hl;intro hs k h1 h2 hA;by_cases hk:k<cur
   .show hn hs k h1 hk hA
   .have ek:k=cur:=⋯;subst ek;show hc #[#[#[hs,h1],hA.1],hA.2]
theorem II (x y:Str) Ţ (hw:1<=ĸ):∃ f,ChainG x y ĳ 0 (Ö7) f/\((Ö7).length<n->Ò5)/\(Ö7).length<=n:=by
 rw[occ_eq];have key:=YK x y ĳ n 0 hw (ĳ+1-0) 0 (([].toArray:Array Nat),0) rfl (λ _ k _ h=>⋯) (zD4 _);exact#[_,key.1,λ hs k hk hA=>?_,by rw[zD2];show key.2.2];rw[zD2] at hs;show key.2.1 hs k hk (by have:=hA.1;lia) hA
theorem UY é1 ü (r:Str):∀ (ps:Í) (cuts:á) (a f:Nat),ChainG x y ĳ a cuts f->(cuts.length<ĩ->Ò5)->cuts.length<=ĩ->(Ä7)->Ç5 a=L (Ŵ)->ô7 x ĸ a cuts=ps++[r]
 | [],[],a,f,h,hn,hl,hf,e=>by
  change [strSub x a ĳ]=[r]
  ext ġ;rfl
 | [],c::cs,a,f,h,hn,hl,hf,e=>œ hl (Nat.not_succ_le_zero _)
 | p::ps,cuts,a,f,h,hn,hl,hf,e=>by
  have e:Ç5 a=L p++(L y++L (Ŵ)):=by
   rw[e];cases ps with
   | nil=>show pM y p r []
   | cons q qs=>show pM y p q (qs++[r])
  have hA:=Ï7
  match cuts,h,hn,hl with
  | [],h,hn,hl=>
   have e1:f=a:=h;subst e1;show œ hA (hn (Nat.succ_pos _) _ ⋯)
  | c::cs,h,hn,hl=>
   ext Ê9;rw[hy,zc6] at ht;have hc:c=à4:=by
    rcases zbA c (à4) with z | z | z
    .show ñ5
    .show z
    .show œ hA (h.2.2.1 _ ⋯ z)
   ext Æ2;rw[UY hy r ps cs _ f h.2.2.2 (λ z=>hn (Nat.succ_lt_succ z)) (Nat.le_of_succ_le_succ hl) (λ z hz=>hf z (za2 _ hz)) e2];change _=p::_;ext ę
def Y8 {y:Str}ü (r:Str) {ps:Í}(hf:Ä7):partsBetween (Ŵ) (occurrences (Ŵ) y 0 (Ŵ).length ĩ) ĸ=ps++[r]:=by
 let#[f,h1,h2,h3]:=II (Ŵ) y ĩ (qD hy);rw[Ú4];show UY hy r ps _ 0 f h1 h2 h3 hf rfl
theorem Y3 (x:Str) (w:Nat):∀ (cuts:á) (a:Nat),(ô7 x w a cuts).length=cuts.length+1
 | [],_=>rfl
 | c::r,a=>Ë (· + 1) (Y3 x w r (c+w))
theorem M3 {y:Str}ü (hk:strKind y=1) (r:Str) ß4 (hf:Ä7):Txt.splitMax (Ŵ) y (ĩ:Int)=ps++[r]:=by
 have key:=Y8 hy r hf;have el:limitOf (Ŵ) (ĩ:Int)=ĩ:=by
  unfold limitOf;rw[ø ⋯];rfl
 have hm:=Ë ć key;rw[Ú4,Y3,zD7] at hm;let#[p,qs,rfl]:=zcK h0;unfold Txt.splitMax;rw[el,key];have k1:=Sq (ë2);rw[ø,ø]
 .intro h;rw[List.isEmpty_iff.mp h] at hm;simp at hm
 .rw[zE6,ã,ã,hk];have:ĸ<=(ë2).length:=by
   have e:L (ë2)=L p++(L y++L (Ï y (qs++[r]))):=by
    cases qs with
    | nil=>show pM y p r []
    | cons q qs=>show pM y p q (qs++[r])
   have:=Ë ć e;ext ô0
  lia
end SJ
namespace L2
open PySem PySem.Builtin.Str StrLaws SJ
def J0 {y p r:Str}ü (hf:c0∉L p):jW (î9) y=[p,y,r]:=by
 have key:=Y8 (ps:=[p]) hy r (λ z hz=>by rw[Ë5 hz];show hf);rw[Ú4] at key;unfold jW;change ô7 (î9) ĸ 0 (Ë6)=[p,r] at key;generalize Ë6=cs at *;have hm:=Ë ć key;rw[Y3] at hm
 match cs,hm with
 | [c],_=>
  have e1:=(Ì4 key).1;have e2:=(Ì4 (Ì4 key).2).1;change [_,_,_]=_;rw[e1,e2]
end L2
namespace RN
open L5
abbrev Bd:=ç
def xu Ù9:Prop:=∀ q,yh b q=true->yh c q=true
def xu.refl Ñ2:xu b b:=λ _ h=>h
def xu.trans {a b c:Bd}(h:xu a b) (h':xu b c):xu a c:=λ q x=>h' q (h q x)
def xu.of {b c:Bd}(h:∀ p∈b,∃ r∈c,æ8):xu b c:=λ q x=>by
 let#[p,hp,h1,h2]:=xc.mp x;let#[r,hr,h3,h4]:=h ſ;show xc.mpr #[r,hr,⋯,⋯]
def xu.at {b c:Bd}(h:xu b c) {p:Á}(hp:p∈b):∃ r∈c,æ8:=xc.mp (h p (é9))
structure Gd (A B:Int) Ñ2:Prop where
 ig:oG b
 yW:∀ p∈b,ê0
def qq:Bd:=[(0,0)]
def Qt Į:yh qq q=true↔0<=q.1/\0<=q.2:=by
 rw[xc];unfold qq;simp
theorem Gd.qq ŋ(hA:0<=A) (hB:0<=B):Gd A B qq:=#[by unfold RN.qq oG;simp,λ p hp=>by
 unfold RN.qq at hp;cases Ë5 hp;show#[#[zC6 _,hA],zC6 _,hB]]
def Gd.Sf ŋ Õ7(h:Á1):xu b RN.qq:=xu.of λ p hp=>#[(0,0),by unfold RN.qq;simp,(h.yW ſ).1.1,(h.yW ſ).2.1]
theorem Gd.eq ŋ É9 (x:xu b c) (y:xu c b):b=c:=oG.eq h.ig h'.ig λ q=>by
 rw[zC7];show#[x q,y q]
def Gd.least ŋ{ps:Bd}(h:∀ p∈ps,ê0):Gd A B (oK ps):=#[YO ps,λ p hp=>h p (HZ hp)]
def T_ {ps qs:Bd}(h:∀ p∈ps,∃ r∈qs,æ8):xu (oK ps) (oK qs):=λ q x=>by
 rw[gs] at x ⊢;show xu.of h q x
theorem SK:∀ Õ7{lo hi:Int},oG b->(∀ p∈b,lo<=p.1/\p.1<=hi)->(Ř:Int)<=hi+1-lo\/b=[]
 | [],_,_,_,_=>.inr rfl
 | p::b,lo,hi,h,hb=>by
  have h1:=za9.mp h;have hp:=hb p za1;exact ê1 ?_;rcases SK (lo:=p.1+1) (hi:=hi) h1.2 (λ q hq=>#[by have:=(h1.1 q hq).1;lia,(hb q (za2 _ hq)).2]) with x | x
  .rw[zC0];lia
  .subst x;simp;lia
def Gd.qD ŋ Õ7(h:Á1) (hA:0<=A):(Ř:Int)<=A+1:=by
 rcases SK (lo:=0) (hi:=A) h.ig (λ p hp=>(h.yW ſ).1) with x | x
 .lia
 .subst x;simp;lia
def xM ø8:Int:=if x>0 then x else 0
def bM ø8:0<=xM x:=Þ8
def YC {x y:Int}(h:x<=y):xM x<=xM y:=by unfold xM;split <;> split <;> lia
def He {x g:Int}(h:0<=x) (hg:0<=g):xM (x-g)<=x:=Þ8
def qI (a b:Int) (p:Á):Á:=(xM (p.1-a),xM (p.2-b))
def ir (A B:Int) (p:Á):Bool:=Ó (p.1<=A)&&Ó (p.2<=B)
def jx (A B a b:Int) (bd:Bd):Bd:=oK ((bd.map (qI a b)).filter (ir A B))
def Bw (A B a b:Int) (bd:Bd):Gd A B ô8:=Gd.least λ p hp=>by
 let#[h1,h2]:=zC8.mp hp;let#[q,_,rfl]:=Ċ h1;ext ß9
 show#[#[bM _,h3.1],bM _,h3.2]
def P0 (A B a b:Int) {bd bd':Bd}(h:xu bd bd'):xu ô8 (jx A B a b bd'):=T_ λ p hp=>by
 let#[h1,h2]:=zC8.mp hp;let#[q,hq,rfl]:=Ċ h1;let#[r,hr,r1,r2]:=h.at hq;ext ß9
 have m1:(ó0).1<=(qI a b q).1:=YC ⋯;have m2:(ó0).2<=(qI a b q).2:=YC ⋯;show#[ó0,zC8.mpr #[ã7,by simp[ir];lia],m1,m2]
def lG Ù9:Bd:=oK (b++c)
def D0 Ù9 Ķ:yh (lG b c) q=(yh b q||yh c q):=by unfold lG;rw[gs,DY]
def Dz ŋ É9:Gd A B (lG b c):=Gd.least λ p hp=>by
 rcases ï0 hp with x | x
 .show h.yW p x
 .show h'.yW p x
def bU (p q:Á):Á:=(if q.1>p.1 then q.1 else p.1,if q.2>p.2 then q.2 else p.2)
def m_ Ù9:Bd:=oK (b.flatMap λ p=>c.map (bU p))
def QQ Ù9 Ķ:yh (m_ b c) q=(yh b q&&yh c q):=by
 unfold m_;rw[gs,zC7,zE5,xc,xc,xc];ext ŗ
 .ext ų;ext Å8;let#[y,hy,rfl]:=Ċ hp;unfold bU at h1 h2;ext â0;exact#[#[x,hx,?_,?_],#[y,hy,?_,?_]] <;> (first | (split at h1 <;> lia) | (split at h2 <;> lia))
 .rintro⟨⟨x,hx,h1,h2⟩,⟨y,hy,h3,h4⟩⟩;exact#[bU x y,zaM.mpr #[x,hx,Â2 #[y,hy,rfl]],?_,?_]
  .change (if y.1>x.1 then y.1 else x.1)<=q.1;ext Ï8
  .change (if y.2>x.2 then y.2 else x.2)<=q.2;ext Ï8
def CZ ŋ É9:Gd A B (m_ b c):=Gd.least λ p hp=>by
 ext Å8;let#[y,hy,rfl]:=Ċ hp;have a1:=h.yW x hx;have a2:=h'.yW y hy;unfold bU;ext Ý3;exact#[#[?_,?_],?_,?_] <;> split <;> lia
def mV í7:Bd:=ó1 lG []
def dH í7:Bd:=ó1 m_ qq
theorem Xy:∀ í7 Ñ2 Ķ,yh (ó1 lG b) q=true↔yh b q=true\/∃ c∈bs,yh c q=true
 | [],b,q=>#[]
 | c::bs,b,q=>by
  rw[zaQ,Xy bs,D0,zE6];ext ŗ
  .rintro ((h | h) | ⟨d,hd,h⟩)
   .show ê1 h
   .show .inr #[c,za1,h]
   .show .inr #[d,za2 _ hd,h]
  .rintro (h | ⟨d,hd,h⟩)
   .show ê1 (ê1 h)
   .rcases É4 hd with e | e
    .subst e;show ê1 (.inr h)
    .show .inr #[d,e,h]
theorem de ŋ:∀ í7 Ñ2,Á1->(∀ c∈bs,Gd A B c)->Gd A B (ó1 lG b)
 | [],b,h,_=>h
 | c::bs,b,h,hb=>de bs _ (Dz h (hb c za1)) λ d hd=>hb d (za2 _ hd)
def Gd.nil ŋ:Gd A B []:=#[by unfold oG;simp,λ p hp=>by cases hp]
theorem XZ:∀ í7 Ñ2 Ķ,yh (ó1 m_ b) q=true↔yh b q=true/\∀ c∈bs,yh c q=true
 | [],b,q=>#[]
 | c::bs,b,q=>by
  rw[zaQ,XZ bs,QQ,zE5];ext ŗ
  .rintro⟨⟨h1,h2⟩,h3⟩;show#[h1,λ d hd=>by
    rcases É4 hd with e | e
    .subst e;show h2
    .show h3 d e]
  .rintro⟨h1,h2⟩;show#[#[h1,h2 c za1],λ d hd=>h2 d (za2 _ hd)]
theorem XY ŋ:∀ í7 Ñ2,Á1->(∀ c∈bs,Gd A B c)->Gd A B (ó1 m_ b)
 | [],b,h,_=>h
 | c::bs,b,h,hb=>XY bs _ (CZ h (hb c za1)) λ d hd=>hb d (za2 _ hd)
def xv Ĝ é3:Á:=if pu=true then (t,g) else (g,t)
def yb Ĝ (p:Á):Int:=if pu=true then p.2 else p.1
def yS Ĝ (p:Á):Int:=if pu=true then p.1 else p.2
def oa Ĝ Þ0:Nat->Int->Int->Bd
 | 0,_,_=>[]
 | n+1,g,t=>if g<=ym then xv pu g t::oa į È4 else []
def Kj {pu:Bool}{g t g' t':Int}(h:g'<=g) (h':t'<=t):(xv pu g' t').1<=(xv pu g t).1/\(xv pu g' t').2<=(xv pu g t).2:=by
 cases pu
 .show#[h,h']
 .show#[h',h]
theorem Q3 Ĝ Þ0:∀ Ţ (g t g' t':Int),g'<=g->t'<=t->∀ e∈ ô9,∃ r∈oa į n g' t',r.1<=e.1/\r.2<=e.2
 | 0,_,_,_,_,_,_,e,he=>by cases he
 | n+1,g,t,g',t',h1,h2,e,he=>by
  unfold oa at he ⊢;split at he
  .rw[Ñ ⋯];rcases É4 he with x | x
   .subst x;show#[_,za1,Kj h1 h2]
   .let#[r,hr,r1]:=Q3 į n Ā (g' + give) (xM (t'-get)) ⋯ (YC ⋯) e x;show#[r,za2 _ hr,r1]
  .cases he
theorem XA Ĝ (ym give get most:Int) (hg:1<=give) (hgt:0<=get):∀ Ţ é3,0<=g->0<=t->t<=most->∀ e∈ ô9,(0<=yb pu e/\yb pu e<=ym)/\0<=yS pu e/\yS pu e<=most
 | 0,_,_,_,_,_,e,he=>by cases he
 | n+1,g,t,h1,h2,h3,e,he=>by
  unfold oa at he;split at he
  .rcases É4 he with x | x
   .subst x;cases pu <;> show#[#[h1,by ext ø9],h2,h3]
   .show XA į most hg hgt n Ā ⋯ (bM _) (Ŭ (He h2 hgt) h3) e x
  .cases he
theorem Q4 Ĝ Þ0 (hg:1<=give):∀ Ţ é3,g<=ym+1->((ô9).length:Int)<=ym+1-g
 | 0,g,t,h=>by simp[oa];lia
 | n+1,g,t,h=>by
  unfold oa;split
  .rw[zC0];by_cases hh:g+give<=ym+1
   .have:=Q4 į hg È4 hh;lia
   .have e:oa į È4=[]:=by
     cases n with
     | zero=>rfl
     | succ n=>unfold oa;rw[ø ⋯]
    rw[e];simp;lia
  .simp;lia
structure Wy where
 f:Nat
 t:Nat
 a:Int
 b:Int
structure Sl where
 p:Nat
 pu:Bool
 gv:Int
 gt:Int
structure zD where
 A:Int
 B:Int
 os:List Bool
 ws:List Wy
 ss:List Sl
structure zD.Ok é:Prop where
 a0:0<=F.A
 a1:F.A<=12
 b0:0<=F.B
 b1:F.B<=12
 n1:1<=Ä
 n8:Ä<=8
 ws:∀ w∈F.ws,w.f<Ä/\w.t<Ä
 lX:Ä4<=60
 ss:∀ s∈F.ss,1<=s.gv/\0<=s.gt
 sl:F.ss=[]\/F.A<=8/\F.B<=8
 s8:õ0
def zD.ym é Ĝ:Int:=if pu=true then F.B else F.A
def kD é (s:Sl) (p:Á):Bd:=oa ķ 100 ã1
def i3 é (s:Sl) (bd:Bd):Bd:=oK (bd.flatMap (kD F s))
def Cp é (s:Sl) {b c:Bd}(h:xu b c):xu (i3 F s b) (i3 F s c):=T_ λ p hp=>by
 ext Å8;let#[r,hr,r1,r2]:=h.at hx;let#[e,he,e1]:=Q3 ķ 100 (yb s.pu x) (yS s.pu x) (õ1) (yS s.pu r) (by unfold yb;ext é4) (by unfold yS;ext é4) ſ;show#[e,zaM.mpr #[r,hr,he],e1]
def Co ă {p:Á}(hp:(0<=p.1/\p.1<=F.A)/\0<=p.2/\p.2<=F.B):∀ e∈kD F s p,(0<=e.1/\e.1<=F.A)/\0<=e.2/\e.2<=F.B:=λ e he=>by
 let#[p,pu,gv,gt]:=s;unfold kD zD.ym at he;cases pu with
 | true=>show (XA true F.B gv gt F.A ò5 Ā hp.2.1 hp.1.1 hp.1.2 e he).symm
 | É=>show XA É F.A gv gt F.B ò5 Ā hp.1.1 hp.2.1 hp.2.2 e he
def Cr ă Õ7(h:Í4):Gd ė (i3 F s b):=Gd.least λ p hp=>by
 ext Å8;show Co hs (h.yW x hx) ſ
def qV é À0 Ē:Ò:=(ŝ).map λ w=>jx ė w.a w.b Ó8
def zD.stall é Ē:Ê Sl:=F.ss.find? Ĕ
def xK é À0 Ē:Bd:=
 if ĝ=true then match ŵ with
  | none=>mV Ú5
  | some s=>i3 F s (mV Ú5)
 else dH Ú5
def Za é À0 Ē:∀ c∈qV à p,Gd ė c:=λ c hc=>by
 let#[w,_,rfl]:=Ċ hc;show Bw ..
def YB Ø À0 Ē:Gd ė (ã8):=by
 unfold xK;have h1:Gd ė (mV Ú5):=de Ā Gd.nil (Za à p);split
 .split
  .show h1
  .rename_i s e;show Cr (ok.ss s (zaS e)) h1
 .show XY Ā (Gd.qq ok.a0 ok.b0) (Za à p)
theorem TB é {l m:Ò}Ē (h:∀ w∈F.ws,w.f=p->xu (Ä8) (m.getD w.t [])):xu (xK ß5) (xK F m p):=by
 have h1:xu (mV (qV ß5)) (mV (qV F m p)):=λ q hq=>by
  unfold mV at hq ⊢;rw[Xy] at hq ⊢;rcases hq with x | ⟨c,hc,x⟩
  .show ê1 x
  .ext Ì1;ext Î7;show .inr #[_,Ï9,P0 Ā Ā (ã9) q x]
 unfold xK;split
 .split
  .show h1
  .show Cp F _ h1
 .intro q hq;unfold dH at hq ⊢;rw[XZ] at hq ⊢;exact#[hq.1,λ c hc=>?_];ext Ì1;ext Î7;show P0 Ā Ā (ã9) q (hq.2 _ (Ï9))
theorem I_ é {l m:Ò}Ē (h:∀ w∈F.ws,w.f=p->Ä8=m.getD w.t []):xK ß5=xK F m p:=by
 have:qV ß5=qV F m p:=by
  unfold qV;exact zaD λ w hw=>?_;ext Î7;rw[ã9]
 unfold xK;rw[this]
def box:ç:=(Ð 13).flatMap λ(i:Nat)=>(Ð 13).map λ(j:Nat)=>(Ó9,(j:Int))
def mu Ñ2:Nat:=box.countP (yh b)
theorem CU {p:Á}(h:(0<=p.1/\p.1<=12)/\0<=p.2/\p.2<=12):p∈box:=by
 let#[x,y]:=p;dsimp only at h;exact zaM.mpr #[x.toNat,ë3 ⋯,Â2 #[y.toNat,ë3 ⋯,?_]];rw[zF2 h.1.1,zF2 h.2.1]
theorem Qu Ī{p q:Ü9}:∀ {l:Š},(∀ x,q x=true->p x=true)->(∃ x∈l,p x=true/\q x=É)->l.countP q<l.countP p
 | [],_,#[x,hx,_]=>by cases hx
 | a::l,h,#[x,hx,h1,h2]=>by
  have hle:l.countP q<=l.countP p:=List.countP_mono_left λ y _=>h y;rw[List.countP_cons,List.countP_cons];rcases É4 hx with e | e
  .subst e;rw[ø (by rw[h2];decide),Ñ h1];lia
  .have:=Qu h #[x,e,h1,h2];by_cases c:q a=true
   .rw[Ñ c,Ñ (h a c)];lia
   .rw[ø c];ext Ï8
theorem Hi ŋ Ü5 {b c:Bd}(hb:Á1) (hc:Gd A B c) (h:xu b c) (hne:b≠c):mu b<mu c:=by
 exact Qu h ?_;by_cases x:∃ p∈c,yh b p=É
 .let#[p,hp,e]:=x;have q:=hc.yW ſ;show#[p,CU #[#[q.1.1,⋯],q.2.1,⋯],é9,e]
 .show œ (hb.eq hc h (xu.of λ p hp=>by
   cases e:yh b p with
   | true=>show xc.mp e
   | É=>show œ #[p,hp,e] x)) hne
theorem Hj Ñ2:mu b<=169:=by
 have:box.length=169:=()
 rw[<- this];show List.countP_le_length
def nG ù0:Nat:=(l.map mu).sum
theorem TH:∀ ù0,nG l<=169*Ő
 | []=>by simp[nG]
 | b::l=>by
  have h1:=TH l;have h2:=Hj b;unfold nG at h1 ⊢;rw[zA6,zb2,zC0];lia
theorem YD ŋ Ü5:∀ {l m:Ò},Ő=m.length->(∀ b∈l,Á1)->(∀ b∈m,Á1)->(ä0)->l≠m->nG l<nG m
 | [],[],_,_,_,_,h=>œ rfl h
 | [],_::_,h,_,_,_,_=>by simp at h
 | _::_,[],h,_,_,_,_=>by simp at h
 | b::l,c::m,hl,gb,gc,h,hne=>by
  have hl':Ő=m.length:=ë4
  have h0:xu b c:=h 0;have hs:ä0:=λ i=>by exists h (i+1)
  have key:nG l<=nG m:=by
   by_cases e:l=m
   .rw[e];show zA4 _
   .show zE3 (YD Ç3 e)
  change (List.map mu (b::l)).sum<(List.map mu (c::m)).sum;rw[zA6,zb2,zA6,zb2];by_cases e:b=c
  .subst e;have:l≠m:=λ q=>hne (by rw[q]);have:=YD Ç3 this;unfold nG at this;lia
  .have:=Hi hA hB (gb b za1) (gc c za1) h0 e;unfold nG at key;lia
def lC é ô1 Ē:Bool:=F.ws.any λ w=>ë5&&fresh.contains w.t
def wy é À0 ô1:Ò:=(Ð Ô0).map λ p=>if lC F Ñ5 p=true then ã8 else Ĥ ŕ
def ml (last following:Ò):á:=(Ð following.length).filter λ p=>Ó (following.getD ŕ ≠ Ĥ ŕ)
def kT é:Nat->ż->Ò->á->Ê (ż)
 | 0,_,_,_=>none
 | n+1,told,last,Ñ5=>if Ñ5=[] then ↑ à5 else
   let fo:=Ĭ
   let fr:=ë6
   if fr=[] then ↑ à5 else kT F n à5 fo fr
structure St é À0 ô1:Prop where
 len:Ô0=Ä
 gd:∀ b∈last,Í4
 fr:∀ p<Ä,lC F Ñ5 p=É->(ň)->ã8=Ĥ ŕ
 le:∀ p<Ä,(ň)->xu (ã8) (Ĥ ŕ)
def ik Ī(f:Nat->α) (n p:Nat) (d:α) (h:p<n):((Ð n).map f).getD p d=f p:=by
 rw[zB1,zA3,zcF h];rfl
def kY é À0 ô1:(Ĭ).length=Ô0:=by unfold wy;simp
theorem St.at Ľ ě ô (hw:ň):ï1=ã8:=by
 unfold wy;rw[ñ4];split
 .rfl
 .rename_i h;show (s.fr ſ (by exists h) hw).symm
def GZ Ľ{Ñ5:á}Ä5(h:lC F Ñ5 p=true):ň:=by
 unfold lC at h;let#[w,h1,h2]:=zD0.mp h;show#[w,h1,by simp at h2;show h2.1]
theorem St.no Ľ ě ô (hw:¬ ň):ï1=Ĥ ŕ:=by
 unfold wy;rw[ñ4,ø (λ h=>hw (GZ h))]
theorem St.Qz Ľ ě Ē:xu (ï1) (Ĥ ŕ):=by
 by_cases hp:p<Ä
 .by_cases hw:ň
  .rw[s.at hp hw];show s.le ſ hw
  .rw[s.no hp hw];show xu.refl _
 .have h1:ï1=[]:=by
   rw[zB1,zbJ (by rw[kY,s.len];lia)];rfl
  rw[h1];intro q x;cases x
def St.next Ø ě:St F (Ĭ) (ml last (Ĭ)) where
 len:=by rw[kY,s.len]
 gd:=λ b hb=>by
  unfold wy at hb;let#[p,hp,rfl]:=Ċ hb;split
  .show YB ok last p
  .have hlt:=ï2 hp;rw[zB1,zA1 hlt];show s.gd _ (zD8 hlt)
 fr:=λ p hp hn hw=>by
  rw[s.at hp hw];exact I_ F p λ w w1 w2=>?_;have hwt:=(ok.ws w w1).2;by_cases e:(Ĭ).getD w.t []=Ĥ w.t []
  .show e
  .have:lC F (ml last (Ĭ)) p=true:=by
    ext ò6;have:w.t∈ml last (Ĭ):=by
     unfold ml;show zC8.mpr #[ë3 (by rw[kY,s.len];show hwt),by exists e]
    simp[w2,this]
   rw[this] at hn;cases hn
 le:=λ p hp hw=>by
  rw[s.at hp hw];show TB F p λ w w1 w2=>s.Qz w.t
def E9 Æ1 (h:ë6 ≠[]):fo≠last:=λ e=>h (by
 subst e;unfold ml;simp)
def start é:Ò:=à6 Ä qq
theorem St.start Ø:St F (start F) õ2 where
 len:=by unfold ő;simp
 gd:=λ b hb=>by rw[List.eq_of_mem_replicate hb];show Gd.qq ok.a0 ok.b0
 fr:=λ p hp hn #[w,w1,w2]=>by
  have:lC F õ2 p=true:=by
   ext ò6;have:=(ok.ws w w1).2;simp[w2,this]
  rw[this] at hn;cases hn
 le:=λ p hp hw=>by
  have e:(ő F).getD ŕ=qq:=by
   unfold ő;ext â1
  rw[e];show (YB ok _ p).Sf
theorem Uo Ø:∀ Ţ Ü6 À0 ô1,St à Ñ5->nG last<n->
  ∃ more last',kT F n told last Ñ5=↑(told++last::more)/\(∀ r∈last::more,ó2=Ä/\∀ b∈r,Í4)/\(last::more).getLast?=↑last'/\more.length<=nG last
 | 0,_,_,_,_,h=>⋯
 | n+1,told,last,Ñ5,s,h=>by
  unfold kT;split
  .show Â4
  .ext Ý3;split
   .show Â4
   .rename_i hf;have s':=s.next ok;have hlt:nG (Ĭ)<nG last:=YD ok.a1 ok.b1 (kY ..) s'.gd s.gd s.Qz (E9 (kY ..) hf);let#[more,last',e1,e2,e3,e4]:=Uo ok n à5 Ā s' ⋯;exact#[Ĭ::more,last',by rw[e1];simp,λ r hr=>?_,by rw[List.getLast?_cons_cons];show e3,by rw[zC0];lia];rcases É4 hr with e | e
    .subst e;show#[s.len,s.gd]
    .show e2 r e
theorem Bx {A B a b:Int}{bd:Bd}(h0:∀ p∈bd,0<=p.1/\0<=p.2) Į(hq:ê2):yh ô8 q=true↔yh bd (q.1+a,q.2+b)=true:=by
 unfold jx;rw[gs,xc,xc];ext ŗ
 .ext ų;let#[hp,_]:=zC8.mp hp;ext Ã2;exact#[r,hr,?_,?_]
  .unfold qI xM at h1;dsimp only at h1 ⊢;split at h1 <;> lia
  .unfold qI xM at h2;dsimp only at h2 ⊢;split at h2 <;> lia
 .rintro⟨r,hr,h1,h2⟩;ext â0;have e1:(ó0).1<=q.1:=æ9
  have e2:(ó0).2<=q.2:=æ9
  exact#[ó0,zC8.mpr #[ã7,?_],e1,e2];unfold ir;rw[zcS ⋯,zcS ⋯];rfl
theorem XB Ĝ Þ0 (hg:1<=give) (hgt:0<=get):∀ Ţ é3,0<=t->ym-g<n->∀ (G T:Int),G<=ym->
  ((∃ e∈ ô9,yb pu e<=G/\yS pu e<=T)↔∃ k:Nat,g+k*give<=G/\xM (t-k*get)<=T)
 | 0,g,t,ht,hn,G,T,hG=>by
  ext ŗ
  .rintro⟨e,he,_⟩;cases he
  ext Ù1
 | n+1,g,t,ht,hn,G,T,hG=>by
  have gv:∀ x y,yb ê5=x:=λ x y=>ċ
  have gt:∀ x y,yS ê5=y:=λ x y=>ċ
  have ih:=XB į hg hgt È4 (bM _) ⋯ G T hG;have mm:∀ k:Nat,xM (xM (t-get)-k*get)=xM (t-õ3*get):=λ k=>by
   have:0<=Æ*get:=zb3 ⋯ hgt;have e:Ū*get=k*get+get:=Ĺ
   rw[e];unfold xM;split <;> split <;> (try split) <;> lia
  have gg:∀ k:Nat,g+give+k*give=g+õ3*give:=λ k=>by
   rw[zb4,zaN];lia
  unfold oa;split
  .rename_i hgb;ext ŗ
   .rintro⟨e,he,h1,h2⟩;rcases É4 he with rfl | he
    .rw[gv] at h1;rw[gt] at h2;exact#[0,by simpa using h1,?_];unfold xM;split <;> simp at * <;> lia
    .let#[k,k1,k2]:=ih.mp #[e,he,h1,h2];show#[k+1,by rw[<- gg];show k1,by rw[<- mm];show k2]
   .rintro⟨k,k1,k2⟩;cases k with
    | zero=>
     exact#[_,za1,by rw[gv];simpa using k1,?_];rw[gt];unfold xM at k2;split at k2 <;> simp at * <;> lia
    | succ k=>
     let#[e,he,h1]:=ih.mpr #[k,by rw[gg];show k1,by rw[mm];show k2];show#[e,za2 _ he,h1]
  .rename_i hgb;ext ŗ
   .rintro⟨e,he,_⟩;cases he
   ext Ù1
def k5 {pu:Bool}{p q:Á}:(p.1<=q.1/\p.2<=q.2)↔yb pu p<=yb pu q/\yS pu p<=yS pu q:=by
 cases pu
 .show Iff.rfl
 .show And.comm
def Cs ă (hA:F.A<=12) (hB:F.B<=12) Õ7(hb:∀ p∈b,0<=p.1/\0<=p.2) Į(hq:Ã7):
  yh (i3 F s b) q=true↔ Õ3:=by
 have hbr:Ý8<=12:=by unfold zD.ym;ext é4
 have hqb:ù<=Ý8:=by unfold yb zD.ym;ext Ï8
 have hq0:0<=ù/\0<=â6:=by unfold yb yS;ext Ï8
 have gv:∀ x y,yb s.pu (xv s.pu x y)=x:=λ x y=>by cases s.pu <;> rfl
 have gt:∀ x y,yS s.pu (xv s.pu x y)=y:=λ x y=>by cases s.pu <;> rfl
 unfold i3;rw[gs,xc];ext ŗ
 .rintro⟨e,he,eR⟩;let#[p,hp,he]:=zaM.mp he;let#[h1,h2]:=Ù2 eR;ext Ê3
  let#[k,k1,k2]:=(XB ķ ò5 Ā g0.2 ⋯ Ā hqb).mp #[e,he,h1,h2];exact#[k,xc.mpr #[p,hp,ë7 #[by rw[gv];lia,?_]]];rw[gt];unfold xM at k2;split at k2 <;> lia
 .rintro⟨k,hk⟩;let#[p,hp,eR]:=xc.mp hk;let#[h1,h2]:=Ù2 eR;rw[gv] at h1;rw[gt] at h2;ext Ê3
  let#[e,he,h3]:=(XB ķ ò5 ã1 g0.2 ⋯ (ù) (â6) hqb).mpr #[k,⋯,Þ8];show#[e,zaM.mpr #[p,hp,he],ë7 h3]
def zN é:Nat->Ò
 | 0=>start F
 | k+1=>(Ð Ä).map λ p=>xK F (Ô7) p
theorem md é:∀ k,(Ô7).length=Ä
 | 0=>by unfold zN start;simp
 | k+1=>by unfold zN;simp
theorem IZ Ľ ě (hw:∀ p<Ä,ň):Ĭ=(Ð Ä).map λ p=>ã8:=by
 exact zb8 (by rw[kY,s.len];simp) ç0;have hi:i<Ä:=by exists h2
 have e:=s.at hi (hw i hi);rw[zB1,zA1 h1] at e;exists e
def EA Æ1 (h:ë6=[]):fo=last:=by
 exact zb8 hl ç0;have:i∉ ë6:=by rw[h];simp
 unfold ml at this;rw[zC8] at this;have e:fo.getD i []=Ĥ i []:=Classical.byContradiction λ hne=>this #[ë3 h1,by exists hne];rw[zB1,zA1 h1,zB1,zA1 h2] at e;exists e
theorem Uq Ø (hw:∀ p<Ä,ň):∀ Ţ Ü6 ŷ ô1 (res:ż),St F (Ô7) Ñ5->Ñ5 ≠[]->told=(Ð k).map (zN F)->
  kT F n told (Ô7) Ñ5=↑res->∃ m,res=(Ð (m+1)).map (zN F)/\zN F (m+1)=ä
 | 0,_,_,_,_,_,_,_,h=>by cases h
 | n+1,told,k,Ñ5,res,s,hf,ht,h=>by
  unfold kT at h;rw[ø hf] at h;dsimp only at h;have e:wy F (Ô7) Ñ5=ë8:=IZ s hw;have et:told++[Ô7]=(Ð (k+1)).map (zN F):=by rw[ht,List.range_succ,zE7];rfl
  rw[e,et] at h;split at h
  .rename_i hfr;cases h;show#[k,rfl,EA (by rw[md,md]) hfr]
  .rename_i hfr;have s':=s.next ok;rw[e] at s';show Uq ok hw n _ (k+1) _ res s' hfr rfl h
def xk é Ķ:Prop:=Ã7
def kQ é Ķ (w:Wy):Ê (Á):=if ë9<0\/ì0<0 then none else ↑(min (ë9) F.A,min (ì0) F.B)
def qE é À0 Ķ (w:Wy):Bool:=match kQ F q w with
 | none=>É
 | some r=>yh Ó8 r
def jK é Ē:List Wy:=ŝ
def m5 é (s:Sl):Nat->Á->ç
 | 0,q=>[q]
 | n+1,q=>q::if s.gv<=ù then m5 F s n Ć else []
def qH é Ē Ķ:ç:=match ŵ with
 | none=>[q]
 | some s=>m5 F s 20 q
def gM é À0 Ē Ķ:Bool:=
 if ĝ=true then (Ŷ).any λ r=>ï3 (qE à r) else (jK F p).all (qE à q)
def DX ŋ Õ7(hb:Á1) Ü7:yh b (min x A,min y B)=yh b (x,y):=by
 rw[zC7,xc,xc];ext ŗ
 .ext ų;ext â0;show#[p,hp,ŉ,ŉ]
 .ext ų;have:=hb.yW ſ;ext â0;show#[p,hp,ŉ,ŉ]
def Ga Ľ î7 Ķ:qE à q w=yh Ó8 (ë9,ì0):=by
 unfold qE kQ;by_cases h:ë9<0\/ì0<0
 .rw[Ñ h]
  symm
  rw[<- zE9,xc];ext ų;have:=hb.yW ſ;ext â0;lia
 .rw[ø h];show DX hb Ā
def ae Ľ î7 þ:yh (jx ė w.a w.b Ó8) q=qE à q w:=by
 rw[Ga hb,zC7];show Bx (λ p hp=>#[(hb.yW ſ).1.1,(hb.yW ſ).2.1]) hq
def Xx Ľ Ê5 Ä5 þ:yh (mV Ú5) q=ï3 (qE à q):=by
 rw[zC7,mV,Xy,zD0];ext ŗ
 .rintro (h | ⟨c,hc,h⟩)
  .cases h
  .unfold qV at hc;ext Ì1;show#[w,hw,by rw[<- à7];show h]
 .rintro⟨w,hw,h⟩;show .inr #[_,Ï9,by rw[à7];show h]
def CY Ľ Ê5 Ä5 þ:yh (dH Ú5) q=(jK F p).all (qE à q):=by
 rw[zC7,dH,XZ,zE4];ext ŗ
 .rintro⟨_,h⟩ w hw;rw[<- à7];show h _ (Ï9)
 .intro h;exact#[Qt.mpr #[hq.1.1,hq.2.1],λ c hc=>?_];unfold qV at hc;ext Ì1;rw[à7];show h w hw
def oM Ĝ Ü7:yb ê5=x:=ċ
def mP Ĝ Ü7:yS ê5=y:=ċ
def gi Ĝ Ķ:xv pu (yb pu q) (yS pu q)=q:=ċ
def o6 Ľ{pu:Bool}Į:Ô8 ↔(0<=yb pu q/\yb pu q<=F.ym pu)/\0<=yS pu q/\yS pu q<=F.ym (!pu):=by
 unfold xk zD.ym;cases pu
 .show Iff.rfl
 .show And.comm
theorem X9 ă:∀ Ţ Į,Ô8->∀ r∈m5 F s n q,xk F r
 | 0,q,h,r,hr=>by cases Ë5 hr;show h
 | n+1,q,h,r,hr=>by
  unfold m5 at hr;rcases É4 hr with rfl | hr
  .show h
  .split at hr
   .rename_i hg;exact X9 hs n ?_ r hr;have h':=ĥ h;ext à0
   .cases hr
theorem Q2 ă Õ7(hb:Í4):∀ Ţ Į,Ô8->ù<n->
  ((Õ3)↔(m5 F s n q).any (yh b)=true)
 | 0,q,h,hn=>by
  have:=(ĥ h).1.1;lia
 | n+1,q,h,hn=>by
  have h':=ĥ h;have cut:∀ x y,yh b (xv s.pu x y)=yh b (xv s.pu x (min y Ã8)):=λ x y=>by
   rw[zC7,xc,xc];ext ŗ
   .rintro⟨p,hp,h1⟩;ext ê6;ext Ï4
   .rintro⟨p,hp,h1⟩;have h2:=Ù2 h1;ext Ï4
  unfold m5;rw[zaA,zE6];by_cases hg:s.gv<=ù
  .rw[Ñ hg];have hi:xk F Ć:=by
    ext à0
   have ih:=Q2 hs hb n hi (by rw[oM];lia);rw[oM,mP] at ih;have sh:∀ k:Nat,yh b (xv s.pu (ù-s.gv-k*s.gv) (min (â6+s.gt) Ã8+k*s.gt))=yh b (xv s.pu (ù-õ3*s.gv) (â6+õ3*s.gt)):=λ k=>by
    have e1:ä1:=Ĺ
    have e2:Ū*s.gt=k*s.gt+s.gt:=Ĺ
    have k0:0<=Æ*s.gt:=zb3 ⋯ hs.2;rw[e1,e2,cut,cut (ù-(k*s.gv+s.gv))];congr 2
    .lia
    .lia
   rw[<- ih];ext ŗ
   .rintro⟨k,hk⟩;cases k with
    | zero=>show ê1 (Í5)
    | succ k=>show .inr #[k,by rw[sh];show hk]
   .rintro (hk | ⟨k,hk⟩)
    .show#[0,Í5]
    .show#[k+1,by rw[<- sh];show hk]
  .rw[ø hg];ext ŗ
   .rintro⟨k,hk⟩;cases k with
    | zero=>show ê1 (Í5)
    | succ k=>
     exfalso;let#[p,hp,h1]:=xc.mp hk;ext ê6;rw[oM] at h2;have e1:ä1:=Ĺ
     have k0:0<=Æ*s.gv:=zb3 Ę;rw[e1] at h2;lia
   .rintro (hk | hk)
    .show#[0,Í5]
    .cases hk
theorem IY Ø Ê5 Ē þ:yh (ã8) q=gM à p q:=by
 have ge:Gd ė (mV Ú5):=de Ā Gd.nil (Za à p);unfold xK gM qH;by_cases ho:ĝ=true
 .rw[Ñ ho,Ñ ho];cases hs:ŵ with
  | none=>simp![zaA,List.any_nil,Bool.or_false];show Xx hg hq
  | some s=>
   have hs':=Ô9;have hgv:ù<20:=by
    ext ò
    lia
   rw[zC7];ext Ý3;rw[Cs hs' ok.a1 ok.b1 (λ p hp=>#[(ge.yW ſ).1.1,(ge.yW ſ).2.1]) hq,Q2 hs' ge 20 hq ⋯,zD0,zD0];ext ŗ
   .rintro⟨r,hr,h⟩;show#[r,hr,by rw[<- Xx hg (X9 hs' 20 hq r hr)];show h]
   .rintro⟨r,hr,h⟩;show#[r,hr,by rw[Xx hg (X9 hs' 20 hq r hr)];show h]
 .rw[ø ho,ø ho];show CY hg hq
theorem S9 Ø:∀ (k p:Nat),p<Ä->xu ((ë8).getD ŕ) Ä9
 | 0,p,hp=>by
  have e1:(zN F 1).getD ŕ=xK F (zN F 0) p:=ik (λ p=>xK F (zN F 0) p) Ä ŕ hp;have e0:(zN F 0).getD ŕ=qq:=by
   change (start F).getD ŕ=qq;unfold start;ext â1
  rw[e1,e0];show (YB ok _ p).Sf
 | k+1,p,hp=>by
  have e1:(zN F (k+1+1)).getD ŕ=xK F (ë8) p:=ik (λ p=>xK F (ë8) p) Ä ŕ hp;have e0:(ë8).getD ŕ=xK F (Ô7) p:=ik (λ p=>xK F (Ô7) p) Ä ŕ hp;rw[e1,e0];show TB F p λ w hw _=>S9 ok k w.t (ok.ws w hw).2
theorem YY Ø ŷ:∀ (d p:Nat),p<Ä->xu ((zN F (k+d)).getD ŕ) Ä9
 | 0,p,_=>xu.refl _
 | d+1,p,hp=>(S9 ok (k+d) ſ).trans (YY ok k d ſ)
end RN
namespace zY
open PySem L2 L3 L5
def o5:T->Bool
 | .zK Ā=>true
 | _=>É
def qQ Ó6:Bool:=!o5 t&&(match t with | õ4=>ts.all (λ u=>!o5 u) | _=>true)
def qQ.top {t:T}(h:qQ t=true):o5 t=É:=by
 unfold qQ at h;simp![zE5,zc7] at h;show h.1
def qQ.mem È3(h:qQ (õ4)=true) {u:T}(hu:u∈ts):o5 u=É:=by
 simp![qQ,zE5,zE4,zc7] at h;show h.2 u hu
def wh Ó6 (a b:Int):Bool:=match t with
 | Ã i=>Ó (a<=i)&&Ó (i<=b)
 | _=>É
def Ob Ó6 Ê0:f7 [t]=↑(.bl (match t with | Ã _=>true | _=>É)):=by
 cases t with
 | zK _ _=>cases he
 | _=>simp[f7,Vc,rm]
def Zl Ó6 (a b:Int) Ê0:kK [t,Ã a,Ã b]=↑(.bl (wh t a b)):=by
 cases t with
 | int i=>
  unfold kK Z5 wh;by_cases h1:a<=i <;> by_cases h2:i<=b <;> simp[Ob _ he,h1,h2]
 | zK _ _=>cases he
 | _=>simp[kK,Z5,wh,Ob _ he]
def ť (i j:Int) (neg:Bool):Å0:=by
 have:eqT Ï2=Ó (i=j):=by simp[eqT,zcL]
 simp[zT,dep,this]
theorem cG Ī ù1:∀ (ts:Û) (bs:Š),List.zipWith (λ a b=>Ô1 [a,b]) ts (bs.map enc)=(ts.zip bs).map λ p=>Ô1 [p.1,enc p.2]
 | [],bs=>#[]
 | t::ts,[]=>#[]
 | t::ts,b::bs=>by simp[cG enc ts bs]
def i5 Ī ù2:Ö8:=by
 have:=g_ (ç1 g);rw[zD6] at this;show this
def i7 Ī ù2:(ç1 g).all id=xs.all g:=by
 rw[zaK];rfl
def xS Ó6 (bs:ç):Bool:=match t with
 | õ4=>Ó (ĉ=Ú6)&&Ú7
 | _=>É
theorem Og Ó6 (bs:ç) (hl:Ú6<=100) (he:qQ t=true):kL [t,Õ (bs.map zr)]=↑(.bl (xS t bs)):=by
 cases t with
 | tup ts=>
  unfold kL Z6 xS;by_cases h:ĉ=Ú6
  .have hc:gZ Ò1=↑(Î ((ts.zip bs).map λ p=>T.bl (wh p.1 p.2.1 p.2.2))):=by
    unfold gZ;exact xB (λ p:T×(Á)=>Ô1 [p.1,zr p.2]) _ (ts.zip bs) é2 À7
    .simp[cG]
    .simp;lia
    .simp[qx,zr,Zl ð7 (qQ.mem he (zbF hp).1)]
   simp[rm,ť,h,hc,i5,i7]
  .have h':¬ (ĉ:Int)=Ú6:=⋯;simp[rm,ť,h,h']
 | zK _ _=>cases qQ.top he
 | _=>simp[kL,Z6,xS,rm]
def jS Ó6 (bs:ç):Bool:=match t with
 | õ4=>ts.all λ r=>xS r bs
 | _=>É
def ZS Ó6:Prop:=∀ ts,wH t=↑ts->ĉ<=16777216
def Oe Ó6 (bs:ç) (hl:Ú6<=100) (hz:ZS t) (hr:Ê4) Ê0:fA [t,Õ (bs.map zr)]=↑(.bl (jS t bs)):=by
 cases t with
 | tup ts=>
  have hz':=hz ts rfl;have hc:XT Ò1=↑(Î (ts.map λ r=>T.bl (xS r bs))):=by
   unfold XT;exact xB (λ r:T=>r) _ ts ?_ hz' À7
   .simp
   .simp[qx,Og Ā hl (hr ts rfl ſ)]
  unfold fA Vh jS;simp[rm,hc,i5,i7]
 | zK _ _=>cases he
 | _=>simp[fA,Vh,jS,rm]
theorem Li {t:T}{bs:ç}(h:xS t bs=true):∃ r:Ç,t=zJ r/\Ġ:=by
 cases t with
 | tup ts=>
  simp![xS,zE5,ã] at h;let#[hl,ha]:=h;have key:∀ (ts:Û) (bs:ç),ĉ=Ú6->(Ú7)=true->∃ r:Ç,ts=r.map õ/\Ġ:=by
   intro ts
   induction ts with
   | nil=>intro bs hl _;show#[[],rfl,by simpa using hl,λ i x b hx=>by simp at hx]
   | cons t ts ih=>
    intro bs hl ha;cases bs with
    | nil=>simp at hl
    | cons b bs=>
     simp![zbU,zaW,zE5] at ha;let#[r,r1,r2,r3]:=ih bs (ë4) ha.2;cases t with
     | int i=>
      have h1:=ha.1;simp![wh,zE5,ã] at h1;exact#[i::r,by rw[r1];rfl,by simp[r2],λ j x c hx hc=>?_];cases j with
      | zero=>simp at hx hc;subst hx hc;show h1
      | succ j=>show r3 j x c (by exists hx) (by exists hc)
     | _=>simp[wh] at ha
  let#[r,r1,r2,r3]:=key ts bs hl ha;show#[r,by rw[r1];rfl,r2,r3]
 | _=>simp[xS] at h
def Uj È3{bs:ç}(h:(ts.all λ r=>xS r bs)=true):∃ rs:ñ,ts=rs.map zJ/\∀ r∈rs,xS ç2 bs=true/\Ġ:=by
 induction ts with
 | nil=>show#[[],rfl,nofun]
 | cons t ts ih=>
  simp![zaW,zE5] at h;let#[rs,h1,h2]:=ih h.2;let#[r,r1,r2,r3]:=Li h.1;exact#[r::rs,by rw[h1,r1];rfl,λ q hq=>?_];rcases É4 hq with e | e
  .subst e;show#[by rw[<- r1];show h.1,r2,r3]
  .show h2 q e
def jN:ñ->Bool
 | õ5=>HT.lexLt a b&&jN (b::l)
 | _=>true
def qZ:Ç->Bool
 | õ5=>Ó (a<b)&&qZ (b::l)
 | _=>true
theorem Z8 Ī(lt:α->Ü9) (up:Š->Bool) (h0:up []=true) (h1:∀ a,up [a]=true) (h2:∀ a b l,up (õ5)=(lt a b&&up (b::l))):∀ l:Š,((l.zip (l.drop 1)).all λ p=>lt p.1 p.2)=up l
 | []=>by simp[h0]
 | [a]=>by simp[h1]
 | õ5=>by
  have ih:=Z8 lt up h0 h1 h2 (b::l);simp![List.drop_succ_cons,List.drop_zero,zbU,zaW] at ih ⊢;rw[h2,<- ih]
def X6 Ī(xs:Š):nS xs ↑1 none=xs.drop 1:=by
 unfold nS;have e:HT.yi Ò4 0 ↑1=min 1 Ò4:=by simp[HT.yi]
 have e2:HT.yi Ò4 Ò4 none=Ò4:=rfl;rw[e,e2];cases xs with
 | nil=>rfl
 | cons x xs=>simp
def BK (rs:ñ) (hl:Í6<=16777216):iL [Ĩ]=↑(.bl (jN rs)):=by
 have hc:dF [↑(.im (Ĩ))]=↑(Î ((rs.zip (rs.drop 1)).map λ p=>T.bl (HT.lexLt p.1 p.2))):=by
  unfold dF;exact xB (λ p:Ç × Ç=>Ô1 [zJ p.1,zJ p.2]) _ (rs.zip (rs.drop 1)) é2 À7
  .simp![xC,za,zc,oX,i4,cS,ze,lT,iy,zC9,X6,MO,Å1,zc8];ext ß6
  .simp;lia
  .simp[qx,zJ,xw,ag]
 unfold iL Vi;simp[hc,i5,i7];have:=Z8 (λ a b=>HT.lexLt a b) jN rfl (ç3) (λ _ _ _=>rfl) rs;exists this
def BL Ë2 (hl:Å2<=16777216):iL [Î (Í7 õ)]=↑(.bl (qZ ns)):=by
 have hc:dF [↑(.im (Î (Í7 õ)))]=↑(Î ((ns.zip (ns.drop 1)).map λ p=>T.bl (Ó (p.1<p.2)))):=by
  unfold dF;exact xB (λ p:Á=>Ô1 [õ p.1,õ p.2]) _ (ns.zip (ns.drop 1)) é2 À7
  .simp![xC,za,zc,oX,i4,cS,ze,lT,iy,zC9,X6,MP,Å1,zc8];ext ß6
  .simp;lia
  .simp[qx,xw]
 unfold iL Vi;simp[hc,i5,i7];have:=Z8 (λ a b:Int=>Ó (a<b)) qZ rfl (ç3) (λ _ _ _=>rfl) ns;exists this
def f_ (k l:Str) Ó6:Bool:=match t with
 | Ì x=>k == x||l == x
 | _=>É
def Xa (x k l:Str) (y:T) (hy:wH y=↑[Ì k,Ì l]):qR É (Ì x) y=↑(.bl (k == x||l == x)):=by
 unfold qR;rw[hy];simp[dep,xl,eqT]
def SW {x y:T}È3(hy:wH y=↑ts):yW x y=qR É x y:=by
 unfold yW;split
 .cases hy
 .rfl
def J8 (k l:Str) Ó6 Ê0:zP ç4 1 (retS (qp (instS "str" Ō) (zb yW Ō (tupS à8)))) [t]=↑(.bl (f_ k l t)):=by
 cases t with
 | str x=>
  have h:=(SW (x:=Ì x) (y:=Õ [Ì k,Ì l]) rfl).trans (Xa x k l (Õ [Ì k,Ì l]) rfl);simp[rm,h,f_]
 | zK _ _=>cases he
 | _=>simp[f_,rm]
def nF Ó6:Bool:=f_ Ý5 t
def BO Ó6 Ê0:WS [t]=↑(.bl (nF t)):=J8 Ý5 t he
def kW Ó6:Bool:=match t with
 | õ4=>(Ó (1<=ĉ)&&Ó (ĉ<=8))&&ts.all nF
 | _=>É
theorem BN Ó6 (he:qQ t=true):cy [t]=↑(.bl (kW t)):=by
 cases t with
 | tup ts=>
  unfold cy Vj kW;by_cases h:1<=ĉ
  .by_cases h':ĉ<=8
   .have hc:XU [↑(.im (õ4))]=↑(Î (ts.map λ r=>T.bl (nF r))):=by
     unfold XU;exact xB (λ r:T=>r) _ ts ?_ ⋯ À7
     .simp
     .simp[qx,BO _ (qQ.mem he hp)]
    have e1:ì1:=⋯;have e2:(ĉ:Int)<=8:=⋯;simp[rm,e1,e2,h,h',hc,i5,i7]
   .have e1:ì1:=⋯;have e2:¬ (ĉ:Int)<=8:=⋯;simp[rm,e1,e2,h,h']
  .have e1:¬ ì1:=⋯;simp[rm,e1,h]
 | zK _ _=>cases qQ.top he
 | _=>simp[cy,Vj,kW,rm]
def rowOf Ó6:Ç:=match t with
 | Õ xs=>(nI xs).getD []
 | _=>[]
def Lm (r:Ç):rowOf ç2=r:=by simp[rowOf,zJ,ag]
def bj (rs:ñ):(rs.map zJ).map rowOf=rs:=by
 rw[zD6]
 conv=>rhs;rw[<- List.map_id rs]
 show zaD λ r _=>Lm r
def wb í8:ç:=[(0,n-1),(0,n-1),(-12,12),(-12,12)]
def sb í8:ç:=[(0,n-1),(0,1),(1,12),(0,12)]
def fst (r:Ç):Int:=õ6 0 0
def lV Ó6 Ţ:Bool:=match t with
 | õ4=>Ñ6&&(Ó (ĉ<=24)&&(jN (ts.map rowOf)&&(Ð n).all λ À8=>(Ö9).any λ i=>Ó (i=Æ)))
 | _=>É
def Ds (a k:Int):eqT (Ã a) ï4=Ó (a=k):=by simp![eqT,zcL]
theorem Pu (k:Int):∀ ns:Ç,(Í7 õ).any (λ t=>eqT t ï4)=ns.any λ i=>Ó (i=k)
 | []=>rfl
 | n::ns=>by rw[zA6,zaA,zaA,Pu k ns,Ds]
def Yj {r:Ç}(h:ó2=4):∃ a b c d,r=Ý:=by
 match r,h with
 | Ý,_=>show#[a,b,c,d,rfl]
theorem RT:∀ ns:Ç,xl (Í7 õ)=0
 | []=>rfl
 | n::ns=>by simp[xl,dep,RT ns]
theorem B8 Ó6 Ţ (hn:n<=1000) (hz:ZS t) (hr0:Ê4) Ê0:cw [t,Ã n]=↑(.bl (lV t n)):=by
 have hw:=Oe t (wb n) (by simp[wb]) hz hr0 he;have eb:Ô1 ((wb n).map zr)=Õ [Õ [Ã 0,Ã ((n:Int)-1)],Õ [Ã 0,Ã ((n:Int)-1)],Õ [Ã (-12),Ã 12],Õ [Ã (-12),Ã 12]]:=rfl;rw[eb] at hw;cases t with
 | tup ts=>
  have hz':=hz ts rfl;unfold cw Vf lV;simp![jS] at hw;by_cases ha:Ñ6=true
  .ext â5
   have hc1:∀ a b c d,XR [↑(.im (Ĩ)),a,b,c,d]=↑(Î ((ì2).map õ)):=λ a b c d=>by
    unfold XR;rw[zD6];exact Þ9
    .simp
    .have h4:Ĉ=4:=(hr ſ).2.1;let#[a,b,c,d,rfl]:=Yj h4;simp[qx,zJ,fst]
   have hc2:∀ Ë2 a c d,XI [a,↑(.im (Ã n)),c,d,↑(.im (Î (Í7 õ)))]=↑(Î ((Ð n).map λ À8=>T.bl (ns.any λ i=>Ó (i=Æ)))):=λ ns a c d=>by
    unfold XI;exact xB Ë7 _ (Ð n) ?_ (û) ì3
    .simp[bq n ⋯]
    .have e:=Pu Æ ns;rw[zbD] at e;simp[qx,yW,qR,dep,RT,e]
   have hup:=BK rs hl;ext Ý3;rw[bj];ext Í3;by_cases ao:Í6<=24
   .have e:(Í6:Int)<=24:=⋯;cases hu:jN rs <;> simp[hw,ha,hc1,hc2,hup,i5,i7,ao,e,hu]
   .have e:¬ (Í6:Int)<=24:=⋯;simp[hw,ha,hc1,hc2,hup,ao,e]
  .have ha':Ñ6=É:=by exists ha
   simp[hw,ha']
 | _=>simp[cw,Vf,lV,jS] at hw ⊢ <;> simp[hw]
def keeps ù3 (p:Int):Bool:=match os[ä2]? with
 | some (Ì x)=>x == "keeper"
 | _=>É
def l_ Ó6 ù3:Bool:=match t with
 | õ4=>Ï0&&(qZ (Ö9)&&(Ö9).all (keeps os))
 | _=>É
def Ð3 (x y:Str) (neg:Bool):zT neg (Ì x) (Ì y)=↑(.bl (cond neg (!(x == y)) (x == y))):=by
 ext Ö1
theorem Sz {os:Û}{p:Int}(h0:0<=p) (h1:p<â) (ho:Æ4) (k:Str):∃ x:Str,À2 os p=↑(Ì x)/\os[ä2]?=↑(Ì x):=by
 have hl:ä2<â:=⋯;have e:os[ä2]?=↑os[ä2]:=zA1 hl;have ha:À2 os p=↑os[ä2]:=by
  have:=qz (k:=ä2) e;rw[zF2 h0] at this;show this
 have hw:=zE4.mp ho os[ä2] (zD8 hl);generalize hq:os[ä2]=q at *;cases q with
 | str x=>show#[x,ha,e]
 | _=>simp[nF,f_] at hw
theorem BD Ó6 ù3 (ho:Æ4) (hl8:â<=8) (hz:ZS t) (hr0:Ê4) Ê0:cx [t,Õ os]=↑(.bl (l_ t os)):=by
 have hw:=Oe t (sb â) (by simp[sb]) hz hr0 he;have eb:Ô1 ((sb â).map zr)=Õ [Õ [Ã 0,Ã ((â:Int)-1)],Õ [Ã 0,Ã 1],Õ [Ã 1,Ã 12],Õ [Ã 0,Ã 12]]:=rfl;rw[eb] at hw;cases t with
 | tup ts=>
  have hz':=hz ts rfl;unfold cx Vg l_;simp![jS] at hw;by_cases ha:Ï0=true
  .ext â5
   have hc1:∀ a b,XS [↑(.im (Ĩ)),a,b]=↑(Î ((ì2).map õ)):=λ a b=>by
    unfold XS;rw[zD6];exact Þ9
    .simp
    .ext Ù4;simp[qx,zJ,fst]
   have hc2:∀ b,XJ [↑(.im (Ĩ)),↑(.im (Õ os)),b]=↑(Î (rs.map λ r=>T.bl (keeps os (fst r)))):=λ b=>by
    unfold XJ;exact Þ9
    .simp
    .have hb:=(hr ſ).2.2 0;ext Ù4;have hb':=hb a (0,(â:Int)-1) À;let#[x,x1,x2]:=Sz (os:=os) (p:=a) hb'.1 (by have:=hb'.2;simp at this;lia) ho "keeper";have e1:keeps os a=(x == "keeper"):=by unfold keeps;rw[x2]
     have e2:fst Ý=a:=rfl;rw[e2,e1];generalize Ê8=kk;simp[qx,zJ,x1,Ð3]
   have hup:=BL (ì2) (ë4);have hk:rs.all (λ r=>keeps os (fst r))=(ì2).all (keeps os):=by rw[zaK];rfl
   ext Ý3;rw[bj];rw[<- hk];ext Í3;cases hu:qZ ns <;> simp[hw,ha,hc1,hc2,hup,i5,i7,hu]
  .have ha':Ï0=É:=by exists ha
   simp[hw,ha']
 | _=>simp[cx,Vg,l_,jS] at hw ⊢ <;> simp[hw]
def ky Ó6:Bool:=match t with
 | Õ [a,Õ os,c,d]=>(xS a š&&kW (Õ os))&&(lV c â&&l_ d os)
 | _=>É
def Ab (a:T) (os ws ss:Û) (ha:qQ a=true) (ho:qQ (Õ os)=true) (hw:∀ r∈ws,qQ r=true) (hs:∀ r∈ss,qQ r=true) (lw:ū<=16777216) (ls:ss.length<=16777216):
  f9 [ï5]=↑(.bl (ky (ï5))):=by
 have brims:Z2 [a]=↑(.bl (xS a š)):=by
  have h:=Og a š #[] ha;unfold Z2 OX;simp[zr] at h ⊢;simp[h]
 have own:=BN (Õ os) ho;unfold f9 OS ky;cases hb:xS a š with
 | É=>simp[rm,ť,brims,hb]
 | true=>
  cases hw':kW (Õ os) with
  | É=>simp[rm,ť,brims,hb,own,hw']
  | true=>
   have hw2:=hw';simp![kW,zE5,ã] at hw2;have e1:=B8 (Õ ws) â ⋯ (λ ts e=>by cases e;show lw) (λ ts e=>by cases e;show hw) rfl;have e2:=BD (Õ ss) os hw2.2 hw2.1.2 (λ ts e=>by cases e;show ls) (λ ts e=>by cases e;show hs) rfl;cases hv:lV (Õ ws) â <;> simp[rm,ť,brims,hb,own,hw',e1,e2,hv]
def Ul (x y z v:T) (p q r s:Á):xS (Õ [x,y,z,v]) [p,q,r,s]=(wh x p.1 p.2&&(wh y q.1 q.2&&(wh z r.1 r.2&&wh v s.1 s.2))):=by simp[xS]
def Ll (x y:T) (p q:Á):xS (Õ [x,y]) [p,q]=(wh x p.1 p.2&&wh y q.1 q.2):=by simp[xS]
@[simp] theorem zak (i j:Int):wz Ï2=nj Ï2:=rfl
def XE (m:Int) Ë2 ŷ:Int:=if k<Å2 then ns.getD k 0%m else 0
def TK (m a b c d e:T):Sm:=
 (zu (zV 2 ř)
 (zu (yq ä3 (zV 2 (zb xN (zb zi Ō Õ0) (zb fU à9 (cS m)))) yy)
 (retS (zb ql (zb xN (zb zX (zb zX (zb wz ï6 (cS a)) (zb wz (zb wz (cS b) Õ0) Õ0)) (zb wz (cS c) Õ0)) (cS d)) (cS e)))))
def Hv (m a b c d e:Int) Ë2 ŷ (hp:jI 2 m) (hm:0<(2:Int) ^ m.toNat) (h1:∀ i,oj i a) (h2:∀ i,oj b i) (h3:∀ i,oj i Æ) (h4:∀ i,oj c i) (h5:0<d) (h6:qd 0 e):
  kl (TK (Ã m) (Ã a) (Ã b) (Ã c) (Ã d) (Ã e) [↑ Á6,↑(.im ï4),none])=↑(Ã ((XE (2 ^ m.toNat) ns k*a+b*Æ*Æ+c*Æ)%d/e)):=by
 have h6':∀ i,qd i e:=λ i=>h6;unfold TK pJ XE;by_cases h:k<Å2
 .have q:ß0:=qz (ä4);have h':ï7:=⋯;simp[h,h',q,xw,hp,hm,nj,h1,h2,h3,h4,h5,h6',kl]
 .have h':¬ ï7:=⋯;simp[h,h',xw,nj,h1,h2,h3,h4,h5,h6',kl]
def mixed Ë2 ŷ:Int:=(XE (2 ^ (64:Int).toNat) ns k*46337+2741*Æ*Æ+59*Æ)%2147483629/2
theorem half_lt (x d:Int) (h:0<d):0<=x%d/2/\x%d/2<d:=by
 have h1:=zF0 x (b:=d) ⋯;have h2:=zF1 x h;lia
def bO Ë2 ŷ:0<=mixed ns k/\mixed ns k<2147483629:=half_lt Ā ()
def Zp Ë2 ŷ (hk:k<=1000):iK [pJ ns,Ã Æ]=↑(Ã (mixed ns k)):=
 Hv 64 46337 2741 59 2147483629 2 ns k #[(),(),()] () (λ i=>.inr ā) (λ i=>ê1 ā) (λ i=>.inr ê) (λ i=>ê1 ā) () ā
def mE Ţ (r:Ç):Prop:=∃ a b c d:Int,r=Ý/\(0<=a/\a<n)/\(0<=b/\b<n)/\(-12<=c/\c<=12)/\(-12<=d/\d<=12)
theorem Qw (x s:Int) (h1:1<=s) (h2:s<=12):-12<=x%(2*s+1)-s/\x%(2*s+1)-s<=12:=by
 have a:=zF0 x (b:=2*s+1) ⋯;have b:=zF1 x (b:=2*s+1) ⋯;lia
def two ø8:x%2=0\/x%2=1:=⋯
def Ni Ë2 (at' many k:Nat) (more span:Int) (rows:Û) (ha:at' + k<=1000) (hm:1<=many) ô2 (hl:À3<=1000):
  ∃ a b c d m:Int,mE many Ý/\(ï8->a=k)/\turn (zG 6) dM (Ã (0+Æ)) [↑ Á6,↑ È9,↑ Æ7,↑ Å3,↑ Ú8,↑(Ĵ (Î rows)),none,none,none,none] =
   ↑(.nx [↑ Á6,↑ È9,↑ Æ7,↑ Å3,↑ Ú8,↑(Ĵ (Î (rows++[zJ Ý]))),↑(.im (Ã (0+Æ))),↑(.im (Ã m)),↑(.im (Ã a)),↑(Ĵ (Î [Ã c,Ã d]))]):=by
 have hmx:=Zp ns (at' + k) ha;have hca:((at':Int)+Æ)=((at' + k:Nat):Int):=⋯;let#[m0,_]:=bO ns (at' + k);generalize mixed ns (at' + k)=m at *;have pm:(0:Int)<many:=⋯;have pN:0<many:=hm;have ps:0<2*span+1:=⋯;have cm:oj 2 span:=ê1 ā;have e1:=zF0 m (b:=Ì9) ⋯;have e2:=zF1 m pm;have e3:=zF0 (m/8) (b:=Ì9) ⋯;have e4:=zF1 (m/8) pm;have c1:=Qw (m/64) span hs1 hs2;have c2:=Qw (m/2048) span hs1 hs2;ext ô4;have d64:qd m 64:=ā;have d2048:qd m 2048:=ā;have d65536:qd m 65536:=ā;have d327680:qd m 327680:=ā;have d8:qd m 8:=ā;have z2:qj 2 0=↑0:=rfl;have o2:qj 2 1=↑1:=rfl;have cc:(0:Int)+Æ=Æ:=⋯;rw[hca.symm] at hmx;have st:∃ a:Int,(0<=a/\a<many)/\(ï8->a=k)/\(if Æ<Ì9 then Æ else m%many)=a:=by
  by_cases hk:ï8
  .show#[k,⋯,ç3,by rw[Ñ ⋯]]
  .show#[m%many,#[e1,e2],λ h=>œ h hk,by rw[ø ⋯]]
 let#[a,a1,a2,a3]:=st;have fin:∀ c d:Int,(-12<=c/\c<=12)->(-12<=d/\d<=12)->mE many [a,m/8%many,c,d]:=λ c d h1 h2=>#[_,_,_,_,rfl,a1,#[e3,e4],h1,h2];have zz:(-12:Int)<=0/\(0:Int)<=12:=ā;rw[cc];unfold turn dM;by_cases h5:m/65536%5=0
 .rcases two (m/327680) with h2 | h2
  .exact#[a,m/8%many,0,m/2048%(2*span+1)-span,m,fin Ā zz c2,a2,?_];by_cases hk:Æ<Ì9
   .ext Ï3;ext İ
   .ext Ã6;ext İ
  .exact#[a,m/8%many,m/64%(2*span+1)-span,0,m,fin Ā c1 zz,a2,?_];by_cases hk:Æ<Ì9
   .ext Ï3;ext Ņ
   .ext Ã6;ext Ņ
 .exact#[a,m/8%many,m/64%(2*span+1)-span,m/2048%(2*span+1)-span,m,fin Ā c1 c2,a2,?_];by_cases hk:Æ<Ì9
  .ext Ï3;ext Ÿ
  .ext Ã6;ext Ÿ
def mE.row å8{r:Ç}(h:mE n r):xS ç2 (wb n)=true:=by
 let#[a,b,c,d,rfl,h1,h2,h3,h4]:=h;have e:zJ Ý=Õ Ŕ:=rfl;rw[e];unfold wb;rw[Ul];simp![wh,zE5,ã];lia
theorem Vy:∀ {rs:ñ},rs.Pairwise (λ a b=>HT.lexLt b a=É)->rs.Nodup->jN rs=true
 | [],_,_=>rfl
 | [a],_,_=>rfl
 | õ5,h,nd=>by
  have h1:=za9.mp h;have n1:=zaC.mp nd;rw[jN,Vy h1.2 n1.2,Bool.and_true];cases q:HT.lexLt a b with
  | true=>rfl
  | É=>show œ (L4.YN a b q (h1.1 b za1)▸za1) n1.1
def GK {r:Ç}{rs:ñ}:nI Õ1=none:=rfl
def M5 (rs:ñ) (h0:rs≠[]) (hl:Í6<64) (hn:∀ r∈rs,r≠[]):iZ [Î (rs.map zJ)]=↑(Î ((L4.qg (qP rs)).map zJ)):=by
 cases rs with
 | nil=>show œ rfl h0
 | cons r rs=>
  change (match nI Õ1 with
   | some ns=>if Å2<64 then ↑(T.lst ((oH ns).map õ)) else none
   | none=>fM [T.lst Õ1])=_
  rw[GK];change (oY Õ1).bind _=_;rw[Yi,zC9,Ñ #[hl,hn]]
def BR Ë2 (at' many more:Nat) (span:Int) (ha:at'<=100) Õ5 (hmo:more<=16) ô2:
  ∃ rs:ñ,Zr [pJ ns,Ã at',Ã many,Ã more,Ã span]=↑(Ĩ)/\ì4/\rs≠[]/\Í6<=Ù6/\(∀ r∈rs,õ7)/\ä5:=by
 let#[Y',h1,rows,h2,h3,h4,h5]:=pL (is:=[6,7,8,9]) (g:=zG 6) (b:=dM) Ë7 (λ p Y=>∃ rows:ñ,Y=[↑ Á6,↑ È9,↑ Æ7,↑ Å3,↑ Ú8,↑(Ĵ (Î Ì5)),none,none,none,none]/\
   À3=Ĉ/\(∀ r∈rows,õ7)/\∀ k∈p,ï8->Æ ∈rows.map fst) (Ð (Ù6)) [↑ Á6,↑ È9,↑ Æ7,↑ Å3,↑ Ú8,↑ É5,none,none,none,none]
   #[[],rfl,rfl,nofun,nofun] (by
  rintro p k q e Y ⟨rows,rfl,r1,r2,r3⟩;have hp:Ĉ+1<=Ù6:=by
   ext î1
  have hk:k<Ù6:=by
   have:k∈ Ð (Ù6):=ð
   exists this
  let#[a,b,c,d,m,w1,w2,w3]:=Ni ns at' many k more span Ì5 ⋯ hm hs1 hs2 (û);exact#[_,w3,rows++[Ý],#[],by simp[r1],λ r hr=>?_,λ j hj hjm=>?_]
  .rcases ï0 hr with z | z
   .show r2 r z
   .cases Ë5 z;show w1
  .rw[zE7];rcases ï0 hj with z | z
   .show zaO _ (r3 j z hjm)
   .cases Ë5 z;show zB4 _ (by rw[<- w2 hjm];show za1))
 subst h2;have hlen:À3=Ù6:=by rw[h3];simp
 have hne:rows≠[]:=λ z=>by rw[z] at hlen;simp at hlen;lia
 have hrow:∀ r∈rows,r≠[]:=λ r hr=>by let#[a,b,c,d,rfl,_]:=h4 r hr;simp
 have hss:=M5 rows hne ⋯ hrow;have hmem:∀ r,r∈ Í8 ↔r∈rows:=λ r=>by rw[(L4.lx _).mem_iff,eE]
 have hl24:(Í8).length<=24:=by rw[(L4.lx _).length_eq];have:=bK rows;lia
 have hgw:∀ k:Nat,ï8->∃ r∈ Í8,fst r=Æ:=λ k hk=>by
  let#[r,hr,e]:=Ċ (h5 k (û) hk);show#[r,(hmem r).mpr hr,e]
 exact#[Í8,?_,?_,?_,by rw[(L4.lx _).length_eq,<- hlen];show bK rows,λ r hr=>h4 r ((hmem r).mp hr),hgw]
 .obtain⟨N,hN⟩:∃ N,N=Ù6:=#[_,rfl];have hr:=bq N ⋯;have ee:(Ì9+(more:Int))=(N:Int):=⋯;rw[<- hN] at h1;simp![zbC] at h1 hr;unfold Zr OL;generalize dM=bb at h1 ⊢;simp[ee,hr,h1,hss]
 .simp![lV,bj,zE5,ã,zA7];exact#[õ8 λ t ht=>?_,hl24,Vy (L4.c_ _) ((L4.lx _).nodup_iff.mpr (bJ rows)),õ8 ì3]
  .let#[r,hr,rfl]:=Ċ ht;show (h4 r ((hmem r).mp hr)).row
  .have hk':ï8:=by exists hk
   have:=h5 k (û) hk';let#[r,hr,e]:=Ċ this;show zD0.mpr #[fst r,Â2 #[r,(hmem r).mpr hr,rfl],by simp[e]]
 .intro z;cases hr:rows with
  | nil=>show hne hr
  | cons r l=>
   have:r∈ Í8:=(hmem r).mpr (by rw[hr];show za1);rw[z] at this;cases this
def ka ù3 (r:Ç):Prop:=∃ a b c d:Int,r=Ý/\(0<=a/\a<â)/\(0<=b/\b<=1)/\(1<=c/\c<=12)/\(0<=d/\d<=12)/\keeps os a=true
def ka.row {os:Û}{r:Ç}(h:ka os r):xS ç2 (sb â)=true:=by
 let#[a,b,c,d,rfl,h1,h2,h3,h4,_]:=h;have e:zJ Ý=Õ Ŕ:=rfl;rw[e];unfold sb;rw[Ul];simp![wh,zE5,ã];lia
theorem Vz:∀ Ë2 ø8,qZ ns=true->(∀ n∈ns,n<x)->qZ (ns++[x])=true
 | [],x,_,_=>rfl
 | [a],x,_,h=>by simp[qZ];show h a za1
 | õ5,x,h,hx=>by
  ext ã3
  have ih:=Vz (b::l) x h'.2 λ n hn=>hx n (za2 _ hn);change (Ó (a<b)&&qZ ((b::l)++[x]))=true;rw[h'.1,ih];rfl
def Mx ù3 ŷ (hk:k<â) (s kk:Str) (hs:À2 os Æ=↑(Ì s)) (cell:Int) (rows:Û) (hl:À3<=1000) (bb:Sm)
  (hb:bb=(zu (yq (jo (zW (zb Ú9 (zb zi Õ0 ç5) (cS (Ì kk)))) (zW (zb Ú9 (zb xN Ō à9) É6))) (qU 2 (tupS (za (zo 3) (za (zb xN (zb ql Ō à9) à9) (za (zb zX É6 (zb xN (zb ql Ō (cI 4)) (cI 12))) (za (zb xN (zb ql Ō (cI 48)) (cI 13)) ze)))))) yy)
 (zV 0 (zb ql Ō (cI 624))))):
  turn (zG 3) bb (Ã (0+Æ)) [↑(.im (Ã cell)),↑ ç6,↑(Ĵ (Î rows)),none]=↑(.nx [↑(.im (Ã (cell/624))),↑ ç6,↑(Ĵ (Î (rows++(if (s == kk)=true/\cell%2=1 then [zJ [Æ,cell/2%2,1+cell/4%12,cell/48%13]] else [])))),↑(.im (Ã Æ))]):=by
 ext ô4;have d624:qd cell 624:=ā;have d2:qd cell 2:=ā;have d4:qd cell 4:=ā;have d48:qd cell 48:=ā;have cc:(0:Int)+Æ=Æ:=⋯;rw[cc];subst hb;unfold turn;cases hq:(s == kk)
 .simp[hs,Ð3,hq,d624]
 .by_cases h2:cell%2=1
  .simp[hs,Ð3,hq,ť,h2,d624,d2,d4,d48,hl',zJ]
  .simp[hs,Ð3,hq,ť,h2,d624]
theorem BS (cell:Int) ù3 (ho:Æ4) (h8:â<=8):∃ qs:ñ,Zs [Ã cell,Î os]=↑(Ç6)/\ñ6/\Í9<=8/\ä6/\Þ2:=by
 let#[Y',h1,c',qs,h2,h3,h4,h5,h6]:=pL (is:=[3]) (g:=zG 3) (b:=aV) Ë7 (λ p Y=>∃ (c:Int) (qs:ñ),Y=[↑(.im (Ã c)),↑ ç6,↑(Ĵ (Î (Ğ zJ))),none]/\Í9<=Ĉ/\ä6/\Þ2/\∀ n∈ Ğ fst,n<(Ĉ:Int))
   (Ð â) [↑(.im (Ã cell)),↑ ç6,↑ É5,none] #[cell,[],rfl,zA4 _,nofun,rfl,nofun] (by
  rintro p k q e Y ⟨c,qs,rfl,r1,r2,r3,r4⟩;have hpk:Ĉ=k:=by
   have h:=Ë (λ l=>l[Ĉ]?) e;have hp:Ĉ<â:=ş
   simp[hp] at h;show h
  have hk:k<â:=by
   have:k∈ Ð â:=ð
   exists this
  let#[s,s1,s2]:=Sz (os:=os) (p:=Æ) Ę ho "keeper";have tn:=Mx os k hk s "keeper" s1 c (Ğ zJ) (û) aV rfl;have ek:keeps os Æ=(s == "keeper"):=by unfold keeps;rw[s2]
  by_cases hc:(s == "keeper")=true/\c%2=1
  .rw[Ñ hc] at tn;exact#[_,tn,c/624,qs++[[Æ,c/2%2,1+c/4%12,c/48%13]],#[],û,λ r hr=>?_,?_,λ n hn=>?_]
   .rcases ï0 hr with z | z
    .show r2 r z
    .cases Ë5 z;show#[_,_,_,_,rfl,⋯,⋯,⋯,⋯,by rw[ek];show hc.1]
   .rw[zE7];exact Vz Ā r3 λ n hn=>?_;have:=r4 n hn;change n<Æ;lia
   .rw[zE7] at hn;rcases ï0 hn with z | z
    .have:=r4 n z;simp;lia
    .have:n=Æ:=by simpa [fst] using z
     simp;lia
  .rw[ø hc,zaB] at tn;show#[_,tn,c/624,qs,#[],û,r2,r3,λ n hn=>by have:=r4 n hn;simp;lia])
 subst h2;exact#[qs,?_,?_,by simp at h3;lia,h4,h5]
 .have hr:=bq â ⋯;simp![zbC] at h1 hr;unfold Zs OP;generalize aV=bb at h1 ⊢;simp[hr,h1]
 .simp![l_,bj,h5,Bool.true_and,zE5];exact#[õ8 λ t ht=>?_,õ8 λ n hn=>?_]
  .let#[r,hr,rfl]:=Ċ ht;show (h4 r hr).row
  .let#[r,hr,rfl]:=Ċ hn;let#[a,b,c,d,rfl,_,_,_,_,h]:=h4 r hr;show h
def Ue (b m e:T):Sm:=
 (zu (yq (jo (xo ï6) ä3) (retS (zb xN (zb zi Ō Õ0) (zb fU (cS b) (cS m)))) yy)
 (zu (zV 3 (zl iK (za (zo 0) (za (zo 1) ze))))
 (retS (zb zX (zb wz (zb wz ç5 ç5) ç5) (zb wz (cS e) ç5)))))
def MS (b m e:Int) Ë2 ŷ (d:Bool) (hk:k<=1000) (hp:jI b m) (hm:0<b ^ m.toNat) (he:∀ i,oj e i) (hx:∀ i j:Int,0<=i->i<2147483629->oj j i):
  ∃ c,kl (Ue (Ã b) (Ã m) (Ã e) [↑ Á6,↑(.im ï4),↑(.im (.bl d)),none])=↑(Ã c):=by
 have hmx:=Zp ns k hk;let#[m0,m1]:=bO ns k;generalize mixed ns k=q at *;have x1:=hx q q m0 m1;have x2:=hx q (q*q) m0 m1;unfold Ue pJ at *;cases d
 .show#[_,by simp[hmx,nj,x1,x2,he,kl];rfl]
 .by_cases h:k<Å2
  .have z:ß0:=qz (ä4);have h':ï7:=⋯;show#[_,by simp[h,h',z,xw,hp,hm,kl];rfl]
  .have h':¬ ï7:=⋯;show#[_,by simp[h,h',xw,hmx,nj,x1,x2,he,kl];rfl]
def BE Ë2 ŷ (d:Bool) (hk:k<=1000):∃ c,WH [pJ ns,Ã Æ,.bl d]=↑(Ã c):=
 MS 10 64 104729 ns k d hk #[(),(),()] () (λ i=>ê1 ā) (λ i j h1 h2=>.inr ê)
def Bu ø8 (h:0<=x):á0 x 1=0\/á0 x 1=1:=by
 have e:á0 x 1=((x.toNat &&& 1:Nat):Int):=by
  unfold á0;simp[h]
 rw[e,Nat.and_one_is_mod];lia
def kt Þ7:T:=cond b Ŗ (ì5)
def Sj Þ7:nF (kt b)=true:=by cases b <;> decide
def J5 (k l:Str) (s a m b e x:T) Ē (num:Int) (h0:0<=num) (rows:Û) (hl:À3<=1000) (u v:Ê W) (bb:Sm)
  (hb:bb=(qU 6 (zb zi (y_ à8) (zb Wb (zb Yc (zc 5) (zc 7)) É6)))):
  ∃ y,(y=Ì k\/y=Ì l)/\turn (zG 7) bb (Ã (0+ď)) [↑(.im s),↑ ä7,↑(.im m),↑(.im b),↑(.im e),↑ á1,↑(Ĵ (Î rows)),none,u,v] =
   ↑(.nx [↑(.im s),↑ ä7,↑(.im m),↑(.im b),↑(.im e),↑ á1,↑(Ĵ (Î (rows++[y]))),↑(.im (Ã ď)),u,v]):=by
 ext ô4;have cc:(0:Int)+ď=ď:=⋯;have hq:0<=num/2 ^ (p:Int).toNat:=Int.ediv_nonneg h0 (Int.pow_nonneg ());rw[cc];subst hb;unfold turn;have tn:(p:Int).toNat=p:=#[];rw[tn] at hq;rcases Bu _ hq with h | h
 .show#[Ì k,ê1 rfl,by simp[h,hl']]
 .show#[Ì l,.inr rfl,by simp[h,hl']]
def four ø8:x%4=0\/x%4=1\/x%4=2\/x%4=3:=⋯
def BU Ë2 (at' many more:Nat) (br:T) (ha:at'<=50) Õ5 (hmo:more<=16):
  ∃ (os:Û) (rs qs:ñ),f6 [pJ ns,Ã at',Ã many,br,Ã more]=↑ ó3/\â=many/\Æ4/\
   ì4/\ñ6/\rs≠[]/\Í6<=Ù6/\Í9<=8/\(∀ r∈rs,õ7)/\(ä5)/\ä6/\Þ2:=by
 have hmx:=Zp ns at' ⋯;let#[m0,m1]:=bO ns at';generalize mixed ns at'=num at *;let#[Y',h1,os,h2,h3,h4]:=pL (is:=[7]) (g:=zG 7) (b:=dN) Ë7 (λ p Y=>∃ os:Û,Y=[↑ Á6,↑ È9,↑ Æ7,↑(.im br),↑ Å3,↑ á1,↑(Ĵ (Î os)),none,none,none]/\â=Ĉ/\Æ4)
   (Ð many) [↑ Á6,↑ È9,↑ Æ7,↑(.im br),↑ Å3,↑ á1,↑ É5,none,none,none] #[[],rfl,rfl,rfl] (by
  rintro p k q e Y ⟨os,rfl,r1,r2⟩;have hp:Ĉ<many:=ş
  let#[y,y1,y2]:=J5 Ý5 (pJ ns) (Ã at') (Ã many) br (Ã more) (Ã 0) k num m0 os ⋯ Œ dN rfl;exact#[_,y2,os++[y],rfl,by simp[r1],?_];rw[List.all_append,r2];rcases y1 with z | z
  .subst z;show Sj true
  .subst z;show Sj É)
 subst h2;have hos:â=many:=by exists h3
 have d256:qd num 256:=ā;have d1024:qd num 1024:=ā;have d3072:qd num 3072:=ā;obtain⟨span,s1,s2,s3⟩:∃ span:Int,1<=span/\span<=12/\À2 [õ 1,Ã 2,Ã 3,Ã 12] (num/256%4)=↑(Ã span):=by
  rcases four (num/256) with h | h | h | h <;> rw[h]
  .show#[1,(),(),rfl]
  .show#[2,(),(),rfl]
  .show#[3,(),(),rfl]
  .show#[12,(),(),rfl]
 let#[rs,w1,w2,w3,w4,w5,w6]:=BR ns (at' + 2) many more span ⋯ hm hm8 hmo s1 s2;let#[cell,c1]:=BE ns (at' + 1) (Ó (num/3072%2=1)) ⋯;let#[qs,q1,q2,q3,q4,q5]:=BS cell os h4 ⋯;have hr:=bq many ⋯;simp![zbC] at h1 hr;have e1:((at' + 1:Nat):Int)=(at':Int)+1:=⋯;have e2:((at' + 2:Nat):Int)=(at':Int)+2:=⋯;rw[e1] at c1;rw[e2] at w1;by_cases hst:num/1024%3=1
 .exact#[os,rs,qs,?_,hos,h4,w2,q2,w3,w4,q3,w5,w6,q4,q5];ext ô6;simp[hmx,hr,h1,d256,d1024,d3072,s3,ť,hst,c1,q1,w1]
 .exact#[os,rs,[],?_,hos,h4,w2,?_,w3,w4,#[],w5,w6,nofun,rfl]
  .ext ô6;simp[hmx,hr,h1,d256,d1024,s3,ť,hst,w1]
  .simp[l_,qZ]
def EI {br:T}{os:Û}{rs qs:ñ}{many:Nat}(hb:xS br š=true) (h1:â=many) Õ5 (h2:Æ4) (h3:ì4) (h4:ñ6):
  ky ó3=true:=by
 have eo:kW (Õ os)=true:=by
  have a:1<=â:=⋯;have b:â<=8:=⋯;simp[kW,a,b,h2]
 unfold ky;simp![hb,eo,h1,h3,h4,zbM]
end zY
namespace zY
open PySem L2 L3 L5 SJ
def num í8:Str:=(toString n:String)
def nums:Ç:=(Ð 25).map λ À8=>(-12:Int)+Æ
def wd ù4:Ś:=if (ï9)=true then ↑0 else if (("b":Str) == w)=true then ↑1 else nums.find? ç7
def oT:Ś->T
 | none=>.zC
 | some n=>Ã n
def pK (r:Î0):T:=Õ (r.map oT)
def Rr Ī(ret:α->T) (Y0:Ev):Ê α->Out
 | some x=>.rt (ret x)
 | none=>.nx Y0
theorem jZ Ī{is:á}ļ Ò2:∀ (xs:Š) (Y:Ev),xq is Y=Y0->
  Ŧ->
  qh is g b (ç1 enc) Y=↑(Rr ret Y0 (xs.find? test))
 | [],Y,h,_=>by rw[za4,List.find?_nil,qh,h];rfl
 | x::xs,Y,h,ht=>by
  ext Â9
  .rw[Ñ c,c];rfl
  ext Æ0
def mK {n:Int}(h:-1000000<=n/\n<=1000000):yY [Ã n]=↑(Ì Ŋ):=Ñ h
def GO (w k l:Str) (h:(k == w||l == w)=true):eP (Õ ([k,l].map Ô)) (Ì w)=↑(oT (if (k == w)=true then ↑0 else ↑1)):=by
 have e:lY ([k,l].map Ô)=↑[k,l]:=rfl;unfold eP;ext Ý3;rw[e,zC9];by_cases hk:k=w
 .subst hk;simp[oT]
 .have hl:l=w:=by
   rw[zE6,Ü8,Ü8] at h;show h.resolve_left hk
  subst hl;simp[oT,hk,List.idxOf_cons];simp[Ž hk]
def zm {f:T->T->Ê T}{fa fb:zEO}ì É3:zb f fa fb Y=r:=by change (fa Y).bind _=_;rw[h1];change (fb Y).bind _=_;rw[h2];show h
def pH {F:zLO}{g:zEO}{u:À1}ì{y:Str}{xs:Û}Ñ3(h1:g Y=↑(Ì y)) (h2:u Y=↑xs) (h:F (Ì y::xs)=r):xp F g u Y=r:=by ext Â5;rw[h1];ext Í2;rw[h2];show h
def xb {F:zLO}{g:zEO}ì{x:T}Ñ3(h:g Y=↑x) (hF:F [x]=r):zl F (za g ze) Y=r:=by change ((g Y).bind _).bind _=_;rw[h];show hF
def Nd ù4:qh [1] (zG 1) Wc (nums.map õ) Ï5=↑(Rr õ Ï5 (nums.find? ç7)):=by
 exact jZ (is:=[1]) õ õ (ç7) Ï5 nums Ï5 rfl λ n hn=>#[Õ8,rfl,?_];have hb:-1000000<=n/\n<=1000000:=by
  let#[k,hk,rfl]:=Ċ hn;rw[zC1] at hk;lia
 change Wc Õ8=_;have h1:zb Ú9 Ō (zl yY (za Õ0 ze)) Õ8=↑(.bl (w == num n)):=zm rfl (xb rfl (mK hb)) (Ð3 w Ŋ É);cases hc:(w == num n) with
 | true=>show qa (yv (hc▸h1)) rfl
 | É=>show yQ (yv (hc▸h1)) rfl
def B7 ù4:Zn [Ì w]=↑(oT (wd w)):=by
 have hin:zb (qR É) Ō (gX õ9) Ï5=↑(.bl (ï9||("b":Str) == w)):=zm À (Xa w "a" "b" _ rfl);have hr:xC bp (za (jX (cI 12)) (za (zb zX (cI 12) É6) ze)) Ï5=↑(nums.map õ):=rfl;unfold Zn wd;exact yg ?_ rfl;unfold OG;cases hc:(ï9||("b":Str) == w) with
 | true=>
  exact qu (qa (yv (hc▸hin)) (yP ((zm À (GO w "a" "b" hc)).trans ?_)));by_cases ha:(ï9)=true
  .rw[Ñ ha,Ñ ha]
  .rw[ø ha,ø ha,Ñ];rw[zE9] at ha;rw[ha,Bool.false_or] at hc;show hc
 | É=>
  exact zA (yQ (yv (hc▸hin)) rfl) ?_;rw[Bool.or_eq_false_iff] at hc;rw[hc.1,hc.2,ø za6,ø za6];have hl:=Nd w;cases hf:nums.find? (ç7) with
  | some n=>rw[hf] at hl;show qu (qk hr hl)
  | none=>rw[hf] at hl;show zA (qk hr hl) rfl
def Oa (ws:Í) (h:ū<=16777216):iH [Ý0]=↑(pK (Ļ wd)):=by
 exact yg (yP (xb (x:=Î ((Ļ wd).map oT)) ?_ rfl)) rfl;unfold QF;rw[zD6];show xB Ô _ ws rfl h λ w hw=>by simp[qx,B7]
theorem M1 Ì0 (hx:ĳ<=1000000):iX x y:=by
 have e:Ç7:=rfl;have h1:=ê3;have h2:=StrLaws.occ_length_le x y 0 ĳ (ĳ+1);exact#[⋯,⋯,?_,⋯];rw[PyProof.Rows.len_partsBetween];lia
def iW Ì0 (hx:ĳ<=1000000):pb [Ì x,Ì y]=↑(Î ((ũ x y).map Ô)):=Ñ (M1 hy hx)
def ZW Ì0:(ũ x y).length<=ĳ+1:=by
 have h1:=ê3;lia
def aI (ws:Í):iy ↑1 none (Ý0)=↑(Î ((ws.drop 1).map Ô)):=by
 change ↑(T.lst (nS ð7))=_;rw[X6,zaZ]
def o_ í9:Î0:=((ũ p " ").drop 1).map wd
def bu í9:Î0:=(ũ (Â0) " ").map wd
def Lr í9:(Â0).length=Ĉ:=by
 have h:=Ë Str.length (StrLaws.join_split p ">");have e:Â0=Ï " " (ũ p ">"):=StrLaws.replace_one p " " 62;rw[e];exact ò9 ?_ h;cases hs:ũ p ">" with
 | nil=>rfl
 | cons a l=>rw[PyProof.Rows.len_join_cons,PyProof.Rows.len_join_cons];rfl
theorem Uu {g:zEO}ì Ö6:zl iH (za (oX (xp pb g ì6) ↑ É6 none) ze) Y=↑(pK (o_ p)):=by
 have hm:=ZW (x:=p) (y:=" ") ();exact xb (x:=Î (((ũ p " ").drop 1).map Ô)) ?_ (Oa _ (by rw[zaI];lia));change (xp pb g _ Y).bind _=_;rw[pH h rfl (iW () hp)];show aI _
theorem L8 {g:zEO}ì Ö6:zl iH (za (xp pb (Yl ">" " " g) ì6) ze) Y=↑(pK (bu p)):=by
 have hl:=Lr p;have hm:=ZW (x:=Â0) (y:=" ") ();exact xb (pH (y:=Â0) ?_ rfl (iW () ⋯)) (Oa _ ⋯);ext Â5;rw[h];show Ñ hp
abbrev Rd:=Í ×List (Î0)×List (Î0)
def mI í9:Bool:=Ê8 == p||("taker":Str) == p
def fL í9:Bool:=È8 p "stall "
def wG ð8 í9:Rd:=if mI p=true then (s.1++[p],s.2.1,s.2.2) else if fL p=true then (s.1,s.2.1,s.2.2++[o_ p]) else (s.1,s.2.1++[bu p],s.2.2)
def mU (a:T) ð8 (v:Ô2):Ev:=[↑ ä7,↑(Ĵ (Î (s.1.map Ô))),↑(Ĵ (Î (s.2.1.map pK))),↑(Ĵ (Î (s.2.2.map pK))),v,none]
def Mq ð8 í9:(wG s p).1.length+(wG s p).2.1.length+(wG s p).2.2.length=Ã9+1:=by
 unfold wG;split
 .simp;lia
 .split <;> simp <;> lia
theorem Xq:∀ (ps:Í) ð8,(ps.foldl wG s).1.length+(ps.foldl wG s).2.1.length+(ps.foldl wG s).2.2.length=Ã9+ĩ
 | [],s=>rfl
 | p::ps,s=>by
  have h:=Xq ps (wG s p);have h':=Mq s p;rw[zaQ,zC0];lia
theorem Jz (a:T) ð8 í9 (hp:Ĉ<=1000000) (hl:Ã9<=10000):turn (zG 4) dI (Ì p) (mU a s none)=↑(.nx (mU a (wG s p) ↑(.im (Ì p)))):=by
 change dI Ò6=_;have hin:zb (qR É) ç8 (tupS (za (cS Ŗ) (za (cS (ì5)) ze))) Ò6=↑(.bl (mI p)):=zm rfl (qM rfl ()) (Xa p Ý5 _ rfl);have hst:xp iU ç8 (za (cS (Ì "stall ")) ze) Ò6=↑(.bl (fL p)):=pH À rfl;unfold wG dI;cases h1:mI p with
 | true=>
  exact qa (yv (h1▸hin)) ((kE À Ò7).trans ?_);rw[Ñ rfl];change _=↑(Out.nx (mU a (s.1++[p],s.2.1,s.2.2) _));unfold mU;rw[zE7];rfl
 | É=>
  exact yQ (yv (h1▸hin)) ?_;rw[ø za6];cases h2:fL p with
  | true=>
   exact qa (oo (h2▸hst)) ((kE rfl (Uu rfl hp) Ò7).trans ?_);rw[Ñ rfl];unfold mU;rw[zE7];rfl
  | É=>
   exact yQ (oo (h2▸hst)) ((kE rfl (L8 rfl hp) Ò7).trans ?_);rw[ø za6];unfold mU;rw[zE7];rfl
def kf (b:Î0) ð8:T:=Õ [pK b,Õ (s.1.map Ô),Õ (s.2.1.map pK),Õ (s.2.2.map pK)]
theorem BM (p0:Str) (ps:Í) (hs:∀ p∈p0::ps,Ĉ<=1000000) (hl:ĩ<=10000):Zo [Ë8]=↑(kf Ă):=by
 let#[Y',h1,h2]:=pL (is:=[4]) (g:=zG 4) (b:=dI) Ô (λ q Y=>Y=mU (Ë8) (q.foldl wG Ä0) none) ps (mU (Ë8) Ä0 none) rfl (by
  rintro q x r e Y rfl;have hx:x∈ps:=ð
  have hq:q.length<=10000:=ş
  have hf:=Xq q Ä0;simp![zaE,zb1] at hf;exact#[_,Jz Ā x (hs x (za2 _ hx)) ⋯,?_];rw[zbQ];rfl)
 subst h2;exact yg ?_ rfl;unfold OH;exact zA rfl (zA rfl (zA rfl (zA (qk ?_ h1) ?_)))
 .change (iy ↑1 none (Ë8)).bind wH=_;rw[aI];rfl
 .exact zA (yz (Uu (p:=p0) ?_ (hs p0 za1))) (yP ?_)
  .show zm À (qz Ø4)
  .show qM (xs:=[pK (o_ p0),_,_,_]) rfl (by change 4<=100;decide)
def Nm í8:Prop:=-12<=n/\n<=13
def IL:((Ð 26).all λ À8=>Ó ((ö0).length<=3)&&(! Ï1 59&&(! Ï1 62&&(! Ï1 32&&(Ó ((L (ö0)).head?≠↑115)&&Ó (wd (ö0)=if Æ-12<=12 then ↑(Æ-12) else none))))))=true:=()
theorem wx Ë3:(num n).length<=3/\59∉L Ŋ/\62∉L Ŋ/\32∉L Ŋ/\(L Ŋ).head?≠↑115/\wd Ŋ=if n<=12 then ↑n else none:=by
 have hk:=zE4.mp IL (n+12).toNat (by rw[zC1];have:=h.1;have:=h.2;lia);have e:(((n+12).toNat:Nat):Int)-12=n:=by have:=h.1;lia
 rw[e] at hk;ext Ä1;show hk
def lK (f:zEO) (Y:Ev) (a:Str) Ţ:Prop:=f Y=↑(Ì a)/\a.length<=n
theorem qJ Ê1 ì{a b:Str}{n m:Nat}(h:lK f Y a n) (h':lK g Y b m) (hn:n+m<=1000000:=by decide):lK (zb zX f g) Y (a++b) (n+m):=by
 have e:Ç7:=rfl;have h1:=h.2;have h2:=h'.2;exact#[zm h.1 h'.1 (Ñ ⋯),?_];rw[Ç8];lia
theorem ng Ü4{k:Int}ì È3{n:Int}(h0:zo i Y=↑(õ4)) (hk:À2 ts k=↑(Ã n)) (hn:Nm n):lK (zl yY (za (zb zi (zc i) (cS ï4)) ze)) Y Ŋ 3:=by
 have e:zc i Y=↑(õ4):=by
  unfold zo at h0;unfold zc;split at h0
  .rename_i e;rw[e];show h0
  .cases h0
 show#[xb (zm e rfl hk) (mK (by have:=hn.1;have:=hn.2;lia)),(wx hn).1]
def cB ì(a:Str) Ţ (h:a.length<=n:=by decide):lK (cS (Ì a)) Y a n:=#[rfl,h]
def nE (b:Int):Str:=if b=0 then "a" else "b"
def rW:Ç->Str
 | Ý=>num a++">"++num b++" "++num c++" "++num d
 | _=>""
def pd:Ç->Str
 | Ý=>"stall "++num a++" "++nE b++" "++num c++" "++num d
 | _=>""
def nU Ü7:Str:="brims "++num x++" "++num y
def lW (r:Ç):Prop:=∃ a b c d,r=Ý/\Nm a/\Nm b/\Nm c/\Nm d
def kS (r:Ç):Prop:=∃ a b c d,r=Ý/\Nm a/\(b=0\/b=1)/\Nm c/\Nm d
def wB {f:Nat}ì Á5 (h0:zo f Y=↑ ç2):
  lK (zb zX (zb zX (zb zX (zb zX (zb zX (zb zX (zl yY (za Ç9 ze)) (cS (Ì ">"))) (zl yY (za (zb zi (zc f) É6) ze))) ħ) (zl yY (za (zb zi (zc f) à9) ze))) ħ) (zl yY (za (zb zi (zc f) (cI 3)) ze))) Y (rW r) 20:=by
 ext Ö;have z:=qJ (qJ (qJ (qJ (qJ (qJ (ng h0 Ø4 ha) (cB ">" 1)) (ng h0 (k:=1) rfl hb)) Ò8) (ä8)) Ò8) (ä9);show#[z.1,zE0 z.2 ()]
def B9 Á5:W5 [zJ r]=↑(Ì (rW r)):=yg (yP (wB (f:=0) h rfl).1) rfl
def LM Ï6:zi (Õ ((õ9:Í).map Ô)) (Ã b)=↑(Ì (nE b)):=by
 rcases h with rfl | rfl <;> rfl
theorem LN Ï6:zi (Ì "ab") (Ã b)=↑(Ì (nE b)):=by
 have hl:("ab":Str).length<=sizeLine:=()
 exact (Ñ (e:=none) hl).trans ?_;rcases h with rfl | rfl <;> rfl
def BF Å9:W6 [zJ r]=↑(Ì (pd r)):=by
 ext Ö;have h0:zo 0 [↑(.im (zJ Ý))]=↑(Õ Ŕ):=rfl;have hp:lK (zb zi (gX õ9) (zb zi Ō É6)) [↑(.im (zJ Ý))] (nE b) 1:=#[zm À (LM hb),ţ];show yg (yP (qJ (qJ (qJ (qJ (qJ (qJ (qJ (cB "stall " 6) (ng h0 Ø4 ha)) Ò8) hp) Ò8) (ä8)) Ò8) (ä9)).1) rfl
def xT Â6:Í:=ç9::(Ð4)
def zB Â6:T:=Õ [Í0,Õ (è0),Õ (Ļ zJ),Ç6]
structure lQ Â6:Prop where
 x:Nm x
 y:Nm y
 o:∀ p∈os,mI p=true
 w:∀ r∈ws,lW r
 q:∀ r∈qs,kS r
 ln:â+ū+Í9<=60
def bF {p:Str}(h:mI p=true):p="keeper"\/p="taker":=by
 unfold mI at h;rw[zE6,Ü8,Ü8] at h;show h.imp Eq.symm Eq.symm
theorem Ug Å9:(pd r).length<=20:=by
 ext Ö;have hp:(nE b).length<=1:=ţ
 have e:("stall ":Str).length=6:=()
 have e1:Ð5:=()
 ext æ4;simp![pd,Ç8];lia
def Nn Á5:(rW r).length<=20:=(wB (f:=0) (Y:=[↑(.im ç2)]) h rfl).2
def bB {f:Nat}ì{x y:Int}È3(hx:Nm x) (hy:Nm y) (h0:zc f Y=↑(Õ (Í0::ts))):
  lK (zb zX (zb zX (zb zX (cS (Ì "brims ")) ð0) ħ) ì7) Y (ç9) 20:=by
 have e:zb zi (zc f) ř Y=↑(Í0):=zm h0 rfl (qz Ø4);have hX:lK ð0 Y (num x) 3:=#[xb (zm e À) (mK (by have:=hx.1;have:=hx.2;lia)),(wx hx).1];have hY:lK ì7 Y (num y) 3:=#[xb (zm e À) (mK (by have:=hy.1;have:=hy.2;lia)),(wx hy).1];have z:=qJ (qJ (qJ (cB "brims " 6) hX) Ò8) hY;show#[z.1,zE0 z.2 ()]
def UM č Î8:∀ p∈xT Å,Ĉ<=20:=λ p hp=>by
 ext Ú
 .show (bB (f:=0) (Y:=[↑(.im (Õ [Í0]))]) h.x h.y rfl).2
 .ext Ê6
  ext æ2
  .ext Ê6
   .ext Ã2;show Nn (h.w r hr)
   .ext Ã2;show Ug (h.q r hr)
def fK {ps:Í}å8:(∀ p∈ps,Ĉ<=n)->(á2 (·.length)).sum<=ĩ*n:=by
 induction ps with
 | nil=>show λ _=>zD4 _
 | cons p ps ih=>
  intro h;have h1:=h p za1;have h2:=ih Ç1;rw[zA6,zb2,zC0,Nat.succ_mul];lia
theorem VL:∀ ss:Í,lY å0=↑ss
 | []=>rfl
 | s::ss=>by change (lY å0).map _=_;rw[VL ss];rfl
theorem eL {sep:Str}{ps:Í}(hs:sep.length<=8) (h:(á2 (·.length)).sum+ĩ*8<=1000000):nu [Ì sep,Î (á2 Ô)]=↑(Ì (Ï sep ps)):=by
 have e:lY (á2 Ô)=↑ps:=VL ps;have h1:ĩ*sep.length<=ĩ*8:=Nat.mul_le_mul_left _ hs;change (lY (á2 Ô)).bind _=_;rw[e,zC9,Ñ (PyProof.Rows.joinOk_of ⋯)];show Ë (λ z=>↑(Ô z)) (StrLaws.glued_eq_join sep ps)
theorem UN č Î8:nu [Ì "; ",Î ((xT Å).map Ô)]=↑(Ì (ō)):=by
 exact eL () ?_;have h1:=fK (UM h);have hl:Õ9<=101:=by
  ext ñ2
 have:Õ9*20<=101*20:=zb9 _ hl;have:Õ9*8<=101*8:=zb9 _ hl;lia
def aX Ü4 Ų ì È3 é5:è1:=Ñ4
theorem gp {u:À1}ì á9:y_ u Y=↑(Î xs):=ô5
theorem Dq Ü4 Ų ì{ts us:Û}å7 (h:f Y=↑(Õ us)) Ó7:eZ i f Y=↑ Ã3:=by
 unfold eZ;ext ó9;rw[h];show È7
theorem R6 Ü4 Ų ì Ã0:jl i f Y=↑ Ã3:=by
 unfold jl;ext ó9;rw[h];show È7
def Tg Ų ì È3 Ë1{zs:Û}(h:f Y=↑(õ4)) (hk:ts[k]?=↑(Õ zs)):yZ (zb zi f (cS ï4)) Y=↑zs:=by
 change (zb zi f (cS ï4) Y).bind _=_;rw[zm h rfl (qz hk)];rfl
def Wq Ê1 ì{ts us:Û}é5 (h':g Y=↑(Î us)) Ó7:zb zX ø7=↑(Î (ts++us)):=zm h h' (È7)
section
variable {č}
theorem BH Î8:cb [zB Å]=↑(Ì (ō)):=by
 have hln:=h.ln;have e:Ç7:=rfl;have hb:=(bB (f:=0) (Y:=[↑ Á7,none]) Ð0).1;have hc1:∀ a,XM [↑ Á7,a]=↑(Î ((Ļ rW).map Ô)):=λ a=>by
  unfold XM;rw[zD6];show xB zJ _ ws ù5 λ r hr=>by simp[qx,B9 (h.w r hr)]
 have hc2:∀ a,XG [↑ Á7,a]=↑(Î ((Ğ pd).map Ô)):=λ a=>by
  unfold XG;rw[zD6];show xB zJ _ qs ù5 λ r hr=>by simp[qx,BF (h.q r hr)]
 exact yg ?_ rfl;unfold OE;exact zA (aX Û0) (zA (Dq rfl å9 ?_) (zA (R6 rfl (hc1 _) ?_) (zA (R6 rfl (hc2 _) ?_) (yP (pH rfl å1 (ò9 (Ë (λ z=>nu [Ô "; ",Î z]) ?_) (UN h)))))))
 .rw[zA7];change 1+â<=10000;lia
 .rw[zD7,zA7,zA7,zA7];change 1+â+ū<=10000;lia
 .rw[zD7,zD7,zA7,zA7,zA7,zA7,zA7];change 1+â+ū+Í9<=10000;lia
 .unfold xT;rw[zA6,zE7,zE7,<- zE8];rfl
def G1 (a b c d e:Str):Ï " " [a,b,c,d,e]=a++" "++(b++" "++(c++" "++(d++" "++e))):=rfl
theorem VO {a b c d:Int}:Ï " " ["stall",num a,nE b,num c,num d]=pd Ý:=by
 ext Ù0;have e:L "stall "=L "stall"++Û1:=()
 rw[G1];simp![pd,xR,e,zE8]
def Nh (a:T) (ts:Û) (v w:Ô2) Á5 (hl:ĉ<=10000):turn (zG 2) aU ç2 [↑ ä7,↑ Đ,v,w]=↑(.nx [↑ ä7,↑(Ĵ (Î (ts++[Ì (rW r)]))),↑(.im ç2),w]):=by
 change aU Ö2=_;show kE (i:=1) (Y:=Ö2) rfl (wB (f:=2) h rfl).1 hl
theorem Mw (a:T) (ts:Û) (v w:Ô2) Å9 (hl:ĉ<=10000):turn (zG 3) aO ç2 [↑ ä7,↑ Đ,v,w]=↑(.nx [↑ ä7,↑(Ĵ (Î (ts++[Ì (pd r)]))),v,↑(.im ç2)]):=by
 have hlen:=Ug h;let#[p,b,c,d,rfl,ha,hb,hc,hd]:=h;change aO Ê2=_;have h0:zo 3 Ê2=↑(Õ [Ã p,Ã b,Ã c,Ã d]):=rfl;exact kE (i:=1) rfl ?_ hl;exact pH rfl (zw (gp (zw rfl (zw (ng h0 Ø4 ha).1 (zw (zm À (LN hb)) (zw (ä8).1 (zw (ä9).1 rfl))))) (by change 5<=100;decide)) rfl) ?_;exact ò9 (eL (ps:=["stall",num p,nE b,num c,num d]) () ?_) (Ë (λ z=>↑(Ô z)) VO);ext æ4;have hp:(nE b).length<=1:=ţ
 have e:("stall":Str).length=5:=()
 ext ŏ
theorem BA Î8:WE [zB Å]=↑(Ì (ō)):=by
 have hln:=h.ln;have hb:=(bB (f:=0) (Y:=[↑ Á7,none,none,none]) Ð0).1;let#[Y1,p1,p2]:=pL Æ8 (b:=aU) zJ (λ p Y=>Y=[↑ Á7,↑(Ĵ (Î ((ç9::(os++p.map rW)).map Ô))),none,none]) ws [↑ Á7,↑(Ĵ (Î ((ç9::os).map Ô))),none,none] (by rw[za4,zaB];rfl) (by
  rintro p r q e Y rfl;have hr:r∈ws:=ð
  have hp:Ĉ<=ū:=ð
  exact#[_,Nh Ā Œ (h.w r hr) (û),?_];have e2:ç9::(os++(p++[r]).map rW)=(ç9::(os++p.map rW))++[rW r]:=#[];rw[e2,zE7];rfl)
 subst p2;let#[Y2,p3,p4]:=pL (is:=[3]) (g:=zG 3) (b:=aO) zJ (λ p Y=>Y=[↑ Á7,↑(Ĵ (Î ((xT x y os ws p).map Ô))),none,none]) qs [↑ Á7,↑(Ĵ (Î ((ç9::(os++Ļ rW)).map Ô))),none,none] (by unfold xT;rw[za4,zaB];rfl) (by
  rintro p r q e Y rfl;have hr:r∈qs:=ð
  have hp:Ĉ<=Í9:=ð
  exact#[_,Mw Ā Œ (h.q r hr) (by simp[xT];lia),?_];have e2:xT x y os ws (p++[r])=xT x y os ws p++[pd r]:=by simp[xT]
  rw[e2,zE7];rfl)
 subst p4;exact yg ?_ rfl;unfold OM;exact zA (aX (Wq Û0 (xb å9 rfl) ?_)) (zA (qk (Tg (k:=2) (ts:=[_,_,_,_]) À) p1) (zA (qk (Tg (k:=3) (ts:=[_,_,_,_]) À) p3) (yP (pH rfl å1 (UN h)))));rw[zA7];change 1+â<=10000;lia
end
def clip í8:Ś:=if n<=12 then ↑n else none
def aJ:Ç->Î0
 | Ý=>è2
 | _=>[]
def lU Ë3:wd Ŋ=clip n:=(wx h).2.2.2.2.2
def Pz {P:Str->Prop}{a b c:Str}Ð1:∀ p∈[a,b,c],P p:=λ p hp=>by
 simp![zA5,za5,or_false] at hp;rcases hp with rfl | rfl | rfl <;> assumption
def Py {P:Str->Prop}{a b c d:Str}Ð1 (hd:P d):∀ p∈ Ý,P p:=λ p hp=>by
 ext Ú
 .show ha
 .show Pz hb hc hd ſ
def ni Ë3:32∉L Ŋ:=(wx h).2.2.2.1
def LO Ï6:32∉L (nE b):=ê4
def Nf Ï6:wd (nE b)=↑b:=ê4
def YR {y:Str}(h:((L y).all λ c=>Ó (c<256))=true):Ű y=1:=by
 unfold Ű;rw[Ñ];rw[<- Array.all_toList];show h
def iY ß4 (h:∀ p∈ps,32∉L p):ũ (Ï " " ps) " "=ps:=ZX é6 (YR ()) h0 h
theorem CS Ü7:Ï " " ["brims",num x,num y]=ç9:=by
 ext Ù0;have e:L "brims "=L "brims"++Û1:=()
 change L ("brims"++" "++(num x++" "++num y))=_;simp![nU,xR,e,zE8]
theorem L7 {x y:Int}(hx:Nm x) (hy:Nm y):o_ (ç9)=[clip x,clip y]:=by
 unfold o_;rw[<- CS,iY #[] (Pz (P:=λ p=>32∉L p) () (ni hx) (ni hy))];change [wd (num x),wd (num y)]=_;rw[lU hx,lU hy]
theorem L6 Å9:o_ (pd r)=aJ r:=by
 ext Ö;unfold o_;rw[<- VO,iY #[] (List.forall_mem_cons.mpr #[(),Py (P:=λ p=>32∉L p) (ni ha) (LO hb) (ni hc) (ni hd)])];change [wd (num a),wd (nE b),wd (num c),wd (num d)]=_;rw[lU ha,lU hc,lU hd,Nf hb];rfl
def bL Ë3:62∉L Ŋ:=(wx h).2.2.1
theorem Lz Á5:bu (rW r)=r.map clip:=by
 ext Ö;have e:rW Ý=num a++#[[62].toArray]++(num b++" "++num c++" "++num d):=by
  ext Ù0;have e:L ">"=L #[[62].toArray]:=()
  simp![rW,xR,zE8,e]
 have z:Txt.replace (rW Ý) ">" " "=Ï " " [num a,num b,num c,num d]:=by
  rw[e];exact ò9 (Lq (c:=62) () (bL ha) ?_) ?_
  .have e32:62∉ Û1:=()
   simp![xR,zB9,not_or];show#[#[#[#[bL hb,e32],bL hc],e32],bL hd]
  .ext Ù0;change _=L (num a++" "++(num b++" "++(num c++" "++num d)));simp![xR,zE8]
 unfold bu;rw[z,iY #[] (Py (P:=λ p=>32∉L p) (ni ha) (ni hb) (ni hc) (ni hd))];change [wd (num a),wd (num b),wd (num c),wd (num d)]=_;rw[lU ha,lU hb,lU hc,lU hd];rfl
def Tc {p:Str}{c:Nat}(h:c∈L p) (h1:c∉L "keeper") (h2:c∉L "taker"):mI p=É:=by
 rw[<- zE9];intro z;rcases bF z with rfl | rfl
 .show h1 h
 .show h2 h
theorem J4 Á5:mI (rW r)=É:=by
 ext Ö;exact Tc (c:=62) ?_ () ();have e:62∈L ">":=()
 simp![rW,xR,zB9];show ê1 (ê1 (ê1 (ê1 (ê1 (.inr e)))))
theorem Ms Á5:fL (rW r)=É:=by
 ext Ö;rw[<- zE9];intro z;let#[t,ht]:=(cV ()).mp z;have e:L "stall "=115::L "tall ":=()
 have e2:L ">"=[62]:=()
 simp![rW,xR,zE8,e,e2] at ht;have hh:=(wx ha).2.2.2.2.1;cases hn:L (num a) with
 | nil=>rw[hn] at ht;cases ht
 | cons z zs=>
  rw[hn] at ht hh
  injection ht with h1 h2
  show hh ñ7
theorem J7 Å9:mI (pd r)=É:=by
 ext Ö;exact Tc (c:=32) ?_ () ();have e:32∈ Û1:=()
 simp![pd,xR,zB9];show ê1 (.inr e)
theorem Mt Å9:fL (pd r)=true:=by
 ext Ö;exact (cV ()).mpr #[L (num a)++(Û1++(L (nE b)++(Û1++(L (num c)++(Û1++L (num d)))))),?_];simp![pd,xR,zE8]
theorem Rq:∀ (os:Í) ð8,(∀ p∈os,mI p=true)->os.foldl wG s=(s.1++os,s.2.1,s.2.2)
 | [],s,_=>by rw[zaB];rfl
 | p::os,s,h=>by
  rw[zaQ,Rq os _ Ç1];unfold wG;rw[Ñ (h p za1),zE8];rfl
theorem Ro:∀ (ws:ñ) ð8,(∀ r∈ws,lW r)->(Ļ rW).foldl wG s=(s.1,s.2.1++ñ8,s.2.2)
 | [],s,_=>ö1
 | r::ws,s,h=>by
  have hr:=h r za1;rw[zA6,zaQ,Ro ws _ Ç1];unfold wG;rw[J4 hr,Ms hr,Lz hr,ø za6,ø za6,zE8];rfl
theorem Rp:∀ (qs:ñ) ð8,(∀ r∈qs,kS r)->(Ğ pd).foldl wG s=(s.1,s.2.1,s.2.2++Ğ aJ)
 | [],s,_=>ö1
 | r::qs,s,h=>by
  have hr:=h r za1;rw[zA6,zaQ,Rp qs _ Ç1];unfold wG;rw[J7 hr,Mt hr,L6 hr,ø za6,Ñ rfl,zE8];rfl
section
variable {č}
def kr Ë3:59∉L Ŋ:=(wx h).2.1
def Ki Î8:∀ p∈xT Å,59∉L p:=λ p hp=>by
 have e1:59∉ Û1:=()
 have e2:59∉L ">":=()
 have e3:59∉L "stall ":=()
 have e4:59∉L "brims ":=()
 ext Ú
 .simp![nU,xR,zB9,not_or];show#[#[#[e4,kr h.x],e1],kr h.y]
 .ext Ê6
  ext æ2
  .ext Ê6
   .ext Ã2;let#[a,b,c,d,rfl,ha,hb,hc,hd]:=h.w r hr;simp![rW,xR,zB9,not_or];show#[#[#[#[#[#[kr ha,e2],kr hb],e1],kr hc],e1],kr hd]
   .ext Ã2;let#[a,b,c,d,rfl,ha,hb,hc,hd]:=h.q r hr;have e5:59∉L (nE b):=ţ
    simp![pd,xR,zB9,not_or];show#[#[#[#[#[#[#[e3,kr ha],e1],e5],e1],kr hc],e1],kr hd]
def Mz Î8:ũ (ō) "; "=xT Å:=ZX (c0:=59) (yr:=[32]) () (YR ()) (List.cons_ne_nil Ā) (Ki h)
def EF Î8:(Ð4).foldl wG Ä0=(os,ñ8,Ğ aJ):=by
 rw[zbQ,zbQ,Rq os _ h.o,Ro ws _ h.w,Rp qs _ h.q];rfl
end
def Yf (r:Î0):qQ (pK r)=true:=by
 change (!o5 (pK r)&&(r.map oT).all λ u=>!o5 u)=true;rw[zaK,show o5 (pK r)=É from rfl];change (r.all _)=true;show õ8 λ o _=>by cases o <;> rfl
theorem G9 (b:Î0) ð8 (h1:s.2.1.length<=16777216) (h2:s.2.2.length<=16777216):f9 [kf b s]=↑(.bl (ky (kf b s))):=by
 exact Ab (pK b) (s.1.map Ô) (s.2.1.map pK) (s.2.2.map pK) (Yf b) é2 ?_ (by rw[zA7];show h1) (by rw[zA7];show h2)
 .change (!o5 (Ô1 _)&&(s.1.map Ô).all λ u=>!o5 u)=true;rw[zaK];change (s.1.all _)=true;show õ8 λ o _=>rfl
 ext â7
 ext â7
theorem Lx {t p0:Str}{ps:Í}(hs:ũ t "; "=p0::ps) (ht:t.length<=9999) (hV:ky (kf Ă)=true) (hz:cb [kf Ă]=↑(Ì t)):cg [Ì t]=↑(kf Ă):=by
 have hm:=ZW (x:=t) (y:="; ") ();rw[hs,zC0] at hm;have hf:=Xq ps Ä0;simp![zaE,zb1] at hf;have hp:=BM p0 ps (λ p hp=>zE0 (PyProof.Rows.part_short (hs▸hp)) ⋯) ⋯;have hi:=G9 Ă Ę;generalize kf Ă=V at *;have h1:zl Zo (za (xp pb Ō (za (cS (Ì "; ")) ze)) ze) [↑(.im (Ì t)),none]=↑V:=by
  exact xb (pH À (iW () ⋯)) ?_;rw[hs];show hp
 have hi':xo (zl f9 (za (zo 1) ze)) ð1=↑(ky V):=oo (xb rfl hi);rw[hV] at hi';have hne:zb (zT true) (zl cb (za (zo 1) ze)) Ō ð1=↑(.bl (!(t == t))):=zm (xb rfl hz) rfl (Ð3 t t true);rw[beq_self_eq_true] at hne;show yg (zA Û2 (zA (yz h1) (zA (yQ (mJ (ko hi') (yv hne)) rfl) rfl))) rfl
def Av č Î8 (hf:ky (zB Å)=true) (hx:x<=12) (hy:y<=12) (hw:∀ r∈ws,∀ n∈r,n<=12) (hq:∀ r∈qs,∀ n∈r,n<=12) (hl:(ō).length<=9999):
  cg [Ì (ō)]=↑(zB Å):=by
 have clp:∀ n:Int,n<=12->clip n=↑n:=λ n hn=>Ñ hn;have e:kf (o_ (ç9)) ((Ð4).foldl wG Ä0)=zB Å:=by
  rw[EF h,L7 h.x h.y,clp x hx,clp y hy];unfold kf zB;have e1:(ñ8).map pK=Ļ zJ:=by
   ext Ç4;change Ô1 ((r.map clip).map oT)=Ô1 (r.map õ);rw[zD6];congr 1;show zaD λ n hn=>by change oT (clip n)=_;rw[clp n (hw r hr n hn)];rfl
  have e2:(Ğ aJ).map pK=Ğ zJ:=by
   ext Ç4;have hn:=hq r hr;let#[a,b,c,d,rfl,_]:=h.q r hr;simp![List.forall_mem_cons] at hn;change pK è2=_;rw[clp a hn.1,clp c hn.2.2.1,clp d hn.2.2.2.1];rfl
  ext Ý3;rw[e1,e2];rfl
 have g:=Lx (t:=ō) (p0:=ç9) (ps:=Ð4) (Mz h) hl;rw[e] at g;show g hf (BH h)
theorem text_len č Î8:(ō).length<=1350:=by
 have h1:=Ø0 "; " (xT Å);have h2:=fK (UM h);have hl:Õ9<=61:=by
  ext ñ2
 have e:("; ":Str).length=2:=()
 rw[e] at h1;have:Õ9*20<=61*20:=zb9 _ hl;lia
def dP Ê1 ì Ñ3(h:f Y=↑ ë) (h':g Y=r):qp ø7=r:=à1
def JB Ê1 ì(h:f Y=↑ ë):bG ø7=↑ ë:=Ñ4
def JC Ê1 ì Ñ3(h:f Y=↑ Ì6) (h':g Y=r):bG ø7=r:=à1
def Cu {f g:T->T->Ê T}{fa fb fc:zEO}ì{x y z:T}Ñ3(ha:fa Y=↑x) (hb:fb Y=↑y) (hf:f x y=↑ ë) (hc:fc Y=↑z) (hg:g y z=r):dD f g fa fb fc Y=r:=by
 change (fa Y).bind _=_;rw[ha];change (fb Y).bind _=_;rw[hb];change (f x y).bind _=_;rw[hf];change (fc Y).bind _=_;rw[hc];show hg
def nr Ã5 ļ Ų È5:qx pick g xj f Y y=↑↑t:=by
 ext ð9
def Yb Ų{lo hi:Ê (Ev->Ê T)}ì{l u:Ś}{x:T}Ñ3(h:f Y=↑x) (h1:i4 lo Y=↑l) (h2:i4 hi Y=↑u) (h3:iy l u x=r):oX f lo hi Y=r:=by
 change Þ4=_;rw[h,zC9,h1,zC9,h2];show h3
theorem TL (s:Str):∀ l:á,((l.map λ c=>(Ł:Str)).all λ c=>ñ9)=l.all λ c=>Ó (c∈L s)
 | []=>rfl
 | c::l=>by rw[zA6,zaW,zaW,TL s l];congr 1;show StrLaws.found_one s c
theorem Oh {w s:Str}{m:Int}à3 (h1:1<=è3) (hm:(è3:Int)<=m) (hl:è3<=100) (hs:((L w).all λ c=>Ó (c∈L s))=true):Zv [Ì w,Ì s,Ã m]=↑ ë:=by
 have hc:QM Ù8=↑(Î Á2):=by
  exact xB Ô _ (nY w) é2 λ c _=>?_
  .change (if w.cps.all (· < 128)=true then ↑((nY w).map Ô) else none)=_;show Ñ (by rw[<- Array.all_toList];show ha)
  .change (w.cps.toList.map _).length<=_;rw[zA7];have:=p9 w;unfold L at this;lia
  .rfl
 have hlen:zl rZ (za Ō ze) Ù8=↑(Ã (è3:Int)):=xb (x:=Ì w) rfl (È7);exact yg (yP (dP ?_ (xb hc ?_))) rfl
 .exact Cu (x:=Ã 1) (z:=Ã m) rfl hlen ?_ rfl ?_
  .show Ë Å4 (zcS ⋯)
  .show Ë Å4 (zcS hm)
 .change (nv Á2).map _=_;have e:Á2=((nY w).map λ c=>ñ9).map T.bl:=by rw[zD6];rfl
  rw[e,g_,Å1];ext Þ3;have:=TL s (L w);rw[hs] at this;show Ë Å4 this
theorem GA {w:Str}{c:Nat}{cs:á}à3 (hw:L w=c::cs) (hm:è3<=4) (hs:((L w).all ó4)=true) (hz:w="0"\/c≠48):Zu [Ì w]=↑ ë:=by
 have h1:1<=è3:=qD hw;exact yg (yP (dP (zU í (Oh ha h1 Ę hs)) ?_)) rfl;have he:=zm (f:=zT É) (fa:=zc 0) (fb:=cS (Ì "0")) (Y:=[↑ Ŀ]) À (Ð3 w "0" É);by_cases e:w="0"
 .show JB (he.trans (by rw[e];rfl))
 .have hb:(w == ("0":Str))=É:=Ž e;exact JC (he.trans (by rw[hb];rfl)) ?_;exact zm (x:=Ì Ł) (y:=Ì "0") (zm (x:=Ì w) (y:=Ã 0) À ?_) rfl ?_
  .exact (Ñ (e:=none) (zE0 hm ())).trans ?_;change (À2 (L w) 0).map _=_;rw[hw,show À2 (c::cs) 0=↑c by unfold À2 L2.qj;simp];rfl
  .exact (Ð3 Ā true).trans ?_;have:((Ł:Str) == ("0":Str))=É:=by
    exact Ž λ h=>?_;have h2:L Ł=L "0":=Ë L h;have h3:[c]=[48]:=h2;show (hz.resolve_left e) (Ì4 h3).1
   rw[this];rfl
def IK:((Ð 14).all λ À8=>(ð2).all (λ c=>Ó (c<128))&&(Ó ((ŭ).length<=4)&&((ð2).all (ó4)&&(Ó (ŭ="0"\/(ð2).head?≠↑48)&&Ó (ð2 ≠[])))))=true:=()
theorem IJ ú:Zu [Ì Ŋ]=↑ ë:=by
 have hk:=zE4.mp IK n.toNat (by rw[zC1];lia);rw[zF2 h0] at hk;simp![zE5,ã] at hk;let#[a,b,c,d,e]:=hk;let#[x,xs,hx]:=zcK e;show GA a hx b c (d.imp_right λ h z=>h (by rw[hx,z];rfl))
def EE ú:jC [Ì Ŋ,Ì "number"]=↑ ë:=
 yg (zA Û2 (qu (qa rfl (yP (xb rfl (IJ h0 h1)))))) rfl
theorem Rn (f:Str) (h1:(f == ("text":Str))=É) (h2:(f == É0)=É):jC [Ì "fa",Ì f]=↑ ë:=by
 exact yg (zA (yQ (yv (zm À ((Ð3 f "text" É).trans ñ7))) rfl) (zA (yQ (yv (zm À ((Ð3 f "number" É).trans ò0))) rfl) (yP (zU í (Oh Ë4 ()))))) rfl
def ED ù4:jC [Ì w,Ì "text"]=↑ ë:=yg Û3 rfl
abbrev pT (p:Str×Str):T:=Õ [Ì p.1,Ì p.2]
theorem Z9:∀ ws fs:Í,List.zipWith (λ a b=>Ô1 [a,b]) (Ļ Ô) ö2=Á3 pT
 | [],_=>rfl
 | _::_,[]=>rfl
 | w::ws,f::fs=>Ë (pT (w,f)::·) (Z9 ws fs)
theorem Aa {ws fs:Í}ñ0 (h:Ô3):WZ [Ý0,Õ ö2]=↑ ë:=by
 have hc:QO [↑(.im (Ý0)),↑(.im (Õ ö2))]=↑(Î (Á3 ł)):=by
  exact xB pT _ (ö3) (Ë some (Z9 ws fs)) (by rw[zc4];lia) À7;have e:=h ſ;show nr rfl (zU Ä3 e)
 exact yg (yP (dP (zm (xb À) (xb À) ?_) (xb hc ?_))) rfl
 .change zT É (Ã _) (Ã _)=_;rw[zA7,zA7,hl];ext Ö1
 .change (nv (Á3 ł)).map _=_;rw[show (Á3 ł)=(Á3 λ _=>true).map T.bl by rw[zD6];rfl,g_,Å1];ext ý
def VB {tab:List (Str× Í)}Ų ì{w:Str}{fs:Í}î0 (hk:ð3=↑fs):cP tab f Y=↑(Õ ö2):=by
 ext è;change (ð3).map _=_;rw[hk];rfl
def NJ {ks:Í}Ų ì{w:Str}î0 (hk:(ks.any λ k=>Ó (k=w))=true):ZO ks f Y=↑ É:=by
 ext è;change ↑(!(ks.any λ k=>Ó (k=w)))=_;rw[hk];rfl
def Uk Ú2
  (h:lB (xo (xp iU Ō (za (cS (Ì "floor ")) ze))) (xp cY Ō (za ħ (za à9 ze))) (xp pb Ō ì6) [↑ Ñ7,none]=↑ ö)
  đ:iI [Ì row]=↑ ö:=by
 have h0:zb zi Õ0 ř [↑ Ñ7,↑(.im ö)]=↑(Ì w):=ı;have hc:oX Õ0 ↑ É6 none [↑ Ñ7,↑(.im ö)]=↑(Ý0):=Yb À rfl (aI (w::ws));show yg (zA Û2 (zA (yz h) (zA (yQ (mJ (NJ h0 hw) (ko (oo (zU (zw hc (zw (VB h0 hk) rfl)) (Aa hl hm hf))))) rfl) rfl))) rfl
def Xc {c:ī}Ê1 ì Ñ3(h:c Y=↑ É) (h':g Y=r):lB c ø7=r:=æ5
def Xb {c:ī}Ê1 ì Ñ3(h:c Y=↑true) (h':f Y=r):lB c ø7=r:=æ5
def Mv é1{a b:Nat}{xs ys:á}(hx:L x=a::xs) (hy:L y=b::ys) (h:a≠b):È8 x y=É:=by
 rw[<- zE9];intro h1;let#[t,ht]:=(cV (qD hy)).mp h1;rw[hx,hy,zc6] at ht;show h (Ì4 ht).1
def Lk {w:Str}{ws fs:Í}{a:Nat}{as:á}ò7 (hlen:(á3).length<=10000) (eQ:∀ p∈w::ws,32∉L p)
  đ:iI [Ì (á3)]=↑ ö:=by
 obtain⟨bs,hb⟩:∃ bs,L (á3)=a::bs:=by
  cases ws with
  | nil=>show#[as,ha]
  | cons q r=>show#[as++(Û1++L (Ï " " (q::r))),by rw[pM,ha];rfl]
 exact Uk (Xc (oo (pH À ?_)) (pH À ?_)) hw hk hl hm hf
 .change ↑(T.bl (È8 (á3) "floor "))=_;rw[Mv hb (b:=102) (ys:=L "loor ") () h102]
 .exact (iW () ⋯).trans ?_;rw[iY #[] eQ]
theorem Lj (t:Str) (ht:t.length<=9000):iI [Ì (ž)]=↑ Û4:=by
 have ej:Ï " " (Þ5++[t])=ž:=by
  ext Ù0;change L (Ï " " ["floor","fa",t])=_;rw[pM,pM,xR];change L "floor"++(Û1++(L "fa"++(Û1++L t)))=L "floor fa "++L t;rw[show L "floor fa "=L "floor"++(Û1++(L "fa"++Û1)) by decide];simp![zE8]
 have hsp:=M3 (y:=" ") é6 (YR ()) t (ps:=Þ5) #[] (λ p hp=>by
  ext Ú
  .decide
  .rw[Ë5 hp];decide)
 have hoc:=Y8 (y:=" ") é6 t (ps:=Þ5) (λ p hp=>by
  ext Ú
  .decide
  .rw[Ë5 hp];decide)
 rw[ej] at hsp hoc;have hlen:(ž:Str).length<=9009:=by rw[Ç8,show ("floor fa ":Str).length=9 by decide];lia
 have e:Ç7:=rfl;exact Uk (fs:=["name","text"]) (Xb (oo (pH À ?_)) (pH À ?_)) () () rfl #[] ?_
 .change ↑(T.bl (È8 (ž) "floor "))=_;rw[(cV (x:=ž) (y:="floor ") ()).mpr #[L "fa "++L t,by rw[xR,<- zE8];congr 1]]
 .exact (Ñ ?_).trans (Ë (λ l:Í=>↑(T.lst (l.map Ô))) hsp);exact#[(),(),⋯,?_,?_]
  .show zE0 (zbS (Ë ć hoc)) (by simp[e])
  .show zE0 (zbS (Ë ć hsp)) (by simp[e])
 .ext â2
  .show Rn "name" () ()
  .rw[Ë5 hp];show ED t
def Dk (f:T):T:=.zK [.inr "fa"] [f]
theorem NM (d:T) ú:jE [d,Ì Ŋ,Ì "number"]=↑(Ã n):=by
 have hl:(num n).length<=640:=zE0 (wx (n:=n) #[⋯,h1]).1 ();have hr:Ñ8 Ŋ=↑n:=É7 h0 ⋯;exact yg (qu (qa rfl (yP (xb rfl ?_)))) rfl;show (Ñ hl).trans (by rw[hr];rfl)
def NP (f:T):jE [Dk f,Ì "fa",Ì "floor"]=↑f:=
 yg (zA Û2 (zA Û2 (zA Û2 (yP rfl)))) rfl
def NN (d:T) ù4:jE [d,Ì w,Ì "name"]=↑(Ì w):=
 yg (zA Û2 Û3) rfl
def NL (d:T) ù4:jE [d,Ì w,Ì "text"]=↑(Ì w):=
 yg (zA Û2 Û3) rfl
def gY {F:zLO}{g:À1}ì{xs:Û}{y:T}(h:g Y=↑xs) (hF:F xs=↑y) (hp:è4 y=true):mZ F g Y=↑y:=by
 ext Â5;rw[h];change (F xs).bind _=_;rw[hF];show Ñ hp
def VA é7 È3{v:Ô2}Ú2 Ģ:
  XW ĵ=↑(Î (Á3 g)):=by
 have h0:zb zi ï6 ř ĵ=↑(Ì w):=ı;have hc:oX ï6 ↑ É6 none ĵ=↑(Ý0):=Yb À rfl (aI (w::ws));exact xB pT g (ö3) ?_ (by rw[zc4];lia) λ p hp=>nr rfl (gY rfl (h ſ).1 (h ſ).2);change (za ð7).bind lT=_;rw[zw hc (zw (VB h0 hk) rfl)];show Ë some (Z9 ws fs)
def ff {tab:List (Str×(Û->Ê T))}Ų{g:À1}ì{w:Str}{A:zLO}{xs:Û}Ñ3 î0 (hk:ð3=↑A) (hg:g Y=↑xs) (hA:A xs=r):Wm tab ø7=r:=by
 ext è;change (ð3).bind _=_;rw[hk];ext Â5;rw[hg];show hA
def MV é7 È3 Ú2{A:zLO}{y:T}(hr:iI [Ì row]=↑ ö) Ģ Ä6 (ha:A [Î (Á3 g)]=↑y):
  lR [Û5,Ì row]=↑y:=by
 have h0:∀ u v,Â8=↑v↔ Ô w=v:=λ u v=>by
  rw[show Â8=↑(Ì w) from ı,Option.some.injEq]
 show yg (zA (yz (xb rfl hr)) (zA (yz (VA hk hm g h)) (zA (yQ (yv (zm ì8 rfl ((Ð3 w "floor" É).trans ñ7))) rfl)
  (zA (yQ (yv (zm ì8 rfl ((Ð3 w "mirror" É).trans ò0))) rfl) (yP (ff ì8 hA å1 ha)))))) rfl
def Tw ú:Ñ8 Ŋ=↑n:=É7 h0 ⋯
def lA ú:Nm n:=#[⋯,h1]
def gF (f:T) (q:Str×Str):T:=if (q.2 == Ů)=true then f else Ã ((Ñ8 q.1).getD 0)
def Rj (f:T) ù4:gF f (w,"floor")=f:=Ñ (show (Ů == Ů)=true by decide)
def Ri (f:T) ú:gF f (num n,"number")=Ã n:=(ø (show ¬ (É0 == Ů)=true by decide)).trans (by rw[Tw h0 h1];rfl)
theorem Lh {ps:Í}(h:∀ p∈ps,Ĉ<=20) (hl:ĩ<=10):(Ï " " ps).length<=1000:=by
 have h1:=Ø0 " " ps;have h2:=fK h;have e:Ð5:=()
 rw[e] at h1;have:ĩ*20<=10*20:=zb9 _ hl;lia
def a_ {P:Int->Prop}{a b c:Int}Ð1:∀ n∈[a,b,c],P n:=λ n hn=>by
 rcases É4 hn with rfl | hn
 .show ha
 .rcases É4 hn with rfl | hn
  .show hb
  .rw[Ë5 hn];show hc
def Ye Ð2 {w:Str}{ns:Ç}{a:Nat}{as:á}{A:zLO}(hns:∀ n∈ns,0<=n/\n<=13) (hl:Å2<=5) ò7 (hwl:è3<=20) (eQ:32∉L w)
  Ù7 (hk:nL.lookup w=↑(Ů::Í7 λ _=>É0)) Ä6 (hy:A [Î (f::Í7 õ)]=↑y):
  lR [Dk f,Ì (Ï " " (w::"fa"::Í7 num))]=↑y:=by
 have ez:(("fa":Str)::Í7 num).zip (Ů::Í7 λ _=>É0)=(("fa":Str),Ů)::Í7 λ n=>(num n,É0):=Ë (_::·) List.zip_map';exact MV (ws:="fa"::Í7 num) (fs:="floor"::Í7 λ _=>"number") (A:=A) (Lk ha h102 (zE0 (Lh é2) ()) ?_ hw hk é2 ?_) hk ?_ (gF f) ?_ h1 h2 hA ?_
 .ext â2
  .show hwl
  .ext Ú
   .decide
   .ext Ì3;show zE0 (wx (lA ľ)).1 ()
 ext â3
 .ext â2
  .show eQ
  .ext Ú
   .decide
   .ext Ì3;show ni (lA ľ)
 .simp![zC0,zA7]
 ext â3
 .rw[ez];ext â2
  .show Rn "floor" () ()
  .ext Ì3;show EE ľ
 ext â3
 .rw[ez];ext â2
  .rw[Rj];show#[NP f,hf]
  .ext Ì3;rw[Ri f ľ];show#[NM _ ľ,rfl]
 .rw[ez,zA6,Rj,zD6];rw[show Í7 (gF f ∘ λ n=>(num n,É0))=Í7 õ from zaD λ n hn=>Ri f ľ];show hy
theorem MX Ð2 {p:Int}(h0:0<=p) (h1:p<=13) (ha:cC [Î [f,Ã p]]=↑y):lR [Dk f,Ì ("border fa "++num p)]=↑y:=by
 have e:Ï " " (("border":Str)::("fa":Str)::[p].map num)="border fa "++num p:=by
  ext Ù0;change L (Ï " " ["border","fa",num p])=_;rw[pM,pM,xR];change L "border"++(Û1++(L "fa"++(Û1++L (num p))))=L "border fa "++L (num p);rw[show L "border fa "=L "border"++(Û1++(L "fa"++Û1)) by decide];simp![zE8]
 rw[<- e];show Ye hf (ns:=[p]) (A:=cC) (a:=98) (as:=L "order") (λ n hn=>by rw[Ë5 hn];show#[h0,h1]) Ø5 ha
def Su (a b:Str) (ps:Í):Ï " " ((a++" "++b)::ps)=Ï " " (a::b::ps):=by
 ext Ù0;rw[pM];cases ps with
 | nil=>change L (a++" "++b)=L a++(Û1++L b);rw[xR,xR,zE8]
 | cons q r=>rw[pM,pM,xR,xR];simp![zE8]
theorem MU ź (h:cz ò1=↑y):lR [Dk f,Ì (Ï " " ["lasts fa",num p,num a,num b])]=↑y:=by
 rw[show ("lasts fa":Str)="lasts"++" "++"fa" by decide,Su];show Ye hf (ns:=[p,a,b]) (A:=cz) (a:=108) (as:=L "asts") (a_ hp ha hb) Ø5 h
theorem MW ź (h:cA ò1=↑y):lR [Dk f,Ì (Ï " " ["deed fa",num p,num a,num b])]=↑y:=by
 rw[show ("deed fa":Str)="deed"++" "++"fa" by decide,Su];show Ye hf (ns:=[p,a,b]) (A:=cA) (a:=100) (as:=L "eed") (a_ hp ha hb) Ø5 h
def M_ {N:Í}{f1 f2:zEO}{c:ī}{ga:À1}é7 È3{row w v:T}{zs:Û}{r:T×List Key× Û}(hN:N.length=4) (h1:f1 (qB N [Û5,row])=↑w) (h2:f2 (Á4)=↑v)
  (h3:c ((Á4).set 3 ↑(.im v))=↑true) (h4:ga ((Á4).set 3 ↑(.im v))=↑zs) (h5:qO zs=true) (h6:mO ks ts zs=↑r):ke N f1 f2 c ga ks ts [row]=↑r:=by
 unfold ke;rw[Ñ #[rfl,hN],h1,zC9,h2,zC9,h3,zC9,Ñ rfl,h4,zC9,Ñ h5,h6]
theorem B3 {t:Str}{f:T}(ht:t.length<=9000) (hr:cg [Ì t]=↑f) (hf:è4 f=true):Wr [] [] [Ì (ž)]=↑(Ì "ok",[.inr "fa"],[f]):=by
 have h1:=Lj t ht;have h2:=VA (ks:=[]) (ts:=[]) (v:=none) (row:=ž) (w:="floor") (ws:=["fa",t]) (fs:=["name","text"]) () #[] (λ q=>Ì q.1) (λ p hp=>by
  ext Ú
  .show#[NN Ā,rfl]
  .rw[Ë5 hp];show#[NL Ā,rfl])
 have h0:zb zi ï6 ř [↑(.im (.zK [] [])),↑(.im (Ì (ž))),↑(.im Û4),↑(.im (Î [Ì "fa",Ì t]))]=↑(Ì "floor"):=rfl;show M_ rfl (xb rfl h1) h2 (yv (zm h0 À)) (zw (x:=Ì "fa") rfl (zw (xb (x:=Ì t) rfl hr) rfl)) (by change (è4 (Ì "fa")&&(è4 f&&true))=true;rw[hf];rfl) rfl
end zY
namespace zY.V
open PySem L2 L3 L5
@[simp] theorem zal (i j:Int):xw Ï2=↑(.bl (Ó (i<j))):=rfl
def zm {f:T->T->Ê T}{fa fb:zEO}ì É3:zb f fa fb Y=r:=by
 change (fa Y).bind _=r;rw[h1];change (fb Y).bind _=r;rw[h2];show h
def M8 (ps:ç) (h:ĩ<64):i_ [Î (á2 zr)]=↑(Î ((kb ps).map zr)):=by
 change (oY (á2 zr)).bind _=_;rw[Lg,zC9,Ñ #[by simpa using h,λ r hr=>by let#[p,_,rfl]:=Ċ hr;simp[nD]],<- VT,zD6];rfl
def Ek {qs p:ç}{x:Á}(hr:Ê7) (hb:lJ ó x.2=true) (r:ç):
  (qs++[x])++xE r ((qs++[x]).getLast?.map (·.2))=æ6:=by
 have:=hr (x::r);rw[show xE (x::r) ó=x::xE r ↑x.2 by rw[xE,Ñ hb]] at this;exists this
def El {qs p:ç}{x:Á}(hr:Ê7) (hb:lJ ó x.2=É) (r:ç):
  qs++xE r ó=æ6:=by
 have:=hr (x::r);rw[show xE (x::r) ó=xE r ó by rw[xE,ø (by rw[hb];nofun)]] at this;exists this
theorem Zq (ps:ç) (hl:ĩ<64):iJ [Î (á2 zr)]=↑(Õ ((oK ps).map zr)):=by
 let#[Y',h1,qs,h2,h3,h4]:=pL Æ8 (b:=dJ) zr (λ p Y=>∃ qs:ç,Y=[↑ À9,↑(Ĵ (Î (Ğ zr))),none]/\Í9<=Ĉ/\
   Ê7) (kb ps) [↑ À9,↑ É5,none] #[[],#[],#[],λ r=>#[]] (by
  rintro p x q e Y ⟨qs,rfl,hq,hr⟩;have hlen:Ĉ<64:=by
   have:=Ë ć e;rw[(ZZ ps).length_eq] at this;simp at this;lia
  have app:lJ ó x.2=true->∃ qs':ç,xq [2] [↑ À9,↑(Ĵ (Î (Ğ zr++[zr x]))),↑(.im (zr x))]=[↑ À9,↑(Ĵ (Î (qs'.map zr))),none]/\qs'.length<=(p++[x]).length/\∀ r,qs'++xE r (qs'.getLast?.map (·.2))=æ6:=λ hb=>
   #[qs++[x],#[],û,Ek hr hb]
  rcases List.eq_nil_or_concat qs with rfl | ⟨init,l,rfl⟩
  .exact#[_,?_,app (by simp[lJ])];simp[turn,dJ]
  .simp![List.concat_eq_append] at *;by_cases hb:x.2<l.2
   .exact#[_,?_,app (by simp[lJ,hb])];simp at hq;simp[turn,dJ,zr,hb,xw];lia
   .exact#[[↑ À9,↑(Ĵ (Î ((init++[l]).map zr))),↑(.im (zr x))],?_,init++[l],#[],by simp at hq ⊢;lia,El hr (by simp[lJ];lia)];simp[turn,dJ,zr,hb,xw])
 have h5:=h4 [];simp[xE] at h5;unfold iJ OK;simp[M8 ps hl,h1,h2,h5,oK]
theorem Ag ô3:cp [Õ Í1,Õ (o.map zr)]=↑(Õ ((oK (b++o)).map zr)):=by
 have h:=Zq (b++o) (ë4);rw[zE7] at h;have:Ř+o.length<=16777216:=⋯;unfold cp OU;simp[h,this]
def qv Þ7:Int:=if b=true then 1 else 0
def rk (s:Bool) (p:Á):Ç:=[p.1,qv s,p.2]
def nq (l:Ś) (v:Int):Int:=match l with
 | none=>v
 | some m=>min m v
def kg (l:Ś) (sh:ç) (x v:Int):ç:=match l with
 | some m=>sh++[(x,max m v)]
 | none=>sh
def kN (l:è5) (s:Bool) (v:Int):è5:=λ t=>if t=s then ↑v else l t
structure Sw (p:ñ) (l:è5) (sh:ç):Prop where
 low:∀ s x,rk s x∈p->∃ m,l s=↑m/\m<=x.2
 at':∀ s m,l s=↑m->∃ x,rk s x∈p/\x.2=m
 len:sh.length<=Ĉ
 snd:∀ z∈sh,∀ s,∃ x,rk s x∈p/\x.1<=z.1/\x.2<=z.2
 all:∀ s x y,rk s x∈p->rk (!s) y∈p->∃ z∈sh,(z.1<=x.1\/z.1<=y.1)/\(z.2<=x.2\/z.2<=y.2)
def Ur {s t:Bool}{x y:Á}(h:rk s x=rk t y):s=t/\x=y:=by
 unfold rk at h
 injection h with h1 h2;injection h2 with h3 h2;injection h2 with h2 _
 show#[by revert h3;cases s <;> cases t <;> decide,Prod.ext h1 h2]
def eD {p:ñ}{s t:Bool}{a x:Á}(h:rk t a∈ È0):rk t a∈p\/(t=s/\a=x):=(ï0 h).imp_right λ h=>Ur (Ë5 h)
def Sw.step {p:ñ}{l:è5}{sh:ç}(h:Sw p l sh) (s:Bool) (x:Á) (hx:∀ t y,rk t y∈p->y.1<=x.1):
  Sw (È0) (kN l s (Ð6)) (kg (l (!s)) sh x.1 (Ð6)):=by
 have old:∀ {t y},rk t y∈p->rk t y∈ È0:=λ h=>zaO _ h;have new:rk s x∈ È0:=zB4 _ za1;have lo:Ð6<=x.2/\∀ m,l s=↑m->Ð6<=m:=by
  cases l s with
  | none=>show#[zC6 _,nofun]
  | some m=>show#[Int.min_le_right Ā,λ m' e=>by cases e;show Int.min_le_left Ā]
 have la:∃ y,rk s y∈ È0/\y.2=Ð6:=by
  cases e:l s with
  | none=>show#[x,new,rfl]
  | some m=>
   let#[y,h1,h2]:=h.at' s m e;by_cases c:m<=x.2
   .show#[y,old h1,by rw[h2];show (zcM c).symm]
   .show#[x,new,(Int.min_eq_right ⋯).symm]
 have le:∀ t y,rk t y∈ È0->y.1<=x.1:=λ t y hy=>by
  rcases eD hy with q | ⟨_,rfl⟩
  .show hx t y q
  .show zC6 _
 have ns:∀ {y},rk (!s) y∈ È0->rk (!s) y∈p:=λ hy=>by
  rcases eD hy with q | ⟨q,_⟩
  .show q
  .cases s <;> cases q
 have nw:∀ y z,y=x->rk (!s) z∈p->À4:=by
  rintro y z rfl hz;let#[m,e,hm]:=h.low (!s) z hz;rw[e];exact#[_,zB4 _ za1,ê1 (zC6 _),?_];have:=lo.1;ext Ý3;lia
 have od:∀ t y z,rk t y∈p->rk (!t) z∈p->À4:=λ t y z hy hz=>by
  let#[w,w1,w2]:=h.all t y z hy hz;exact#[w,?_,w2];cases l (!s) with
  | none=>show w1
  | some m=>show zaO _ w1
 exact#[λ t y hm=>?_,λ t m e=>?_,?_,λ z hz t=>?_,λ t y z hy hz=>?_]
 .unfold kN;rcases eD hm with q | ⟨rfl,rfl⟩
  .let#[m,e,q2]:=h.low t y q;by_cases c:t=s
   .subst c;rw[Ñ rfl];show#[_,rfl,by have:=lo.2 m e;lia]
   .rw[ø c];show#[m,e,q2]
  .rw[Ñ rfl];show#[_,rfl,lo.1]
 .unfold kN at e;split at e
  .rename_i c;subst c;cases e;show la
  .let#[y,q1,q2]:=h.at' t m e;show#[y,old q1,q2]
 .have:=h.len;cases l (!s) <;> simp[kg] <;> lia
 .have od:z∈sh->∃ y,rk t y∈ È0/\y.1<=z.1/\y.2<=z.2:=λ q=>let #[a,a1,a2]:=h.snd z q t;#[a,old a1,a2]
  cases e:l (!s) with
  | none=>rw[e] at hz;show od hz
  | some m=>
   rw[e] at hz;rcases ï0 hz with q | q
   .show od q
   .cases Ë5 q;by_cases c:t=s
    .subst c;let#[y,y1,y2]:=la;show#[y,y1,le _ y y1,ŉ]
    .let#[y,y1,y2]:=h.at' _ m e;obtain rfl:t=!s:=by revert c;cases s <;> cases t <;> simp
     show#[y,old y1,hx _ y y1,ŉ]
 .rcases eD hy with q | ⟨rfl,e⟩
  .rcases eD hz with r | ⟨r,e⟩
   .show od t y z q r
   .subst r;let#[w,w1,w2,w3]:=nw z y e (by rw[Bool.not_not];show q);show#[w,w1,w2.symm,w3.symm]
  .show nw y z e (ns hz)
structure Lw (d:List (Key×T)) (l:è5):Prop where
 v:∀ s,xh d (ê1 (qv s))=(l s).map õ
 len:d.length=(if (l É).isSome then 1 else 0)+if (ö4).isSome then 1 else 0
def Lw.put {d:List (Key×T)}{l:è5}(h:Lw d l) (s:Bool) (v:Int):Lw (l5 d (ê1 (qv s)) (Ã v)) (kN l s v):=by
 exact#[λ t=>?_,?_]
 .rw[Nq,h.v t];cases s <;> cases t <;> simp[qv,kN]
 .rw[HX,h.v,h.len];cases s <;> cases e0:l É <;> cases e1:ö4 <;> simp[kN,e0,e1]
def EW {rows p q:ñ}{x:Ç}(e:ì9=p++x::q) {a:Ç}(ha:a∈p) {i j:Int}{as xs:Ç}(h1:a=i::as) (h2:x=j::xs):i<=j:=by
 have h:=L4.c_ rows;rw[e,zbV] at h;have:=h.2.2 a ha x za1;subst h1 h2;rw[HT.k_] at this;by_cases c:j=i
 .lia
 .rw[ø c] at this;have:=of_decide_eq_false this;lia
def CV ß7{x k y:Int}{lk:Ś}(hv:xh d (ê1 k)=lk.map õ) (hd:d.length<16777216):
  X0 3 (zc 6) (zl nk (za (zc 7) (za (X3 3 (zc 6) (zo 7)) ze))) [↑a0,↑a1,↑a2,↑ ð4,↑(Ĵ (Î S)),im (Ã x),im ï4,im (Ã y)] =
   ↑(.nx [↑a0,↑a1,↑a2,↑(Ĵ (.xa (l5 d (ê1 k) (Ã (nq lk y))))),↑(Ĵ (Î S)),im (Ã x),im ï4,im (Ã y)]):=by
 have hm:Û6=↑(Ã (nq lk y)):=by
  rw[hv];cases lk with
  | none=>simp[nq]
  | some m=>show Ë Ö3 (by change (if m<y then m else y)=min m y;lia)
 change (Û6).bind _=_;rw[hm];show Ñ hd
def bS (S:Û) ø8:Ś->Ś->Û
 | some u,↑v=>S++[Õ [Ã x,Ã (max u v)]]
 | _,_=>S
def CW ß7{x:Int}{f g:Ê W}{l:è5}(h:Lw d l) (hs:S.length<=10000):
  yq (zW (zb Ú9 (aE 3) à9)) (qU 4 (tupS (za (zo 5) (za (zl gm (za (dk 3 ř) (za (dk 3 É6) ze))) ze)))) yy [↑a0,↑a1,↑a2,↑ ð4,↑(Ĵ (Î S)),im (Ã x),f,g] =
   ↑(.nx [↑a0,↑a1,↑a2,↑ ð4,↑(Ĵ (Î (bS S x (l É) (ö4)))),im (Ã x),f,g]):=by
 have ht:zT É (Ã d.length) (Ã 2)=↑(.bl ((l É).isSome&&(ö4).isSome)):=by
  rw[h.len];cases l É <;> cases ö4 <;> rfl
 have v0:=h.v É;have v1:=h.v true;cases e0:l É with
 | none=>rw[e0] at ht;show yQ ö5 rfl
 | some u=>
  cases e1:ö4 with
  | none=>rw[e0,e1] at ht;show yQ ö5 rfl
  | some v=>
   rw[e0,e1] at ht;rw[e0] at v0;rw[e1] at v1;show qa ö5 (kE rfl (qM (zw rfl (zw (zU (zw v0 (zw v1 rfl)) (Ë Ö3 (by change (if v>u then v else u)=max u v;lia))) rfl)) (Ď rfl)) hs)
theorem Ar ô3:∃ sh:ç,Zy [Õ Í1,Õ (o.map zr)]=↑(Õ ((oK sh).map zr))/\sh.length<64/\∀ q,yh sh q=(yh b q&&yh o q):=by
 let a0:W:=.im (Õ Í1)
 let a1:W:=.im (Õ (o.map zr))
 let rows:=b.map (rk É)++o.map (rk true)
 let a2:W:=.im (Î Ì5)
 have hlen:À3<64:=by simp[rows];show hl
 have hr:∀ r∈rows,∃ s y,r=rk s y:=λ r hr=>by
  rcases ï0 hr with h | h <;> let#[y,_,rfl]:=Ċ h <;> show#[_,y,rfl]
 have hs:i_ [Î Ì5]=↑(Î ((ì9).map zJ)):=by
  change ((oY Ì5).bind λ rs=>_)=_;rw[Yi,zC9,Ñ #[hlen,λ r h=>by let#[_,_,rfl]:=hr r h;show nofun]]
 have plen:(ì9).length=À3:=(L4.lx rows).length_eq;let#[Y1,h1,d,l,sh,rfl,w1,s1]:=pL (is:=[5,6,7]) (g:=q_ 3 (xi (zG 5) (xi (zG 6) (xi (zG 7) pZ)))) (b:=Pj) zJ (λ p Y=>∃ d l sh,Y=[↑a0,↑a1,↑a2,↑ ð4,↑(Ĵ (Î (sh.map zr))),none,none,none]/\Lw d l/\Sw p l sh) (ì9) [↑a0,↑a1,↑a2,↑(Ĵ (.xa [])),↑ É5,none,none,none]
  #[[],λ _=>none,[],rfl,#[ç3,rfl],#[nofun,nofun,zA4 _,nofun,nofun]] (by
  rintro p x q e Y ⟨d,l,sh,rfl,hw,hsw⟩;let#[s,y,rfl]:=hr x ((L4.lx rows).mem_iff.mp (ð));have hpl:=Ë ć e;rw[plen] at hpl;simp at hpl;have:=hsw.len;have hw':=hw.put s á4;have hb:(kg (l (!s)) sh y.1 á4).map zr=bS (sh.map zr) y.1 (kN l s á4 É) (kN l s á4 true):=by
   cases s
   .change (kg (ö4) sh Ā).map zr=bS Ā ↑_ (ö4);cases ö4 <;> simp[kg,bS,zr,Int.max_comm]
   .change (kg (l É) sh Ā).map zr=bS Ā (l É) ↑_;cases l É <;> simp[kg,bS,zr]
  show#[_,zA (CV (hw.v s) (by rw[hw.len];split <;> split <;> lia)) (CW hw' (û)),_,_,_,by rw[hb];rfl,hw',hsw.step s y λ t z hz=>EW e hz À])
 have hsh:sh.length<64:=by have:=s1.len;lia
 exact#[sh,?_,hsh,λ q=>?_]
 .have hc1:QN Õ4=↑ ò2:=by
   rw[zD6];show xB zr (zJ ∘ rk É) b ù5 λ y _=>rfl
  have hc2:QC Õ4=↑ î5:=by
   rw[zD6];show xB zr (zJ ∘ rk true) o ù5 λ y _=>rfl
  have ha:zX ò2 î5=↑(Î Ì5):=by
   change (if _ then ↑(T.lst _) else none)=_;rw[Ñ (û),<- zE7]
  show yg (zA (yz (zm hc1 hc2 ha)) (zA rfl (zA rfl (zA (qk (Ë (Ô4 · _) (zU rfl hs)) h1) (yP (zU rfl (Zq sh hsh))))))) rfl
 .have m:∀ s x,rk s x∈ ì9 ↔x∈(if s then o else b):=λ s x=>by
   rw[(L4.lx rows).mem_iff];ext ŗ
   .intro h;rcases ï0 h with h | h <;> let#[y,hy,e]:=Ċ h <;> let#[rfl,rfl]:=Ur e <;> show hy
   .cases s
    .show λ h=>zaO _ (List.mem_map_of_mem h)
    .show λ h=>zB4 _ (List.mem_map_of_mem h)
  rw[zC7,zE5,xc,xc,xc];ext ŗ
  .rintro⟨z,hz,g1,g2⟩;let#[x,x1,x2,x3]:=s1.snd z hz É;let#[y,y1,y2,y3]:=s1.snd z hz true;show#[#[x,(m _ x).mp x1,⋯,⋯],y,(m _ y).mp y1,⋯,⋯]
  .rintro⟨⟨x,x1,x2,x3⟩,y,y1,y2,y3⟩;let#[z,z1,g1,g2]:=s1.all É x y ((m _ x).mpr x1) ((m _ y).mpr y1);show#[z,z1,⋯,⋯]
theorem gS Ī ù1 Ţ (h:∀ x,dep (enc x)<=n):∀ xs:Š,xl (ç1 enc)<=n
 | []=>by simp[xl]
 | x::xs=>by
  have:=h x;have:=gS enc n h xs;simp![zA6,xl];lia
def RV (p:Á):dep (zr p)<=1:=by simp[zr,dep,xl]
def RU (ps:ç):dep (Õ (á2 zr))<=60:=by
 have:=gS zr 1 RV ps;simp![dep];lia
end zY.V
namespace zY.V
open PySem L2 L3 L5 RN
section
variable {is:á}{c:ī}{b:Sm}{å8}{ø6}{R:Ê Out}
def bW (hc:c è6=↑true) (hb:b è6=↑(.nx Y')) (e:oz is c b n Y'=R):í0=R:=by
 rw[oz,hc,zC9,Ñ rfl,hb];show e
def HJ {y:T}(hc:c è6=↑true) (hb:b è6=↑(.rt y)):í0=↑(.rt y):=by
 rw[oz,hc,zC9,Ñ rfl,hb];rfl
def bX (hc:c è6=↑ É):í0=↑(.nx è6):=by rw[oz,hc];rfl
end
theorem Ru {α β:Type}(c:Ü9) (g:α->β):∀ l:Š,l.filterMap (λ x=>if c x=true then ↑(g x) else none)=(l.filter c).map g
 | []=>rfl
 | a::l=>by by_cases h:c a=true <;> simp[zbE,h,Ru c g l]
def gz Ī ù1 (test:Ü9) (out:α->T) Ã5{it:À1}ļ{c:ī}Ų ì(xs:Š) (hi:it Y=↑(ç1 enc)) (hl:Ò4<=10000)
  (hh:∀ x∈xs,∃ Y',g (enc x) ö6=↑Y'/\c Y'=↑(test x)/\f Y'=↑(out x)):yV pick it g c f Y=↑(Î ((xs.filter test).map out)):=by
 rw[Ge enc (λ x=>if test x=true then ↑(out x) else none) xs hi ⋯ λ x hx=>by
  let#[Y',h1,h2,h3]:=hh x hx;rw[qx,h1,zC9,h2,zC9,h3];cases test x <;> rfl,Ru]
def nr Ã5 ļ Ų È5:qx pick g xj f Y y=↑↑t:=by
 ext ð9
def oI ļ{b:Sm}{y:T}ø6 Ý4(hg:g y Y=↑Y') (h:b Y'=o):turn g b y Y=o:=by
 unfold turn;rw[hg];show h
def bT Ñ2:T:=Õ Í1
def rT (r:Ò):T:=Î (r.map bT)
def kt Þ7:T:=if b=true then Ì "keeper" else ì5
def rV (w:Wy):T:=Ã1
def wj (s:Sl):T:=Õ [Ã s.p,ð5,Ã s.gv,Ã s.gt]
def zB é:T:=Õ [Ħ,Õ Å5,Õ Á8,Õ (F.ss.map wj)]
def ť (i j:Int) (neg:Bool):Å0:=by
 ext Ö1;cases neg <;> simp[zcL]
def W9 é:fy [ó5]=↑(Ã Ä):=by
 simp[fy,OI,zB]
def Oq (q p:Á):cv [ó6,zr p]=↑(.bl (pP q p)):=by
 by_cases h1:p.1<=q.1 <;> by_cases h2:p.2<=q.2 <;> simp[cv,OW,zr,pP,h1,h2]
def QT Ī ù2:Ö8:=by
 have:=g_ (ç1 g)
 rwa [zD6] at this
theorem Ol (ps:ç) Ķ (hl:ĩ<=10000):cn [bT ps,ó6]=↑(.bl (yh ps q)):=by
 have hc:aM [↑(.im (bT ps)),↑(.im (ó6))]=↑(Î (á2 è7)):=by
  unfold aM;exact xB zr _ ps (by simp[bT]) ⋯ λ p _=>?_;simp[Oq]
 unfold cn OT;generalize aM=cc at hc ⊢;simp[hc,QT];rfl
theorem Ax (A B:Int) (w:Wy) (bd:Bd) (hl:bd.length<64):WX [Õ [Ã A,Ã B],rV w,bT bd]=↑(bT (jx A B w.a w.b bd)):=by
 have h1:XQ [↑(.im (Õ [Ã A,Ã B])),↑(.im (rV w)),↑(.im (bT bd)),none]=↑(Î ((å2).map zr)):=by
  rw[zD6];unfold XQ;exact xB zr _ bd (by simp[bT]) ⋯ λ p _=>?_;simp[zr,rV,qI,xM,eO]
 have h3:=Zq ((å2).filter (ir A B)) (zbI (zbR Ā) (ë4));show yg (zA (yz h1) (yP (zU (zw (gz zr (ir A B) zr (å2) rfl (û) λ p _=>#[_,rfl,oo (zU rfl (Oq (A,B) p)),rfl]) rfl) h3))) rfl
def Af Ù9 (hl:Ř+c.length<64):cp [bT b,bT c]=↑(bT (lG b c)):=Ag b c hl
def Aq Ù9 (hl:Ř+c.length<64):Zy [bT b,bT c]=↑(bT (m_ b c)):=by
 let#[sh,h1,_,h2]:=Ar b c hl;have:oK sh=m_ b c:=oG.eq (YO _) (YO _) λ q=>by
  rw[gs,h2,<- QQ]
 rw[<- this];show h1
theorem Ae ŋ(hA:0<=A/\A<=12) í7 (h:∀ b∈bs,Á1):WV [Î (bs.map bT)]=↑(bT (mV bs)):=by
 let#[Y',h1,h2]:=pL Æ8 (b:=Pk) bT (λ p Y=>Y=[↑ Ç2,↑(.im (bT ö7)),none]) bs [↑ Ç2,↑(.im (bT [])),none] rfl (by
  rintro p x q e Y rfl;have g1:Gd A B ö7:=de ŕ Gd.nil æ7;ext Ý6;show#[_,oI rfl (yz (zU rfl (Af ö7 x ⋯))),by rw[zbQ];rfl])
 subst h2;show Ø1
theorem Ap ŋ(hA:0<=A/\A<=12) (hB:0<=B) í7 (h:∀ b∈bs,Á1):WW [Î (bs.map bT)]=↑(bT (dH bs)):=by
 let#[Y',h1,h2]:=pL Æ8 (b:=Pl) bT (λ p Y=>Y=[↑ Ç2,↑(.im (bT ú0)),none]) bs [↑ Ç2,↑(.im (bT qq)),none] rfl (by
  rintro p x q e Y rfl;have g1:Gd A B ú0:=XY p qq (Gd.qq hA.1 hB) æ7;ext Ý6;show#[_,oI rfl (yz (zU rfl (Aq ú0 x ⋯))),by rw[zbQ];rfl])
 subst h2;show Ø1
def Xu (a b:Nat):zT É (nT a) (nT b)=↑(.bl (Ó (a=b))):=(ť a b É).trans (Ë å (decide_eq_decide.mpr ê))
theorem jZ Ī{is:á}ļ Ò2:∀ (xs:Š) (Y:Ev),xq is Y=Y0->
  Ŧ->
  qh is g b (ç1 enc) Y=↑(match xs.find? test with | some x=>.rt (ret x) | none=>.nx Y0)
 | [],Y,h,_=>by rw[za4,List.find?_nil,qh,h]
 | x::xs,Y,h,ht=>by
  ext Â9
  .rw[Ñ c,c];rfl
  ext Æ0
def Zl (i a b:Int):kK [Ã i,Ã a,Ã b]=↑(.bl (Ó (a<=i)&&Ó (i<=b))):=by
 have h:f7 [Ã i]=↑ ë:=by simp[f7,Vc,rm]
 by_cases h1:a<=i <;> by_cases h2:i<=b <;> simp[kK,Z5,h,h1,h2]
def Tf {N:Í}å8{g:Sm}{ys:Û}{Y':Ev}(h:g (qB N ys)=↑(.nx Y')) (hn:ys.length=n):zP N n g ys=↑.zC:=ë0
theorem Au {i n:Nat}(h:i<n):kK [nT i,Ã 0,Ã ((n:Int)-1)]=↑ ë:=by
 rw[Zl,zcS (show (0:Int)<=i by lia),zcS (show Ó9<=n-1 by lia)];rfl
def cq é Ē (h:p<Ä):jD è8=↑.zC:=
 Tf (yQ (ko (oo (zU (zw rfl (zw rfl (zw (zm ö8 À) rfl))) (Au h)))) rfl) rfl
def Am é Ē (h:p<Ä):jD è8=↑.zC:=cq F p h
def HY Ī(f:α->T) (l:Š):rZ [Õ (l.map f)]=↑(nT Ő):=by
 change ↑(õ ((l.map f).length:Int))=_;rw[zA7]
def XX é Ĝ:À2 [õ F.A,Ã F.B] (qv pu)=↑(Ã (F.ym pu)):=ċ
def b6 Ķ Ĝ:À2 [õ q.1,õ q.2] (qv pu)=↑(Ã (yb pu q)):=ċ
def Yv Ķ Ĝ:À2 [õ q.1,õ q.2] (1-qv pu)=↑(Ã (yS pu q)):=ċ
abbrev XC é (s:Sl) (p:T) (acc:Û) é3:Ev:=[im (Ħ),im (wj s),im p,im (ð5),↑(Ĵ (Î acc)),im (Ã g),im (Ã t)]
def Cj Ľ{s:Sl}(hg:1<=s.gv) (p:T):∀ (n m:Nat) é3 (acc:Û),Ý8+1-g<=n->n<m->acc.length+n<=1000->
  ∃ g' t',oz [] (zW (zb mN (zc 5) (zb zi Ō ç5))) Pc m (XC F s p acc g t)=↑(.nx (XC F s p (acc++(oa ķ n g t).map zr) g' t')):=λ n=>by
 induction n with
 | zero=>
  intro m g t acc h1 h2 _;ext ĭ;show#[g,t,(bX (yv (zm ã5 (Ë å (zcR ⋯))))).trans (by rw[oa,za4,zaB];rfl)]
 | succ n ih=>
  intro m g t acc h1 h2 h3;ext ĭ;rw[oa];by_cases hc:g<=Ý8
  .let#[g',t',e]:=ih m (g+s.gv) (xM (t-s.gt)) (acc++[zr (xv s.pu g t)]) Ę (û);have hi:lB (zW (zb Ú9 ç5 ř)) (tupS (za (zo 5) (za (zo 6) ze))) (tupS (za (zo 6) (za (zo 5) ze))) (XC F s p acc g t)=↑(zr (xv s.pu g t)):=by
    let#[_,pu,_,_]:=s;cases pu <;> simp[qv,ť,xv,zr]
   rw[Ñ hc];show#[g',t',(bW (yv (zm ã5 (Ë å (zcS hc)))) (zA (kE rfl hi ⋯) (zA (yz (zm rfl Ò0)) (yz (zU (zw rfl (zw (zm rfl Ò0) rfl)) rfl)))) e).trans (by rw[zE8];rfl)]
  .rw[ø hc,za4,zaB];show#[g,t,bX (yv (zm ã5 (Ë å (zcR hc))))]
theorem Al Ø {s:Sl}(hs:1<=s.gv) {p:Á}(h0:0<=p.1/\0<=p.2):WA [Ħ,wj s,zr p]=↑(Î ((kD F s p).map zr)):=by
 let#[g',t',h]:=Cj (F:=F) hs (zr p) 100 1000000 ã1 [] (by have:=ok.a1;have:=ok.b1;unfold zD.ym yb;ext Ï8) () #[];show yg (zA (yz È) (zA rfl (zA (yz (zm À (b6 p s.pu))) (zA (yz (zm rfl È (Yv p s.pu))) (zA h rfl))))) rfl
theorem Od é Ē (h:p<Ä) (hl:õ0):d_ è8=↑(match ŵ with | some s=>wj s | none=>.zC):=by
 have hl':=jZ Æ8 (b:=aQ) wj wj (Ĕ) â8 F.ss â8 #[] λ s _=>#[[↑(.im Ü),↑(.im (Ã p)),↑(.im (wj s))],#[],by
  by_cases c:s.p=p
  .simp[turn,aQ,wj,ť,c]
  .have c':¬ ((s.p:Int)=ď):=⋯;simp[turn,aQ,wj,ť,c,c']]
 have h1:=cq F p h;unfold zD.stall;cases e:F.ss.find? (Ĕ) with
 | none=>rw[e] at hl';show yg (zA (jr å3) (zA (qk rfl hl') rfl)) rfl
 | some s=>rw[e] at hl';show yg (zA (jr å3) (qu (qk rfl hl'))) rfl
theorem RF:∀ (ws:List Wy) ŷ,jm k (Ļ rV)=(ws.zipIdx k).map λ wi=>ò3
 | [],k=>rfl
 | w::ws,k=>by
  rw[zA6,jm,RF ws (k+1),zc5,zA6]
theorem cF (f:Wy->Bool):∀ (ws:List Wy) ŷ,((ws.zipIdx k).filter λ wi=>f wi.1).map (λ wi=>wi.1)=ws.filter f
 | [],k=>rfl
 | w::ws,k=>by
  rw[zc5,List.filter_cons,List.filter_cons];by_cases c:f w=true
  .rw[Ñ (by show c),Ñ c,zA6,cF f ws]
  .rw[ø (by show c),ø c,cF f ws]
def Oc é Ē (h:p<Ä) (hl:Ä4<=60):Zm è8=↑(Î (((F.ws.zipIdx).filter Î1).map λ wi=>Ì7)):=
 yg (zA (jr (zU rfl (Am F p h))) (yP (gz (λ wi:Wy×Nat=>ò3) (Î1) (λ wi=>Ì7) F.ws.zipIdx (by rw[<- RF];rfl) (û) λ wi _=>#[_,rfl,yv (zm Ò0 (Xu wi.1.f p)),rfl]))) rfl
theorem R8:∀ Ù9,qb Í1 (c.map zr)=Ó (b=c)
 | [],[]=>by simp[qb]
 | [],_::_=>by simp[qb]
 | _::_,[]=>by simp[qb]
 | p::b,q::c=>by
  have h:=R8 b c;have e:eqT (zr p) (ó6)=Ó (p=q):=by
   let#[p1,p2]:=p;let#[q1,q2]:=q;by_cases h1:p1=q1 <;> by_cases h2:p2=q2 <;> simp[zr,eqT,qb,h1,h2]
  rw[zA6,zA6,qb,e,h];by_cases h1:p=q <;> by_cases h2:b=c <;> simp[h1,h2]
def Hd Ù9:zT true (bT b) (bT c)=↑(.bl (Ó (b≠c))):=by
 have h1:dep (bT b)<=60:=RU b;have h2:dep (bT c)<=60:=RU c;unfold zT;rw[Ñ #[h1,h2]];change ↑(T.bl (!(qb Í1 (c.map zr))))=_;rw[R8];by_cases h:b=c <;> simp[h]
def gB ù0 Ē (h:p<Ő):zi (rT l) (Ã p)=↑(bT (Û7)):=by
 change À2 (l.map bT) ď=_;exact qz ?_;rw[zA3,zA1 h,zB1,zA1 h];rfl
theorem Dp Ü4 Ų ì Ã0:jl i f Y=↑ Ã3:=by
 have:ĉ+us.length<=16777216:=⋯;simp[h0,h,this]
def lu:Nat->Nat
 | 0=>0
 | k+1=>lu k+(k+1)
theorem cO {a:Nat}:∀ {b:Nat},a<=b->lu a<=lu b
 | 0,h=>by cases Nat.le_zero.mp h;show zA4 _
 | b+1,h=>by
  rcases Nat.lt_or_eq_of_le h with h | rfl
  .have:=cO (Nat.le_of_lt_succ h);simp![lu];lia
  .show zA4 _
theorem V8 Ø6:∀ Ñ2 ŷ,b.Pairwise (λ x y=>m y<m x)->(∀ x∈b,Ù5)->ß1<=lu k
 | [],k,_,_=>zD4 _
 | x::b,k,hp,h=>by
  let#[h1,h2]:=za9.mp hp;let#[h3,h4]:=h x za1;rw[List.flatMap_cons,zD7];have:=cO h3;cases hm:m x with
  | zero=>
   cases b with
   | nil=>rw[hm] at h4;simp;lia
   | cons y b=>have:=h1 y za1;lia
  | succ n=>
   have i:=V8 (g:=g) b n h2 λ y hy=>#[by have:=h1 y hy;lia,(h y (za2 _ hy)).2];rw[hm] at this h4;simp![lu] at this;lia
theorem V7 Ø6 ŷ:∀ Ñ2 (a:Nat),a<=k->ö9->(∀ x∈b,a<m x/\Ù5)->ß1+lu a<=lu k
 | [],a,ha,_,_=>by have:=cO ha;simp;lia
 | x::b,a,ha,hp,h=>by
  let#[h1,h2]:=za9.mp hp;let#[h3,h4,h5]:=h x za1;have i:=V7 (g:=g) k b (m x) h4 h2 λ y hy=>#[h1 y hy,(h y (za2 _ hy)).2];rw[List.flatMap_cons,zD7];cases hm:m x with
  | zero=>lia
  | succ n=>
   have:=cO (a:=a) (b:=n) ⋯;rw[hm] at i h5;simp![lu] at i;lia
def ND Ø6 ŷ Ñ2 (a:Nat) (ha:a<=k) (hp:ö9) (h:∀ x∈b,a<m x/\Ù5):ß1<=lu k:=zE0 (zb0 Ā) (V7 k b a ha hp h)
theorem Ak Ø Ē ù6 Ñ2 (hb:Í4):WY [ó5,Ã p,bT b]=↑(bT (match ŵ with | none=>b | some s=>i3 F s b)):=by
 have h1:=Od F ſ ok.s8;cases hs:ŵ with
 | none=>rw[hs] at h1;show yg (zA (yz å3) (qu (qa (yv È) rfl))) rfl
 | some s=>
  rw[hs] at h1;have hmem:s∈F.ss:=zaS hs;have hsz:=ok.ss s hmem;have hlen:(b.flatMap (kD F s)).length<=45:=by
   have h8:F.A<=8/\F.B<=8:=by
    rcases ok.sl with x | x
    .rw[x] at hmem;cases hmem
    .show x
   have hm:∀ x∈b,(kD F s x).length<=À5/\À5<=9/\yb s.pu x<=Ý8:=λ x hx=>by
    have q:=hb.yW x hx;have:=Q4 ķ hsz.1 100 (yb s.pu x) (yS s.pu x) (by unfold zD.ym yb;ext Ï8);unfold kD;unfold zD.ym yb at *;split <;> simp![*] at this ⊢ <;> simp at this ⊢ <;> lia
   cases hpu:s.pu with
   | true=>show ND (m:=λ x=>À5) 9 b 0 () (Ò9 (λ{x y} hx hy h=>by
     ext ú2;simp![yb,hpu,if_true] at *;lia) hb.ig) (λ x hx=>#[by have:=(ø0).2.2;lia,(ø0).2.1,(ø0).1])
   | É=>show V8 (m:=λ x=>À5) b 9 (Ò9 (λ{x y} hx hy h=>by
     ext ú2;simp![yb,hpu,zC4,if_false] at *;lia) hb.ig) (λ x hx=>#[(ø0).2.1,(ø0).1])
  let#[Y',h2,rfl]:=pL (is:=[5]) (g:=zG 5) (b:=Pm) zr (λ q Y=>Y=[Ì8,Þ,im (bT b),im (wj s),↑(Ĵ (Î ((q.flatMap (kD F s)).map zr))),none]) b [Ì8,Þ,im (bT b),im (wj s),↑ É5,none] rfl (by
   rintro q x r e Y rfl;have q1:=hb.yW x (ð);exact#[_,oI rfl (Dp rfl (zU (zw Ò0) (Al ok hsz.1 #[q1.1.1,q1.2.1])) ?_),?_]
   .rw[e] at hlen;simp at hlen ⊢;lia
   .rw[List.flatMap_append,zE7,List.flatMap_singleton];rfl)
  show yg (zA (yz å3) (zA (yQ (yv È) rfl) (zA rfl (zA (qk rfl h2) (yP (zU rfl (Zq (b.flatMap (kD F s)) ⋯))))))) rfl
def getD_mem {l:Ò}Ä5(h:p<Ő):Û7 ∈l:=by rw[zB1,zA1 h];show zD8 h
theorem BQ Ø Ē ù6 ù0 (hl:Ő=Ä) (hg:∀ b∈l,Í4):WC [ó5,Ã p,rT l]=↑(bT (xK ß5)):=by
 have lX:=ok.lX;have c1:QH ã6=↑(Î ((ŝ).map rV)):=by
  rw[<- cF (λ w=>ë5) F.ws 0,zD6];show xB (λ wi:Wy×Nat=>Ì7) _ ((F.ws.zipIdx).filter Î1) (Ë (Ô4 · _) (zU rfl (Oc F ſ lX))) (zE0 (zbR Ā) (by rw[List.length_zipIdx];lia)) λ wi hwi=>nr rfl (zm Ò0 (qz (by rw[zA3,zcN.mp (zC8.mp hwi).1];rfl)))
 have c2:Q9 [Ì8,Þ,im (rT l),im (Î ((ŝ).map rV)),none]=↑(Î ((qV ß5).map bT)):=by
  unfold qV;rw[zD6];exact xB rV _ (ŝ) rfl (zE0 (zbR Ā) ⋯) λ w hw=>?_;have ht:w.t<Ő:=by rw[hl];show (ok.ws w (zC8.mp hw).1).2
  have:=(hg _ (getD_mem ht)).qD ok.a0;have:=ok.a1;show nr rfl (zU (zw È (zw rfl (zw (zm rfl È (gB l w.t ht)) rfl))) (Ax ė w (Ä8) ⋯))
 have gah:=Za ß5;have ho:À2 Å5 ď=↑(kt (ĝ)):=qz (by rw[zA3,zA1 hp,zB1,zA1 hp];rfl);have hk:∀ b:Bool,zT É (kt b) Ŗ=↑(.bl b):=λ b=>by cases b <;> rfl
 have tk:=hk (ĝ);have pre:∀ o,_->OJ ã6=o:=λ o h=>zA (yz c1) (zA (yz c2) h);unfold xK;cases hb:ĝ with
 | true=>
  rw[hb] at ho tk;exact (yg (pre _ (qu (qa ó7 (yP (zU (zw rfl (zw rfl (zw (zU rfl (Ae #[ok.a0,ok.a1] (qV ß5) gah)) rfl))) (Ak ok ſ (mV (qV ß5)) (de Ā Gd.nil gah))))))) rfl).trans ?_;cases ŵ <;> rfl
 | É=>
  rw[hb] at ho tk;show yg (pre _ (zA (yQ ó7 rfl) (yP (zU rfl (Ap #[ok.a0,ok.a1] ok.b0 (qV ß5) gah))))) rfl
def jd (fr:á):T:=Î (Î2)
theorem GN (t:Nat) (fr:á):qR É (nT t) (jd fr)=↑(.bl (fr.contains t)):=by
 have d1:xl (Î2)<=60:=by
  exact gS _ 60 (λ x=>?_) fr;simp[dep]
 have d0:dep (Ã (t:Int))<=60:=by simp[dep]
 unfold qR;change (if dep (Ã (t:Int))<=60/\xl (Î2)<=60 then _ else _)=_;rw[Ñ #[d0,d1]];change ↑(T.bl ((Î2).any λ x=>eqT x (Ã t)))=_;congr 2;rw[zC7,zD0,List.contains_iff_mem];ext ŗ
 .rintro⟨x,hx,h⟩;let#[k,hk,rfl]:=Ċ hx;have:Æ=(t:Int):=by simpa [eqT] using h
  have:k=t:=⋯;subst this;show hk
 .intro h;show#[_,Â2 #[t,h,rfl],by simp[eqT]]
def YI å8{f v:zEO}ì È3{z:T}{k:Int}{j:Nat}(hv:v Y=↑z) (hf:f Y=↑ ï4) (h0:Y[n]?=↑↑ Đ) (hj:qj ĉ k=↑j):gr n f v Y=↑(.nx (Y.set n ↑(Ĵ (Î (ts.set j z))))):=by
 change (v Y).bind _=_;rw[hv];change Þ4=_;rw[hf];dsimp only[Ô4];ext ó9;rw[hj];rfl
abbrev Y9 é À0 (fr:á) (L:Ò) (x:Ê W):Ev:=[Ì8,im (rT last),im (jd fr),↑(Ĵ (Î (L.map bT))),x]
def mM é À0 (pre:Ç):Ò:=(Ð Ô0).map λ(p:Nat)=>if ď ∈pre then ã8 else Ĥ ŕ
theorem BP Ø {last:Ò}{fr:á}(hl:Ô0=Ä) (hg:∀ b∈last,Í4):WB [ó5,rT last,jd fr]=↑(rT (è9)):=by
 have lX:=ok.lX;have c1:QG (Y9 à fr last none)=↑(Î ((ß).map õ)):=by
  rw[zD6];show gz rV (λ w=>Û8) (λ w=>õ (w.f:Int)) F.ws ù5 λ w _=>#[_,rfl,yv (zm Ò0 (GN w.t fr)),zm À rfl]
 have hss:iZ [Î ((ß).map õ)]=↑(Î ((oH (ß)).map õ)):=by
  change (match nI ((ß).map õ) with | some ns=>_ | none=>_)=_;rw[ag];exact Ñ ?_;have:=zbR (λ w:Wy=>Û8) F.ws;simp![zA7];lia
 have hmem:∀ k,k∈oH (ß)↔∃ p:Nat,k=ď/\p<Ä/\lC F fr p=true:=λ k=>by
  ext ŗ
  .intro hk;let#[w,hw,rfl]:=Ċ (bQ.mp hk);ext Î7;show#[w.f,rfl,(ok.ws w w1).1,zD0.mpr #[w,w1,by exists w2]]
  .rintro⟨p,rfl,_,h⟩;let#[w,w1,w2]:=zD0.mp h;have w3:w.f=p/\Û8=true:=by exists w2
   show bQ.mpr (Â2 #[w,zC8.mpr #[w1,w3.2],by rw[w3.1]])
 generalize oH (ß)=up at *;let#[Y',h1,rfl]:=pL (is:=[4]) (g:=zG 4) (b:=Pd) õ (λ pre Y=>Y=Y9 à fr (mM à pre) none) up (Y9 à fr last none) (by
  have e:mM à []=last:=zb8 (by simp[mM]) λ i h1 h2=>by simp[mM,h2]
  rw[e];rfl) (by
  rintro pre k q e Y rfl;let#[p,rfl,hp,hw]:=(hmem k).mp (ð);have hset:((mM à pre).map bT).set p (bT (ã8))=(mM à (pre++[ď])).map bT:=by
   exact zb8 (by simp[mM]) ç0;rw[List.getElem_set];simp![mM,List.getElem_map,zcC,zB9,zB6];by_cases c:p=i
   .subst c;simp
   .have c':¬ (Ó9=ď):=⋯;simp[c,c']
  have hix:qj ((mM à pre).map bT).length ď=↑p:=by
   unfold qj mM;simp![zA7,zC5];rw[Ñ ⋯,Ñ ⋯,zbB]
  show#[_,oI rfl (YI (zU rfl (BQ ok ſ last hl hg)) À hix),by rw[hset];rfl])
 have fin:mM à up=è9:=by
  exact zaD À7;have hpl:=ï2 hp;by_cases c:lC F fr p=true
  .rw[Ñ c,Ñ ((hmem _).mpr #[p,rfl,⋯,c])]
  .rw[ø c,ø λ h=>c (by let#[p',e,_,h']:=(hmem _).mp h;show (show p'=p by lia)▸h')]
 rw[fin] at h1;show yg (zA rfl (zA (qk (Ë (Ô4 · _) (zU (zw c1 rfl) hss)) h1) rfl)) rfl
theorem Xw Ī ù1 (d:α) (fo:Š):∀ (l:Š) ŷ,(∀ i,l.getD i d=fo.getD (k+i) d)->jm k (l.map enc)=(Ð Ő).map λ(p:Nat)=>Ô1 [Ã ((k+p:Nat):Int),enc (fo.getD (k+p) d)]
 | [],k,_=>rfl
 | b::l,k,h=>by
  have h0:=h 0;rw[zA6,jm,Xw enc d fo l (k+1) λ i=>by have:=h (i+1);rw[show k+1+i=k+(i+1) from by lia];exists this];rw[zC0,List.range_succ_eq_map,zA6,zD6];have e:b=fo.getD k d:=by exists h0
  congr 1
  .rw[e];rfl
  .exact zaD λ p _=>?_;simp![Function.comp];rw[show k+1+p=k+Nat.succ p from by lia]
def CP {a:T}{b c:Ô2}Æ1 (S_:fo.length<=10000):QE [im a,b,c,im (rT last),im (rT fo)]=↑(jd (ë6)):=
 gz (λ p:Nat=>Ô1 [nT p,bT (fo.getD ŕ)]) (λ p=>Ó (fo.getD ŕ ≠ Ĥ ŕ)) (λ p=>nT p) (Ð fo.length) (by
  have:=Xw bT [] fo fo 0 λ i=>by rw[zb1]
  simp![zb1] at this;rw[<- this];rfl) (û) λ p hp=>#[_,rfl,yv (zm rfl (zm À (gB last p (by rw[<- hl];show ï2 hp))) (Hd Ā)),rfl]
abbrev fP é Ü6 (fr:á) (x y:Ô2):Ev:=[Ì8,↑(Ĵ (Î (told.map rT))),im (jd fr),x,y]
theorem Xo:∀ fr:á,fr≠[]->ZL (jd fr)=↑true
 | [],h=>œ rfl h
 | _::_,_=>rfl
theorem Um Ø:∀ Ţ (pre:ż) À0 (fr:á) (res:ż),St à fr->kT F n pre last fr=↑res->pre.length+n<=10000->∀ (m:Nat),n<m->∀ x y:Ô2,
  ∃ fr',oz [3,4] (xo ï6) aR m (fP F (Ô5) fr x y)=↑(.nx (fP F res fr' Œ))
 | 0,_,_,_,_,_,h,_,_,_,_,_=>by cases h
 | n+1,pre,last,fr,res,s,h,hn,m,hm,x,y=>by
  have hend:∀ (m:Nat) Ü6 (x y:Ô2),oz [3,4] (xo ï6) aR (m+1) (fP F told [] x y)=↑(.nx (fP F told [] Œ)):=λ m told x y=>bX rfl;ext ĭ;unfold kT at h;by_cases hfr:fr=[]
  .rw[Ñ hfr] at h;cases h;subst hfr;show#[_,hend m _ x y]
  .rw[ø hfr] at h;dsimp only at h;have n8:=ok.n8;have sl:=s.len;have hlast:À2 ((Ô5).map rT) (-1)=↑(rT last):=by rw[zE7];show Pn
   have hc:=λ b c=>CP (a:=ó5) (b:=b) (c:=c) (last:=last) (fo:=è9) (kY ..) (by rw[kY];lia);have sn:=s.next ok;have hF:=BP ok (fr:=fr) s.len s.gd;generalize ml last (è9)=f2 at *;have b1:∀ o,_->aR (fP F (Ô5) fr Œ)=o:=λ o h=>zA (yz (zm À hlast)) (zA (yz (zU rfl hF)) (zA (yz (hc Ā)) h));by_cases hf:f2=[]
   .rw[Ñ hf] at h;cases h;subst hf;ext ĭ;show#[_,bW (Xo fr hfr) (b1 _ Û2) (hend m ð7)]
   .rw[ø hf] at h;let#[fr',e]:=Um ok n (Ô5) (è9) f2 res sn h (û) m ⋯ (im (rT last)) (im (rT (è9)));exact#[fr',bW (Xo fr hfr) (b1 _ (qa (Xo f2 hf) (kE À (û)))) (ò9 (Ë _ ?_) e)];change _=[_,↑(L5.W.own (Î ((Ô5++[è9]).map rT))),_,_,_]
    rw[zE7 (l₁:=Ô5)];rfl
def Bj Ü4 Ų ì È3 é5:è1:=Ñ4
def HM Ų ì{x:T}(h:f Y=↑x):y_ (za f ze) Y=↑(Î [x]):=ä4
theorem BJ Ø:∃ more,kJ [ó5]=↑(Î ((ő F::more).map rT))/\(∀ r∈ ő F::more,ó2=Ä/\∀ b∈r,Í4)/\more.length<=2000/\kT F ß8=↑(ő F::more):=by
 have hmu:=TH (ő F);have hsl:(ő F).length=Ä:=by unfold ő;simp
 have n8:=ok.n8;have n1:=ok.n1;let#[more,last',e1,e2,_,e4]:=Uo ok ß8 (St.start ok) ⋯;let#[fr',e]:=Um ok ß8 _ (St.start ok) e1 #[] 1000000 () Œ;have hst:rT (ő F)=Î (à6 Ä (Õ Ð7)):=by
  unfold rT ő;rw[List.map_replicate];rfl
 have hmul:wz (Î [Õ Ð7]) (Ã Ä)=↑(rT (ő F)):=by
  rw[hst];unfold wz;ext Ý3;rw[Ñ #[#[],⋯,⋯,HS (û)]];have:∀ n:Nat,(à6 n [Ô1 Ð7]).flatten=à6 n (Õ Ð7):=λ n=>by
   induction n with
   | zero=>rfl
   | succ n ih=>rw[zaH,zaH,zaP,ih];rfl
  rw[zbB,this]
 have hrg:b_ [Ã Ä]=↑(jd õ2):=by
  change (if 0<=(Ä:Int)/\(Ä:Int)<=16777216 then ↑(T.lst (rangeT 0 (Ä:Int).toNat)) else none)=_;rw[Ñ ê];change ↑(T.lst ((Ð (Ä:Int).toNat).map λ À8=>õ (0+Æ)))=_;rw[zbB];unfold jd;simp
 show#[more,yg (zA (Bj (i:=1) (HM (zm rfl ö8 hmul))) (zA (yz (zU (zw ö8 rfl) hrg)) (zA e rfl))) rfl,e2,⋯,e1]
def mi Ü7:(if y<x then y else x)=min x y:=by ext Ï8
def jQ (o:Ê (Á)):T:=match o with
 | none=>.zC
 | some r=>zr r
def k8 é:zi Ü (Ã 0)=↑(Ħ):=by simp[zB]
def EO é:zi Ü (Ã 1)=↑(Õ Å5):=by simp[zB]
def iq é:zi Ü (Ã 2)=↑(Õ Á8):=by simp[zB]
def R9 {f g:ī}ì(h:f Y=↑true):qG ø7=↑true:=Ñ4
def Hf {i j:Int}(h:oj i j):wz Ï2=↑(Ã (i*j)):=Ñ h
theorem BC é Ķ Æ9:W4 [ó5,ó6,Ã Ó9]=↑(jQ (kQ F q w)):=by
 have hi:ø1=↑(Ã1):=ŧ;have pre:∀ o,_->OD [Ì8,æ,im (nT i),none,none,none]=o:=λ o h=>zA (yz (Yb Ŏ rfl)) (zA (yz (zm È Ò0)) (zA (yz (zm È Ò0)) h));unfold kQ;by_cases h1:ë9<0
 .rw[Ñ (ê1 h1)];show Å6
 .have t1:∀ Þ7 (g:ī),g Ź=↑b->qG (zW (zb xw ç8 ř)) g Ź=↑b:=Ô6;by_cases h2:ì0<0
  ext À6
  ext Ù
def Px {a b:zEO}ì{y:Ê T}(ha:a Y=↑ ë) (hb:b Y=y):qp a b Y=y:=by
 change î8=_;rw[ha];show hb
def Pw {a b:zEO}ì(ha:a Y=↑ Ì6):qp a b Y=↑ Ì6:=by
 change î8=_;rw[ha];rfl
theorem BV Ľ{l:Ò}Į Æ9 â9:WD [ó5,ó6,Ã Ó9,rT l]=↑(.bl (qE F l q w)):=by
 have hw2:=iq F;have hi:ø1=↑(rV w):=ŧ;have h2:=BC F q hw;unfold qE;cases ho:kQ F q w with
 | none=>rw[ho] at h2;show yg (zA (yz (zU rfl h2)) (yP (Pw È))) rfl
 | some r=>rw[ho] at h2;show yg (zA (yz (zU rfl h2)) (yP (Px È (zU (zw (zm rfl (zm (zm (zm À hw2) rfl hi) À) (gB l w.t ht)) rfl) (Ol (Ä8) r hb))))) rfl
def pS é (s:Sl) Ķ ŷ:Á:=xv s.pu (ù-k*s.gv) (min (â6+k*s.gt) Ã8)
theorem aK ă:∀ Ţ Į,Ô8->ù<n->∀ k:Nat,(m5 F s n q)[k]?=à2
 | 0,q,h,hn,_=>by
  have:=(ĥ h).1.1;lia
 | n+1,q,h,hn,0=>by
  have h':=ĥ h;unfold m5 pS;rw[zc8,Ñ (û)];simp![Int.natCast_zero,Int.zero_mul,Int.sub_zero,Int.add_zero];rw[zcM h'.2.2,gi]
 | n+1,q,h,hn,k+1=>by
  have h':=ĥ h;have e1:ä1:=Ĺ
  have e2:Ū*s.gt=k*s.gt+s.gt:=Ĺ
  have k0:0<=Æ*s.gt:=zb3 ⋯ hs.2;have k1:0<=Æ*s.gv:=zb3 Ę;unfold m5;rw[zbO];by_cases hg:s.gv<=ù
  .rw[Ñ hg];have hi:xk F Ć:=by
    ext à0
   rw[aK hs n hi (by rw[oM];lia) k,oM];unfold pS;rw[oM,mP,e1,e2];by_cases hk:Æ*s.gv<=ù-s.gv
   .rw[Ñ hk,Ñ ⋯];congr 2
    .lia
    .lia
   .rw[ø hk,ø ⋯]
  .rw[ø hg,e1,ø ⋯];rfl
def QP é Ĝ:À2 [õ F.A,Ã F.B] (1-qv pu)=↑(Ã (F.ym (!pu))):=ċ
theorem Aj Ľ{s:Sl}Į Ë1(hk:k<=100):Zx [Ħ,wj s,ó6,Ã Æ]=↑(jQ (à2)):=by
 have mu:∀ j,wz (nT k) (Ã j)=↑(Ã (k*j)):=λ j=>Hf (ê1 ê);have pre:Æ3:=λ o h=>zA (yz È) (zA (yz (zm (zm À (b6 q s.pu)) (zm rfl È (mu s.gv)) rfl)) h);by_cases h:Æ*s.gv<=ù
 .rw[Ñ h];have p2:Æ3:=λ o g=>pre _ (zA (yQ (yv (zm À (Ë å (zcR ⋯)))) rfl) (zA (yz (zU (zw (zm (zm rfl È (Yv q s.pu)) (zm rfl È (mu s.gt)) rfl) (zw (zm rfl È (QP F s.pu)) rfl)) Ń)) g));unfold pS;have t:=ť (qv s.pu) 0 É;cases hpu:s.pu with
  | true=>rw[hpu] at p2 t;show yg (p2 _ (zA (yQ (yv (zm À t)) rfl) Ú1)) rfl
  | É=>rw[hpu] at p2 t;show yg (p2 _ (qu (qa (yv (zm À t)) Ú1))) rfl
 .rw[ø h];show yg (pre _ (qu (qa (yv (zm À (Ë å (zcS ⋯)))) rfl))) rfl
def Q0 é Ē Ķ:(Ŷ)[0]?=↑q:=by
 unfold qH;cases ŵ with
 | none=>rfl
 | some s=>rfl
theorem Ao Ø ô þ Ë1(hk:k<=100):cu [ó5,Ã ď,ó6,Ã Æ]=↑(jQ (Ŷ)[k]?):=by
 cases k with
 | zero=>
  rw[Q0];unfold cu Ve jQ zr;simp[ť]
 | succ k=>
  have hk0:¬ (Æ+1=0):=⋯;have h1:=Od F ſ ok.s8;have hw0:=k8 F;unfold qH;cases hs:ŵ with
  | none=>
   rw[hs] at h1;have i1:mf É .zC .zC=↑ ë:=rfl;unfold cu Ve;generalize d_=f1,Zx=f2,ó5=fl,ó6=pq at *;simp[ť,hk0,h1,i1,jQ]
  | some s=>
   rw[hs] at h1;have hs':=Ô9;have hgv:ù<20:=by
    ext ò
    lia
   have h2:=Aj (F:=F) (s:=s) (q:=q) (k:=k+1) hk;rw[<- aK hs' 20 hq ⋯] at h2;have e0:zT É (Ã Ū) (Ã 0)=↑ Ì6:=(ť Ā É).trans (Ë å (show Ó (Ū=0)=É from zcR ⋯));show yg (zA (yQ (yv (zm À e0)) rfl) (zA (yz å3) (zA Û2 (yP (zU (zw á5 rfl) h2))))) rfl
def mD é Ē:List (Wy×Nat):=F.ws.zipIdx.filter Î1
def Vm Ľ Ä5{wi:Wy×Nat}(h:wi∈mD F p):F.ws[wi.2]?=↑wi.1/\wi.1.f=p:=by
 let#[h1,h2]:=zC8.mp h;show#[zcN.mp h1,Ď h2]
def Ng Ľ Ä5(t:Wy->Bool):(mD F p).any (λ wi=>t wi.1)=ï3 t:=by
 unfold jK;rw[<- cF (λ w=>ë5) F.ws 0,zbD];rfl
theorem Q1 Ľ{s:Sl}:∀ Ţ Ķ,(m5 F s n q).length<=n+1
 | 0,q=>by unfold m5;simp
 | n+1,q=>by
  unfold m5;rw[zC0];split
  .have:=Q1 n (F:=F) (s:=s) Ć;lia
  .simp
def Cg é Ē Ķ:(Ŷ).length<=21:=by
 unfold qH;cases ŵ with
 | none=>simp
 | some s=>show Q1 20 q
structure Fix é ù0:Prop where
 ok:F.Ok
 len:Ő=Ä
 gd:∀ b∈l,Í4
 pw:Ç0
 go:∀ p<Ä,∀ q,Ô8->yh (Û7) q=gM ß5 q
section
variable {Ľ}{l:Ò}
def Fix.at ù7 ô:Gd ė (Û7):=by
 have hp':p<Ő:=by rw[X.len];show hp
 rw[zB1,zA1 hp'];show X.gd _ (zD8 hp')
def Fix.sz ù7:∀ b∈l,Ř<=10000:=λ b hb=>by
 have:=(X.gd b hb).qD X.ok.a0;have:=X.ok.a1;lia
def Fix.VH ù7 ô:(Û7).length<=10000:=by
 have:=(X.at hp).qD X.ok.a0;have:=X.ok.a1;lia
def Fix.on ù7 ô Į(hq:q∈ Û7):Ô8/\gM ß5 q=true:=by
 have hi:Ô8:=(X.at hp).yW q hq;show#[hi,by rw[<- X.go ſ q hi];show ë1]
def Td ô:À2 Å5 ď=↑(kt (ĝ)):=qz (by rw[zA3,zB1,zA1 hp];rfl)
theorem Gp Þ7:zT true (kt b) Ŗ=↑(.bl (!b)):=by
 have h:(("taker":Str) == Ê8)=É:=()
 cases b
 .change zT true (ì5) Ŗ=_;simp[zT,dep,eqT,h]
 .change zT true Ŗ Ŗ=_;ext Ö1
end
def ET Ø (hpw:Ç0) {m:Nat}(hg:∀ b∈ ä,Í4) (hst:zN F (m+1)=ä):Fix F (ä):=by
 exact#[ok,md F m,hg,hpw,λ p hp q hq=>?_];have hg':∀ p,Gd ė (Č):=λ p=>by
  rcases za8 p ø2 with h | h
  .rw[zB1,zA1 h];show hg _ (zD8 h)
  .rw[zB1,zbJ h];show Gd.nil
 have e:Č=xK F (ä) p:=by
  have:(zN F (m+1)).getD ŕ=xK F (ä) p:=ik (λ p=>xK F (ä) p) Ä ŕ hp;rw[hst] at this;show this
 rw[e];show IY ok hg' p hq
def mG Ü6:T:=Î (told.map rT)
def o8 Ü6 Ē Ķ:Ê Nat:=(á6).find? λ k=>! Î3
def RM (o:Ê Nat):T:=match o with
 | some k=>Ã Æ
 | none=>.zC
theorem Ac Ü6 (n p:Nat) Ķ (hn:∀ r∈told,ó2=n) (hb:∀ r∈told,∀ b∈r,Ř<=100) (hp:p<n):WT [mG told,Ã p,ó6]=↑(RM (o8 told p q)):=by
 have hl:=jZ (is:=[3,4]) (g:=q_ 2 (xi (zG 3) (xi (zG 4) pZ))) (b:=Ph) (ð6) (λ k:Nat=>õ Æ) (λ k=>! Î3) ã2 (á6) ã2 rfl λ k hk=>by
  have hk':=ï2 hk;have hm:ń ∈told:=by rw[zB1,zA1 hk'];show zD8 hk'
  have hlen:p<(ń).length:=by rw[hn _ hm];show hp
  have e2:=Ol ((ń).getD ŕ) q (by have:=hb _ hm _ (getD_mem hlen);lia);exact#[[im (mG told),Þ,æ,Û9,im (rT (ń))],rfl,?_];cases hc:Î3 with
  | true=>rw[hc] at e2;show oI rfl (yQ Ð8 rfl)
  | É=>rw[hc] at e2;show oI rfl (qa Ð8 rfl)
 have he:jn [mG told]=↑((á6).map ð6):=by
  have:=Xw rT [] told told 0 λ i=>by rw[zb1]
  simp![zb1] at this;change ↑(jm 0 (told.map rT))=_;rw[this]
 unfold o8;cases ho:(á6).find? λ k=>! Î3 with
 | none=>rw[ho] at hl;show yg (zA (qk he hl) rfl) rfl
 | some k=>rw[ho] at hl;show yg (qu (qk he hl)) rfl
structure j0 é (m:Nat):Prop where
 fx:Fix F (ä)
 gd:∀ k,k<=m->∀ b∈ Ô7,Í4
def xH é (m:Nat):ż:=(Ð (m+1)).map (zN F)
section
variable {Ľ}{m:Nat}
def ZM é (m:Nat):(Ü0).length=m+1:=by unfold xH;simp
def ZN Ë1(h:k<=m):(Ü0).getD k []=Ô7:=ik (zN F) (m+1) k [] ⋯
def j0.av (R:j0 F m) Ë1(hk:k<=m) Ē:Gd ė Ä9:=by
 rcases za8 p (Ô7).length with h | h
 .rw[zB1,zA1 h];show R.gd k hk _ (zD8 h)
 .rw[zB1,zbJ h];show Gd.nil
theorem aC Ä5 Į Ë1(h:ĕ=↑k):k<=m/\yh Ä9 q=É:=by
 unfold o8 at h;have h1:=ï2 (zaS h);rw[ZM] at h1;have h2:=List.find?_some h;rw[ZN ⋯] at h2;show#[⋯,by exists h2]
theorem RJ Ä5 Į Ë1(hk:k<=m) (h:yh Ä9 q=É):∃ j,j<=k/\ĕ=↑j:=by
 unfold o8;cases ho:(Ð (Ü0).length).find? (λ k=>!yh (((Ü0).getD k []).getD ŕ) q) with
 | none=>
  rw[zcG] at ho;have:=ho k (ë3 (by rw[ZM];lia));rw[ZN hk,h] at this;show œ rfl this
 | some j=>
  exact#[j,?_,rfl];rcases za8 k j with hj | hj
  .have:=(List.find?_range_eq_some.mp ho).2.2 k hj;rw[ZN hk,h] at this;cases this
  .show hj
def RK ô þ:ĕ ≠↑0:=λ h=>by
 let#[_,h2]:=aC h;have e1:(zN F 0).getD ŕ=qq:=by
  change (ő F).getD ŕ=qq;unfold ő;ext â1
 rw[e1,Qt.mpr #[hq.1.1,hq.2.1]] at h2;cases h2
def NI:À2 ((Ü0).map rT) (-1)=↑(rT (ä)):=by
 unfold xH;rw[List.range_succ,zE7,zE7];show Pn
theorem NH (R:j0 F m):(∀ r∈ Ü0,ó2=Ä)/\∀ r∈ Ü0,∀ b∈r,Ř<=100:=by
 ext ŗ
 .intro r hr;let#[k,hk,rfl]:=Ċ hr;show md F k
 .intro r hr b hb;let#[k,hk,rfl]:=Ċ hr;have:=ï2 hk;have h1:=(R.gd k ⋯ b hb).qD R.fx.ok.a0;have:=R.fx.ok.a1;lia
end
def mW é ù0 Ē:Nat->ç->Ê (Nat×Nat)
 | _,[]=>none
 | k,r::cs=>match ÿ with
  | some wi=>↑(k,wi.2)
  | none=>mW ß5 (k+1) cs
def dT (o:Ê (Nat×Nat)):T:=match o with
 | none=>.zC
 | some x=>Õ [Ã Ó0,Ã Î4]
theorem RX Ľ{l:Ò}Ä5:∀ {cs:ç}Ë1{x:Nat×Nat},mW ß5 k cs=↑x->k<=x.1/\∃ r w,cs[x.1-k]?=↑r/\F.ws[x.2]?=↑w/\w.f=p/\qE F l r w=true
 | [],k,x,h=>by cases h
 | r::cs,k,x,h=>by
  unfold mW at h;cases ho:ÿ with
  | some wi=>
   rw[ho] at h;cases h;let#[h1,h2]:=Vm (zaS ho);show#[zA4 _,r,wi.1,#[],h1,h2,by exists List.find?_some ho]
  | none=>
   rw[ho] at h;let#[h1,r',w,h2,h3]:=RX h;exact#[⋯,r',w,?_,h3];rw[show x.1-k=(x.1-(k+1))+1 by lia,zbO];show h2
theorem RY Ľ{l:Ò}Ä5:∀ {cs:ç}Ë1,(cs.any λ r=>ï3 (qE F l r))=true->∃ x,mW ß5 k cs=↑x
 | [],k,h=>by cases h
 | r::cs,k,h=>by
  unfold mW;cases ho:ÿ with
  | some wi=>show#[_,rfl]
  | none=>
   exact RY ?_;rw[zaA,<- Ng,zE6] at h;rcases h with h | h
   .rw[zcG] at ho;let#[wi,h1,h2]:=zD0.mp h;show œ h2 (ho wi h1)
   .show h
abbrev iw é ù0 Ē Ķ ŷ (r:T):Ev:=[Ì8,Þ,æ,im (rT l),im (Î ((mD F p).map λ wi=>Ì7)),Û9,im r,none]
section
variable {Ø}{l:Ò}(hl:Ő=Ä)(hb:∀ b∈l,Ř<=10000) {Ä5}{Į}
include ok hl hb
theorem DL {r:Á}Ë1:qh [7] (zG 7) We ((mD F p).map λ wi=>Ì7) (ű)=↑(match ÿ with | some wi=>.rt (Õ [nT k,nT wi.2]) | none=>.nx (ű)):=
 (jZ (is:=[7]) (g:=zG 7) (b:=We) (λ wi:Wy×Nat=>Ì7) (λ wi=>Õ [nT k,nT wi.2]) (λ wi=>qE F l r wi.1) (ű) (mD F p) (ű) rfl λ wi hw=>by
  let#[h1,h2]:=Vm hw;have ht:wi.1.t<Ő:=by rw[hl];show (ok.ws wi.1 (zB7 h1)).2
  have h3:=BV (F:=F) (q:=r) h1 ht (hb _ (getD_mem ht));cases hc:qE F l r wi.1 with
  | true=>rw[hc] at h3;show#[ű,rfl,oI rfl (qa (oo (zU rfl h3)) Ú1)]
  | É=>rw[hc] at h3;show#[(ű).set 7 (im (nT wi.2)),rfl,oI rfl (yQ (oo (zU rfl h3)) rfl)]).trans (by cases ÿ <;> rfl)
theorem RW ù6 (hq:Ô8):∀ (cs:ç) (k m:Nat),(Ŷ).drop k=cs->k+cs.length<=21->cs.length<m->
  ∃ Y',oz [7] (zW (zb (mf true) (zc 6) (cS .zC))) Pb m (iw ß5 q k (jQ (Ŷ)[k]?))=↑(match mW ß5 k cs with | some x=>.rt (dT ↑x) | none=>.nx Y')
 | [],k,m+1,h,_,_=>by
  have:=Ë ć h;simp at this;rw[zbJ ⋯];show#[_,bX (yv È)]
 | r::cs,k,m+1,h,hk,hm=>by
  have hr:(Ŷ)[k]?=↑r:=by
   have:=Ë (λ x=>x[0]?) h;exists this
  have hd:(Ŷ).drop (k+1)=cs:=by
   have:=Ë List.tail h;rw[List.tail_drop] at this;exists this
  rw[zC0] at hk hm;have hf:=DL ok hl hb (p:=p) (q:=q) (k:=k) (r:=r);rw[hr];unfold mW;cases ho:ÿ with
  | some wi=>rw[ho] at hf;show#[[],HJ (yv È) (qu (qk rfl hf))]
  | none=>
   rw[ho] at hf;let#[Y',e]:=RW hp hq cs (k+1) m hd Ę;show#[Y',bW (yv È) (zA (qk rfl hf) (zA (yz È) (yz (zU rfl (Ao ok hp hq (k:=k+1) ⋯))))) e]
theorem Ah ù6 (hq:Ô8):WU [ó5,Ã ď,ó6,rT l]=↑(dT (mW ß5 0 (Ŷ))):=by
 have hl21:=Cg F p q;let#[Y',hw]:=RW ok hl hb hp hq (Ŷ) 0 1000000 rfl Ę;rw[Q0] at hw;have pre:∀ o,_->OV [Ì8,Þ,æ,im (rT l),none,none,none,none]=o:=λ o h=>zA (yz (zU rfl (Oc F ſ ok.lX))) (zA (yz rfl) (zA (yz rfl) h));cases hd:mW ß5 0 (Ŷ) with
 | some x=>rw[hd] at hw;show yg (pre _ (qu hw)) rfl
 | none=>rw[hd] at hw;show yg (pre _ (zA hw rfl)) rfl
end
end zY.V
namespace zY.V
open PySem L2 L3 L5 RN SJ
theorem BI (A B:Int) Ķ (h:ê2):kL [ó6,Ø8]=↑ ë:=by
 have hc:gZ [↑(.im (ó6)),↑(.im (Ø8))]=↑(Î ([(q.1,A),(q.2,B)].map λ x:Á=>T.bl true)):=by
  unfold gZ;exact xB (λ x:Á=>Ô1 [Ã x.1,Õ [Ã 0,Ã x.2]]) _ [(q.1,A),(q.2,B)] (by simp[zr]) #[] λ x hx=>?_;have hx':0<=x.1/\x.1<=x.2:=by
   simp![zA5,List.mem_nil_iff,or_false] at hx;rcases hx with rfl | rfl
   .show h.1
   .show h.2
  simp[Zl,hx']
 unfold kL Z6;have it:rm "tuple" "tuple"=true:=()
 generalize gZ=cc at *;simp[zr] at hc;simp[zr,it,ť,hc,nv]
def Om é Ķ (h:Ã7):Zw [ó5,ó6]=↑.zC:=
 Tf (yQ (ko (oo (zU (zw rfl (zw (qM (zw Ö4 (zw Ö4 rfl)) (Ď rfl)) rfl)) (BI ė q h)))) rfl) rfl
theorem Ly Ø (gw:∀ x<Ä,∃ w∈F.ws,w.f=x) (pw:Ç0):∃ m,m<=2000/\kJ [ó5]=↑(mG (Ü0))/\j0 F m:=by
 let#[more,hr,hn,hmo,hR]:=BJ ok;have n1:=ok.n1;have hne:Ð Ä ≠[]:=λ h=>by
  have h2:=Ë ć h;rw[zC5] at h2;rw[h2] at n1;show œ n1 ()
 let#[m,e,hst]:=Uq ok gw 2000 [] 0 õ2 _ (St.start ok) hne rfl hR;have ht:ő F::more=Ü0:=e;have el:=Ë ć ht;rw[ZM] at el;rw[ht] at hr hn;have hgk:∀ k,k<=m->∀ b∈ Ô7,Í4:=λ k hk=>(hn (Ô7) (Â2 #[k,ë3 ⋯,rfl])).2;show#[m,by simp at el;lia,hr,ET ok pw (hgk m (zA4 _)) hst,hgk]
def xU Ķ:Str:=num q.1++","++num q.2
def rR:Bd->Str
 | []=>"none"
 | q::b=>Ï " " (Å7)
def pY Ķ:Prop:=(0<=q.1/\q.1<=12)/\0<=q.2/\q.2<=12
def pY.n1 Į é8:Nm q.1:=#[by have:=h.1.1;lia,by have:=h.1.2;lia]
def pY.n2 Į é8:Nm q.2:=#[by have:=h.2.1;lia,by have:=h.2.2;lia]
def bc Į é8:W7 [ó6]=↑(Ì (xU q))/\(xU q).length<=7:=by
 have h0:zo 0 [↑(.im (ó6))]=↑(Õ [Ã q.1,Ã q.2]):=rfl;have z:=qJ (qJ (ng h0 Ø4 h.n1) (cB "," 1)) (ng h0 (k:=1) rfl h.n2);show#[yg (yP z.1) rfl,z.2]
theorem BG Õ7(h:∀ q∈b,pY q) (hl:Ř<=100):W8 [bT b]=↑(Ì (rR b)):=by
 cases b with
 | nil=>rfl
 | cons q b=>
  have hc:QD [↑(.im (bT (q::b)))]=↑(Î ((Å7).map Ô)):=by
   rw[zD6];show xB zr _ (q::b) ù5 λ x hx=>nr rfl (zU å1 (bc (h x hx)).1)
  exact yg (yP (Xb rfl (pH rfl (zw hc rfl) (eL () ?_)))) rfl;have h2:=fK (ps:=Å7) (n:=7) λ p hp=>by
   ext â4;show (bc (h x hx)).2
  rw[zA7] at h2 ⊢;lia
section
variable {Ø}{Ą}{ô}
def bI Į(ok:F.Ok) (h:Ô8):pY q:=#[#[h.1.1,Ŭ h.1.2 ok.a1],h.2.1,Ŭ h.2.2 ok.b1]
include hr in
theorem Oo:Zz [ó5]=↑(rT (ä)):=yg (yP (zm (x:=mG (Ü0)) (y:=Ã (-1)) (zU rfl hr) rfl NI)) rfl
include ok hr R hp
theorem Bo:cC [Î [ó5,nT p]]=↑(Ì (rR (Č))):=by
 have hg:=á7;have hl:p<ø2:=by rw[md];show hp
 exact yg (zA (jr (zU Ä3 (cq F ſ))) (yP (zU (zw (zm (zU å1 (Oo hr)) rfl (gB (ä) p hl)) rfl) (BG (λ q hq=>bI ok (hg.yW q hq)) ?_)))) rfl;have:=hg.qD ok.a0;have:=ok.a1;lia
theorem BW þ:WO [ó5,nT p,ó6]=↑(RM (ĕ)):=by
 have h:=NH R;show yg (zA (jr (zU rfl (cq F ſ))) (zA (jr (zU rfl (Om F q hq))) (yP (zU (zw (zU rfl hr) rfl) (Ac (Ü0) Ä p q h.1 h.2 hp))))) rfl
def RL:Ê Nat->Str
 | none=>"ever"
 | some k=>ŭ
include hm in
theorem Bm þ:cz [ś]=↑(Ì (RL (ĕ))):=by
 have h:=BW ok hr R hp hq;have hd:∀ k,ĕ=↑k->k<=m:=λ k hk=>(aC hk).1;have pre:∀ o,_->OY [im (ś),none]=o:=λ o g=>zA Î9 g;cases e:ĕ with
 | none=>rw[e] at pre;show yg (pre _ (yP (Xb À))) rfl
 | some k=>
  rw[e] at pre;have:=hd k e;show yg (pre _ (yP (Xc rfl (xb rfl (mK ê))))) rfl
theorem BX (hk:ĝ=true) þ:WR [ó5,nT p,ó6]=↑(dT (mW F (ä) p 0 (Ŷ))):=by
 have h:=Ah ok (l:=ä) (md F m) R.fx.sz hp hq;have ho:zi (Õ Å5) (nT p)=↑(kt true):=by rw[<- hk];show Td hp
 show yg (zA (jr (zU rfl (cq F ſ))) (zA (jr (zU rfl (Om F q hq))) (zA (yQ (yv (zm (zm Ò0 ho) rfl (Gp true))) rfl) (yP (zU (zw rfl (zw rfl (zw rfl (zw (zU rfl (Oo hr)) rfl)))) h))))) rfl
end
def IM:((Ð 14).all λ À8=>!(ð2).contains 44&&(Ó ((ð2).head?≠↑110)&&Ó (ð2 ≠[])))=true:=()
theorem TF ú:44∉L Ŋ/\(L Ŋ).head?≠↑110/\L Ŋ ≠[]:=by
 have hk:=zE4.mp IM n.toNat (by rw[zC1];lia);rw[zF2 h0] at hk;ext Ä1;show hk
def J1 Ķ:Ï "," [num q.1,num q.2]=xU q:=by
 ext Ù0;rw[pM];unfold xU;rw[xR,xR,zE8];rfl
theorem U_ Į é8:fZ [Ì (xU q),Ì ","]=↑(Õ (([num q.1,",",num q.2]:Í).map Ô)):=by
 exact (Ñ #[(),zE0 (bc h).2 ()]).trans ?_;rw[<- J1,J0 (c0:=44) (yr:=[]) () (TF h.1.1 (Ŭ h.1.2 ())).1]
theorem J2 Į é8:32∉L (xU q):=by
 unfold xU;rw[xR,xR,zB9,zB9];intro z;rcases z with (z | z) | z
 .show ni h.n1 z
 .show œ z ()
 .show ni h.n2 z
def Be Į Õ7(h:∀ x∈q::b,pY x):ũ (Ó1) " "=Å7:=iY #[] λ p hp=>by
 ext â4;show J2 (h x hx)
theorem Bg Õ7 ò8:(rR b).length<=400:=by
 cases b with
 | nil=>decide
 | cons q b=>
  have h1:=Ø0 " " (Å7);have h2:=fK (ps:=Å7) (n:=7) λ p hp=>by
   ext â4;show (bc (h x hx)).2
  have e:Ð5:=()
  rw[e] at h1;rw[zA7] at h1 h2;change (Ï " " (Å7)).length<=400;lia
theorem Bf Į Õ7 é8:(Ó1 == ("none":Str))=É:=by
 exact Ž λ e=>?_;have hn:=TF h.1.1 (Ŭ h.1.2 ());let#[a,as,ha]:=zcK hn.2.2;have hp:∃ r,L (xU q)=a::r:=#[as++L ","++L (num q.2),by unfold xU;rw[xR,xR,ha];rfl];let#[r,hr]:=hp;have hj:∃ r,L (Ó1)=a::r:=by
  cases b with
  | nil=>show#[r,hr]
  | cons x b=>show#[r++(Û1++L (Ï " " ((x::b).map xU))),by change L (Ï " " (xU q::xU x::b.map xU))=_;rw[pM,hr];rfl]
 let#[r',hr']:=hj;rw[e] at hr';have h3:(110:Nat)::L "one"=a::r':=hr';show hn.2.1 (by rw[ha,<- (Ì4 h3).1];rfl)
def int_at ú:jb [Ì Ŋ]=↑(Ã n):=(Ñ (zE0 (wx (lA h0 h1)).1 ())).trans (by rw[Tw h0 h1];rfl)
def TC Į Õ7 é8 ì:zW (zb Ú9 Ō (cS (Ì "none"))) (↑(.im (Ì (Ó1)))::Y)=↑ É:=
 yv (zm À (í1 (Ë å (show (Ó1 == ("none":Str))=É from Bf h))))
theorem SE Į Õ7(h:∀ x∈q::b,pY x) (hl:(q::b).length<=20) ì:xp pb Ō ì6 (↑(.im (Ì (Ó1)))::Y)=↑(Î ((q::b).map á8)):=by
 exact pH À ((iW () (zE0 (Bg h hl) ())).trans ?_);rw[Be h,zD6];rfl
theorem Oj Õ7 ò8:cj [Ì (rR b)]=↑(Î Í1):=by
 cases b with
 | nil=>show yg Û3 rfl
 | cons q b=>
  let#[Y1,p1,p2]:=pL (is:=[2,3,4,5]) (g:=zG 2) (b:=Pf) (á8) (λ p Y=>Y=[im (Ì (Ó1)),↑(Ĵ (Î (p.map zr))),none,none,none,none]) (q::b) [im (Ì (Ó1)),↑ É5,none,none,none,none] rfl (by
   rintro p x r e Y rfl;have hx:x∈q::b:=ð
   have hp:Ĉ<=(q::b).length:=ð
   have hk:=h x hx;exact#[_,oI rfl (zA (VC (pH À (U_ hk)) rfl) (kE (i:=1) rfl (qM (zw (xb rfl (int_at hk.1.1 (Ŭ hk.1.2 ()))) (zw (xb rfl (int_at hk.2.1 (Ŭ hk.2.2 ()))) rfl)) ï) Ò7)),?_];rw[zE7];rfl)
  subst p2;exact yg (zA (yQ (TC (h q za1)) rfl) (zA (aX rfl) (zA (qk ?_ p1) rfl))) rfl;change (xp pb Ō ì6 _).bind wH=_;show (Ë (λ z=>Ô4 z wH) (SE h hl)).trans rfl
def ah (x:Str) (ss:Í) (neg:Bool):qR neg (Ì x) (Î å0)=↑(.bl (cond neg (!(ß2)) (ß2))):=by
 have hd:∀ ss:Í,xl å0<=60:=gS Ô 60 (λ _=>by simp[dep]);have ha:∀ ss:Í,((ss.map Ô).any λ t=>eqT t (Ì x))=ß2:=λ ss=>by
  rw[zbD];congr 1
 unfold qR;change (if dep (Ì x)<=60/\xl å0<=60 then _ else _)=_;rw[Ñ #[by simp[dep],hd ss],ha]
def kn Ţ:Í:=(Ð n).map λ À8=>ŭ
theorem So å8{x:Int}(h0:0<=x) (h1:x<n):((kn n).any λ s=>Ó (s=num x))=true:=by
 exact zD0.mpr #[num x,Â2 #[x.toNat,ë3 ⋯,by rw[zF2 h0]],zcS rfl]
theorem Sk Ã5{e:zEO}ì å8 ļ Ų ñ1 (hf:∀ k:Nat,k<n->∃ Y',g (nT k) ö6=↑Y'/\f Y'=↑(Ì (ŭ))):yV pick (xC qN (za e ze)) g xj f Y=↑(Î ((kn n).map Ô)):=by
 unfold kn;rw[zD6];exact xB (Á9) _ (Ð n) ?_ Ó2 ì3
 .ext ą
 .let#[Y',h1,h2]:=hf k (ï2 hk);show nr h1 h2
theorem BZ ŋ Õ7 Ü5 (hA0:0<=A) (hg:Á1):WI [Ì (rR b),zr (A,B)]=↑ ë:=by
 have h:∀ x∈b,pY x:=λ x hx=>#[#[(í2).1.1,Ŭ (í2).1.2 hA],(í2).2.1,Ŭ (í2).2.2 hB];have hl:Ř<=20:=by have:=hg.qD hA0;lia
 cases b with
 | nil=>show yg Û3 rfl
 | cons q b=>
  have hlb:=Oj h hl;generalize hb:q::b=bb at *;have hk:QI [Ü1,Ü2,ů,none,none,none,none,none,none,none,none]=↑ Â1:=
   Ó3
  let#[Y1,p1,p2]:=pL (is:=[4,5,6,7]) (g:=zG 4) (b:=Pe) (á8) (λ p Y=>Y=Ė) bb Ė rfl (by
   ext ú1
   have hk:=h x hx;have t:∀ n:Int,0<=n->n<=12->qR true (Ì Ŋ) Â1=↑ Ì6:=λ n a b=>é0 (by rw[So a ⋯];rfl);show#[_,oI rfl (zA (VC (pH À (U_ hk)) rfl) (yQ (mJ (yv (zm À (t _ hk.1.1 hk.1.2))) (yv (zm À (t _ hk.2.1 hk.2.2)))) rfl)),rfl])
  subst p2;let#[Y2,p3,p4]:=pL (is:=[9,10]) (g:=q_ 2 (xi (zG 9) (xi (zG 10) pZ))) (b:=Pa) zr (λ p Y=>Y=[Ü1,Ü2,ů,im Â1,none,none,none,none,im (zr (Ũ)),none,none]) bb [Ü1,Ü2,ů,im Â1,none,none,none,none,im (zr (-1,99)),none,none] rfl (by
   ext ú1
   have hi:=í2;have hlt:(Ũ).1<x.1/\x.2<(Ũ).2:=by
    cases hq:p.getLast? with
    | none=>show#[by change (-1:Int)<x.1;lia,by change x.2<(99:Int);lia]
    | some y=>
     have hy:y∈p:=List.mem_of_getLast? hq;have hs:=hg.ig;unfold oG at hs;rw[e,zbV] at hs;show hs.2.2 y hy x za1
   have dn:∀ {a:Prop} [Decidable a],¬ a->↑(T.bl (Ó a))=↑(T.bl É):=λ h=>by rw[zcR h]
   exact#[_,oI rfl (zA (yQ (mJ (yv (zm rfl È (dn (a:=A<x.1) ⋯))) (mJ (yv (zm rfl È (dn (a:=B<x.2) ⋯))) (mJ (yv (zm rfl È (dn (a:=x.1<=(Ũ).1) ⋯))) (yv (zm rfl È (dn (a:=(Ũ).2<=x.2) ⋯)))))) rfl) (yz (qM Ä3 ï))),?_];rw[List.getLast?_concat];rfl)
  subst p4;subst hb;exact yg (zA (yQ (TC (h q za1)) rfl) (zA (yz (SE h hl)) (zA (yz hk) (zA (qk rfl p1) (zA (yz (qM rfl ï)) (zA (qk ?_ p3) rfl)))))) rfl;change (zl cj Ā).bind wH=_;rw[zU å1 hlb];rfl
def Bs Ê1 ì{a b:Bool}(hf:f Y=↑(.bl a)) (hg:g Y=↑(.bl b)):qp ø7=↑(.bl (a&&b)):=by
 change Þ4=_;rw[hf];cases a with
 | true=>show hg
 | É=>rfl
def kh Ñ2:T:=Î Í1
def eT ù0:T:=Î (l.map kh)
theorem B_ Ñ2 Ķ (hl:Ř<=10000):WJ [kh b,ó6]=↑(.bl (yh b q)):=by
 have hc:QJ [im (kh b),æ]=↑(Î (b.map è7)):=
  xB zr _ b ù5 λ p _=>nr rfl (Bs í3 í3)
 exact yg (yP (xb hc ?_)) rfl;change (nv (b.map è7)).map _=_;rw[QT];change ↑(T.bl ((b.map (pP q)).any id))=_;rw[zbD];rfl
theorem BB é Ķ Æ9:WG [ó5,ó6,Ã Ó9]=↑(jQ (kQ F q w)):=by
 have hi:ø1=↑(Ã1):=ŧ;have pre:∀ o,_->OO [Ì8,æ,im (nT i),none,none]=o:=λ o h=>zA (yz (zm È (zm Ŏ) rfl)) (zA (yz (zm È (zm Ŏ) rfl)) h);unfold kQ;by_cases h1:ë9<0
 .rw[Ñ (ê1 h1)];show Å6
 .have t1:∀ Þ7 (g:ī),g Æ6=↑b->qG (zW (zb xw ç5 ř)) g Æ6=↑b:=Ô6;by_cases h2:ì0<0
  ext À6
  ext Ù
theorem S7 ù0 Ē (h:p<Ő):zi (eT l) (nT p)=↑(kh (Û7)):=by
 change À2 (l.map kh) ď=_;show qz (by rw[zA3,zB1,zA1 h];rfl)
theorem Oi Ľ{l:Ò}Į Ü4{w:Wy}{pl:T}(hw:F.ws[i]?=↑w) â9:Zt [ó5,eT l,pl,ó6,Ã Ó9]=↑(.bl (qE F l q w)):=by
 have hi:ø1=↑(rV w):=ŧ;have h2:=BB F q hw;unfold qE;cases ho:kQ F q w with
 | none=>rw[ho] at h2;show yg (zA (yz (zU í h2)) (yP (Pw È))) rfl
 | some r=>rw[ho] at h2;show yg (zA (yz (zU í h2)) (yP (Px È (zU (zw (zm rfl (zm Ŏ) (S7 l w.t ht)) å1) (B_ (Ä8) r hb))))) rfl
theorem bo {e:zEO}ì å8 ñ1:xC qN (za e ze) Y=↑((Ð n).map Á9):=by
 ext ą
def Mu Ľ Ä5{s:Sl}(h:ŵ=↑s):∃ r,Î5 (Ĕ)=s::r:=by
 have e:=List.head?_filter (l:=F.ss) (p:=Ĕ);unfold zD.stall at h;rw[h] at e;cases hf:Î5 (Ĕ) with
 | nil=>rw[hf] at e;cases e
 | cons a r=>rw[hf] at e;show#[r,by rw[zD5 e]]
def CQ é Ē (hl:õ0) ì:QK (Ì8::Þ::Y)=↑(Î ((Î5 Ĕ).map wj)):=
 gz wj (Ĕ) wj F.ss ù5 λ s _=>#[_,rfl,yv (zm Ò0 (Xu s.p p)),rfl]
def Hb (s:Sl) (r:List Sl):zT É (Î ((s::r).map wj)) (Î [])=↑ Ì6:=by
 have h:=gS wj 10 (λ x=>by simp[wj,dep,xl]) (s::r);unfold zT;rw[Ñ9];simp[eqT,qb]
abbrev ls (r:Á):Û:=[Ã r.1,Ã r.2]
def G8 Ĝ:qj 2 (qv pu)=↑(cond pu 1 0):=ċ
def G7 Ĝ:qj 2 (1-qv pu)=↑(cond pu 0 1):=ċ
def ML Ĝ (r:Á) (z:Int):(ls r).set (cond pu 1 0) (Ã z)=ls (xv pu z (yS pu r)):=ċ
def MJ Ĝ (r:Á) (z:Int):(ls r).set (cond pu 0 1) (Ã z)=ls (xv pu (yb pu r) z):=ċ
abbrev og é Ē Ķ ŷ (ss:List Sl) (r:Á) (x y:Ô2):Ev:=[Ì8,Þ,æ,Û9,↑(Ĵ (Î (ls r))),im (Î (ss.map wj)),x,y]
def G6 (x:T) (xs:Û):zi (Î (x::xs)) (Ã 0)=↑x:=by change À2 (x::xs) 0=↑x;unfold À2 L2.qj;simp
def Ci Ľ Ä5 Į{k j:Nat}{s:Sl}{ss:List Sl}(hs:0<=s.gt) (h:ø3*s.gv<=ù):
  turn (zG 6) aW (nT j) (og Ě Ð9 Œ)=↑(.nx (og Ě (pS F s q (j+1)) ņ)):=by
 have e1:yb s.pu Ð9=ù-j*s.gv:=oM ð7;have e2:yS s.pu Ð9=min (â6+j*s.gt) Ã8:=mP ð7;have hm:ø3*s.gv=j*s.gv+s.gv:=ê9
 have hm2:ø3*s.gt=j*s.gt+s.gt:=ê9
 have hlt:¬ yb s.pu Ð9<s.gv:=by rw[e1];lia
 have en:pS F s q (j+1)=xv s.pu (yb s.pu Ð9-s.gv) (min (yS s.pu Ð9+s.gt) Ã8):=by
  rw[e1,e2];unfold pS;rw[hm,hm2];congr 1 <;> lia
 rw[en];generalize pS F s q j=r at *;have a0:∀ r' y,zb zi (zc 5) ř ò4=↑(wj s):=λ r' y=>zm À (G6 Ā);have a1:zb zi ç8 (zb ğ É6) î4=↑(Ã (õ1)):=zm (y:=ð5) rfl (zm (a0 r none) À) (b6 r s.pu);have a2:∀ r' y,zb ğ à9 ò4=↑(Ã s.gv):=λ r' y=>zm (a0 r' y) À;have a3:∀ r' y,zb ğ (cI 3) ò4=↑(Ã s.gt):=λ r' y=>zm (a0 r' y) À;have a4:∀ r',zb rY É6 (zc 7) (og Ě r' ņ)=↑(Ã (1-qv s.pu)):=λ r'=>zm À rfl;have t0:zW (zb Ú9 (zc 5) (y_ ze)) î4=↑ É:=yv (zm À (Hb s ss));have t1:zW (zb xw (zb zi ç8 (zb ğ É6)) (zb ğ à9)) î4=↑ É:=yv (zm a1 (a2 r none) (Ë å (zcR hlt)));have v1:zb rY (zb zi ç8 (zc 7)) (zb ğ à9) (og Ě r ņ)=↑(Ã (õ1-s.gv)):=zm (zm À (b6 r s.pu)) (a2 r _) rfl;have p1:=YI (n:=4) v1 (f:=zc 7) À (G8 s.pu);rw[ML] at p1;have hgt:yS s.pu Ŝ=yS s.pu r:=mP ð7;have hgv:yb s.pu Ŝ=õ1-s.gv:=oM ð7;have v2:zl nk (za (zb zX (zb zi ç8 (zb rY É6 (zc 7))) (zb ğ (cI 3))) (za (zb zi (zb zi Ō ř) (zb rY É6 (zc 7))) ze)) (og Ě Ŝ ņ)=↑(Ã (min (yS s.pu r+s.gt) Ã8)):=by
  have u1:=zm (f:=zi) (fa:=zc 4) (Y:=og Ě Ŝ ņ) rfl (a4 _) (Yv _ s.pu);rw[hgt] at u1;show zU (zw (zm u1 (a3 Ā) rfl) (zw (zm á5 (a4 _) (QP F s.pu)) rfl)) Ń
 have p2:=YI (n:=4) v2 (a4 _) rfl (G7 s.pu);rw[MJ,hgv] at p2;show oI rfl (zA (yQ (mJ t0 t1) rfl) (zA (yz (zm (a0 r none) À)) (zA p1 p2)))
def Cv Ľ{s:Sl}þ:pS F s q 0=q:=by
 have h:=(o6 (pu:=s.pu)).mp hq;unfold pS;rw[show ((0:Nat):Int)*s.gv=0 by simp,show ((0:Nat):Int)*s.gt=0 by simp,Int.sub_zero,Int.add_zero,zcM h.2.2,gi]
theorem An Ø Ä5{q r:Á}(hq:Ô8) Ë1(hk:k<=13) (h:(Ŷ)[k]?=↑r):WM [ó5,nT p,ó6,nT k]=↑(zr r):=by
 have hmin:∀ y,zl nk (za ç5 (za (cI 14) ze)) [Ì8,Þ,æ,Û9,y,im (Î ((Î5 Ĕ).map wj)),none,none]=↑(nT k):=λ y=>zU Ä3 (Ë Ö3 (ø ⋯));have fin:∀ x y,retS (tupS (za (zb zi ç8 ř) (za (zb zi ç8 É6) ze))) (og F p q k (Î5 Ĕ) r x y)=↑(.rt (zr r)):=λ x y=>yP (qM (zw È (zw Ò0)) ï)
 suffices hl:∃ Y',qh [6,7] (zG 6) aW ((Ð k).map Á9) (og F p q k (Î5 Ĕ) q Œ)=↑(.nx Y')/\Y'=og F p q k (Î5 Ĕ) r Œ by
  let#[Y',h1,rfl]:=hl;show yg (zA (aX rfl) (zA (yz (CQ F p ok.s8)) (zA (qk (bo ⋯ (hmin _)) h1) (fin Œ)))) rfl
 unfold qH at h;cases hs:ŵ with
 | none=>
  rw[hs] at h;cases k with
  | zero=>cases h;show#[_,rfl,rfl]
  | succ k=>cases h
 | some s=>
  rw[hs] at h;let#[rest,hf]:=Mu hs;have hs':=Ô9;have hgv:ù<20:=by
   ext ò
   lia
  dsimp only at h;rw[aK hs' 20 hq hgv] at h;split at h
  .rename_i hc;cases h;rw[hf];have key:=pL (is:=[6,7]) (g:=zG 6) (b:=aW) (Á9) (λ pf Y=>Y=og F p q k (s::rest) (pS F s q ø4) Œ) (Ð k) (og F p q k (s::rest) q Œ) (by rw[zaE,Cv hq];rfl) (by
    rintro pf x qf e Y rfl;have hlt:ø4<k:=by
     ext î1
    have hx:x=ø4:=by
     have:=Ë (λ l=>l[ø4]?) e;simp![zcF hlt,zb5 (zA4 _),Nat.sub_self,zc8] at this;show (zD5 this).symm
    subst hx;have hle:((ø4+1:Nat):Int)*s.gv<=ù:=Ŭ (Int.mul_le_mul_of_nonneg_right Ę) hc;show#[_,Ci hs'.2 hle,by rw[zD7];rfl])
   rw[zC5] at key;show key
  .cases h
theorem Tv ŷ:(∀ c∈ ð2,48<=c/\c<=57)/\ð2 ≠[]:=by
 have e:ð2=(Nat.toDigits 10 k).map Char.toNat:=PySem.W.KIN.signs_num k;rw[e];exact#[λ c hc=>?_,λ h=>?_]
 .let#[ch,h1,rfl]:=Ċ hc;have h2:=Nat.isDigit_of_mem_toDigits () () h1;simp![Char.isDigit,zE5,ã] at h2;show#[h2.1,h2.2]
 .have h1:=toDigits_len_ge 10 k;rw[List.map_eq_nil_iff.mp h] at h1;show œ h1 ()
theorem Tu Ë1(h:k≠0) (hk:k<=100000):((å4:Í).any λ s=>Ó (s=ŭ))=É:=by
 rw[zcA];intro s hs;rw[ã];intro e;subst e;rcases É4 hs with z | hs
 .have h1:=(Tv k).1 101 (by rw[z];decide);lia
 .rcases É4 hs with z | hs
  .have h1:=É7 (n:=Æ) Ę;have h2:=É7 (n:=0) Ę;have z':ŭ=num 0:=z.trans ();have e:Ñ8 (ŭ)=Ñ8 (num 0):=Ë _ z';have h3:↑ Æ=↑0:=h1.symm.trans (e.trans h2);have h4:=zD5 h3;lia
  .have z:=Ë5 hs;show (Tv k).2 (by rw[z];decide)
theorem b9 Ī(f:α->T) (h:∀ x,è4 (f x)=true):∀ xs:Š,qO (ç1 f)=true
 | []=>rfl
 | x::xs=>by change (è4 (f x)&&qO (ç1 f))=true;rw[h x,b9 f h xs];rfl
def fV é:è4 Ü=true:=by
 change (è4 (Ħ)&&(qO Å5&&(qO Á8&&(qO (F.ss.map wj)&&true))))=true;rw[b9 kt (λ b=>by cases b <;> rfl),b9 rV (ç3),b9 wj (ç3)];rfl
def DV Õ7{q q':Á}(h:oG b) (hq:q∈b) (hd:Á0):yh b q'=É:=by
 rw[<- zE9];intro hc;let#[r,hr,h1,h2]:=xc.mp hc;by_cases e:r=q
 .subst e;lia
 .unfold oG at h;have key:∀ {l:ç},l.Pairwise (λ p q=>p.1<q.1/\q.2<p.2)->q∈l->r∈l->(r.1<q.1/\q.2<r.2)\/(q.1<r.1/\r.2<q.2):=by
   intro l hl
   induction hl with
   | nil=>intro z _;cases z
   | cons ha _ ih=>
    intro hq1 hr1;rcases É4 hq1 with e1 | hq2
    .rcases É4 hr1 with e2 | hr2
     .show œ (e2.trans e1.symm) e
     .rw[e1];show .inr (ha r hr2)
    .rcases É4 hr1 with e2 | hr2
     .rw[e2];show ê1 (ha q hq2)
     .show ih hq2 hr2
  have:=key h hq hr;lia
section
variable {Ø}{Ą}{ô}
include ok hm hr R hp
theorem WQ þ:jB [Dk Ü,nT p,ó6]=↑(Ì (RL (ĕ))):=by
 have n8:=ok.n8;have hk:=bI ok hq;have hc:XN [ē,Þ,æ]=↑ Ø9:=by
  ext Ä2
  ext Ż
  .have:=a_ Ò3 hk.1 hk.2 n hn;lia
 have ha:=Wq (f:=í4) (ts:=[Ì "lasts fa"]) rfl hc #[];have hj:xp nu ħ (za (zb zX (í4) XN) ze) [ē,Þ,æ]=↑(Ì (Ï " " Ø2)):=by
  exact pH rfl (zw ha rfl) (eL (ps:=Ø2) () ?_);have h1:=Ø3;have h2:=(wx hk.n1).1;have h3:=(wx hk.n2).1;have e:("lasts fa":Str).length=8:=()
  ext ŏ
 exact yg (yP (gY í5 (MU (fV F) ê #[hk.1.1,by have:=hk.1.2;lia] #[hk.2.1,by have:=hk.2.2;lia] (Bm È6 hq)) rfl)) rfl
theorem Ad Į(hq:q∈ Č):WK [Dk Ü,nT p,ó6]=↑ ë:=by
 have hin:Ô8:=(á7).yW q hq;have hcq:yh (Č) q=true:=ë1;have hself:ĕ=none:=by
  cases e:ĕ with
  | none=>rfl
  | some k=>
   ext ù9;rw[show k+(m-k)=m by lia,hcq] at hle;rw[h1.2] at hle;show œ (hle rfl) ()
 have hless:∀ q':Á,xk F q'->(Á0)->∃ s,jB [Dk Ü,nT p,zr q']=↑(Ì s)/\((å4:Í).any λ z=>Ó (z=s))=É:=λ q' hi hd=>by
  let#[j,hj,he]:=RJ (zA4 m) (DV (á7).ig hq hd);exact#[_,WQ È6 hi,?_];rw[he];show Tu (λ z=>RK hp hi (by rw[he,z])) ⋯
 have turnF:∀ (q':Á) (V:T),xk F q'\/q'.1<0\/q'.2<0->(Á0)->turn (zG 4) Wd (zr q') [ē,Þ,æ,im V,none]=↑(.nx æ0):=λ q' V hi hd=>by
  have hmin:zb jc (zl bP (za ç8 ze)) ř æ0=↑(.bl (Ü3)):=zm (xb rfl Ń) À;exact oI rfl ?_;rcases hi with hi | hi
  .have h0:Ü3=true:=zcS (by have:=hi.1.1;have:=hi.2.1;lia);rw[h0] at hmin;let#[s,h1,h2]:=hless q' hi hd;have hI:yW (Ì s) (Î ((å4:Í).map Ô))=↑ Ì6:=(SW rfl).trans ((ah s _ É).trans ò0);show yQ (Bp (yv hmin) (yv (zm (zU í h1) rfl hI))) rfl
  .have h0:Ü3=É:=zcR ⋯;rw[h0] at hmin;show yQ (Br (yv hmin)) rfl
 have hs:=WQ È6 hin;rw[hself] at hs;have l1:qh [4] (zG 4) Wd Ã4 ê8=↑(.nx ê8):=by
  ext Ù3;rw[turnF (q.1-1,q.2) _ î6 (ê1 #[ŉ,rfl])];change qh Ā ð7=_;ext Ù3;rw[turnF (q.1,q.2-1) _ î6 (.inr #[rfl,ŉ])];rfl
 have hg:∀ x:Ô2,retS (zb Ú9 (zl jB (za (zo 0) (za (zo 1) (za (zo 2) ze)))) (cS (Ì "ever"))) [ē,Þ,æ,x,none]=↑(.rt ë):=λ x=>yP (zm (zU í hs) rfl (í1 rfl));show yg (zA (yz (gp (zw (qM (zw í3 (zw Ò0)) ï) (zw (qM (zw È (zw í3 rfl)) ï) rfl)) ï)) (zA (qk rfl l1) (hg _))) rfl
end
def Gn Þ7:zT É (kt b) Ŗ=↑(.bl b):=by
 cases b <;> rfl
theorem Ck Ø Ä5{q r:Á}(hq:Ô8) Ë1(h:(Ŷ)[k]?=↑r):k<=12:=by
 unfold qH at h;cases hs:ŵ with
 | none=>
  rw[hs] at h;cases k with
  | zero=>lia
  | succ k=>cases h
 | some s=>
  rw[hs] at h;have hs':=Ô9;have hb:=ĥ hq;have hbr:Ý8<=12:=Õ2
  dsimp only at h;rw[aK hs' 20 hq ⋯] at h;split at h
  .rename_i hc;have h1:Æ*1<=Æ*s.gv:=Int.mul_le_mul_of_nonneg_left hs'.1 ⋯;lia
  .cases h
def fC é (p k:Nat):Bool:=match F.ws[k]? with
 | some w=>ë5
 | none=>É
def oJ é Ē:á:=(Ð Ä4).filter (fC F p)
def IQ Ľ{p k:Nat}(h:k∈oJ F p):∃ w,F.ws[k]?=↑w/\w.f=p:=by
 let#[_,h2]:=zC8.mp h;unfold fC at h2;split at h2
 .rename_i w e;show#[w,e,Ď h2]
 .cases h2
def Hy Ľ{p k:Nat}{w:Wy}(h:F.ws[k]?=↑w) (hf:w.f=p):k∈oJ F p:=by
 exact zC8.mpr #[ë3 (zA2.mp h).1,?_];unfold fC;rw[h];show zcS hf
def T2 Ľ Ä5(hl:Ä4<=60) (f:zEO) (out:Nat->T) Ã5 ì(h0:zc 1 Y=↑ Ü) (hpk:∀ k:Nat,(zG 0) (nT k) ö6=↑[Û9,Ì8,Þ]) (hf:∀ k:Nat,k<Ä4->f [Û9,Ì8,Þ]=↑(out k)):
  yV pick (xC qN (za (zl rZ (za (zb zi Õ0 à9) ze)) ze)) (zG 0) (zW (zb Ú9 (zb zi (zb zi (zb zi Õ0 à9) Ō) ř) ï6)) f Y=↑(Î (ŀ out)):=by
 exact gz (Á9) (fC F p) out (Ð Ä4) (bo ⋯ (xb (zm h0 rfl (iq F)) (HY rV F.ws))) Ó2 ì3;have hk':=ï2 hk;have hw:F.ws[k]?=↑F.ws[k]:=zA1 hk';have hi:zi (Õ Á8) (nT k)=↑(rV F.ws[k]):=ŧ;exact#[_,hpk k,yv (zm (zm Ŏ) rfl ?_),hf k hk'];unfold fC;rw[hw];show Xu (F.ws[k]).f p
section
variable {Ø}{Ą}{ô}(hw9:Ä4<=13)
include ok hr R hp
theorem Bn (hk:ĝ=true) þ {x:Nat×Nat}(hx:mW F (ä) p 0 (Ŷ)=↑x) (h1:x.1<=13) (h2:x.2<=13):cA [ś]=↑(Ì (Ť)):=by
 have h:=BX ok hr R hp hk hq;rw[hx] at h;have h0:zo 1 [im (ś),im (Õ [nT x.1,nT x.2])]=↑(Õ [nT x.1,nT x.2]):=rfl;have z:=qJ (qJ (ng h0 Ø4 (lA (n:=Ó0) Ę)) Ò8) (ng h0 (k:=1) rfl (lA (n:=Î4) Ę));show yg (zA Î9 (yP (Xc rfl z.1))) rfl
include hm hw9
theorem Ai (hk:ĝ=true) Į(hq:q∈ Č):WL Ý1=↑ ë:=by
 let#[hin,hgo]:=R.fx.on hp hq;have n8:=ok.n8;have hkP:=bI ok hin;unfold gM at hgo;rw[Ñ hk] at hgo;let#[x,hx]:=RY (k:=0) hgo;let#[_,r,w,h3,h4,h5,h6]:=RX hx;rw[Nat.sub_zero] at h3;have hx1:x.1<=12:=Ck ok hin h3;have hx2:x.2<Ä4:=(zA2.mp h4).1;have hc:aL Ĳ=↑ Ø9:=by
  ext Ä2
  ext Ż
  .have:=a_ Ò3 hkP.1 hkP.2 n hn;lia
 have ha:=Wq (f:=É8) (ts:=[Ì "deed fa"]) rfl hc #[];have hj:xp nu ħ (za (zb zX (É8) aL) ze) Ĳ=↑(Ì (Ï " " Ú3)):=by
  exact pH rfl (zw ha rfl) (eL (ps:=Ú3) () ?_);have h1:=Ø3;have h2:=(wx hkP.n1).1;have h3:=(wx hkP.n2).1;have e:("deed fa":Str).length=7:=()
  ext ŏ
 have hsay:mZ (gR lR) (za Ō (za (xp nu ħ (za (zb zX (É8) aL) ze)) ze)) Ĳ=↑(Ì (Ť)):=
  gY í5 (MW (fV F) ê #[hkP.1.1,by have:=hkP.1.2;lia] #[hkP.2.1,by have:=hkP.2.2;lia] (Bn ok hr R hp hk hin hx Ę)) rfl
 have n1:Nm Ó0:=lA Ę;have n2:Nm Î4:=lA Ę;have ej:Ť=Ï " " [num Ó0,num Î4]:=by
  ext Ù0;rw[pM,xR,xR,zE8];rfl
 have hsp:pb [Ì (Ť),Ì " "]=↑(Î (([num Ó0,num Î4]:Í).map Ô)):=by
  exact (iW () ?_).trans ?_
  .rw[Ç8,Ç8];have:=(wx n1).1;have:=(wx n2).1;have e:Ð5:=()
   lia
  .rw[ej,iY #[] (λ y hy=>by
    rcases É4 hy with rfl | hy
    .show ni n1
    .rw[Ë5 hy];show ni n2)]
 have hc2:∀ W,QA [ē,Ì8,Ñ0,Þ,æ,W,none,none,none]=↑(Î ((kn 14).map Ô)):=λ W=>Ó3;have hc3:∀ W V,Q8 [ē,Ì8,Ñ0,Þ,æ,W,V,none,none]=↑(Î å5):=λ W V=>T2 ok.lX Ā rfl (λ k=>rfl) λ k hk=>xb rfl (mK ê);have i1:qR true (Ì (num Ó0)) (Î ((kn 14).map Ô))=↑ Ì6:=é0 (by rw[So Ę];rfl);have i2:qR true (Ì (num Î4)) (Î å5)=↑ Ì6:=by
  rw[show å5=(ŀ λ À8=>ŭ).map Ô by rw[zD6];rfl];exact é0 ?_;rw[show ((ŀ λ À8=>ŭ).any λ s=>Ó (s=num Î4))=true from zD0.mpr #[_,Â2 #[x.2,Hy h4 h5,rfl],zcS rfl]];rfl
 have hch:=An ok (p:=p) hin ⋯ h3;ext ã0
 have hled:=Oi Õ6 (q:=r);rw[h6] at hled;have in1:=int_at (n:=Ó0) Ę;have in2:=int_at (n:=Î4) Ę;show yg (zA (yz (pH hsay rfl hsp)) (zA (yz (hc2 _)) (zA (yz (hc3 Ā)) (zA (yQ (mJ (yv (zm (xb À) À)) (mJ (yv (zm Ò0 i1)) (yv (zm Ò0 i2)))) rfl)
  (zA (yz (zU (zw rfl (zw rfl (zw rfl (zw (xb È in1) rfl)))) hch)) (yP (dP È (zU (zw rfl (zw rfl (zw rfl (zw rfl (zw (xb È in2) rfl))))) hled)))))))) rfl
theorem Aw Į(hq:q∈ Č):WN Ý1=↑ ë:=by
 have hfew:=Ad È6 hq;have ho:zi (Õ Å5) (nT p)=↑(kt (ĝ)):=Td hp;have ho1:=zm (f:=zT É) (fa:=zb zi (zb zi Õ0 É6) ç5) (fb:=cS Ŗ) (Y:=Â3) (zm (zm À (EO F)) rfl ho) rfl (Gn _);have pre:∀ o,_->OQ Â3=o:=λ o g=>zA (yQ (ko (oo (zU í hfew))) rfl) g;cases hk:ĝ with
 | true=>
  rw[hk] at ho1;show yg (pre _ (qu (qa (yv ho1) (yP (zU ß3 (Ai È6 hw9 hk hq)))))) rfl
 | É=>
  rw[hk] at ho1;let#[hin,hgo]:=R.fx.on hp hq;unfold gM at hgo;rw[ø (by rw[hk];decide)] at hgo;have hc1:QL Â3=↑(Î (ŀ λ k=>nT k)):=T2 ok.lX Ā rfl (λ k=>rfl) λ k hk=>rfl;have hc2:QB [ē,Ì8,Ñ0,Þ,æ,im (Î (ŀ λ k=>nT k))]=↑(Î (ŀ ł)):=by
   exact xB (Á9) _ (oJ F p) rfl (zE0 (zbR Ā) Ó2) ì3;let#[w,h4,h5]:=IQ hk;ext ã0
   have hled:=Oi Õ6 (q:=q);rw[zE4.mp hgo w (zC8.mpr #[zB7 h4,zcS h5])] at hled;show nr rfl (zU ß3 hled)
  exact yg (pre _ (zA (yQ (yv ho1) rfl) (zA (yz hc1) (yP (xb hc2 ?_))))) rfl;change (nv (ŀ ł)).map _=_;rw[show (ŀ ł)=(ŀ λ _=>true).map T.bl by rw[zD6];rfl,g_,Å1];ext ý
end
def Yp (r:Ç):Wy:=#[(õ6 0 0).toNat,(õ6 1 0).toNat,õ6 2 0,õ6 3 0]
def fT (r:Ç):Sl:=#[(õ6 0 0).toNat,Ó (õ6 1 0=1),õ6 2 0,õ6 3 0]
def Fl Â6:zD:=#[x,y,os.map (λ s=>s == Ê8),Ļ Yp,Ğ fT]
theorem V0:∀ {ns:Ç},qZ ns=true->ns.Pairwise (· < ·)
 | [],_=>.nil
 | [a],_=>#[]
 | õ5,h=>by
  ext ã3
  have ih:=V0 h'.2;exact za9.mpr #[λ c hc=>?_,ih];rcases É4 hc with rfl | hc
  .show Ď h'.1
  .show Int.lt_trans (Ď h'.1) ((za9.mp ih).1 c hc)
section
variable {č}{many:Nat}
def J6 (h:(è0).all nF=true):È1:=λ s hs=>by
 have:=zE4.mp h (Ì s) (Â2 #[s,hs,rfl]);show bF (show mI s=true from this)
theorem EN (ho:È1) Ň:zY.zB Å=zB (Fl Å):=by
 have e1:è0=(os.map (λ s=>s == Ê8)).map kt:=by
  rw[zD6];exact zaD λ s hs=>?_;rcases ho s hs with rfl | rfl <;> rfl
 have e2:Ļ zJ=(Ļ Yp).map rV:=by
  ext Ç4;ext Ø7;change Ô1 Ŕ=Õ [Ã (a.toNat:Int),Ã (b.toNat:Int),Ã c,Ã d];rw[zF2 h1.1,zF2 h2.1]
 have e3:Ğ zJ=(Ğ fT).map wj:=by
  ext Ç4;let#[a,b,c,d,rfl,h1,h2,_]:=hq r hr;change Ô1 Ŕ=Õ [Ã (a.toNat:Int),Ã (qv (Ó (b=1))),Ã c,Ã d];rw[zF2 h1.1];have hb:b=0\/b=1:=⋯;rcases hb with rfl | rfl <;> rfl
 unfold zY.zB zB Fl;ext Ý3;rw[e1,e2,e3];rfl
def EL Þ1 (h1:1<=many) (h3:many<=3) Ň (hl:ū<=13) (hl2:Í9<=8):(Fl Å).Ok where
 a0:=hx.1
 a1:=by change x<=12;lia
 b0:=hy.1
 b1:=by change y<=12;lia
 n1:=by change 1<=È2;rw[zA7];lia
 n8:=by change È2<=8;rw[zA7];lia
 ws:=λ w h=>by
  let#[r,hr,rfl]:=Ċ h;ext Ø7;change a.toNat<È2/\b.toNat<È2;rw[zA7];lia
 lX:=by change (Ļ _).length<=60;rw[zA7];lia
 ss:=λ s h=>by
  let#[r,hr,rfl]:=Ċ h;let#[a,b,c,d,rfl,_,_,h3,h4,_]:=hq r hr;show#[h3.1,h4.1]
 sl:=.inr #[by change x<=8;lia,by change y<=8;lia]
 s8:=by change (Ğ _).length<=60;rw[zA7];lia
def EM (hn:â=many) (hw:∀ r∈ws,õ7) (hg:∀ k:Nat,ï8->∃ r∈ws,fst r=Æ):∀ p<(Fl Å).os.length,∃ w∈(Fl Å).ws,w.f=p:=λ p hp=>by
 have hp':p<(os.map λ s=>s == Ê8).length:=hp;rw[zA7] at hp';let#[r,hr,e]:=hg p ⋯;exact#[Yp r,ã7,?_];change (fst r).toNat=p;rw[e];rfl
def EK (hq:∀ r∈qs,ka (è0) r) (hu:Þ2):(Fl Å).ss.Pairwise (λ a b=>a.p≠b.p):=by
 have h:=V0 hu;rw[zaV] at h;change (Ğ fT).Pairwise _;rw[zaV];exact Ò9 (λ{r s} hr hs hlt=>?_) h;let#[a,b,c,d,rfl,h1,_]:=hq r hr;let#[a',b',c',d',rfl,h2,_]:=hq s hs;have hlt:a<a':=hlt;change a.toNat≠a'.toNat;lia
def EJ (ho:È1) Þ1 (h3:many<=3) Ň (hl:ū<=13) (hl2:Í9<=8):lQ Å where
 x:=ê
 y:=ê
 o:=λ p hp=>by rcases ho ſ with rfl | rfl <;> decide
 w:=λ r hr=>by
  let#[a,b,c,d,rfl,h1,h2,h3,h4]:=hw r hr;show#[a,b,c,d,rfl,ê,ê,ê,ê]
 q:=λ r hr=>by
  let#[a,b,c,d,rfl,h1,h2,h3,h4,_]:=hq r hr;rw[zA7] at h1;show#[a,b,c,d,rfl,ê,⋯,ê,ê]
 ln:=⋯
end
theorem Tb:∀ ù3,Æ4->∃ ps:Í,os=á2 Ô
 | [],_=>#[[],rfl]
 | t::os,h=>by
  rw[zaW,zE5] at h;let#[ps,rfl]:=Tb os h.2;cases t with
  | str s=>show#[s::ps,rfl]
  | _=>cases h.1
def MY {j:Nat}{K:KF}Ų{g2:Sm}ì é7 È3{y:T}{r:T×List Key× Û}Ý4(h0:Y[j]?=↑↑(Ĵ (Û5))) (hf:f Y=↑y) (hp:qO (y::ts)=true) (hF:K ks ts [y]=↑r) (hr:L3.eqT r.1 (Ì "ok")=true/\qO (r.1::r.2.2)=true) (hg:g2 (Y.set j ↑(Ĵ (.zK r.2.1 r.2.2)))=o):fN j K f g2 Y=o:=by
 unfold fN;ext ó9;rw[hf,zC9,Ñ hp,hF,zC9,Ñ hr];show hg
theorem LA {α β:Type}(l:Š) (d:α) (f:α->β):((Ð Ő).map λ p=>f (l.getD p d))=l.map f:=by
 exact zb8 #[] ç0;have hi:i<Ő:=by exists h2
 simp[zB1,zA1 hi]
def C_ (a:Bool):zT true (.bl a) (.bl a)=↑ Ì6:=by cases a <;> rfl
def Hc Ñ2:zT true (kh b) (Î [])=↑(.bl (!b.isEmpty)):=by
 have h:=gS zr 1 RV b;unfold zT kh;rw[Ñ9];cases b with
 | nil=>rfl
 | cons q b=>simp[eqT,qb]
section
variable {Ø}{Ą}(hw9:Ä4<=13)
abbrev jY (s:T) í8 é (m:Nat) (a b:Ô2):Ev:=[im s,im (Ã n),im (nT Ä),Ì8,↑ Ë0,im (Î (Þ6 É1)),Ñ0,a,b]
include ok hm R in
theorem DA ô Į(hc:yh (Č) q=true):ĕ=none:=by
 cases e:ĕ with
 | none=>rfl
 | some k=>
  ext ù9;rw[show k+(m-k)=m by lia,hc] at hle;rw[h1.2] at hle;show œ (hle rfl) ()
include ok hm hr R hw9
theorem CT ô ì(h4:zc 4 Y=↑(Dk Ü)) (h7:zc 7 Y=↑(nT p)) (h3:zc 3 Y=↑ Ü):zb Ú9 (mZ jB (za ç8 (za (zc 7) (za (zb zi ç5 ř) ze)))) (cS (Ì "ever")) Y=↑(.bl (!(Č).isEmpty)):=by
 have hin:xk F (F.A,F.B):=#[#[ok.a0,zC6 _],ok.b0,zC6 _];have hl:=WQ È6 hin;have hg:=á7;exact zm (gY (zw h4 (zw h7 (zw (zm h3 rfl (k8 F)) rfl))) hl rfl) rfl (í1 ?_);cases hb:Č with
 | nil=>
  have hc:yh (Č) (F.A,F.B)=É:=by rw[hb];rfl
  let#[j,hj,he]:=RJ (zA4 m) hc;rw[he];have hn:=Tu (k:=j) (λ z=>RK hp hin (by rw[he,z])) ⋯;rw[zcA] at hn;have h1:=hn "ever" za1;rw[ã] at h1;have:(num (j:Int) == ("ever":Str))=É:=Ž λ z=>h1 z.symm;show Ë Å4 this
 | cons q b=>
  have hi:=hg.yW q (by rw[hb];show za1);rw[DA ok hm R hp (xc.mpr #[q,by rw[hb];show za1,hi.1.2,hi.2.2])];rfl
theorem Gh (s:T) í8 ô:turn (zG 7) aP (nT p) (jY s n F m Œ)=↑(.nx (Ý7)):=by
 have hl:p<ø2:=by rw[md];show hp
 have he:zb zi (zc 6) (zc 7) (Ý7)=↑(kh (Č)):=zm À (S7 (ä) p hl);let#[Y',h1,h2]:=pL (is:=[8]) (g:=zG 8) (b:=Pg) zr (λ _ Y=>Y=Ý7) (Č) (Ý7) rfl (by
  rintro pf q qf e Y rfl;have hq:q∈ Č:=ð
  show#[_,oI rfl (yQ (ko (oo (gY ß3 (Aw È6 hw9 hq) rfl))) rfl),rfl])
 subst h2;exact oI rfl (zA (qk ?_ h1) (yQ (yv (zm (CT ok hm hr R hw9 hp À rfl) (zm he rfl (Hc _)) (C_ _))) rfl));show (Ë (λ z=>Ô4 z wH) he).trans rfl
theorem Gj (s:T) í8 ì(hρ:Y=Ş):
  (zu (zV 5 XO)
  (zu (yq (qm (xo (zl (o9 λ bs=>bs.all id) (za XH ze)))) (retS (cS Ì6)) yy)
  (zu (zV 6 XF)
  (zu (wD [7,8] (xC qN (za ï6 ze)) (zG 7) aP)
  (retS (cS ë)))))) Y=↑(.rt ë):=by
 subst hρ;have n8:=ok.n8;have hlen:=md F m;have hgd:∀ b∈ ä,Í4:=R.gd m (zA4 m);have hokP:∀ b∈ ä,(∀ q∈b,pY q)/\Ř<=20:=λ b hb=>#[λ q hq=>bI ok ((hgd b hb).yW q hq),by have:=(hgd b hb).qD ok.a0;have:=ok.a1;lia];have h1:XO Ş=↑(Î (Þ6 É1)):=by
  rw[<- LA (ä) [] É1,hlen];exact xB (Á9) _ õ2 (bo ⋯ rfl) Ó2 À7;have hp':=ï2 hp;exact nr rfl (gY (zw (x:=Dk Ü) rfl (zw (qJ (cB "border fa " 10) #[xb rfl (mK (n:=ď) ê),Ø3]).1 rfl)) (MX (fV F) Ę (Bo ok hr R hp')) rfl)
 have h2:XH ģ=↑(Î (Þ6 ł)):=by
  exact xB (É1) _ æ3;show nr rfl (dP rfl (zU (zw rfl (zw á5 rfl)) (BZ ok.a1 ok.b1 ok.a0 (hgd b hb))))
 have h3:XF ģ=↑(eT (ä)):=by
  exact xB (É1) kh æ3;show nr rfl (zU å1 (Oj (hokP b hb).1 (hokP b hb).2))
 have hall:(o9 λ bs=>bs.all id) [Î (Þ6 ł)]=↑ ë:=by
  change (nv (Þ6 ł)).map _=_;rw[show (Þ6 ł)=(Þ6 λ _=>true).map T.bl by rw[zD6];rfl,g_,Å1];ext ý
 let#[Y',p1,p2]:=pL (is:=[7,8]) (g:=zG 7) (b:=aP) (Á9) (λ _ Y=>Y=jY s n F m Œ) õ2 (jY s n F m Œ) rfl (by
  rintro pf p qf e Y rfl;have hp:p∈ Ð Ä:=ð
  show#[_,Gh ok hm hr R hw9 s n (ï2 hp),rfl])
 subst p2;show zA (yz h1) (zA (yQ (ko (oo (xb h2 hall))) rfl) (zA (yz h3) (zA (qk (bo ⋯ rfl) p1) rfl)))
end
end zY.V
namespace zY
open PySem L2 L3 L5 SJ
def bN Ê1 ì Ö0 (h:0<j):zb xN ø7=↑(Ã (i%j)):=zm h1 h2 (ä4)
def X2 Ê1 ì Ö0 (h:qd i j):zb ql ø7=↑(Ã (i/j)):=zm h1 h2 (ä4)
theorem Gi Ë2 (_:Å2<=63):ck [pJ ns]=↑ ë:=by
 have fm:=Zp ns 0 ();obtain⟨m0,-⟩:=bO ns 0;generalize mixed ns 0=n at *;obtain⟨many,hm⟩:∃ many:Nat,Ì9=1+n%3:=#[(1+n%3).toNat,⋯];obtain⟨more,hmo⟩:∃ more:Nat,(more:Int)=n/144%7:=#[(n/144%7).toNat,⋯];obtain⟨x,hx⟩:∃ b,b=n/4%5:=#[_,rfl];obtain⟨y,hy⟩:∃ b,b=n/24%5:=#[_,rfl];have hx':0<=x/\x<=4:=⋯;have hy':0<=y/\y<=4:=⋯;let#[os',ws,qs,w1,w2,w3,w4,w5,w6,w7,w8,w9,w10,w11,w12]:=BU ns 2 many more (Í0) () Ę ⋯;let#[os,rfl]:=V.Tb os' w3;rw[zA7] at w2;have ho:=V.J6 w3;have hb:xS (Í0) š=true:=by
  change xS (Õ [Ã x,Ã y]) _=true;rw[Ll];simp[wh];lia
 have hF:ky (zB Å)=true:=EI hb (by rw[zA7];show w2) Ę w3 w4 w5;have hk:=V.EJ ho hx' hy' w2 ⋯ w9 w11 ⋯ w8;have hlen:=text_len hk;have hback:=Av hk hF Ę (λ r hr k hk=>by
  let#[a,b,c,d,rfl,h1,h2,h3,h4]:=w9 r hr;ext Æ5) (λ r hr k hk=>by
  let#[a,b,c,d,rfl,h1,h2,h3,h4,_]:=w11 r hr;rw[zA7] at h1;ext Æ5) ⋯
 have ft:=BA hk;have w1':f6 [pJ ns,Ã 2,Ã many,Í0,Ã more]=↑(zB Å):=w1;have efl:=V.EN (x:=x) (y:=y) ho w9 w11;rw[efl] at w1' ft hback;have ok:=V.EL hx' hy' w2 Ę w9 w11 (by lia:ū<=13) w8;let#[m,hm2,hr,R]:=V.Ly ok (V.EM w2 w9 w10) (V.EK w11 w12);have hol:(V.Fl Å).os.length=many:=by change È2=many;rw[zA7];show w2
 have hwl:(V.Fl Å).ws.length<=13:=by change (Ļ _).length<=13;rw[zA7];lia
 generalize V.Fl Å=F at *;generalize ō=t at *;subst hol;have tail:=V.Gj ok hm2 hr R hwl (pJ ns) n rfl;have hW:=B3 (t:=t) ⋯ hback (V.fV F);have d4:qd n 4:=ā;have d24:qd n 24:=ā;have d144:qd n 144:=ā;have hpl:qO [Ô "ok",V.zB F]=true:=by change (true&&(è4 (V.zB F)&&true))=true;rw[V.fV F];rfl
 exact yg (zA (yz (zU Ä3 fm)) (zA (yz (y:=nT Ä) ?_) (zA (yz (zU (zw rfl (zw rfl (zw rfl (zw (x:=Í0) ?_ (zw (x:=Ã more) ?_ rfl))))) w1')) (zA rfl (zA (V.MY (ks:=[]) (ts:=[]) rfl (zm rfl (xb rfl ft) (Ñ ?_)) rfl hW #[rfl,hpl] rfl) tail))))) rfl
 .rw[show nT Ä=Ã (1+n%3) from Ë õ hm];show zm rfl (bN À ()) rfl
 .rw[hx,hy];show qM (zw (bN (X2 À d4) rfl ()) (zw (bN (X2 À d24) rfl ()) rfl)) ï
 .rw[hmo];show bN (X2 À d144) rfl ()
 .have e:("floor fa ":Str).length=9:=()
  have e2:Ç7:=rfl;lia
end zY
namespace zY
open PySem L2 L3 L5
open PyProof.Rows hiding St
set_option maxHeartbeats 0
structure CC (K:zFr) (w:World) (mg:zSV):Prop where
 c0:Cm mg "FIGURES" (Ì "0123456789")
 c1:Cm mg "KEEPER" Ŗ
 c2:Cm mg "LETTERS" (Ì "abcdefghijklmnopqrstuvwxyz")
 c3:Cm mg "MOST_COINS" (Ã 12)
 c4:Cm mg "MOST_FIGURES" (Ã 4)
 c5:Cm mg "MOST_LETTERS" (Ã 8)
 c6:Cm mg "MOST_PLACES" (Ã 8)
 c7:Cm mg "MOST_WAYS" (Ã 24)
 c8:Cq K mg "PURSES" õ9
 c9:Cm mg "TAKER" (ì5)
 c10:Zj K w mg "FORMS" nL
 c11:m8 K
section
variable (P:Program)(w:World)(K:zFr)(mg:zSV)(base:Heap)
structure D1:Prop where
 x0:FD Â "is_whole" 1 ç4 (zM zk f7)
 x1:FD Â "are_rising" 1 í6 (zM zk iL)
 x2:FD Â "is_owner" 1 ç4 (zM zk WS)
 x3:FD Â "places_of" 1 ["floor"] (zM zk fy)
 x4:FD Â "at_or_above" 1 ["pair","other"] (zM zk cv)
structure D2:Prop where
 x0:FD Â "least_pairs" 1 ["pairs"] (zM zk iJ)
 x1:FD Â "pairs_ahead_of_changes" 1 ["brims","stall","pair"] (zM zk WA)
 x2:FD Â "step_by" 1 ["floor","pair","way"] (zM zk W4)
 x3:FD Â "change_by" 1 ["brims","stall","pair","times"] (zM zk Zx)
 x4:FD Â "show_way" 1 ["way"] (zM zk W5)
structure D3:Prop where
 x0:FD Â "show_stall" 1 ["stall"] (zM zk W6)
 x1:FD Â "read_word" 1 ["word"] (zM zq Zn)
 x2:FD Â "is_made_of" 1 ["word","signs","most"] (zM zk Zv)
 x3:FD Â "show_pair" 1 ["pair"] (zM zk W7)
 x4:FD Â "_law_mixed" 1 ["_law_script","_law_k"] (zM zk iK)
structure D4:Prop where
 x0:FD Â "_law_stalls" 1 ["_law_cell","_law_owners"] (zM zk Zs)
 x1:FD Â "_law_step" 1 ["_law_floor_here","_law_pair","_law_way"] (zM zk WG)
 x2:FD Â "_law_changed" 1 ["_law_floor_here","_law_place","_law_pair","_law_times"] (zM zk WM)
 x3:FD Â "_law_text" 1 ["_law_floor_here"] (zM zq WE)
 x4:FD Â "_law_border" 1 ["_law_text_here"] (zM zk cj)
structure D5:Prop where
 x0:FD Â "_law_held" 1 ["_law_border_here","_law_pair"] (zM zk WJ)
structure D6:Prop where
 x0:FD Â "is_whole_within" 2 ["thing","least","most"] (zM zk kK)
 x1:FD Â "are_owners" 2 ç4 (zM zk cy)
 x2:FD Â "holds" 2 ["border","pair"] (zM zk cn)
 x3:FD Â "both" 2 ["border","other"] (zM zk Zy)
 x4:FD Â "either" 2 ["border","other"] (zM zk cp)
structure D7:Prop where
 x0:FD Â "border_ahead_of_way" 2 ["brims","way","border"] (zM zk WX)
 x1:FD Â "show_floor" 2 ["floor"] (zM zq cb)
 x2:FD Â "read_words" 2 ["words"] (zM zk iH)
 x3:FD Â "is_number" 2 ["word"] (zM zk Zu)
 x4:FD Â "show_border" 2 ["border"] (zM zq W8)
structure D8:Prop where
 x0:FD Â "_law_ways" 2 ["_law_script","_law_at","_law_many","_law_more","_law_span"] (zM zk Zr)
 x1:FD Â "_law_stall_cell" 2 ["_law_script","_law_at","_law_digits"] (zM zk WH)
 x2:FD Â "_law_is_border" 2 ["_law_text_here","_law_brims"] (zM zk WI)
 x3:FD Â "_law_led" 2 ["_law_floor_here","_law_edges","_law_place","_law_held_here","_law_way"] (zM zk Zt)
structure D9:Prop where
 x0:FD Â "is_row_within" 3 ["thing","bounds"] (zM zk kL)
 x1:FD Â "check_place" 3 å6 (zM zk jD)
 x2:FD Â "border_of_either" 3 ["borders"] (zM zq WV)
 x3:FD Â "border_of_all" 3 ["borders"] (zM zq WW)
 x4:FD Â "first_without" 3 ["told","place","pair"] (zM zq WT)
structure O9:Prop where
 x0:FD Â "leads_into" 3 ["floor","pair","way","held"] (zM zk WD)
 x1:FD Â "read_parts" 3 ["parts"] (zM zk Zo)
 x2:FD Â "is_of_form" 3 ["word","form"] (zM zk jC)
 x3:FD Â "_law_floor" 3 ["_law_script","_law_at","_law_many","_law_brims","_law_more"] (zM zk f6)
 x4:iO Â "thing_for" 3 ["self","word","form"] (zM zq jE)
structure O8:Prop where
 x0:FD Â "are_rows_within" 4 ["thing","bounds"] (zM zk fA)
 x1:FD Â "are_brims" 4 ç4 (zM zk Z2)
 x2:FD Â "check_pair" 4 ["floor","pair"] (zM zk Zw)
 x3:FD Â "ways_from" 4 å6 (zM zk Zm)
 x4:FD Â "stall_at" 4 å6 (zM zq d_)
structure O7:Prop where
 x0:FD Â "are_of_forms" 4 ["words","forms"] (zM zk WZ)
structure O6:Prop where
 x0:FD Â "are_ways" 5 ["thing","places"] (zM zk cw)
 x1:FD Â "are_stalls" 5 ["thing","owners"] (zM zk cx)
 x2:FD Â "border_ahead_of_changes" 5 ["floor","place","border"] (zM zq WY)
 x3:FD Â "change_at" 5 ["floor","place","pair","times"] (zM zk cu)
 x4:FD Â "read_row" 5 ["row"] (zM zq iI)
structure O5:Prop where
 x0:FD Â "is_floor" 6 ç4 (zM zk f9)
 x1:FD Â "next_border" 6 ["floor","place","last"] (zM zq WC)
 x2:FD Â "deed_into" 6 ["floor","place","pair","held"] (zM zk WU)
structure O4:Prop where
 x0:FD Â "next_round" 7 ["floor","last","fresh"] (zM zk WB)
 x1:FD Â "read_floor" 7 ["text"] (zM zq cg)
structure O3:Prop where
 x0:FD Â "rounds" 8 ["floor"] (zM zk kJ)
structure O2:Prop where
 x0:FD Â "lasts" 9 ó8 (zM zq WO)
 x1:FD Â "borders" 9 ["floor"] (zM zq Zz)
structure O1:Prop where
 x0:FD Â "keeper_deed" 10 ó8 (zM zk WR)
 x1:FD Â "answer_border" 10 í6 (zM zq cC)
 x2:FD Â "answer_lasts" 10 í6 (zM zq cz)
structure O0:Prop where
 x0:FD Â "answer_deed" 11 í6 (zM zq cA)
structure Oz:Prop where
 x0:W0 Â "ANSWERS" 11 í6 (aZ.map λ q=>(q.1,zM zq q.2))
structure Oy:Prop where
 x0:iO Â "say" 12 ["self","row"] (zM zq lR)
structure Ox:Prop where
 x0:Z4 Â 2
 x1:iM Â "keep" 2 ["self","name","floor"] (pE mO)
structure Ow:Prop where
 x0:iM Â "say" 12 ["self","row"] (pE Wr)
structure Ov:Prop where
 x0:FD Â "_law_deed_right" 13 Â7 (zM zk WL)
 x1:FD Â "_law_lasting" 13 Ö5 (zM zq jB)
structure Ou:Prop where
 x0:FD Â "_law_fewer" 14 Ö5 (zM zk WK)
structure Ot:Prop where
 x0:FD Â "_law_at_pair" 15 Â7 (zM zk WN)
variable {w K mg}(T:Bt mg)(U:Bq mg){h:Heap}(H:HH K w)(C:CC K w mg)(X:K.In h)(G:h.Ns mainGlobals mg)
include T U H C X G
theorem ID:D1 Â:=by
 cases C;exact#[yj [] (H.h0.mk X G) ?_,
  yj [(["one","other"],[none,none])] (H.h4.mk X G) ?_,
  yj [] (H.h6.mk X G) ?_,
  yj [] (H.Ei.mk X G) ?_,
  yj [] (H.S_.mk X G) ?_]
 all_goals
  intro f cdv A outer s H E hc nd hN hS hr;show#[_,(by
    repeat' first
     | show rfl
     | (change PD ð7;first | (change PD _ (.Name Ā) _;first | show zh 0 | show zh 1 | show zh 2 | show zh 3 | show zh 4 | show zh 5 | show zh 6 | show zh 7 | show zh 8 | show zh 9 | show zh 10 | show zh 11 | show zh 12 | show zh 13 | show zh 14 | show uD É2 | show uE É2 | show uF É2) | show u9 | show uQ | show x_ | show vX | (change PD _ (Ý2 (.Name "lows" _) Ā) _;apply uK hr) | (change PD _ (.Call _ [.Name "lows" _] Ā) _;apply uJ T.len) | show uL | apply uM hr | (change PD _ (Ý2 (Ó4 _ "kept" _) Ā) _;apply uw hr É2) | (change PD _ (Ý2 (.Name "FORMS" _) Ā) _;apply vI;ext ø9) | apply vQ | apply uz | apply vH | apply uo | (change PD _ (.Call (Ó4 _ "extend" _) [Ý2 ð7] Ā) _;apply ug) | apply vN | apply ux | apply vL | apply uA | apply vM | apply vT | (change PD _ (.Call (Ó4 ð7) ð7) _;apply wa;ext ø9) | (change PD _ (.Call (Ý2 (.Name Ā) Ā) ð7) _;apply uT;ext ø9) | show uN É2 hr | (change PD _ (.Call Ā Ā) _;first | (apply uP;ext ø9) | apply vK Ô | apply ue T.min | apply uu T.len | apply uq T.list T.range | apply ur T.list | apply vG T.tuple | apply uf T.max | apply ud T.min | apply uS T.any | apply uV T.all | apply vO hr T.sorted U.set | apply vP T.sorted | apply u7 õ | apply u5 T | apply u6 T | apply u4 T | apply u3 T | apply uk | apply uh) | (change PD _ (.BinOp Ā Ā) _;first | apply uW | apply vJ | apply uc | apply uH | apply v_ | apply vS | apply vR | apply uR) | (change PD _ (.Compare Ā Ā) _;first | apply um hr | apply uI hr | apply vZ hr | apply uv | apply uG | apply uB hr | apply u0 | apply uO ù8) | apply uU | apply vU | apply vV | apply vW | apply vY | apply uC | (apply pl (Hs.a hc) hS hN;ext î2) | (apply pl (Hs.b hc) hS hN;ext î2) | (apply pl (Hs.c hc) hS hN;ext î2))
     | (change y9 ð7;first | show wt | apply wu)
     | (change PE ð7;first | show zf 0 | show zf 1 | show zf 2 | show zf 3 | show zf 4 | show zf 5 | show zf 6 | show zf 7 | show zf 8 | show zf 9 | show zf 10 | show zf 11 | show zf 12 | show zf 13 | show zf 14)
     | (change zE ð7;first | (change zE _ (.Compare _ [.NotIn] [Ó4 _ "kept" _] _) _;apply wV hr É2) | (change zE _ (.Compare _ [.NotIn] [.Name "FORMS" _] _) _;apply va;ext ø9) | (change zE _ (.Compare Ā Ā) _;first | apply wR hr | apply vb hr | apply wo hr | apply wU | apply w_ | apply wZ | apply wY hr | apply wO hr | apply wX | apply wW | apply vc ù8) | apply wQ | (apply xy.pt;first | apply yB | apply yC) | apply wN)
     | apply yB | apply yC | apply wK | apply wL
     | (change yR ð7;first | show vd | apply xY | apply xJ)
     | (change zv _ (.If (.Call (Ó4 _ "startswith" _) ð7) ð7) _;apply vk) | (change we ð7;apply wM) | (change wg ð7;apply ve) | (change xW ð7;apply vF) | (change x9 ð7;first | apply vq | apply vt | (apply vv;ext ø9)) | (change xP ð7;first | show zg 0 | show zg 1 | show zg 2 | show zg 3 | show zg 4 | show zg 5 | show zg 6 | show zg 7 | show zg 8 | show zg 9 | show zg 10 | show zg 11 | show zg 12 | show zg 13 | show zg 14)
     | (change zv ð7;first | (change zv _ (.Return ↑(.Call (Ó4 _ "keep" _) ð7) _) _;first | (apply vi;ext ø9) | show yD) | (change zv _ (.If (.Compare (.Call (Ó4 _ "say" _) ð7) ð7) ð7) _;apply vh;ext ø9) | apply xZ | apply wq | apply vm zcQ rfl | apply vf zcQ | (apply zZ (Hs.a hc) hS hN nd;ext Ý9) | (apply zZ (Hs.b hc) hS hN nd;ext Ý9) | (apply zZ (Hs.c hc) hS hN nd;ext Ý9) | (change zv _ (.Assign [Ý2 (.Name "lows" _) Ā] Ā) _;apply vo hr) | apply vg | apply vj | apply vn | apply vp | show (yD:zv _ (.Raise ð7) _))
     | apply vC | apply wJ | apply wI | apply vB | show vA
     | (change yu Ā (.Name "word" _) _;apply vz)
     | (change yu Ā Ā;first | apply v8 T.range | apply v7 T.range | apply vy U.zip | apply v9 U.enumerate | apply v5)
     | show vE | show vx | apply vD | apply vw
     | show hr | show nd | intro _ _ _ _ _ nd | show ç3 | show λ _ _=>rfl | show Or.inl rfl | show Or.inr rfl | show#[rfl,rfl,rfl,rfl] | decide
     | show (rfl:Ó5[0]?=_) | show (rfl:Ó5[1]?=_) | show (rfl:Ó5[2]?=_) | show (rfl:Ó5[3]?=_) | show (rfl:Ó5[4]?=_) | show (rfl:Ó5[5]?=_) | show (rfl:Ó5[6]?=_) | show (rfl:Ó5[7]?=_) | show (rfl:Ó5[8]?=_) | show (rfl:Ó5[9]?=_) | show (rfl:Ó5[10]?=_) | show (rfl:Ó5[11]?=_) | show (rfl:Ó5[12]?=_) | show (rfl:Ó5[13]?=_) | show (rfl:Ó5[14]?=_)),(by
    repeat' first
     | (with_reducible first | show sg _ | apply rj | apply sI | apply sJ | apply sV)
     | (ext ĺ)
     | ((try first | exact zO.fr ?_ | exact zO.fe ?_);with_reducible first | apply sO | exact yJ (R:=zk) ?_ | exact yJ (R:=zq) ?_ | apply sy | exact ya (R:=zk) é2 | show sS _ | exact zS (R:=zk) (by with_reducible first | show good_add | show yc | show rP | show rO | show wC | show rM | show yd | show ye | show yf | show rD | show wA) é2 | exact z_ (R:=zk) ?_ | exact rf (R:=zk) (by with_reducible first | show rK | show rn | show rJ | show rG | show rF | show rQ | show rB | show rA | show rH | show rp | show rN | show rE) ?_ | apply sj | apply sA | apply sN | apply sW | apply sP | show rg _ | show sC _ | show sL | apply sQ | apply sT | apply sM | exact rb Ë9 Ë9 é2 ?_ | apply sH | apply sE | show s_ _ | apply sF | apply rh | apply sU | show ra _ | apply sG | exact sD (R:=zk) (by with_reducible first | show r9 | show rL | show rq | show r0 | show rC) é2)
     | (exact zO.er ?_;ext ĺ)
     | (with_reducible first | apply u_ | apply tF | apply tq | show uZ | apply tj | apply tG | apply tE | apply t4 | apply uX | show yE _ | apply t8 | show tm | apply tw | apply uY | apply t6 | apply t5 | show tD _ | apply t9 | apply tp | show t7 _ | apply tf)
     | (with_reducible first | show se | apply sf | show t_ | apply sd | apply sk | apply su | apply sY | apply sX | apply sZ | show sr | show sR | apply sv | show tT _ | show tQ | apply tR | show tU | apply tV | apply tI | apply tM | apply tL | apply tJ | apply tK | apply tN | apply tP | apply tH | show tZ | apply tY)
     | (first | show tX _ | apply tS | apply tW)
     | show yp.fv (yE _)
     | show Bool.false)]
)
example:=`(
example ė:=.Subscript
example Ģ:=.Name "lows" _
example ģ:=.Compare
example ċ:=.Attribute
example æ _:=x _ _ _
example ě:=by show zx hS hN;decide +kernel
example Ġ:=by assumption
example ġ _:=x zL zL fit_le fit_le zF.mo zF.mo
example ÿ:=(by ext Ġ)
example À:=by (change PD æ;first | (change PD _ (.Name _ _) _;first | show zh 0 | show zh 1 | show zh 2 | show zh 3 | show zh 4 | show zh 5 | show zh 6 | show zh 7 | show zh 8 | show zh 9 | show zh 10 | show zh 11 | show zh 12 | show zh 13 | show zh 14 | show uD ÿ | show uE ÿ | show uF ÿ) | show u9 | show uQ | show x_ | show vX | (change PD _ (ė (Ģ) _ _) _;apply uK hr) | (change PD _ (.Call _ [Ģ] _ _) _;apply uJ T.len) | show uL | apply uM hr | (change PD _ (ė (ċ _ "kept" _) _ _) _;apply uw hr ÿ) | (change PD _ (ė (.Name "FORMS" _) _ _) _;apply vI;ext Ġ) | apply vQ | apply uz | apply vH | apply uo | (change PD _ (.Call (ċ _ "extend" _) [ė æ] _ _) _;apply ug) | apply vN | apply ux | apply vL | apply uA | apply vM | apply vT | (change PD _ (.Call (ċ æ) æ) _;apply wa;ext Ġ) | (change PD _ (.Call (ė (.Name _ _) _ _) æ) _;apply uT;ext Ġ) | show uN ÿ hr | (change PD _ (.Call æ _) _;first | (apply uP;ext Ġ) | apply vK T.str | apply ue T.min | apply uu T.len | apply uq T.list T.range | apply ur T.list | apply vG T.tuple | apply uf T.max | apply ud T.min | apply uS T.any | apply uV T.all | apply vO hr T.sorted U.set | apply vP T.sorted | apply u7 T.int | apply u5 T | apply u6 T | apply u4 T | apply u3 T | apply uk | apply uh) | (change PD _ (.BinOp æ _) _;first | apply uW | apply vJ | apply uc | apply uH | apply v_ | apply vS | apply vR | apply uR) | (change PD _ (ģ æ _) _;first | apply um hr | apply uI hr | apply vZ hr | apply uv | apply uG | apply uB hr | apply u0 | apply uO ġ) | apply uU | apply vU | apply vV | apply vW | apply vY | apply uC | (apply pl (Hs.a hc) hS hN;ext ě) | (apply pl (Hs.b hc) hS hN;ext ě) | (apply pl (Hs.c hc) hS hN;ext ě))
example Ĉ:=(by with_reducible first | show yc | show yd | show ye | show yf)
example Á:=by ((try first | exact zO.fr ?_ | exact zO.fe ?_);with_reducible first | apply sO | exact yJ (R:=zk) ?_ | exact yJ (R:=zq) ?_ | apply sy | exact ya (R:=zk) ?_ ?_ | show sS _ | exact zS (R:=zk) (by with_reducible first | show good_add | show yc | show rP | show rO | show wC | show rM | show yd | show ye | show yf | show rD | show wA) ?_ ?_ | exact z_ (R:=zk) ?_ | exact rf (R:=zk) (by with_reducible first | show rK | show rn | show rJ | show rG | show rF | show rQ | show rB | show rA | show rH | show rp | show rN | show rE) ?_ | apply sj | apply sA | apply sN | apply sW | apply sP | show rg _ | show sC _ | show sL | apply sQ | apply sT | apply sM | exact rb Ĉ Ĉ ?_ ?_ ?_ | apply sH | apply sE | show s_ _ | apply sF | apply rh | apply sU | show ra _ | apply sG | exact sD (R:=zk) (by with_reducible first | show r9 | show rL | show rq | show r0 | show rC) ?_ ?_)
example ē:=by show zx hS hN;rfl;decide +kernel
example Â:=by (change zv æ;first | (change zv _ (.Return ↑(.Call (ċ _ "keep" _) æ) _) _;first | (apply vi;ext Ġ) | show yD) | (change zv _ (.If (ģ (.Call (ċ _ "say" _) æ) æ) æ) _;apply vh;ext Ġ) | apply xZ | apply wq | apply vm zcQ rfl | apply vf zcQ | (apply zZ (Hs.a hc) hS hN nd;ext ē) | (apply zZ (Hs.b hc) hS hN nd;ext ē) | (apply zZ (Hs.c hc) hS hN nd;ext ē) | (change zv _ (.Assign [ė (Ģ) _ _] _ _) _;apply vo hr) | apply vg | apply vj | apply vn | apply vp | show (yD:zv _ (.Raise æ) _))
example Ã:=by (change zE æ;first | (change zE _ (ģ _ [.NotIn] [ċ _ "kept" _] _) _;apply wV hr ÿ) | (change zE _ (ģ _ [.NotIn] [.Name "FORMS" _] _) _;apply va;ext Ġ) | (change zE _ (ģ æ _) _;first | apply wR hr | apply vb hr | apply wo hr | apply wU | apply w_ | apply wZ | apply wY hr | apply wO hr | apply wX | apply wW | apply vc ġ) | apply wQ | (apply xy.pt;first | apply yB | apply yC) | apply wN)
example Ä:=by (with_reducible first | show se | apply sf | show t_ | apply sd | apply sk | apply su | apply sY | apply sX | apply sZ | show sr | show sR | apply sv | show tT _ | show tQ | apply tR | show tU | apply tV | apply tI | apply tM | apply tL | apply tJ | apply tK | apply tN | apply tP | apply tH | show tZ | apply tY)
example Å:=(_:List Str)
example Æ:=by with_reducible first | show yF _ | show yG | exact ya (R:=zq) ?_ ?_ | exact zS (R:=zq) yL ?_ ?_ | exact z_ (R:=zq) ?_ | apply yH | apply yI
example Ç:=by (with_reducible first | apply u_ | apply tF | apply tq | show uZ | apply tj | apply tG | apply tE | apply t4 | apply uX | show yE _ | apply t8 | show tm | apply tw | apply uY | apply t6 | apply t5 | show tD _ | apply t9 | apply tp | show t7 _ | apply tf)
example È:=by (change PE æ;first | show zf 0 | show zf 1 | show zf 2 | show zf 3 | show zf 4 | show zf 5 | show zf 6 | show zf 7 | show zf 8 | show zf 9 | show zf 10 | show zf 11 | show zf 12 | show zf 13 | show zf 14)
example É:=by (change xP æ;first | show zg 0 | show zg 1 | show zg 2 | show zg 3 | show zg 4 | show zg 5 | show zg 6 | show zg 7 | show zg 8 | show zg 9 | show zg 10 | show zg 11 | show zg 12 | show zg 13 | show zg 14)
example Ê:=by (change yu æ _;first | apply v8 T.range | apply v7 T.range | apply vy U.zip | apply v9 U.enumerate | apply v5)
example Ë:=zv _ (.If (.Call (ċ _ "startswith" _) æ) æ) _
example Ì:=by (with_reducible first | show sg _ | apply rj | apply sI | apply sJ | apply sV)
example Ě:=by cases C;cases d1;cases d2
example Í:=by ext Ě;cases d3;cases d4;cases d5
example Î:=by intro f cdv A outer s H E hc nd hN hS hr
example Ï:=by (change x9 æ;first | apply vq | apply vt | (apply vv;ext Ġ))
example Ð:=by (change yR æ;first | show vd | apply xY | apply xJ)
example ĝ:=by ext Í;cases d6;cases d7
example Ñ:=by ext ĝ;cases d8;cases d9;cases d10
example Ā _:=x X G
example Ò _:=x l.prog base T U H C Ā d1
example Ó:=yu _ _ (.Name "word" _) _
example Ô:=by (change y9 æ;first | show wt | apply wu)
example Õ _:=x P w K mg base
example Ö:=#[rfl,rfl,rfl,rfl]
example ĉ:=by ext Ñ;cases d11;cases d12
example Ø:=by ext ĉ;cases d13;cases d14;cases d15
example Ù:=by (exact zO.er ?_;ext Æ)
example Ú:=by (first | show tX _ | apply tS | apply tW)
example Ď _:=x Ò d2 d3 d4 d5
example Û _:=x Ď d6 d7 d8 d9
example ď _:=x d2 d3 d4 d5 d6
example Ü _:=x ď d7 d8 d9 d10
example Đ _:=x d3 d4 d5 d6 d7
example Ý _:=x Đ d8 d9 d10 d11
example Þ _:=x Ď d6 d7 d8
example ĕ _:=x d10 d11 d12
example Ċ _:=x ĕ
example ß _:=x d4 d5 d6 d7 d8 d9 Ċ
example à:=by (change we æ;apply wM)
example á:=(rfl:Å[10]?=_)
example â:=(rfl:Å[11]?=_)
example ã:=(rfl:Å[12]?=_)
example ä:=(rfl:Å[13]?=_)
example å:=(rfl:Å[14]?=_)
example ç:=by (change wg æ;apply ve)
example Ę _:=x d10 d11 d12 d13
example ć _:=x Û Ę d14
example è _:=x ć d15 d16 d17
example é:=(rfl:Å[0]?=_)
example ê:=(rfl:Å[1]?=_)
example ë:=(rfl:Å[2]?=_)
example ì:=(rfl:Å[3]?=_)
example í:=(rfl:Å[4]?=_)
example î:=(rfl:Å[5]?=_)
example ï:=by (change xW æ;apply vF)
example ð:=(rfl:Å[6]?=_)
example ñ:=(rfl:Å[7]?=_)
example ò:=(rfl:Å[8]?=_)
example ó:=(rfl:Å[9]?=_)
example Ē:=by ext Ø;cases d16;cases d17
example ô:=by ext Ē;cases d18;cases d19;cases d20
example õ:=by intro _ _ _ _ _ nd
example ö:=yp.fv (yE _)
example ø:=by (change Ë;apply vk)
example ù:=λ _ _=>rfl
example ú:=Or.inl rfl
example û:=Or.inr rfl
example ü:=Bool.false
example ý:=by (change Ó;apply vz)
example þ:=λ _=>rfl
example ā:=by ext ô;cases d21;cases d22;cases d23
example Ă _:=x è d18 d19 d20 d21
example ă _:=x è d18 d19 d20 d21 d22
example Ą:=(["_law_k","_law_floor_here","_law_place"],[none,↑1,↑3])
example ą _:=x Û Ę
example Ć _:=x Û ĕ
example Č _:=x Ę
example č _:=x Ę d14
example đ:=[none,↑1]
example Ĕ:=by (ext Æ)
example Ė:=K w.params
example ę _:=x [(["word","form","self"],[none,none,↑0])] H.TN
example Ĝ:=[none]
example Ğ _:=x mainGlobals mg
example ğ _:=x fd ["_law_script"] (om K (zM zk ck))
variable (d1:D1 Õ)
include d1
theorem Ip:D2 Õ:=by
 cases C;cases d1;exact#[yj [] (H.Ee.mk Ā) ?_,
  yj [] (H.F_.mk Ā) ?_,
  yj [] (H.FQ.mk Ā) ?_,
  yj [] (H.eQ.mk Ā) ?_,
  yj [] (H.FJ.mk Ā) ?_]
 all_goals
  ext Î;show#[_,(by
    repeat' first
     | show rfl
     | ext À
     | ext Ô
     | ext È
     | ext Ã
     | apply yB | apply yC | apply wK | apply wL
     | ext Ð
     | ext ø | ext à | ext ç | ext ï | ext Ï | ext É
     | ext Â
     | apply vC | apply wJ | apply wI | apply vB | show vA
     | ext ý
     | ext Ê
     | show vE | show vx | apply vD | apply vw
     | show hr | show nd | ext õ | show þ | show ù | show ú | show û | show Ö | decide
     | show é | show ê | show ë | show ì | show í | show î | show ð | show ñ | show ò | show ó | show á | show â | show ã | show ä | show å),(by
    repeat' first
     | ext Ì
     | ext Ĕ
     | ext Á
     | ext Ù
     | ext Ç
     | ext Ä
     | ext Ú
     | show ö
     | show ü)]
variable (d2:D2 Õ)
include d2
theorem Ig:D3 Õ:=by
 ext Ě;exact#[yj [] (H.FI.mk Ā) ?_,
  yj [] (H.FG.mk Ā) ?_,
  yj [(["sign","signs"],đ)] (H.FA.mk Ā) ?_,
  yj [] (H.F5.mk Ā) ?_,
  yj [] (H.Fv.mk Ā) ?_]
 all_goals
  ext Î;show#[_,(by
    repeat' first
     | show rfl
     | ext À
     | ext Ô
     | ext È
     | ext Ã
     | apply yB | apply yC | apply wK | apply wL
     | ext Ð
     | ext ø | ext à | ext ç | ext ï | ext Ï | ext É
     | ext Â
     | apply vC | apply wJ | apply wI | apply vB | show vA
     | ext ý
     | ext Ê
     | show vE | show vx | apply vD | apply vw
     | show hr | show nd | ext õ | show þ | show ù | show ú | show û | show Ö | decide
     | show é | show ê | show ë | show ì | show í | show î | show ð | show ñ | show ò | show ó | show á | show â | show ã | show ä | show å),(by
    repeat' first
     | ext Ì
     | ext Ĕ
     | ext Á
     | ext Ù
     | ext Ç
     | ext Ä
     | ext Ú
     | show ö
     | show ü)]
variable (d3:D3 Õ)
include d3
theorem Ie:D4 Õ:=by
 ext Ě;cases d3;exact#[yj [] (H.Ft.mk Ā) ?_,
  yj [] (H.Fp.mk Ā) ?_,
  yj [(["_law_stall","_law_place"],đ)] (H.Fo.mk Ā) ?_,
  yj [] (H.Fm.mk Ā) ?_,
  yj [] (H.Fj.mk Ā) ?_]
 all_goals
  ext Î;show#[_,(by
    repeat' first
     | show rfl
     | ext À
     | ext Ô
     | ext È
     | ext Ã
     | apply yB | apply yC | apply wK | apply wL
     | ext Ð
     | ext ø | ext à | ext ç | ext ï | ext Ï | ext É
     | ext Â
     | apply vC | apply wJ | apply wI | apply vB | show vA
     | ext ý
     | ext Ê
     | show vE | show vx | apply vD | apply vw
     | show hr | show nd | ext õ | show þ | show ù | show ú | show û | show Ö | decide
     | show é | show ê | show ë | show ì | show í | show î | show ð | show ñ | show ò | show ó | show á | show â | show ã | show ä | show å),(by
    repeat' first
     | ext Ì
     | ext Ĕ
     | ext Á
     | ext Ù
     | ext Ç
     | ext Ä
     | ext Ú
     | show ö
     | show ü)]
variable (d4:D4 Õ)
include d4
theorem Ic:D5 Õ:=by
 ext Ě;cases d3;cases d4;exact#[yj [(["_law_x","_law_y","_law_pair"],[none,none,↑1])] (H.qF.mk Ā) ?_]
 all_goals
  ext Î;show#[_,(by
    repeat' first
     | show rfl
     | ext À
     | ext Ô
     | ext È
     | ext Ã
     | apply yB | apply yC | apply wK | apply wL
     | ext Ð
     | ext ø | ext à | ext ç | ext ï | ext Ï | ext É
     | ext Â
     | apply vC | apply wJ | apply wI | apply vB | show vA
     | ext ý
     | ext Ê
     | show vE | show vx | apply vD | apply vw
     | show hr | show nd | ext õ | show þ | show ù | show ú | show û | show Ö | decide
     | show é | show ê | show ë | show ì | show í | show î | show ð | show ñ | show ò | show ó | show á | show â | show ã | show ä | show å),(by
    repeat' first
     | ext Ì
     | ext Ĕ
     | ext Á
     | ext Ù
     | ext Ç
     | ext Ä
     | ext Ú
     | show ö
     | show ü)]
variable (d5:D5 Õ)
include d5
theorem Ib:D6 Õ:=by
 ext Í;exact#[yj [] (H.h1.mk Ā) ?_,
  yj [(["owner"],Ĝ)] (H.h7.mk Ā) ?_,
  yj [(["own","pair"],đ)] (H.Ed.mk Ā) ?_,
  yj [(["pair"],Ĝ)] (H.Ec.mk Ā) ?_,
  yj [] (H.Eb.mk Ā) ?_]
 all_goals
  ext Î;show#[_,(by
    repeat' first
     | show rfl
     | ext À
     | ext Ô
     | ext È
     | ext Ã
     | apply yB | apply yC | apply wK | apply wL
     | ext Ð
     | ext ø | ext à | ext ç | ext ï | ext Ï | ext É
     | ext Â
     | apply vC | apply wJ | apply wI | apply vB | show vA
     | ext ý
     | ext Ê
     | show vE | show vx | apply vD | apply vw
     | show hr | show nd | ext õ | show þ | show ù | show ú | show û | show Ö | decide
     | show é | show ê | show ë | show ì | show í | show î | show ð | show ñ | show ò | show ó | show á | show â | show ã | show ä | show å),(by
    repeat' first
     | ext Ì
     | ext Ĕ
     | ext Á
     | ext Ù
     | ext Ç
     | ext Ä
     | ext Ú
     | show ö
     | show ü)]
variable (d6:D6 Õ)
include d6
theorem Ia:D7 Õ:=by
 ext Í;cases d6;exact#[yj [(["pair","way"],đ),(["pair","brims"],[none,↑0])] (H.Ea.mk Ā) ?_,
  yj [(["way"],Ĝ),(["stall"],Ĝ)] (H.FH.mk Ā) ?_,
  yj [(["word"],Ĝ)] (H.FF.mk Ā) ?_,
  yj [] (H.F9.mk Ā) ?_,
  yj [(["pair"],Ĝ)] (H.F4.mk Ā) ?_]
 all_goals
  ext Î;show#[_,(by
    repeat' first
     | show rfl
     | ext À
     | ext Ô
     | ext È
     | ext Ã
     | apply yB | apply yC | apply wK | apply wL
     | ext Ð
     | ext ø | ext à | ext ç | ext ï | ext Ï | ext É
     | ext Â
     | apply vC | apply wJ | apply wI | apply vB | show vA
     | ext ý
     | ext Ê
     | show vE | show vx | apply vD | apply vw
     | show hr | show nd | ext õ | show þ | show ù | show ú | show û | show Ö | decide
     | show é | show ê | show ë | show ì | show í | show î | show ð | show ñ | show ò | show ó | show á | show â | show ã | show ä | show å),(by
    repeat' first
     | ext Ì
     | ext Ĕ
     | ext Á
     | ext Ù
     | ext Ç
     | ext Ä
     | ext Ú
     | show ö
     | show ü)]
variable (d7:D7 Õ)
include d7
theorem J_:D8 Õ:=by
 ext ĝ;exact#[yj [] (H.Fu.mk Ā) ?_,
  yj [] (H.Fs.mk Ā) ?_,
  yj [(["_law_k"],Ĝ)] (H.Fh.mk Ā) ?_,
  yj [] (H.Fg.mk Ā) ?_]
 all_goals
  ext Î;show#[_,(by
    repeat' first
     | show rfl
     | ext À
     | ext Ô
     | ext È
     | ext Ã
     | apply yB | apply yC | apply wK | apply wL
     | ext Ð
     | ext ø | ext à | ext ç | ext ï | ext Ï | ext É
     | ext Â
     | apply vC | apply wJ | apply wI | apply vB | show vA
     | ext ý
     | ext Ê
     | show vE | show vx | apply vD | apply vw
     | show hr | show nd | ext õ | show þ | show ù | show ú | show û | show Ö | decide
     | show é | show ê | show ë | show ì | show í | show î | show ð | show ñ | show ò | show ó | show á | show â | show ã | show ä | show å),(by
    repeat' first
     | ext Ì
     | ext Ĕ
     | ext Á
     | ext Ù
     | ext Ç
     | ext Ä
     | ext Ú
     | show ö
     | show ü)]
variable (d8:D8 Õ)
include d8
theorem JZ:D9 Õ:=by
 ext ĝ;cases d8;exact#[yj [(["number","bound"],[none,none])] (H.h2.mk Ā) ?_,
  yj [] (H.eR.mk Ā) ?_,
  yj [] (H.ao.mk Ā) ?_,
  yj [] (H.FY.mk Ā) ?_,
  yj [] (H.FU.mk Ā) ?_]
 all_goals
  ext Î;show#[_,(by
    repeat' first
     | show rfl
     | ext À
     | ext Ô
     | ext È
     | ext Ã
     | apply yB | apply yC | apply wK | apply wL
     | ext Ð
     | ext ø | ext à | ext ç | ext ï | ext Ï | ext É
     | ext Â
     | apply vC | apply wJ | apply wI | apply vB | show vA
     | ext ý
     | ext Ê
     | show vE | show vx | apply vD | apply vw
     | show hr | show nd | ext õ | show þ | show ù | show ú | show û | show Ö | decide
     | show é | show ê | show ë | show ì | show í | show î | show ð | show ñ | show ò | show ó | show á | show â | show ã | show ä | show å),(by
    repeat' first
     | ext Ì
     | ext Ĕ
     | ext Á
     | ext Ù
     | ext Ç
     | ext Ä
     | ext Ú
     | show ö
     | show ü)]
variable (d9:D9 Õ)
include d9
theorem IC:O9 Õ:=by
 ext ĝ;cases d8;cases d9;exact#[yj [] (H.FN.mk Ā) ?_,
  yj [] (H.FE.mk Ā) ?_,
  yj [] (H.F8.mk Ā) ?_,
  yj [] (H.Fq.mk Ā) ?_,
  Rv [] H.HF ?_]
 all_goals
  ext Î;show#[_,(by
    repeat' first
     | show rfl
     | ext À
     | ext Ô
     | ext È
     | ext Ã
     | apply yB | apply yC | apply wK | apply wL
     | ext Ð
     | ext ø | ext à | ext ç | ext ï | ext Ï | ext É
     | ext Â
     | apply vC | apply wJ | apply wI | apply vB | show vA
     | ext ý
     | ext Ê
     | show vE | show vx | apply vD | apply vw
     | show hr | show nd | ext õ | show þ | show ù | show ú | show û | show Ö | decide
     | show é | show ê | show ë | show ì | show í | show î | show ð | show ñ | show ò | show ó | show á | show â | show ã | show ä | show å),(by
    repeat' first
     | ext Ì
     | ext Ĕ
     | ext Á
     | ext Ù
     | ext Ç
     | ext Ä
     | ext Ú
     | show ö
     | show ü)]
variable (d10:O9 Õ)
include d10
theorem IB:O8 Õ:=by
 ext Ñ;exact#[yj [(["row","bounds"],đ)] (H.h3.mk Ā) ?_,
  yj [] (H.h5.mk Ā) ?_,
  yj [] (H.Eh.mk Ā) ?_,
  yj [(["number","way","place"],[none,none,↑1])] (H.Eg.mk Ā) ?_,
  yj [] (H.Ef.mk Ā) ?_]
 all_goals
  ext Î;show#[_,(by
    repeat' first
     | show rfl
     | ext À
     | ext Ô
     | ext È
     | ext Ã
     | apply yB | apply yC | apply wK | apply wL
     | ext Ð
     | ext ø | ext à | ext ç | ext ï | ext Ï | ext É
     | ext Â
     | apply vC | apply wJ | apply wI | apply vB | show vA
     | ext ý
     | ext Ê
     | show vE | show vx | apply vD | apply vw
     | show hr | show nd | ext õ | show þ | show ù | show ú | show û | show Ö | decide
     | show é | show ê | show ë | show ì | show í | show î | show ð | show ñ | show ò | show ó | show á | show â | show ã | show ä | show å),(by
    repeat' first
     | ext Ì
     | ext Ĕ
     | ext Á
     | ext Ù
     | ext Ç
     | ext Ä
     | ext Ú
     | show ö
     | show ü)]
variable (d11:O8 Õ)
include d11
theorem IA:O7 Õ:=by
 ext Ñ;cases d11;exact#[yj [(["word","form"],[none,none])] (H.F7.mk Ā) ?_]
 all_goals
  ext Î;show#[_,(by
    repeat' first
     | show rfl
     | ext À
     | ext Ô
     | ext È
     | ext Ã
     | apply yB | apply yC | apply wK | apply wL
     | ext Ð
     | ext ø | ext à | ext ç | ext ï | ext Ï | ext É
     | ext Â
     | apply vC | apply wJ | apply wI | apply vB | show vA
     | ext ý
     | ext Ê
     | show vE | show vx | apply vD | apply vw
     | show hr | show nd | ext õ | show þ | show ù | show ú | show û | show Ö | decide
     | show é | show ê | show ë | show ì | show í | show î | show ð | show ñ | show ò | show ó | show á | show â | show ã | show ä | show å),(by
    repeat' first
     | ext Ì
     | ext Ĕ
     | ext Á
     | ext Ù
     | ext Ç
     | ext Ä
     | ext Ú
     | show ö
     | show ü)]
variable (d12:O7 Õ)
include d12
theorem Iz:O6 Õ:=by
 ext ĉ;exact#[yj [(["way"],Ĝ),(["start","starts"],[none,↑4])] (H.h8.mk Ā) ?_,
  yj [(["stall"],Ĝ),(["stall","owners"],đ)] (H.h9.mk Ā) ?_,
  yj [] (H.FZ.mk Ā) ?_,
  yj [] (H.FP.mk Ā) ?_,
  yj [] (H.F6.mk Ā) ?_]
 all_goals
  ext Î;show#[_,(by
    repeat' first
     | show rfl
     | ext À
     | ext Ô
     | ext È
     | ext Ã
     | apply yB | apply yC | apply wK | apply wL
     | ext Ð
     | ext ø | ext à | ext ç | ext ï | ext Ï | ext É
     | ext Â
     | apply vC | apply wJ | apply wI | apply vB | show vA
     | ext ý
     | ext Ê
     | show vE | show vx | apply vD | apply vw
     | show hr | show nd | ext õ | show þ | show ù | show ú | show û | show Ö | decide
     | show é | show ê | show ë | show ì | show í | show î | show ð | show ñ | show ò | show ó | show á | show â | show ã | show ä | show å),(by
    repeat' first
     | ext Ì
     | ext Ĕ
     | ext Á
     | ext Ù
     | ext Ç
     | ext Ä
     | ext Ú
     | show ö
     | show ü)]
variable (d13:O6 Õ)
include d13
theorem Iy:O5 Õ:=by
 ext ĉ;cases d13;exact#[yj [] (H.Ej.mk Ā) ?_,
  yj [(["number","floor"],[none,↑0]),(["way","floor","last"],[none,↑0,↑2])] (H.FX.mk Ā) ?_,
  yj [] (H.FL.mk Ā) ?_]
 all_goals
  ext Î;show#[_,(by
    repeat' first
     | show rfl
     | ext À
     | ext Ô
     | ext È
     | ext Ã
     | apply yB | apply yC | apply wK | apply wL
     | ext Ð
     | ext ø | ext à | ext ç | ext ï | ext Ï | ext É
     | ext Â
     | apply vC | apply wJ | apply wI | apply vB | show vA
     | ext ý
     | ext Ê
     | show vE | show vx | apply vD | apply vw
     | show hr | show nd | ext õ | show þ | show ù | show ú | show û | show Ö | decide
     | show é | show ê | show ë | show ì | show í | show î | show ð | show ñ | show ò | show ó | show á | show â | show ã | show ä | show å),(by
    repeat' first
     | ext Ì
     | ext Ĕ
     | ext Á
     | ext Ù
     | ext Ç
     | ext Ä
     | ext Ú
     | show ö
     | show ü)]
variable (d14:O5 Õ)
include d14
theorem Iw:O4 Õ:=by
 ext ĉ;cases d13;cases d14;exact#[yj [(["way","fresh"],[none,↑2])] (H.FW.mk Ā) ?_,
  yj [] (H.FC.mk Ā) ?_]
 all_goals
  ext Î;show#[_,(by
    repeat' first
     | show rfl
     | ext À
     | ext Ô
     | ext È
     | ext Ã
     | apply yB | apply yC | apply wK | apply wL
     | ext Ð
     | ext ø | ext à | ext ç | ext ï | ext Ï | ext É
     | ext Â
     | apply vC | apply wJ | apply wI | apply vB | show vA
     | ext ý
     | ext Ê
     | show vE | show vx | apply vD | apply vw
     | show hr | show nd | ext õ | show þ | show ù | show ú | show û | show Ö | decide
     | show é | show ê | show ë | show ì | show í | show î | show ð | show ñ | show ò | show ó | show á | show â | show ã | show ä | show å),(by
    repeat' first
     | ext Ì
     | ext Ĕ
     | ext Á
     | ext Ù
     | ext Ç
     | ext Ä
     | ext Ú
     | show ö
     | show ü)]
variable (d15:O4 Õ)
include d15
theorem Iv:O3 Õ:=by
 ext Ø;exact#[yj [(["place","border","last"],[none,none,↑3])] (H.FV.mk Ā) ?_]
 all_goals
  ext Î;show#[_,(by
    repeat' first
     | show rfl
     | ext À
     | ext Ô
     | ext È
     | ext Ã
     | apply yB | apply yC | apply wK | apply wL
     | ext Ð
     | ext ø | ext à | ext ç | ext ï | ext Ï | ext É
     | ext Â
     | apply vC | apply wJ | apply wI | apply vB | show vA
     | ext ý
     | ext Ê
     | show vE | show vx | apply vD | apply vw
     | show hr | show nd | ext õ | show þ | show ù | show ú | show û | show Ö | decide
     | show é | show ê | show ë | show ì | show í | show î | show ð | show ñ | show ò | show ó | show á | show â | show ã | show ä | show å),(by
    repeat' first
     | ext Ì
     | ext Ĕ
     | ext Á
     | ext Ù
     | ext Ç
     | ext Ä
     | ext Ú
     | show ö
     | show ü)]
variable (d16:O3 Õ)
include d16
theorem Iu:O2 Õ:=by
 ext Ø;cases d16;exact#[yj [] (H.FT.mk Ā) ?_,
  yj [] (H.FO.mk Ā) ?_]
 all_goals
  ext Î;show#[_,(by
    repeat' first
     | show rfl
     | ext À
     | ext Ô
     | ext È
     | ext Ã
     | apply yB | apply yC | apply wK | apply wL
     | ext Ð
     | ext ø | ext à | ext ç | ext ï | ext Ï | ext É
     | ext Â
     | apply vC | apply wJ | apply wI | apply vB | show vA
     | ext ý
     | ext Ê
     | show vE | show vx | apply vD | apply vw
     | show hr | show nd | ext õ | show þ | show ù | show ú | show û | show Ö | decide
     | show é | show ê | show ë | show ì | show í | show î | show ð | show ñ | show ò | show ó | show á | show â | show ã | show ä | show å),(by
    repeat' first
     | ext Ì
     | ext Ĕ
     | ext Á
     | ext Ù
     | ext Ç
     | ext Ä
     | ext Ú
     | show ö
     | show ü)]
variable (d17:O2 Õ)
include d17
theorem Ir:O1 Õ:=by
 ext Ē;exact#[yj [] (H.FK.mk Ā) ?_,
  yj [] (H.F0.mk Ā) ?_,
  yj [] (H.Fz.mk Ā) ?_]
 all_goals
  ext Î;show#[_,(by
    repeat' first
     | show rfl
     | ext À
     | ext Ô
     | ext È
     | ext Ã
     | apply yB | apply yC | apply wK | apply wL
     | ext Ð
     | ext ø | ext à | ext ç | ext ï | ext Ï | ext É
     | ext Â
     | apply vC | apply wJ | apply wI | apply vB | show vA
     | ext ý
     | ext Ê
     | show vE | show vx | apply vD | apply vw
     | show hr | show nd | ext õ | show þ | show ù | show ú | show û | show Ö | decide
     | show é | show ê | show ë | show ì | show í | show î | show ð | show ñ | show ò | show ó | show á | show â | show ã | show ä | show å),(by
    repeat' first
     | ext Ì
     | ext Ĕ
     | ext Á
     | ext Ù
     | ext Ç
     | ext Ä
     | ext Ú
     | show ö
     | show ü)]
variable (d18:O1 Õ)
include d18
theorem Iq:O0 Õ:=by
 ext Ē;cases d18;exact#[yj [] (H.Fw.mk Ā) ?_]
 all_goals
  ext Î;show#[_,(by
    repeat' first
     | show rfl
     | ext À
     | ext Ô
     | ext È
     | ext Ã
     | apply yB | apply yC | apply wK | apply wL
     | ext Ð
     | ext ø | ext à | ext ç | ext ï | ext Ï | ext É
     | ext Â
     | apply vC | apply wJ | apply wI | apply vB | show vA
     | ext ý
     | ext Ê
     | show vE | show vx | apply vD | apply vw
     | show hr | show nd | ext õ | show þ | show ù | show ú | show û | show Ö | decide
     | show é | show ê | show ë | show ì | show í | show î | show ð | show ñ | show ò | show ó | show á | show â | show ã | show ä | show å),(by
    repeat' first
     | ext Ì
     | ext Ĕ
     | ext Á
     | ext Ù
     | ext Ç
     | ext Ä
     | ext Ú
     | show ö
     | show ü)]
variable (d19:O0 Õ)
include d19
theorem Io:Oz Õ:=by
 ext Ē;cases d18;cases d19;show#[H.ax.mk Ā (Wl ÿ (Wl ÿ (Wl ÿ Bl () ()) () ()) () ())]
variable (d20:Oz Õ)
include d20
theorem Im:Oy Õ:=by
 ext ô;exact#[Rv ę ?_]
 all_goals
  ext Î;show#[_,(by
    repeat' first
     | show rfl
     | ext À
     | ext Ô
     | ext È
     | ext Ã
     | apply yB | apply yC | apply wK | apply wL
     | ext Ð
     | ext ø | ext à | ext ç | ext ï | ext Ï | ext É
     | ext Â
     | apply vC | apply wJ | apply wI | apply vB | show vA
     | ext ý
     | ext Ê
     | show vE | show vx | apply vD | apply vw
     | show hr | show nd | ext õ | show þ | show ù | show ú | show û | show Ö | decide
     | show é | show ê | show ë | show ì | show í | show î | show ð | show ñ | show ò | show ó | show á | show â | show ã | show ä | show å),(by
    repeat' first
     | ext Ì
     | ext Ĕ
     | ext Á
     | ext Ù
     | ext Ç
     | ext Ä
     | ext Ú
     | show ö
     | show ü)]
variable (d21:Oy Õ)
include d21
theorem Il:Ox Õ:=by
 ext ô;cases d21;show#[Dc H.hk H.HI Ā,
  EZ H.hk H.HG]
variable (d22:Ox Õ)
include d22
theorem Ik:Ow Õ:=by
 ext ô;cases d21;cases d22;exact#[ES ę rfl ?_];ext Î;show#[_,_,_,_,_,(by
   exact#[?_,?_,?_]
   all_goals
    repeat' first
     | show rfl
     | ext À
     | ext Ô
     | ext È
     | ext Ã
     | apply yB | apply yC | apply wK | apply wL
     | ext Ð
     | ext ø | ext à | ext ç | ext ï | ext Ï | ext É
     | ext Â
     | apply vC | apply wJ | apply wI | apply vB | show vA
     | ext ý
     | ext Ê
     | show vE | show vx | apply vD | apply vw
     | show hr | show nd | ext õ | show þ | show ù | show ú | show û | show Ö | decide
     | show é | show ê | show ë | show ì | show í | show î | show ð | show ñ | show ò | show ó | show á | show â | show ã | show ä | show å),(by
   exact#[?_,?_,?_,?_]
   all_goals
    repeat' first
     | ext Ì
     | ext Ĕ
     | ext Á
     | ext Ù
     | ext Ç
     | ext Ä
     | ext Ú
     | show ö
     | show ü)]
variable (d23:Ow Õ)
include d23
theorem Ij:Ov Õ:=by
 ext ā;exact#[yj [(["_law_one"],Ĝ),(["_law_k"],Ĝ),Ą] (H.Ff.mk Ā) ?_,
  yj [(["_law_one"],Ĝ)] (H.Fe.mk Ā) ?_]
 all_goals
  ext Î;show#[_,(by
    repeat' first
     | show rfl
     | ext À
     | ext Ô
     | ext È
     | ext Ã
     | apply yB | apply yC | apply wK | apply wL
     | ext Ð
     | ext ø | ext à | ext ç | ext ï | ext Ï | ext É
     | ext Â
     | apply vC | apply wJ | apply wI | apply vB | show vA
     | ext ý
     | ext Ê
     | show vE | show vx | apply vD | apply vw
     | show hr | show nd | ext õ | show þ | show ù | show ú | show û | show Ö | decide
     | show é | show ê | show ë | show ì | show í | show î | show ð | show ñ | show ò | show ó | show á | show â | show ã | show ä | show å),(by
    repeat' first
     | ext Ì
     | ext Ĕ
     | ext Á
     | ext Ù
     | ext Ç
     | ext Ä
     | ext Ú
     | show ö
     | show ü)]
variable (d24:Ov Õ)
include d24
theorem Ii:Ou Õ:=by
 ext ā;cases d24;exact#[yj [] (H.Fd.mk Ā) ?_]
 all_goals
  ext Î;show#[_,(by
    repeat' first
     | show rfl
     | ext À
     | ext Ô
     | ext È
     | ext Ã
     | apply yB | apply yC | apply wK | apply wL
     | ext Ð
     | ext ø | ext à | ext ç | ext ï | ext Ï | ext É
     | ext Â
     | apply vC | apply wJ | apply wI | apply vB | show vA
     | ext ý
     | ext Ê
     | show vE | show vx | apply vD | apply vw
     | show hr | show nd | ext õ | show þ | show ù | show ú | show û | show Ö | decide
     | show é | show ê | show ë | show ì | show í | show î | show ð | show ñ | show ò | show ó | show á | show â | show ã | show ä | show å),(by
    repeat' first
     | ext Ì
     | ext Ĕ
     | ext Á
     | ext Ù
     | ext Ç
     | ext Ä
     | ext Ú
     | show ö
     | show ü)]
variable (d25:Ou Õ)
include d25
theorem Ih:Ot Õ:=by
 ext ā;cases d24;cases d25;exact#[yj [Ą,(["_law_way","_law_floor_here","_law_edges","_law_place","_law_pair"],[none,↑1,↑2,↑3,↑4])] (H.Fc.mk Ā) ?_]
 all_goals
  ext Î;show#[_,(by
    repeat' first
     | show rfl
     | ext À
     | ext Ô
     | ext È
     | ext Ã
     | apply yB | apply yC | apply wK | apply wL
     | ext Ð
     | ext ø | ext à | ext ç | ext ï | ext Ï | ext É
     | ext Â
     | apply vC | apply wJ | apply wI | apply vB | show vA
     | ext ý
     | ext Ê
     | show vE | show vx | apply vD | apply vw
     | show hr | show nd | ext õ | show þ | show ù | show ú | show û | show Ö | decide
     | show é | show ê | show ë | show ì | show í | show î | show ð | show ñ | show ò | show ó | show á | show â | show ã | show ä | show å),(by
    repeat' first
     | ext Ì
     | ext Ĕ
     | ext Á
     | ext Ù
     | ext Ç
     | ext Ä
     | ext Ú
     | show ö
     | show ü)]
variable (d26:Ot Õ)
include d26
theorem JY {f:Addr}{fd:FuncData}(F:nC K "law" "law" (top 133) f fd):pA Õ xn 16 f ğ:=by
 ext ā;cases d24;cases d25;cases d26;exact EH [(["_law_place","_law_desk"],[none,↑4]),(["_law_text_here","_law_floor_here"],[none,↑3]),(["_law_text_here"],Ĝ)] F ?_
 all_goals
  intro cdv A outer s H E hc nd hN hS hr;show#[_,(by
    repeat' first
     | show rfl
     | ext À
     | ext Ô
     | ext È
     | ext Ã
     | apply yB | apply yC | apply wK | apply wL
     | ext Ð
     | ext ø | ext à | ext ç | ext ï | ext Ï | ext É
     | ext Â
     | apply vC | apply wJ | apply wI | apply vB | show vA
     | ext ý
     | ext Ê
     | show vE | show vx | apply vD | apply vw
     | show hr | show nd | ext õ | show þ | show ù | show ú | show û | show Ö | decide
     | show é | show ê | show ë | show ì | show í | show î | show ð | show ñ | show ò | show ó | show á | show â | show ã | show ä | show å),(by
    repeat' first
     | ext Ì
     | ext Ĕ
     | ext Á
     | ext Ù
     | ext Ç
     | ext Ä
     | ext Ú
     | show ö
     | show ü)]
end
def all_mk {l:PySem.W.OpenLaw}{w:World}{K:zFr}{h:Heap}{mg:zSV}{fa:Addr}(X:K.In h) (G:h.Ns Ğ) (hfa:mg "law"=↑(.ref fa)) (H:HH K w):
  ∃ fd:FuncData,(∀ (s:Shared) (v:Value),BindsTo s fd #[[v],[]] [("_law_script",v)])/\∀ base:Heap,K.In base->base.Ns Ğ->pA l.prog w K mg base xn 16 fa ğ:=by
 have T:Bt mg:=#[zC2 Ā H.z0,zC2 Ā H.z1,zC2 Ā H.z2,zC2 Ā H.z3,zC2 Ā H.z4,zC2 Ā H.z5,zC2 Ā H.z6,zC2 Ā H.z7,zC2 Ā H.z8,zC2 Ā H.z9,zC2 Ā H.Nc,zC2 Ā H.Nb,zC2 Ā H.Na];have U:Bq mg:=#[zC2 Ā H.y0,zC2 Ā H.y1,zC2 Ā H.y2];have C:CC K w mg:=#[H.E5.mk Ā,H.E4.mk Ā,H.Ez.mk Ā,H.Ey.mk Ā,H.Ex.mk Ā,H.Ew.mk Ā,H.Eu.mk Ā,H.Et.mk Ā,H.Es.mk Ā,H.Er.mk Ā,H.fo.mk Ā,H.hk];let#[fd,Fl,hb]:=H.Fb.law Ā hfa λ _ _ _ _ _ _ _ _=>.of_eq rfl;exact#[fd,hb,λ base _ _=>?_];have d1:=ID l.prog base T U H C Ā;have d2:=Ip Ò;have d3:=Ig Ò d2;have d4:=Ie Ò d2 d3;have d5:=Ic Ò d2 d3 d4;have d6:=Ib Ď;have d7:=Ia Ď d6;have d8:=J_ Ď d6 d7;have d9:=JZ Þ;have d10:=IC Û;have d11:=IB Û d10;have d12:=IA Û d10 d11;have d13:=Iz Ć;have d14:=Iy ą;have d15:=Iw ć;have d16:=Iv ć d15;have d17:=Iu ć d15 d16;have d18:=Ir è;have d19:=Iq è d18;have d20:=Io è d18 d19;have d21:=Im è d18 d19 d20;have d22:=Il Ă;have d23:=Ik ă;have d24:=Ij ă d23;have d25:=Ii ă d23 d24;have d26:=Ih ă d23 d24 d25;show JY ă d23 d24 d25 d26 Fl
def walk {l:PySem.W.OpenLaw}{q:Program}{loose:List Str}{XP:(Str->Option Value)->Heap->Prop}{YP:World->Heap->Prop}{d:DefRec}{K:Params->zFr}(hn:l.most=↑63) (hdf:d.params.defaults=[])
  (hY:∀ (w:World) (h:Heap),YP w h->(Ė).In h)
  (F:∀ (w:World) (mg:zSV) (fa:Addr) (h:Heap),(Ė).In h->h.Ns Ğ->mg d.name=↑(.ref fa)->
   ∃ fd:FuncData,(∀ (s:Shared) (u:Value),BindsTo s fd #[[u],[]] [("_law_script",u)])/\∀ base:Heap,(Ė).In base->base.Ns Ğ->pA l.prog w (Ė) mg base xn 16 fa fd ["_law_script"] (om (Ė) (zM zk ck))):
  PySem.W.WalkO q loose XP YP l.row.toRowW d [] (λ f vs=>PySem.call f vs):=
 L2.Nl (n:=63) (k:=16) (x:="_law_script") (CX:=λ _=>xn) (sp:=λ w=>om (Ė) (zM zk ck)) hn () hdf #[rfl,(),()] hY F (λ _ _ a ns hl hO hS=>Gm Gi hO hS hl) λ _ _ _ _ _ z=>z
def walkOfLaw:HypoOfLaw:=λ hdf hY hd H=>walk (l:=PySem.Challenge.rw_purseborder_k94_whole_borders_by_texts) rfl hdf hY λ w mg fa h KX G hmg=>all_mk KX G (by rw[<- hd];show hmg) (H w)
end zY
)

set_option maxHeartbeats 0 in
theorem PySem.Challenge.cw_purseborder_k94_whole_borders_by_texts_holds : PySem.Challenge.rw_purseborder_k94_whole_borders_by_texts.Holds := by
 exact PySem.Challenge.headOfLaw zY.walkOfLaw
