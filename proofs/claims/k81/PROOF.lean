import PyProof.Rows.All
import Wide.All
import OpenK.AllK
import Wide.FinOn
import Lean
import PyProof.EqAt
import PyProof.EqKinds
import PyProof.TupleCall
import PySem.SetOps
import PyProof.SetScanFacts
import PyProof.TupleKey
import PyProof.SetKind
import PyProof.SetRoads
import PyProof.IsRules
import PyProof.ZipIter
import PyProof.TupleIter
import PyProof.ListMulRoad
import PyProof.FactsAll.tuple
import PyProof.ListRange
import PyProof.Draws
import PyProof.EnumFor
import PyProof.Rows.ListMul
import PyProof.AutoListH
import PyProof.ExcInit
import PyProof.ExcClass2
import PyProof.InstStore
import PyProof.InstStoreFacts
import PyProof.ExcArgsOwn
import PyProof.IsInstance
import PyProof.IsInstanceH
import PyProof.StationsW
import PyProof.Rows.CatchOwn
import PyProof.FactsAll.dict_1
import PyProof.Rows.Range3
import PyProof.FitsBits
import PyProof.MinMaxWalk
import PyProof.WalkInts
import PyProof.Rows.MinMaxN
import PySem.Challenge.RW_purseborder_k81_hands_refused
set_option Elab.async false
set_option linter.all false
set_option maxRecDepth 100000
set_option genSizeOf false
set_option compiler.extract_closed false
set_option bootstrap.genMatcherCode false
abbrev Aj:=PySem.Value->PySem.Shared->Prop
abbrev Am:=List (PySem.Addr×PySem.Obj)
abbrev Ai:=List PySem.Value
abbrev Aq:=PySem.Str->Option PySem.Value
abbrev AE:=Array PySem.Value
def AU {p:Prop}[Decidable p](h:decide p=true:=by decide +kernel):p:=of_decide_eq_true h
noncomputable section
def tp:=@PySem.wpAny_bind
def za1:=@PySem.Heap.get?_push_of_some
def za2:=@decide_eq_false
def za3:=@decide_eq_true
def za4:=@PySem.PassesOwn.never
def za5:=@PySem.wpAny_loadPart_at
def za6:=@PySem.wpAny_mono
def za7:=@PySem.wpAny_field
def za8:=@PySem.Heap.get?_update_self
def za9:=@PySem.Heap.get?_update_other
def zaA:=@PySem.wpAny_holding
def zaB:=@PySem.wpAny_newObj_type
def zaC:=@PySem.wpAny_setState_of
def zcI:=@PySem.wpAny_isSubtype_exc
def zcJ:=@PySem.wpAny_call_entry
def zcK:=@PySem.wpAny_setField
def zcL:=@PySem.wpAny_seqItems
def zcM:=@PySem.wpAny_call
def zcN:=@PySem.wpAny_truthy_bool
def zcO:=@PySem.wpAny_callSpecial?_slot
def zcP:=@PySem.wpAny_execs_nil
def zcQ:=@PySem.wpAny_standAt
def zcR:=@PySem.wpAny_passesOwn
def zcS:=@PySem.wpAny_Call_Name_kw
def zcT:=@PySem.Heap.get?_none_of_le
def zcU:=@PySem.wpAny_typeOf
def zcV:=@PySem.Heap.get?_update_ne
def zcW:=@PySem.wpAny_setField_rec
def zcX:=@PySem.wpAny_Assign_Name
def zcY:=@PySem.wpAny_pyIter_list
def zcZ:=@PySem.wpAny_askSetting
def zd0:=@PySem.wpAny_pyIter_tuple
def Ak:=@Option.bind_eq_some_iff
def Av:=@List.mem_cons_self
def Aw:=@Option.map_eq_some_iff
def Ay:=@List.mem_cons_of_mem
def A4:=@List.not_mem_nil
def BF:=@List.lookup_cons
def BS:=@Nat.ne_of_gt
def BR:=@List.nodup_cons
def BQ:=@List.contains_cons
def BV:=@Nat.lt_or_ge
def BU:=@List.pairwise_cons
def B6:=@List.map_nil
def B5:=@List.any_cons
def zaD:=@List.append_nil
def zaE:=@List.mem_append_left
def zaF:=@Bool.false_ne_true
def zaG:=@List.replicate_succ
def zaH:=@Nat.lt_trans
def zaI:=@List.mem_iff_getElem
def zaJ:=@List.mem_iff_getElem?
def zaK:=@Nat.lt_succ_of_lt
def zaL:=@List.mem_flatMap
def zaM:=@List.getElem?_append_right
def zaN:=@List.getElem?_append_left
def zaO:=@List.flatten_cons
def zaP:=@Bool.and_false
def zaQ:=@Bool.or_true
def zaR:=@Int.toNat_natCast
def zaS:=@Int.natCast_succ
def zaT:=@List.length_set
def zaU:=@List.find?_cons
def zaV:=@Array.getElem_toList
def zaW:=@Nat.le_add_right
def zaX:=@Nat.le_succ
def zaY:=@Int.zero_add
def zaZ:=@List.mem_of_find?_eq_some
def zb0:=@Int.mul_nonneg
def zb1:=@Int.add_mul
def zb2:=@List.mem_filterMap
def zb3:=@List.getElem?_replicate
def zb4:=@List.getElem?_set
def zb5:=@Array.getElem?_eq_none
def zb6:=@List.filterMap_cons
def zb7:=@List.length_take
def zb8:=@List.getElem?_eq_none
def zb9:=@Array.size_map
def zbA:=@List.ext_getElem
def zbB:=@List.pairwise_map
def zbC:=@List.pairwise_iff_getElem
def zbD:=@List.length_nil
def zbE:=@List.map_congr_left
def zbF:=@Nat.mod_lt
def zbG:=@List.getElem?_cons_succ
def zbH:=@List.toList_toArray
def zbI:=@Nat.zero_add
def zbJ:=@List.length_filter_le
def zbK:=@List.of_mem_zip
def zbL:=@Option.isSome_iff_exists
def zbM:=@List.forIn_cons
def zbN:=@List.pairwise_append
def zbO:=@List.lookup_append
def zbP:=@Array.getD_eq_getD_getElem?
def zbQ:=@Bool.and_self
def zbR:=@Nat.eq_zero_or_pos
def zbS:=@List.length_pos_of_mem
def zbT:=@Nat.lt_trichotomy
def zbU:=@Array.getElem?_setIfInBounds
def zbV:=@List.foldl_cons
def zbW:=@List.map_take
def zbX:=@List.map_drop
def zbY:=@List.zipIdx_cons
def zbZ:=@List.mem_map_of_mem
def zc0:=@List.mem_nil_iff
def zc1:=@Array.append_assoc
def zc2:=@List.getElem?_set_self
def zc3:=@List.getElem?_set_ne
def zc4:=@List.length_drop
def zc5:=@Nat.lt_of_le_of_lt
def zc6:=@List.append_assoc
def zc7:=@List.pairwise_singleton
def zc8:=@List.getElem_range
def zc9:=@List.nodup_range
def zcA:=@List.take_append_drop
def zcB:=@List.getElem?_range
def zcC:=@List.perm_ext_iff_of_nodup
def zcD:=@List.mem_of_elem_eq_true
def zcE:=@Bool.or_eq_true
def zcF:=@List.mem_zipIdx_iff_getElem?
def zcG:=@List.find?_some
def zcH:=@Array.getElem?_setIfInBounds_ne
def AN:=@List.size_toArray
def A2:=@List.getElem?_eq_getElem
def AM:=@List.getElem?_eq_some_iff
def AF:=@List.getElem?_map
def Ap:=@Nat.le_refl
def Ao:=@List.mem_cons
def Az:=@List.map_cons
def AQ:=@List.length_map
def Ar:=@PySem.Heap.lt_size
def AO:=@PySem.Heap.get?_push_size
def Ax:=@List.mem_map
def BI:=@List.getD_eq_getElem?_getD
def zB2:=@Bool.not_false
def AG:=@Nat.ne_of_lt
def A6:=@List.mem_append_right
def zB5:=@Bool.not_true
def AJ:=@List.mem_singleton
def A5:=@List.mem_of_getElem?
def BW:=@Array.getElem?_eq_getElem
def A8:=@List.mem_append
def A7:=@List.length_cons
def AL:=@List.mem_range
def BL:=@PySem.W.mg_none_of
def BG:=@Nat.lt_of_lt_of_le
def BM:=@Bool.false_eq_true
def zC5:=@List.length_range
def BC:=@Int.le_refl
def BK:=@Bool.eq_iff_iff
def A9:=@List.mem_filter
def AI:=@Option.bind_some
def BB:=@List.any_eq_true
def Ah:=@PySem.wpAny_pure
def B_:=@Array.length_toList
def zD3:=@Array.getElem?_toList
def A0:=@Nat.zero_le
def BA:=@Option.some.inj
def A1:=@List.map_map
def zD7:=@List.length_append
def B9:=@List.getElem_mem
def BH:=@Nat.le_trans
def zE1:=@Nat.lt_irrefl
def zE2:=@Nat.lt_succ_self
def B8:=@Nat.le_of_lt
def zE4:=@List.all_eq_true
def zE5:=@Bool.and_eq_true
def B7:=@List.map_append
def zF0:=@Int.emod_nonneg
def zF1:=@Int.emod_lt_of_pos
section
theorem E_0_1{p:Prop}{G:Prop}(h:p) (f:p->G):G:=f h
theorem E_0_2{p q:Prop}{G:Prop}(h:p/\q) (f:p->q->G):G:=E_0_1 h.2 (f h.1)
theorem E_1_1{α:Sort _}{p:α->Prop}{G:Prop}(h:∃ a,p a) (f:∀ a,p a->G):G:=h.elim λ a h=>E_0_1 h (f a)
theorem E_0_3{p q r:Prop}{G:Prop}(h:p/\q/\r) (f:p->q->r->G):G:=E_0_2 h.2 (f h.1)
theorem E_1_2{α:Sort _}{p q:α->Prop}{G:Prop}(h:∃ a,p a/\q a) (f:∀ a,p a->q a->G):G:=h.elim λ a h=>E_0_2 h (f a)
theorem E_2_1{α β:Sort _}{p:α->β->Prop}{G:Prop}(h:∃ a b,p a b) (f:∀ a b,p a b->G):G:=h.elim λ a h=>E_1_1 h (f a)
theorem E_0_4{p q r s:Prop}{G:Prop}(h:p/\q/\r/\s) (f:p->q->r->s->G):G:=E_0_3 h.2 (f h.1)
theorem E_1_3{α:Sort _}{p q r:α->Prop}{G:Prop}(h:∃ a,p a/\q a/\r a) (f:∀ a,p a->q a->r a->G):G:=h.elim λ a h=>E_0_3 h (f a)
theorem E_2_2{α β:Sort _}{p q:α->β->Prop}{G:Prop}(h:∃ a b,p a b/\q a b) (f:∀ a b,p a b->q a b->G):G:=h.elim λ a h=>E_1_2 h (f a)
theorem E_3_1{α β γ:Sort _}{p:α->β->γ->Prop}{G:Prop}(h:∃ a b c,p a b c) (f:∀ a b c,p a b c->G):G:=h.elim λ a h=>E_2_1 h (f a)
theorem E_0_5{p q r s t:Prop}{G:Prop}(h:p/\q/\r/\s/\t) (f:p->q->r->s->t->G):G:=E_0_4 h.2 (f h.1)
theorem E_1_4{α:Sort _}{p q r s:α->Prop}{G:Prop}(h:∃ a,p a/\q a/\r a/\s a) (f:∀ a,p a->q a->r a->s a->G):G:=h.elim λ a h=>E_0_4 h (f a)
theorem E_2_3{α β:Sort _}{p q r:α->β->Prop}{G:Prop}(h:∃ a b,p a b/\q a b/\r a b) (f:∀ a b,p a b->q a b->r a b->G):G:=h.elim λ a h=>E_1_3 h (f a)
theorem E_3_2{α β γ:Sort _}{p q:α->β->γ->Prop}{G:Prop}(h:∃ a b c,p a b c/\q a b c) (f:∀ a b c,p a b c->q a b c->G):G:=h.elim λ a h=>E_2_2 h (f a)
theorem E_4_1{α β γ δ:Sort _}{p:α->β->γ->δ->Prop}{G:Prop}(h:∃ a b c d,p a b c d) (f:∀ a b c d,p a b c d->G):G:=h.elim λ a h=>E_3_1 h (f a)
theorem E_0_6{p q r s t u:Prop}{G:Prop}(h:p/\q/\r/\s/\t/\u) (f:p->q->r->s->t->u->G):G:=E_0_5 h.2 (f h.1)
theorem E_1_5{α:Sort _}{p q r s t:α->Prop}{G:Prop}(h:∃ a,p a/\q a/\r a/\s a/\t a) (f:∀ a,p a->q a->r a->s a->t a->G):G:=h.elim λ a h=>E_0_5 h (f a)
theorem E_2_4{α β:Sort _}{p q r s:α->β->Prop}{G:Prop}(h:∃ a b,p a b/\q a b/\r a b/\s a b) (f:∀ a b,p a b->q a b->r a b->s a b->G):G:=h.elim λ a h=>E_1_4 h (f a)
theorem E_3_3{α β γ:Sort _}{p q r:α->β->γ->Prop}{G:Prop}(h:∃ a b c,p a b c/\q a b c/\r a b c) (f:∀ a b c,p a b c->q a b c->r a b c->G):G:=h.elim λ a h=>E_2_3 h (f a)
theorem E_4_2{α β γ δ:Sort _}{p q:α->β->γ->δ->Prop}{G:Prop}(h:∃ a b c d,p a b c d/\q a b c d) (f:∀ a b c d,p a b c d->q a b c d->G):G:=h.elim λ a h=>E_3_2 h (f a)
theorem E_5_1{α β γ δ ε:Sort _}{p:α->β->γ->δ->ε->Prop}{G:Prop}(h:∃ a b c d e,p a b c d e) (f:∀ a b c d e,p a b c d e->G):G:=h.elim λ a h=>E_4_1 h (f a)
theorem E_0_7{p q r s t u v:Prop}{G:Prop}(h:p/\q/\r/\s/\t/\u/\v) (f:p->q->r->s->t->u->v->G):G:=E_0_6 h.2 (f h.1)
theorem E_1_6{α:Sort _}{p q r s t u:α->Prop}{G:Prop}(h:∃ a,p a/\q a/\r a/\s a/\t a/\u a) (f:∀ a,p a->q a->r a->s a->t a->u a->G):G:=h.elim λ a h=>E_0_6 h (f a)
theorem E_2_5{α β:Sort _}{p q r s t:α->β->Prop}{G:Prop}(h:∃ a b,p a b/\q a b/\r a b/\s a b/\t a b) (f:∀ a b,p a b->q a b->r a b->s a b->t a b->G):G:=h.elim λ a h=>E_1_5 h (f a)
theorem E_3_4{α β γ:Sort _}{p q r s:α->β->γ->Prop}{G:Prop}(h:∃ a b c,p a b c/\q a b c/\r a b c/\s a b c) (f:∀ a b c,p a b c->q a b c->r a b c->s a b c->G):G:=h.elim λ a h=>E_2_4 h (f a)
theorem E_4_3{α β γ δ:Sort _}{p q r:α->β->γ->δ->Prop}{G:Prop}(h:∃ a b c d,p a b c d/\q a b c d/\r a b c d) (f:∀ a b c d,p a b c d->q a b c d->r a b c d->G):G:=h.elim λ a h=>E_3_3 h (f a)
theorem E_5_2{α β γ δ ε:Sort _}{p q:α->β->γ->δ->ε->Prop}{G:Prop}(h:∃ a b c d e,p a b c d e/\q a b c d e) (f:∀ a b c d e,p a b c d e->q a b c d e->G):G:=h.elim λ a h=>E_4_2 h (f a)
theorem E_6_1{α β γ δ ε ζ:Sort _}{p:α->β->γ->δ->ε->ζ->Prop}{G:Prop}(h:∃ a b c d e f,p a b c d e f) (f:∀ a b c d e f,p a b c d e f->G):G:=h.elim λ a h=>E_5_1 h (f a)
theorem E_0_8{p q r s t u v w:Prop}{G:Prop}(h:p/\q/\r/\s/\t/\u/\v/\w) (f:p->q->r->s->t->u->v->w->G):G:=E_0_7 h.2 (f h.1)
theorem E_1_7{α:Sort _}{p q r s t u v:α->Prop}{G:Prop}(h:∃ a,p a/\q a/\r a/\s a/\t a/\u a/\v a) (f:∀ a,p a->q a->r a->s a->t a->u a->v a->G):G:=h.elim λ a h=>E_0_7 h (f a)
theorem E_2_6{α β:Sort _}{p q r s t u:α->β->Prop}{G:Prop}(h:∃ a b,p a b/\q a b/\r a b/\s a b/\t a b/\u a b) (f:∀ a b,p a b->q a b->r a b->s a b->t a b->u a b->G):G:=h.elim λ a h=>E_1_6 h (f a)
theorem E_3_5{α β γ:Sort _}{p q r s t:α->β->γ->Prop}{G:Prop}(h:∃ a b c,p a b c/\q a b c/\r a b c/\s a b c/\t a b c) (f:∀ a b c,p a b c->q a b c->r a b c->s a b c->t a b c->G):G:=h.elim λ a h=>E_2_5 h (f a)
theorem E_4_4{α β γ δ:Sort _}{p q r s:α->β->γ->δ->Prop}{G:Prop}(h:∃ a b c d,p a b c d/\q a b c d/\r a b c d/\s a b c d) (f:∀ a b c d,p a b c d->q a b c d->r a b c d->s a b c d->G):G:=h.elim λ a h=>E_3_4 h (f a)
theorem E_5_3{α β γ δ ε:Sort _}{p q r:α->β->γ->δ->ε->Prop}{G:Prop}(h:∃ a b c d e,p a b c d e/\q a b c d e/\r a b c d e) (f:∀ a b c d e,p a b c d e->q a b c d e->r a b c d e->G):G:=h.elim λ a h=>E_4_3 h (f a)
theorem E_6_2{α β γ δ ε ζ:Sort _}{p q:α->β->γ->δ->ε->ζ->Prop}{G:Prop}(h:∃ a b c d e f,p a b c d e f/\q a b c d e f) (f:∀ a b c d e f,p a b c d e f->q a b c d e f->G):G:=h.elim λ a h=>E_5_2 h (f a)
theorem E_7_1{α β γ δ ε ζ η:Sort _}{p:α->β->γ->δ->ε->ζ->η->Prop}{G:Prop}(h:∃ a b c d e f g,p a b c d e f g) (f:∀ a b c d e f g,p a b c d e f g->G):G:=h.elim λ a h=>E_6_1 h (f a)
theorem E_0_9{p q r s t u v w x:Prop}{G:Prop}(h:p/\q/\r/\s/\t/\u/\v/\w/\x) (f:p->q->r->s->t->u->v->w->x->G):G:=E_0_8 h.2 (f h.1)
theorem E_1_8{α:Sort _}{p q r s t u v w:α->Prop}{G:Prop}(h:∃ a,p a/\q a/\r a/\s a/\t a/\u a/\v a/\w a) (f:∀ a,p a->q a->r a->s a->t a->u a->v a->w a->G):G:=h.elim λ a h=>E_0_8 h (f a)
theorem E_2_7{α β:Sort _}{p q r s t u v:α->β->Prop}{G:Prop}(h:∃ a b,p a b/\q a b/\r a b/\s a b/\t a b/\u a b/\v a b) (f:∀ a b,p a b->q a b->r a b->s a b->t a b->u a b->v a b->G):G:=h.elim λ a h=>E_1_7 h (f a)
theorem E_3_6{α β γ:Sort _}{p q r s t u:α->β->γ->Prop}{G:Prop}(h:∃ a b c,p a b c/\q a b c/\r a b c/\s a b c/\t a b c/\u a b c) (f:∀ a b c,p a b c->q a b c->r a b c->s a b c->t a b c->u a b c->G):G:=h.elim λ a h=>E_2_6 h (f a)
theorem E_4_5{α β γ δ:Sort _}{p q r s t:α->β->γ->δ->Prop}{G:Prop}(h:∃ a b c d,p a b c d/\q a b c d/\r a b c d/\s a b c d/\t a b c d) (f:∀ a b c d,p a b c d->q a b c d->r a b c d->s a b c d->t a b c d->G):G:=h.elim λ a h=>E_3_5 h (f a)
theorem E_5_4{α β γ δ ε:Sort _}{p q r s:α->β->γ->δ->ε->Prop}{G:Prop}(h:∃ a b c d e,p a b c d e/\q a b c d e/\r a b c d e/\s a b c d e) (f:∀ a b c d e,p a b c d e->q a b c d e->r a b c d e->s a b c d e->G):G:=h.elim λ a h=>E_4_4 h (f a)
theorem E_6_3{α β γ δ ε ζ:Sort _}{p q r:α->β->γ->δ->ε->ζ->Prop}{G:Prop}(h:∃ a b c d e f,p a b c d e f/\q a b c d e f/\r a b c d e f) (f:∀ a b c d e f,p a b c d e f->q a b c d e f->r a b c d e f->G):G:=h.elim λ a h=>E_5_3 h (f a)
theorem E_7_2{α β γ δ ε ζ η:Sort _}{p q:α->β->γ->δ->ε->ζ->η->Prop}{G:Prop}(h:∃ a b c d e f g,p a b c d e f g/\q a b c d e f g) (f:∀ a b c d e f g,p a b c d e f g->q a b c d e f g->G):G:=h.elim λ a h=>E_6_2 h (f a)
theorem E_8_1{α β γ δ ε ζ η θ:Sort _}{p:α->β->γ->δ->ε->ζ->η->θ->Prop}{G:Prop}(h:∃ a b c d e f g h,p a b c d e f g h) (f:∀ a b c d e f g h,p a b c d e f g h->G):G:=h.elim λ a h=>E_7_1 h (f a)
theorem E_0_10{p q r s t u v w x y:Prop}{G:Prop}(h:p/\q/\r/\s/\t/\u/\v/\w/\x/\y) (f:p->q->r->s->t->u->v->w->x->y->G):G:=E_0_9 h.2 (f h.1)
theorem E_1_9{α:Sort _}{p q r s t u v w x:α->Prop}{G:Prop}(h:∃ a,p a/\q a/\r a/\s a/\t a/\u a/\v a/\w a/\x a) (f:∀ a,p a->q a->r a->s a->t a->u a->v a->w a->x a->G):G:=h.elim λ a h=>E_0_9 h (f a)
theorem E_2_8{α β:Sort _}{p q r s t u v w:α->β->Prop}{G:Prop}(h:∃ a b,p a b/\q a b/\r a b/\s a b/\t a b/\u a b/\v a b/\w a b) (f:∀ a b,p a b->q a b->r a b->s a b->t a b->u a b->v a b->w a b->G):G:=h.elim λ a h=>E_1_8 h (f a)
theorem E_3_7{α β γ:Sort _}{p q r s t u v:α->β->γ->Prop}{G:Prop}(h:∃ a b c,p a b c/\q a b c/\r a b c/\s a b c/\t a b c/\u a b c/\v a b c) (f:∀ a b c,p a b c->q a b c->r a b c->s a b c->t a b c->u a b c->v a b c->G):G:=h.elim λ a h=>E_2_7 h (f a)
theorem E_4_6{α β γ δ:Sort _}{p q r s t u:α->β->γ->δ->Prop}{G:Prop}(h:∃ a b c d,p a b c d/\q a b c d/\r a b c d/\s a b c d/\t a b c d/\u a b c d) (f:∀ a b c d,p a b c d->q a b c d->r a b c d->s a b c d->t a b c d->u a b c d->G):G:=h.elim λ a h=>E_3_6 h (f a)
theorem E_5_5{α β γ δ ε:Sort _}{p q r s t:α->β->γ->δ->ε->Prop}{G:Prop}(h:∃ a b c d e,p a b c d e/\q a b c d e/\r a b c d e/\s a b c d e/\t a b c d e) (f:∀ a b c d e,p a b c d e->q a b c d e->r a b c d e->s a b c d e->t a b c d e->G):G:=h.elim λ a h=>E_4_5 h (f a)
theorem E_6_4{α β γ δ ε ζ:Sort _}{p q r s:α->β->γ->δ->ε->ζ->Prop}{G:Prop}(h:∃ a b c d e f,p a b c d e f/\q a b c d e f/\r a b c d e f/\s a b c d e f) (f:∀ a b c d e f,p a b c d e f->q a b c d e f->r a b c d e f->s a b c d e f->G):G:=h.elim λ a h=>E_5_4 h (f a)
theorem E_7_3{α β γ δ ε ζ η:Sort _}{p q r:α->β->γ->δ->ε->ζ->η->Prop}{G:Prop}(h:∃ a b c d e f g,p a b c d e f g/\q a b c d e f g/\r a b c d e f g) (f:∀ a b c d e f g,p a b c d e f g->q a b c d e f g->r a b c d e f g->G):G:=h.elim λ a h=>E_6_3 h (f a)
theorem E_8_2{α β γ δ ε ζ η θ:Sort _}{p q:α->β->γ->δ->ε->ζ->η->θ->Prop}{G:Prop}(h:∃ a b c d e f g h,p a b c d e f g h/\q a b c d e f g h) (f:∀ a b c d e f g h,p a b c d e f g h->q a b c d e f g h->G):G:=h.elim λ a h=>E_7_2 h (f a)
theorem E_9_1{α β γ δ ε ζ η θ ι:Sort _}{p:α->β->γ->δ->ε->ζ->η->θ->ι->Prop}{G:Prop}(h:∃ a b c d e f g h i,p a b c d e f g h i) (f:∀ a b c d e f g h i,p a b c d e f g h i->G):G:=h.elim λ a h=>E_8_1 h (f a)
theorem E_0_11{p q r s t u v w x y z:Prop}{G:Prop}(h:p/\q/\r/\s/\t/\u/\v/\w/\x/\y/\z) (f:p->q->r->s->t->u->v->w->x->y->z->G):G:=E_0_10 h.2 (f h.1)
theorem E_1_10{α:Sort _}{p q r s t u v w x y:α->Prop}{G:Prop}(h:∃ a,p a/\q a/\r a/\s a/\t a/\u a/\v a/\w a/\x a/\y a) (f:∀ a,p a->q a->r a->s a->t a->u a->v a->w a->x a->y a->G):G:=h.elim λ a h=>E_0_10 h (f a)
theorem E_2_9{α β:Sort _}{p q r s t u v w x:α->β->Prop}{G:Prop}(h:∃ a b,p a b/\q a b/\r a b/\s a b/\t a b/\u a b/\v a b/\w a b/\x a b) (f:∀ a b,p a b->q a b->r a b->s a b->t a b->u a b->v a b->w a b->x a b->G):G:=h.elim λ a h=>E_1_9 h (f a)
theorem E_3_8{α β γ:Sort _}{p q r s t u v w:α->β->γ->Prop}{G:Prop}(h:∃ a b c,p a b c/\q a b c/\r a b c/\s a b c/\t a b c/\u a b c/\v a b c/\w a b c) (f:∀ a b c,p a b c->q a b c->r a b c->s a b c->t a b c->u a b c->v a b c->w a b c->G):G:=h.elim λ a h=>E_2_8 h (f a)
theorem E_4_7{α β γ δ:Sort _}{p q r s t u v:α->β->γ->δ->Prop}{G:Prop}(h:∃ a b c d,p a b c d/\q a b c d/\r a b c d/\s a b c d/\t a b c d/\u a b c d/\v a b c d) (f:∀ a b c d,p a b c d->q a b c d->r a b c d->s a b c d->t a b c d->u a b c d->v a b c d->G):G:=h.elim λ a h=>E_3_7 h (f a)
theorem E_5_6{α β γ δ ε:Sort _}{p q r s t u:α->β->γ->δ->ε->Prop}{G:Prop}(h:∃ a b c d e,p a b c d e/\q a b c d e/\r a b c d e/\s a b c d e/\t a b c d e/\u a b c d e) (f:∀ a b c d e,p a b c d e->q a b c d e->r a b c d e->s a b c d e->t a b c d e->u a b c d e->G):G:=h.elim λ a h=>E_4_6 h (f a)
theorem E_6_5{α β γ δ ε ζ:Sort _}{p q r s t:α->β->γ->δ->ε->ζ->Prop}{G:Prop}(h:∃ a b c d e f,p a b c d e f/\q a b c d e f/\r a b c d e f/\s a b c d e f/\t a b c d e f) (f:∀ a b c d e f,p a b c d e f->q a b c d e f->r a b c d e f->s a b c d e f->t a b c d e f->G):G:=h.elim λ a h=>E_5_5 h (f a)
theorem E_7_4{α β γ δ ε ζ η:Sort _}{p q r s:α->β->γ->δ->ε->ζ->η->Prop}{G:Prop}(h:∃ a b c d e f g,p a b c d e f g/\q a b c d e f g/\r a b c d e f g/\s a b c d e f g) (f:∀ a b c d e f g,p a b c d e f g->q a b c d e f g->r a b c d e f g->s a b c d e f g->G):G:=h.elim λ a h=>E_6_4 h (f a)
theorem E_8_3{α β γ δ ε ζ η θ:Sort _}{p q r:α->β->γ->δ->ε->ζ->η->θ->Prop}{G:Prop}(h:∃ a b c d e f g h,p a b c d e f g h/\q a b c d e f g h/\r a b c d e f g h) (f:∀ a b c d e f g h,p a b c d e f g h->q a b c d e f g h->r a b c d e f g h->G):G:=h.elim λ a h=>E_7_3 h (f a)
theorem E_9_2{α β γ δ ε ζ η θ ι:Sort _}{p q:α->β->γ->δ->ε->ζ->η->θ->ι->Prop}{G:Prop}(h:∃ a b c d e f g h i,p a b c d e f g h i/\q a b c d e f g h i) (f:∀ a b c d e f g h i,p a b c d e f g h i->q a b c d e f g h i->G):G:=h.elim λ a h=>E_8_2 h (f a)
theorem E_1_11{α:Sort _}{p q r s t u v w x y z:α->Prop}{G:Prop}(h:∃ a,p a/\q a/\r a/\s a/\t a/\u a/\v a/\w a/\x a/\y a/\z a) (f:∀ a,p a->q a->r a->s a->t a->u a->v a->w a->x a->y a->z a->G):G:=h.elim λ a h=>E_0_11 h (f a)
theorem E_2_10{α β:Sort _}{p q r s t u v w x y:α->β->Prop}{G:Prop}(h:∃ a b,p a b/\q a b/\r a b/\s a b/\t a b/\u a b/\v a b/\w a b/\x a b/\y a b) (f:∀ a b,p a b->q a b->r a b->s a b->t a b->u a b->v a b->w a b->x a b->y a b->G):G:=h.elim λ a h=>E_1_10 h (f a)
theorem E_3_9{α β γ:Sort _}{p q r s t u v w x:α->β->γ->Prop}{G:Prop}(h:∃ a b c,p a b c/\q a b c/\r a b c/\s a b c/\t a b c/\u a b c/\v a b c/\w a b c/\x a b c) (f:∀ a b c,p a b c->q a b c->r a b c->s a b c->t a b c->u a b c->v a b c->w a b c->x a b c->G):G:=h.elim λ a h=>E_2_9 h (f a)
theorem E_4_8{α β γ δ:Sort _}{p q r s t u v w:α->β->γ->δ->Prop}{G:Prop}(h:∃ a b c d,p a b c d/\q a b c d/\r a b c d/\s a b c d/\t a b c d/\u a b c d/\v a b c d/\w a b c d) (f:∀ a b c d,p a b c d->q a b c d->r a b c d->s a b c d->t a b c d->u a b c d->v a b c d->w a b c d->G):G:=h.elim λ a h=>E_3_8 h (f a)
theorem E_5_7{α β γ δ ε:Sort _}{p q r s t u v:α->β->γ->δ->ε->Prop}{G:Prop}(h:∃ a b c d e,p a b c d e/\q a b c d e/\r a b c d e/\s a b c d e/\t a b c d e/\u a b c d e/\v a b c d e) (f:∀ a b c d e,p a b c d e->q a b c d e->r a b c d e->s a b c d e->t a b c d e->u a b c d e->v a b c d e->G):G:=h.elim λ a h=>E_4_7 h (f a)
theorem E_6_6{α β γ δ ε ζ:Sort _}{p q r s t u:α->β->γ->δ->ε->ζ->Prop}{G:Prop}(h:∃ a b c d e f,p a b c d e f/\q a b c d e f/\r a b c d e f/\s a b c d e f/\t a b c d e f/\u a b c d e f) (f:∀ a b c d e f,p a b c d e f->q a b c d e f->r a b c d e f->s a b c d e f->t a b c d e f->u a b c d e f->G):G:=h.elim λ a h=>E_5_6 h (f a)
theorem E_7_5{α β γ δ ε ζ η:Sort _}{p q r s t:α->β->γ->δ->ε->ζ->η->Prop}{G:Prop}(h:∃ a b c d e f g,p a b c d e f g/\q a b c d e f g/\r a b c d e f g/\s a b c d e f g/\t a b c d e f g) (f:∀ a b c d e f g,p a b c d e f g->q a b c d e f g->r a b c d e f g->s a b c d e f g->t a b c d e f g->G):G:=h.elim λ a h=>E_6_5 h (f a)
theorem E_8_4{α β γ δ ε ζ η θ:Sort _}{p q r s:α->β->γ->δ->ε->ζ->η->θ->Prop}{G:Prop}(h:∃ a b c d e f g h,p a b c d e f g h/\q a b c d e f g h/\r a b c d e f g h/\s a b c d e f g h) (f:∀ a b c d e f g h,p a b c d e f g h->q a b c d e f g h->r a b c d e f g h->s a b c d e f g h->G):G:=h.elim λ a h=>E_7_4 h (f a)
theorem E_9_3{α β γ δ ε ζ η θ ι:Sort _}{p q r:α->β->γ->δ->ε->ζ->η->θ->ι->Prop}{G:Prop}(h:∃ a b c d e f g h i,p a b c d e f g h i/\q a b c d e f g h i/\r a b c d e f g h i) (f:∀ a b c d e f g h i,p a b c d e f g h i->q a b c d e f g h i->r a b c d e f g h i->G):G:=h.elim λ a h=>E_8_3 h (f a)
end
open Lean in
def eKM (a:Array Term) (e:Term):MacroM (TSyntax `tactic):=do
 let n:=a.size
 if n<3||n>12 then Macro.throwUnsupported
 let f<-(List.range n).toArray.mapM λ k=>`(tacticSeq|refine $(mkIdent (.mkSimple s!"E_{n-1-k}_{k+1}")):ident $e ?_)
 let mut ts:=#[<-`(tactic|first $[|$f]*)]
 if e.raw.isIdent then ts:=ts.push (<-`(tactic|try clear $(⟨e.raw⟩):ident))
 let mut xs:Array Term:=#[]
 for x in a do
  if x.raw.isOfKind ``Lean.Parser.Term.hole||x.raw.isIdent&&x.raw.getId != `rfl then xs:=xs.push x
  else
   let y:Term<-withFreshMacroScope `(y)
   xs:=xs.push y
   ts:=ts.push (<-`(tactic|intro $xs:term*))
   xs:=#[]
   ts:=ts.push (<-if x.raw.isIdent then `(tactic|obtain $(⟨x.raw⟩):ident:=$y) else `(tactic|let $x:term:=$y))
 if xs.size>0 then ts:=ts.push (<-`(tactic|intro $xs:term*))
 `(tactic|($[$ts:tactic]*))
open Lean in
def czXX (T:NameMap (List Syntax)):Nat->Syntax->List Syntax
|0,s=>[s]
|n+1,s=>match s with
 |.ident _ _ v _=>(T.find? v).getD [s]
 |.node i k a=>
  match if k== ``Lean.Elab.Tactic.Ext.ext then T.find? s[1][0][0][0].getId else if k== ``Lean.Parser.Term.implicitBinder&&s[2].getNumArgs==0 then T.find? s[1][0].getId else none with
  |some r=>if r.head!.isOfKind ``Lean.Parser.Term.byTactic then r.head![1][0][0].getArgs.toList else r
  |_=>let b:=a.toList.flatMap (czXX T n)
   [.node i k (match b with
    |[f,x]=>if k== ``Lean.Parser.Term.app&&f.isOfKind k then #[f[0],mkNullNode (f[1].getArgs++x.getArgs)] else b.toArray
    |_=>b.toArray)]
 |_=>[s]
open Lean in
def czYY (q:Syntax):Array Syntax:=(q[1].getArgs.foldl (λ(T,a) c=>
 let e:=c[1]
 let z:=czXX T 9999
 if c.isOfKind ``Lean.Parser.Command.declaration&&e.isOfKind ``Lean.Parser.Command.example then
  let b:=e[1][0].getArgs
  let v:=e[2][1]
  (T.insert b[0]!.getId (if b.size==1 then z v else if b[1]!.isOfKind ``Lean.Parser.Term.hole then v[1].getArgs.toList.flatMap z else (b.toList.drop 1).flatMap z),a)
 else (T,a++z c)) ((∅:NameMap (List Syntax)),#[])).2
local macro_rules(kind:=Lean.Parser.Command.declaration)|s=>do
 unless s[1][2][1].isOfKind ``Lean.Parser.Command.quot do Lean.Macro.throwUnsupported
 return Lean.mkNullNode (czYY s[1][2][1])
open Lean in
def zRc:Nat->Term->MacroM (TSyntax `rcasesPat)
|0,_=>Macro.throwUnsupported
|n+1,t=>match t with
 |`(#[$xs,*])=>do let ys<-xs.getElems.mapM (zRc n);`(rcasesPat|⟨$[$ys:rcasesPat],*⟩)
 |`(_)=>`(rcasesPat|_)
 |`($x:ident)=>`(rcasesPat|$x:ident)
 |_=>Macro.throwUnsupported
local macro_rules|`(tactic|let $p:term:=$e)=>do let q<-zRc 9 p;`(tactic|obtain $q:rcasesPat:=$e)
local macro_rules|`(tactic|let #[$a,*]:=$e)=>do let q<-zRc 9 (<-`(#[$a,*]));let t<-eKM a.getElems e;`(tactic|first|$t:tactic|obtain $q:rcasesPat:=$e)
local macro_rules|`(tactic|simp! [$a,*] $[$l:location]?)=>`(tactic|simp only [$a,*] $[$l:location]?)
local macro_rules|`(tactic|exists $e)=>`(tactic|simpa using $e)
local macro_rules|`(tactic|show $e)=>`(tactic|refine $e)
local macro_rules|`(tactic|exact $e)=>`(tactic|refine $e)
local macro_rules|`(#[])=>`(by simp)|`(#[$xs,*])=>`(⟨$xs,*⟩)
local macro_rules|`(↑$x)=>`(some $x)
local macro_rules|`(⋯)=>`(by lia)
local macro_rules|`(())=>`(by decide)
abbrev Ac:=PySem.W.Frag
local macro_rules(kind:=Lean.Parser.Command.declaration)|s=>do
 if s[0][4].getNumArgs>0||![``Lean.Parser.Command.definition,``Lean.Parser.Command.abbrev].contains s[1].getKind then Lean.Macro.throwUnsupported
 return s.setArg 0 (s[0].setArg 4 (Lean.mkNullNode [Lean.mkNode ``Lean.Parser.Command.noncomputable [Lean.mkAtom "noncomputable"].toArray].toArray))
example:=`(
example Ï _:=x X gV σ
example À:=Inv Ï H s
example ì _:=x X.prog X.w
example Á _:=x (model ì) X.A
example Â:=s.heap.objs.size
example ľ(H:Hp):=0
example Ì:=Shared
example Ã(gV:Am) (s:Ì) (σ:St) ľ:=0
example ö:=.int
example Á8:=.fields [ö lo t,ö hi u,ö 1 v].toArray
example Í0:=.type
example Ä:=s.heap.push { cls:=Í0 "range",data:=Á8 }
example ê _:=x σ H
example Š _:=x gV s ê
example Å _:=x Š _ I h
example Æ:=#[x,H1,I1,r1,q1]
example ň:=.inl
example Ç(hf:X.fn x=true\/X.env.scope.names.lookup x=↑.local:=by first | show ň rfl | show .inr rfl | assumption):=0
example È5:=X.env.cells.lookup
example È:=È5 x=↑c
example É:=items.size
example Ê:=Value
example Ë:=by intro X hP hw hK hc i gV s σ H E I hf st hg;subst hP hw hK
example Í:=by intro gV s σ H Q I h
example Ñ:=X.env.locals
example û:=X.s₀.heap.objs.size
example Â6:=(∀ x c,È->c≠b)/\∀ p∈X.pn++gV,p.1≠b
example Î(hch:∀ b∈ch,(b∈X.ex\/û<=b)/\b≠ Ñ/\Â6):=0
example Ð:=Hp->Prop
example Ï4:=Program
example Ò{P:Ï4}{w:World}:=0
example Ð9{gV:Am}:=0
example Ñ0{σ:St}:=0
example À3{s:Ì}:=0
example ŀ{H:Hp}:=0
example Ó Ð9 Ñ0 ŀ À3:=0
example Ô:=by let#[f0,f1,f2,f3,f4,f5]:=hf it #[]
example á:=false
example Õ:=(x == ("__debug__":Str))=á
example Ö:=wpAny
example Ø(I:À):=0
example Ù:=by rw[show vq f v ((k,x)::r)=(if k=f then (k,v)::r else (k,x)::vq f v r) from rfl];by_cases hk:k=f
example ş _:=x σ H1
example Ú _:=x gV s1 ş
example ò:=h.get?
example č:=h'.get?
example Û:=ò b=↑u->č b=↑u
example Ü:=X.env
example Ë0:=PySem.W.emptyDict
example Ý:=s.heap.push Ë0
example Ŋ _:=x _ _
example Î2:=(ň rfl)
example Þ:=k Ŋ Î2 e
example ß(hN:X.N.Nodup) (hi:X.N[i]?=↑x) (hx:Loc X.env.scope x):=0
example à:=#[ok.mod,ok.kind,ok.glob,ok.blt,ok.above,ok.inj,ok.has,ok.iZ,ok.hd,ok.frames,ok.gN,ok.cE,ok.bs,ok.kc,ok.iD,ok.iU,ok.nr,ok.kJ]
example Ů:=s.toks
example â:=λ h' eb=>#[rfl,I.turned (t':=Ů) (λ b o hb e=>eb b o hb e) f0 f1 f3 f4 f5]
example Ž:=.builtin
example ç:=.ref
example ã:=A.under (Ž "type.__call__" #[ç C::us,kw])
example ä:=["enumerate","zip","dict_itemiterator","dict_reverseitemiterator","odict_iterator","itertools.zip_longest","itertools.pairwise"].contains n
example å:=s3.heap.push { cls:=Í0 "slice",data:=.fields [vl,vu,.none].toArray }
example æ:=s.heap.get?
example è:=Option
example é:=envOfC qual scope Â f cd
example œ(ha:PE X a ta):=0
example ë œ (hb:PE X b tb):=0
example í(X:Cx):=0
example î:=by intro gV s σ H D I h
example ï:=by have I1:Inv Ï H { s with heap:=h' }:=I.turned (t':=Ů) (λ b o hb e=>(sb.2 b hb).trans e) f0 f1 f3 f4 f5;let#[o,e,c,d]:=id st'
example ð _:=x (model prog w) A
example ñ:=List V
example ó:=sizeLine
example À0:=yM É 0 lo
example Ç5:=yM É É hi
example ô:=(items.toList.drop (À0)).take (Ç5-À0)
example õ{A:Around}:=0
example ø _:=x P w K mg base
example ŧ:=List Env
example ĉ:=outer
example ù(A:Around) (ĉ:ŧ) (s:Ì) ľ:=0
example ú:=s.heap
example ü(P:Ï4) (w:World):=0
example ő _:=x σ' H'
example ý:=Inv X gV ő s'
example þ:=Hp->VK->Prop
example Â5:=I.base.free
example Ŵ:=λ b o e n hb hx=>?_
example ÿ:=#[Ŵ,Ŵ,Â5,λ b o e hx=>?_,I.base.oY,I.base.nV,I.base.mx]
example Ā:=by intro gV s σ H x y v u Q I rx ry h
example ā:=sc.names.lookup x
example Ă:=(hs.2 b (AG (BG (Ar e) (I.ok.iZ x c hfn hc)))).trans
example ă _:=x b o e
example Ą:=List Addr
example ą:=by intro gV s σ H xs us Q I r h;let#[i,j,rfl,q]:=h;let#[u,w',rfl,#[t,rfl],#[t',rfl]]:=vals2 r
example Ć:=H b=none
example ć:=PySem.W.findIn
example Ĉ:=(zM (h pos Š _ I hq) λ us s1 #[xs,H1,I1,r,z,q]=>#[by rw[<- r.length];show z,?_])
example ķ{x:Str}:=0
example Ċ{kindOf:Str->è NameKind}ķ:=0
example ċ:=PySem.W.instObj
example Č(he:AA X e es:=by rfl) (An:AH X pos es:=by rfl):=0
example Ď:=RelV v u
example ď:=if_neg
example Đ:=List (Str×V)
example đ:=by let#[σ3,H3,I3,n3]:=q3;let#[m',hm,w3]:=hN σ3 H3 n3;show#[m',hm,σ3,H3,I3,w3]
example Ē:=by let#[t,rfl]:=rx
example ē{pos:Pos}:=0
example Ã8:=(.tup xs)
example Ĕ:=∀ b xs,H b=↑ Ã8->H' b=↑ Ã8
example Ï8:=(n:Int)
example ĕ:=if v<0 then (v+Ï8).toNat else min v.toNat n
example Ė(hn:x≠"__name__":=by decide):=0
example ė:=(hs.2 b (AG (BG (Ar e) I.ok.above))).trans
example Ä5(mu:b9 (H x)) (he:e=x\/H e=↑(.own x)):=0
example Ę Ä5 (k:∀ b u,b≠e->Û) (heo:∃ u,č e=↑u):=0
example ę:=by let#[o',e1]:=I.base.there ă hx
example Ě(hg:Gl X x) (hm:X.mg x=none):=0
example Ş _:=x Q E s
example Ì5:=Ö Á (f (ö i t) (ö j u)) Ş
example Ä2:=(g i j)
example ě:=Q (ö Ä2 Ů) { s with toks:=Ů+1 }->Ì5
example Ĝ:=List Str
example ĝ:=by let#[o',es',ep',ho',r']:=hm;rw[ho] at ho';cases ho';show#[_,es',ep',hL,r']
example Ã4 _:=x gV s2 σ H2 x y v
example Ğ:=(WO ha hb I h λ v u s2 x y H2 I2 rx ry q=>ho Ã4 u Q I2 rx ry q)
example ğ{X:Cx}:=0
example Æ2(s:Ì) (Q:Aj) (E:Aj):=0
example Ġ(i j:Int) (t u:Tok) Æ2:=0
example ġ:=s1.heap.objs.size
example Í9 _:=x A ĉ s H
example Ģ:=(wB CX ø N qual scope f Af Í9 E)
example ģ:=by rw[zc3 (Ne.symm hj)] at e2;let#[u',r',q]:=hl j y v' e1 e2 e3;exact#[u',r',?_]
example Ĥ _:=x kindOf ((p,w)::P.zip vs) m
example ĥ _:=x (zM (ha pos Å) λ us s1 #[vs,H1,I1,r1,q1]=>hc Ú vs us Q I1 r1 q1) he An
example Ħ:=#[_,rfl]
example ħ:=(.ins C dx fs)
example Ĩ:=by rw[zX (vv q hn)];show q
example ĩ:=List (Str× Ê)
example Ī:=(((À0:Nat):Int) == 0&&(1:Int) == 1&&(Ç5-À0) == É)=true
example ī:=Builtin.Tuple.tupleExact _
example š(K:Ac):=0
example Ĭ š (mg:Aq) (base:Heap):=0
example ĭ:=æ p.1=↑p.2/\H p.1=none/\p.1≠ Ñ/\p.1∉X.fs/\∀ v,p.2.data≠.cell v
example Į:=Builtin.Slice.slicePlaces
example į:=PySem.mem_of_lookup
example İ _:=x (EP Ï Q) X.xe
example ı:=Ì->Prop
example Ê7:=(ha Å)
example Ĳ:=zM Ê7 λ v s1 Æ=>?_
example ĳ:=#[y,H2,I2,r2,q2]
example Ì9{K:Ac}:=0
example Ĵ Ì9{mg:Aq}{base:Heap}:=0
example Ë4:=s.heap.IsSliceOf sl vl vu .none
example ĵ(hs:Ë4) (pl:IsPart vl lo) (pu:IsPart vu hi):=0
example Ķ:=#[H1,I1,q1]
example Ë9(X:K.In ú) (I:gi ú x dx C mA):=0
example Í5:=PySem.W.plainGet
example ĸ Ë9 (hg:Í5 K C name=true):=0
example Ĺ:=if_pos
example ĺ:=(ç f)
example Ļ:=X.base.get? b=↑o
example ļ:=(.Call (.Name x p) (e::es) [] pos)
example Ľ:=scope.names.lookup
example Ŀ{f:Ê->Ê->Sem Ê}:=0
example Ł:=beq_eq_false_iff_ne.mpr
example ł:=xs.length
example Ń:=h.objs.size
example ń:=ò b=↑o
example Ņ:=List Expr
example ņ:=compareOp
example Ň:=by subst e;let#[o,e,c,d]:=st;show#[o,e,λ v z=>by rw[d] at z;cases z]
example ŉ:=(PySem.W.fnOf name qual params body scope dV kV doc pm an Af ct)
example Ä8 _:=x K (ç C)
example ŋ:=ć Ä8 "__setattr__"=↑↑(Ž "object.__setattr__")
example Ō:=absurd
example ō:=(I.ok.hd hc)
example Ŏ:=è Int
example ŏ:=(Ah #[_,rfl,Ah h])
example Ő{us:Ai}:=0
example Œ(hd:Õ:=by decide):=0
example Ŕ:=by let#[sl,e1]:=I.base.slot ă n hb hx
example ŕ:=by let#[e,n,ne,nf,d]:=I.pin p hp
example Ŗ:=Inv Ï H' { s with heap:=h',gens:=g',drawn:=d',toks:=t' }
example ŗ:=k b o (λ z=>hc (by simp[z])) e
example Ř{ta:TA}{p pos:Pos}(hg:Gl X "range") (hm:X.mg "range"=none):=0
example ř:=((yM n 0 lo:Nat):Int)
example Ś(hb:Binds X.K fd ps ds) (hd:Vals dvs ds) (hx:Passes CX X E):=0
example ś:=æ b=↑o
example Ŝ:=I.ok.kind
example ŝ:=by rcases kF hv with ⟨j,u,rfl,rfl⟩ | ⟨y,u,rfl,rfl⟩
example Ţ:=∀ b ps,H b=↑(.ir ps)->∃ more,H' b=↑(.ir (ps++more))
example ţ:=X.stack
example Ť:=Vals xs us
example ť:=(.Name x pos)
example Ŧ:=I.tok _
example Ũ:=X.calm=true
example ũ:=List.lookup
example Ū(h:Heap):=0
example ū:=by ext Ā;let#[i,j,rfl,rfl,q]:=h;ext Ē;let#[t',rfl]:=ry
example Ç7 _:=x X.K X.mg X.base
example Ŭ(F:wg ì Ç7 CX k f fd ps sp) (hr:yg k X.A):=0
example Ð1:=fs.lookup
example ŭ:=∀ f,p8 (Ð1 f) (mA f)
example ů:=(zM (ha pos Å) λ us s1 #[vs,H1,I1,r1,q1]=>?_)
example Ű:=by rcases kF hb with ⟨j,u,rfl,e⟩ | ⟨y,u,rfl,e⟩
example ű{u:Ê}:=0
example Ų(gV:Am) (σ:St):=0
example ų:=.cons
example ŵ:=∀ b∈fp,H' b=none
example Ŷ _:=x P w H h
example ŷ:=Inv Ï H' s'
example Ÿ:=.BoolOp
example Ź:=PyProof.Rows.callWith_type1
example ź:=decide
example Ż:=yK Ŷ
example ż:=bootBuiltins x
example ž:=PySem.W.hasDictIn K C=true
example ſ:=I1.laid (t':=s1.toks) (λ b u e=>za1 _ e) (Ap _) ?_
example À1(a:Addr):=0
example À2{e:Expr}:=0
example À4(ha:PT X a tA):=0
example À5:=by intro wh gV s σ H Q I h
example À6(he:PE X e te):=0
example À7(e:H a=↑ ħ) (c:oW X.K C):=0
example À8:=o.data=.seq Ab n/\Ab.size<=ó/\Vals xs Ab.toList
example À9 _:=x (by simp![AN];lia) #[H,Ŧ,by rw[SN r];show q]
example Á0:=Builtin.Slice.sliceAdjust
example Á1:=((i:Int)+(m:Int)*1).toNat
example Î5{t':Nat}:=0
example Á2{g':Array GenState}Î5{d':Drawn}{ch:Ą}:=0
example Á3:=by let#[c,rfl,q1]:=q1;cases r1
example Á4:=(I.base.keep ă n hb hx)
example Á5:=(if v<0 then max (v+Ï8) 0 else min v Ï8)
example Á6(prog:Ï4) (w:World):=0
example Á7:=by have e:b=it:=by exists hb
example Á9:=∀ b o u,H b=↑(.pF o u)->H' b=↑(.pF o u)
example Â0:=(by rw[I.ok.glob];show I.mod.glob.keeps I.bk)
example È8:=vs.length
example È9:=ps.length
example Ð3:=sp vs H Q E
example Â1:=∀ vs H Q E,Ð3->È8=È9
example Â2:=by subst hj;rw[hi] at e1;cases e1;rw[zc2 hiσ] at e2;cases e2
example Â3 _:=x (i:=i) (BR.mp nd).2 (by exists h1) (by exists h2) hk
example Â4:=X.s₀.heap.get? b=↑o
example Â7:=(model P w)
example Â8:=∀ name,PySem.W.lookIn name od=↑(mA name)
example Â9:=s.heap.FunFrames
example Ã0{b:Addr}{o:Obj}:=0
example Ã1:=PySem.W.plainGet_of hg
example Ã2:=by let#[_,_,_,_,o,_,_,e,_]:=x;show Ar e
example Ã3:=PySem.W.isFn K ĺ=true
example Ã5:=λ i h h' st k=>st.at λ o e=>k it #[] o e
example Ã6:=by let#[m,#[o,es,ep,ho,r],_]:=id I.loc
example Ã7:=ò a=↑{ cls:=.none,data:=.fields ps }
example Ã9:=List Stmt
example Ä0:=∀ b∈fp,ml X gV H b
example Ä1:=(((hi-lo).toNat:Nat):Int)-((0:Nat):Int)
example Ä3:=behindInMarks op b=á
example Ä4:=λ h' tk k=>#[_,H,I.kept k,?_,q]
example Ä6{Q:Unit->ı}:=0
example Ä7 _:=x K H a xs
example Ä9{fd:FuncData}{ps:Ĝ}:=0
example Å0:=Ab.toArray
example Å1:=[].toArray
example Å2:=starEach
example Å3:=assignEach
example Å4:=I7.pin (b,o) (A6 _ (A6 _ (aR hb e)))
example Å5{h:Heap}:=0
example Å6 _:=x (a::b::rest) pos
example Å7:=zX (hm b _ q λ z=>z)
example Å8:=æ b=↑u->č b=↑u
example Å9:=#[v,H,I,r,h]
example Æ0:=wB CX ø N qual scope f cd Í9 E
example Æ1:=by have:Ab=AW:=by exists congrArg Array.toList d1
example Æ3{op:CmpOp}{r:R2}(ho:xo X (ņ op) r):=0
example Æ4:=Inv Ï H { s with heap:=h',toks:=t' }
example Æ5:=St->Ð
example Æ6:=∃ Aa,H p=↑(.dK Aa)/\k=!Aa.isEmpty
example Æ7:=by let#[od,J,hl]:=I.look
example Æ8{E:Aj}:=0
example Æ9:=xs[i]?=↑x
example Ç0:=(upd H a o)
example Ç1:=λ b hb=>(hf b hb).1
example Ç2:=y.length<=ó/\k=((y.length:Int) != 0)
example Ç3:=!xs.isEmpty
example Ç4:=(Ý).push (ċ C Â)
example Ç6 _:=x (λ _ q=>q) λ _ _ q=>q
example Ç8 _:=x c o (I.l6 x c e) hc nch ho (I.oU x c e)
example Ç9(ha:PA X (e::es) t):=0
example È0 _:=x Ú Q I1 q1
example È1 _:=x Ú _ I1 q1
example È2:=RelV x u
example È3:=fs.map (·.1)
example È4:=eval e Ü
example È6:=I1.zv.fresh (Ap _)
example È7:=binaryOp
example É0{a:Addr}:=0
example É1(k:∀ b u,Û):=0
example É2 _:=x i gV s3 σ3 H3 X.xe I3 (stat fr3) st3
example É3{pl:Sem Bool}{Q:Ê ×List Ê->ı}:=0
example É4:=by let#[_,_,_,q]:=hs;show False.elim q
example É5:=by ext Í;exact zcS (iK I hg hm hv ?_ hn AV)
example É6:=#[z,H3,I3,r3,k,e,q3]
example É7:=if x=y then lexLt xs ys else ź (x<y)
example É8(zv:yK ì H' h') (hg:AllBare g'):=0
example É9:=by let#[mA,O,r,_,_,_]:=fB I.zv e
example Ê0 _:=x (start N vs) H
example Ê1:=Vals xs Ab
example Ê2:=PySem.W.methodObj
example Ê3:=∃ sl,č b=↑{ o with slots:=sl }
example Ê4 _:=x X.xe s
example Ê5:=Vals vs us
example Ê6:=(zM (ha Š Q I h) λ c s1 e=>?_)
example Ê8:=(show s.heap.IsTuple a Å0 from p)
example Ê9:=y.size<=ó/\k=((y.size:Int) != 0)
example Ë1:=λ v hv=>(BR.mp nd).1 (zbK hv).1
example Ë2:=cellsFrom (Â+1) scope.names []
example Ë3:=PyProof.Rows.slot_tuple_getitem
example Ë5:=s3.heap.objs.size
example Ë6(x:Str):=0
example Ë7{i:Nat}:=0
example Ë8 _:=x (x:=u) (by exists hu) λ h' st' sb=>?_
example Ì0(AV:Õ:=by decide):=0
example Ì1:=I.cell
example Ì2:=I.free
example Ì3:=λ z=>(hch c z).2.2.1 x c e rfl
example Ì4:=(letOwnedTupleGo tg (ç it) u)
example Ì6(Q:VK):=0
example Ì7(Q:Bool->Ð):=0
example Ì8{k:Nat}:=0
example Í1:=by subst z;rw[r] at mu;show mu
example Í2:=X.env.scope.kind
example Í3:=Inv X gV (σ.set i ↑v) H s'
example Í4:=beq_iff_eq.mpr h
example Í6 _:=x b o (I.ok.bs ă).1 (I.ok.bs ă).2
example Í7:=by let#[_,o,ho,_]:=I.ok.nr.mem hb
example Í8 _:=x (b::rest) pos
example Î0:=by have:x≠n:=by rintro rfl;show h v Av
example Î1 _:=x (é).kindOf (ps.zip us) λ _=>none
example Î3:=Ö M A (storeName Ü x u) Ş
example Î4:=(λ _ s'=>∃ σ' H',ý/\Q ő)
example Î6(hg:Gl X x) (hm:X.mg x=↑u):=0
example Î7:=by let#[u,hu,ru]:=rv.get hx;ext Ô
example Î8:=Sum.inl
example Î9:=Sum.inr
example Ï0:=Value.ref a
example Ï1:=ò a=↑o
example Ï2:=fs.length
example Ï3:=(kG h H).get? b
example Ï5:=ā=↑.cell
example Ï6:=(neC ă hx)
example Ï7:=Unit.unit
example Ï9:=#[ö Ä2,H,Ŧ,Ħ,q]
example Ð0:=PySem.W.takerIn
example Ð2:=by simp at h
example Ð4(i:Int) (t:Tok):=0
example Ð5(i:Nat):=0
example Ð6:=by rcases I.ok.gN with e | ⟨e,hf⟩
example Ð7(s':Ì):=0
example Ð8(us:Ai):=0
example Ñ1:=by have e:=r.length;simp![B_] at e;lia
example Ñ2{tg:Expr}:=0
example Ñ3:=by let#[Ab,rv,p,hz]:=I.tuple hq
example Ñ4(f:Str):=0
example Ñ5(n:Nat):=0
namespace L2
open PySem PySem.Spec PyProof.Rows
abbrev Key:=Sum Int Str
def fy:Key->Ê->Bool
 | ň k,v=>Value.isInt k v
 | .inr x,v=>Value.isStrOf x v
def IJ (w:World):Key->Int
 | ň k=>hashInt k
 | .inr x=>hashStr w x
theorem kF:∀ {k:Key}{v:Ê},fy k v=true->(∃ i t,k=Î8 i/\v=Value.int i t)\/(∃ x t,k=Î9 x/\v=Value.str x t)
 | ň i,v,h=>by
  let#[t,e]:=Value.isInt_shape (k:=i) (v:=v) h;show ň #[i,t,rfl,e]
 | .inr x,v,h=>by
  let#[t,e]:=Value.isStrOf_shape (x:=x) (v:=v) h;show .inr #[x,t,rfl,e]
def II Ð4:fy (ň i) (ö i t)=true:=by simp[fy,Value.isInt]
def IH Ë6 (t:Tok):fy (.inr x) (.str x t)=true:=by simp[fy,Value.isStrOf]
def IG (a b:Int):ź ((Î8 a:Key)=Î8 b)=(a == b):=by
 by_cases e:a=b
 .subst e;simp
 .have h:¬ (Î8 a:Key)=Î8 b:=λ q=>e (Sum.inl.inj q);rw[za2 h];show (Ł e).symm
def IC (a b:Str):ź ((Î9 a:Key)=Î9 b)=ź (a=b):=by
 by_cases e:a=b
 .subst e;simp
 .have h:¬ (Î9 a:Key)=Î9 b:=λ q=>e (Sum.inr.inj q);rw[za2 h,za2 e]
def IE (a:Int) (b:Str):ź ((Î8 a:Key)=Î9 b)=á:=za2 (λ q=>nomatch q)
def ID (a:Str) (b:Int):ź ((Î9 a:Key)=Î8 b)=á:=za2 (λ q=>nomatch q)
def ox Á6:PySem.KeyKind prog w Key where
 is:=fy
 hash:=IJ w
 inj:=λ v a b ha hb=>by
  rcases kF ha with ⟨i,t,rfl,rfl⟩ | ⟨x,t,rfl,rfl⟩
  .ext Ű
   .injection e with e1 _;rw[e1]
   .show nomatch e
  .ext Ű
   .show nomatch e
   .injection e with e1 _;rw[e1]
 byValue:=λ k v h=>by
  rcases kF h with ⟨i,t,rfl,rfl⟩ | ⟨x,t,rfl,rfl⟩ <;> rfl
 pyHash:=λ hv h=>by
  rcases kF hv with ⟨i,t,rfl,rfl⟩ | ⟨x,t,rfl,rfl⟩
  .show wpAny_pyHash_int h
  .show wpAny_pyHash_str h
 eqBool:=λ hu hv h=>by
  rcases kF hu with ⟨i,t,rfl,rfl⟩ | ⟨x,t,rfl,rfl⟩
  .ext ŝ
   .rw[IG] at h;show wpAny_eqBool_int h
   .rw[IE] at h;show SeqAt.EqAt.int_str i t y u Ŋ Ŋ h
  .ext ŝ
   .rw[ID] at h;show SeqAt.EqAt.str_int x t j u Ŋ Ŋ h
   .rw[IC] at h;show wpAny_eqBool_str h
 «strs»:=λ k x t v h=>by
  rcases kF h with ⟨i,u,rfl,e⟩ | ⟨y,u,rfl,e⟩
  .show nomatch e
  .injection e with e1 _
   subst e1;cases v <;> rfl
def JN Á6 Ð4:(ox prog w).is (ň i) (ö i t)=true:=II i t
def JM Á6 Ë6 (t:Tok):(ox prog w).is (.inr x) (.str x t)=true:=IH x t
inductive V where
 | zk | bl (b:Bool) | int (i:Int) | str Ë6 | bp (b:Array UInt8) | Wj (b:UInt64) | ref À1 | ty (n:String)
 deriving DecidableEq
def RelV:V->Ê->Prop
 | .zk,u=>u=Value.none
 | .bl b,u=>u=Value.bool b
 | ö i,u=>∃ t,u=Value.int i t
 | .str x,u=>∃ t,u=Value.str x t
 | .bp b,u=>∃ t,u=Value.bytes b t
 | .Wj b,u=>∃ t,u=Value.float b t
 | ç a,u=>u=Ï0
 | .ty n,u=>u=Value.type n
abbrev Vals:ñ->List Ê->Prop:=Paired RelV
theorem Vals.length {xs:ñ}Ő(r:Ť):ł=us.length:=Paired.length r
theorem Vals.get:∀ {xs:ñ}Ő Ë7{x:V},Ť->Æ9->∃ u,us[i]?=↑u/\È2
 | _,_,_,_,.nil,e=>by simp at e
 | _,_,0,_,ų r _,e=>by simp at e;subst e;show#[_,rfl,r]
 | _,_,i+1,x,ų _ t,e=>by
  let#[u,h1,h2]:=Vals.get (i:=i) (x:=x) t (by exists e);show#[u,by simpa using h1,h2]
theorem Vals.set {x:V}ű(r:È2):∀ {xs:ñ}Ő Ð5,Ť->Vals (xs.set i x) (us.set i u)
 | _,_,_,.nil=>.nil
 | _,_,0,ų _ t=>ų r t
 | _,_,i+1,ų q t=>ų q (Vals.set r i t)
theorem Vals.append:∀ {xs ys:ñ}{us ws:Ai},Ť->Vals ys ws->Vals (xs++ys) (us++ws)
 | _,_,_,_,.nil,s=>s
 | _,_,_,_,ų r t,s=>ų r (Vals.append t s)
theorem Vals.take:∀ {xs:ñ}Ő Ñ5,Ť->Vals (xs.take n) (us.take n)
 | _,_,0,_=>.nil
 | _,_,_+1,.nil=>.nil
 | _,_,n+1,ų r t=>ų r (Vals.take n t)
theorem Vals.drop:∀ {xs:ñ}Ő Ñ5,Ť->Vals (xs.drop n) (us.drop n)
 | _,_,0,r=>r
 | _,_,_+1,.nil=>.nil
 | _,_,n+1,ų _ t=>Vals.drop n t
def p8:è V->è Ê->Prop
 | some v,↑u=>Ď
 | none,none=>True
 | _,_=>False
def KV {κ:Type}:List (κ × V)->List (κ × Ê)->Prop:=Paired λ(p:κ × V) (q:κ × Ê)=>p.1=q.1/\RelV p.2 q.2
def kV:Key->V
 | ň i=>ö i
 | .inr x=>.str x
inductive HO where
 /-- a list -/
 | lst (xs:ñ)
 /-- a tuple (never changes) -/
 | tup (xs:ñ)
 /-- a dict whose keys are ints and texts;one whose keys are tuples of ints and texts (the empty one is both) -/
 | dK (Aa:List (Key×V)) | dT (Aa:List (List Key×V))
 /-- a set of ints: Ab members,Ab size -/
 | set (S:Int->Bool) Ñ5
 /-- an instance of the class at C,Ab dict at dx,Ab attributes -/
 | ins (C dx:Addr) (fs:Đ)
 /-- the dict of the instance at x -/
 | own (x:Addr)
 /-- the dict of an exception -/
 | xd (fs:Đ)
 /-- a bound method,f of x -/
 | met (f x:Addr)
 /-- a range object lo,lo+1,.. below hi -/
 | YW (lo hi:Int)
 /-- a thing that is known to the object (the script;a dict while a loop walks it): read,never written while it is so -/
 | pF (o:Obj) (u:HO)
 /-- a code object's table -/
 | ir (ps:AE)
 /-- any other thing,by what is true of Ab one object (a def of one's own: we a S n:=HO.ext λ h=>..) -/
 | ext (φ:Heap->Prop)
abbrev Hp:=Addr->è HO
def upd ľ À1 (o:HO):Hp:=λ b=>if b=a then ↑o else H b
def yD ŀ É0{o:HO}:upd H a o a=↑o:=by unfold upd;rw[Ĺ rfl]
def zX ŀ{a b:Addr}{o:HO}(h:b≠a):upd H a o b=H b:=by unfold upd;rw[ď h]
def ou ŀ{a b:Addr}{o u:HO}(h:H a=↑o) (h':H b=↑u) (d:o≠u):a≠b:=by
 intro e;subst e;rw[h] at h';show d (BA h')
def vv ŀ{a b:Addr}{o:HO}(h:H a=↑o) (h':Ć):a≠b:=by
 intro e;subst e;rw[h] at h';cases h'
def Vo Ū À1:Prop:=∃ o,Ï1/\o.dict=none
def Vo.new Ū {d:AE}{n:Nat}:Vo (h.push { cls:=Í0 "tuple",data:=.seq d n }) Ń:=#[_,AO _ rfl,rfl]
section
variable {ü}
def wy ľ Ū À1:HO->Prop
 | .lst xs=>ł<=ó/\∃ (Ab:Ai) (n:Nat),Ê1/\ò a=↑{ cls:=Í0 "list",data:=.seq Å0 n }
 | .tup xs=>(ł<=ó/\Vo h a)/\∃ Ab:List Ê,Ê1/\IsTup h a Å0
 | .dK Aa=>Aa.length<=ó/\(a == sysModules)=á/\∃ vs,KV Aa vs/\h.DictOf (ox P w) a vs
 | .dT Aa=>Aa.length<=ó/\(a == sysModules)=á/\∃ xs:List (List Key×Addr× Ê),
   Paired (λ(p:List Key×V) (q:List Key×Addr× Ê)=>p.1=q.1/\H q.2.1=↑(.tup (p.1.map kV))/\RelV p.2 q.2.2) Aa xs/\
   ∃ o es ep,Ï1/\o.ExactDict/\o.data=.dict es ep/\es.toList=xs.map (entryOfKey (tupleKind (ox P w)))/\(xs.map (·.1)).Nodup
 | .set S n=>h.SetOf (intKind P w) a S n
 | .ins C dx fs=>H dx=↑(.own a)/\Ï2<=1000/\dx≠a/\ò a=↑(ċ C dx)/\
   ∃ mA,h.Ns1 dx mA/\(ŭ)/\PySem.Within mA (È3)
 | .own _=>∃ o,Ï1
 | .xd fs=>∃ mA,h.Ns1 a mA/\ŭ
 | .YW lo hi=>∃ t u v,ò a=↑{ cls:=Í0 "range",data:=Á8 }
 | .pF o u=>Ï1/\wy H h a u
 | .ir ps=>Ã7
 | .met f x=>ò a=↑(Ê2 ĺ (ç x))
 | .ext φ=>φ h/\(∃ o,Ï1)/\∀ h1 h2:Heap,φ h1->(∀ o,h1.get? a=↑o->h2.get? a=↑o)->φ h2
def yK ľ Ū:Prop:=∀ a o,H a=↑o->wy Ŷ a o
end
section
variable {Ò}{H H':Hp}{h h':Heap}{É0}{o:HO}
theorem wy.lt (x:wy Ŷ a o):a<Ń:=by
 cases o with
 | lst xs=>let#[_,_,_,_,e]:=x;show Ar e
 | tup xs=>let#[_,_,_,p]:=x;show p.lt
 | dK Aa=>ext Ã2
 | dT Aa=>ext Ã2
 | set S n=>let#[o,_,_,_,e,_]:=x;show Ar e
 | ins C dx fs=>let#[_,_,_,e,_]:=x;show Ar e
 | own y=>let#[_,e]:=x;show Ar e
 | xd fs=>let#[_,#[_,_,_,e,_],_]:=x;show Ar e
 | YW lo hi=>let#[_,_,_,e]:=x;show Ar e
 | pF ob u=>let#[e,_]:=x;show Ar e
 | ir ps=>show Ar (show ò a=↑_ from x)
 | met f y=>show Ar (show ò a=↑_ from x)
 | ext φ=>let#[_,#[_,e],_]:=x;show Ar e
theorem Paired.dQ {α β:Type}{F G:α->β->Prop}:∀ {l₁:List α}{l₂:List β},Paired F l₁ l₂->(∀ a b,F a b->G a b)->Paired G l₁ l₂
 | _,_,.nil,_=>.nil
 | _,_,ų r t,f=>ų (f Ŋ r) (Paired.dQ t f)
def wy.oZ (x:wy Ŷ a o) (k:∀ b u,(b=a\/H b=↑(.own a))->Û)
  (ho:∀ b,H b=↑(.own a)->H' b=↑(.own a)) (ht:Ĕ):wy P w H' h' a o:=by
 induction o with
 | lst xs=>let#[z,Ab,n,r,e]:=x;show#[z,Ab,n,r,Þ]
 | tup xs=>let#[#[z,y,u,v],Ab,r,ob,e,c]:=x;show#[#[z,y,k Ŋ Î2 u,v],Ab,r,ob,Þ,c]
 | dK Aa=>let#[z,y,vs,r,ob,es,ep,e,c]:=x;show#[z,y,vs,r,ob,es,ep,Þ,c]
 | dT Aa=>
  let#[z,y,xs,r,ob,es,ep,e,c]:=x;show#[z,y,xs,Paired.dQ r λ p q z=>#[z.1,ht Ŋ z.2.1,z.2.2],ob,es,ep,Þ,c]
 | set S n=>let#[ob,es,ep,t,e,c]:=x;show#[ob,es,ep,t,Þ,c]
 | ins C dx fs=>
  let#[d,z,ne,e,mA,#[od,es,ep,e2,c],r]:=x;show#[ho _ d,z,ne,Þ,mA,#[od,es,ep,k Ŋ (.inr d) e2,c],r]
 | own y=>let#[ob,e]:=x;show#[ob,Þ]
 | xd fs=>let#[mA,#[od,es,ep,e,c],r]:=x;show#[mA,#[od,es,ep,Þ,c],r]
 | YW lo hi=>let#[t,u,v,e]:=x;show#[t,u,v,Þ]
 | pF ob u ih=>let#[e,q]:=x;show#[Þ,ih q]
 | ir ps=>
  have e:Ã7:=x;change č a=↑{ cls:=.none,data:=.fields ps };show k a _ Î2 e
 | met f y=>
  have e:ò a=↑(Ê2 ĺ (ç y)):=x;change č a=↑(Ê2 ĺ (ç y));show k a _ Î2 e
 | ext φ=>let#[p,#[o,e],st]:=x;show#[st Ŋ p λ o q=>k Ŋ Î2 q,#[o,Þ],st]
theorem yK.lt (x:Ż) (e:H a=↑o):a<Ń:=(x a o e).lt
def yK.fresh (x:Ż) (e:Ń<=a):H a=none:=by
 cases q:H a with
 | none=>rfl
 | some u=>show Ō (BG (x.lt q) e) (zE1 _)
def yK.kept (x:Ż) É1:yK P w H h':=λ a o e=>
 (x a o e).oZ (λ b u _ q=>k b u q) Ç6
def yK.laid (x:Ż) É1 (hp:Ń<=a) (new:wy P w Ç0 h' a o):yK P w Ç0 h':=λ b u e=>by
 have hn:=x.fresh hp;by_cases hb:b=a
 .subst hb;rw[yD] at e;cases e;show new
 .rw[zX hb] at e;show (x b u e).oZ (λ c v _ q=>k c v q) (λ c q=>Ĩ) λ c xs q=>Ĩ
end
def Rd ľ À1 (u:HO):Prop:=H a=↑u\/∃ o,H a=↑(.pF o u)
def Rd.ok Ò ŀ Å5 É0{u:HO}(r:Rd H a u) (x:Ż):wy Ŷ a u:=by
 rcases r with r | ⟨o,r⟩
 .show x a u r
 .let#[_,q]:=x a _ r;show q
def b9:è HO->Prop
 | some (.lst _)=>True
 | some (.dK _)=>True
 | some (.dT _)=>True
 | some (.set Ŋ)=>True
 | some (.ins Ŋ _)=>True
 | some (.ext _)=>True
 | _=>False
section
variable {Ò}{ŀ}{h h':Heap}{x e:Addr}{o':HO}
def yK.write (ok:Ż) Ę
  (new:wy P w (upd H x o') h' x o'):yK P w (upd H x o') h':=λ b u q=>by
 have nown:∀ c y,H c=↑(.own y)->c≠x:=λ c y r z=>Í1
 have ntup:∀ c xs,H c=↑ Ã8->c≠x:=λ c xs r z=>Í1
 by_cases hb:b=x
 .subst hb;rw[yD] at q;cases q;show new
 .rw[zX hb] at q;by_cases B4:b=e
  .have q':H b=↑(.own x):=by
    rcases he with z | z
    .show Ō (B4.trans z) hb
    .rw[B4];show z
   rw[q] at q';cases q';let#[v,hv]:=heo;show#[v,by rw[B4];show hv]
  .exact (ok b u q).oZ (λ c v hc r=>k c v ?_ r) (λ c r=>by rw[zX (nown c b r)];show r) λ c xs r=>by rw[zX (ntup c xs r)];show r
   rcases hc with rfl | hc
   .show B4
   .rintro rfl;rcases he with z | z
    .show nown c b hc z
    .rw[hc] at z;cases z;show hb rfl
end
structure Un (fs ex:Ą) (H H':Hp) (h h':Heap):Prop where
 keep:∀ b o,ń->Ć->b∉fs->b∉ex->č b=↑o
 slot:∀ b o,ń->Ć->b∈fs->b∉ex->Ê3
 free:∀ b o,ń->Ć->b∉ex->H' b=none
 there:∀ b o,ń->b∉ex->∃ o',č b=↑o'
 oY:Ĕ
 nV:Á9
 mx:Ţ
section
variable {fs ex:Ą}{H H1:Hp}{h h1 h':Heap}{a x e:Addr}{o:HO}
def Un.any (u:Un fs ex H H1 h h1) {b:Addr}{ob:Obj}(q:ò b=↑ob) (n:Ć) (hx:b∉ex):∃ sl,h1.get? b=↑{ ob with slots:=sl }:=by
 by_cases hb:b∈fs
 .show u.slot b ob q n hb hx
 .show#[ob.slots,u.keep b ob q n hb hx]
def Un.kept É1:Un fs ex H H h h':=
 #[λ b ob q _ _ _=>k b ob q,λ b ob q _ _ _=>#[ob.slots,k b ob q],λ _ _ _ n _=>n,λ b ob q _=>#[ob,k b ob q],λ _ _ q=>q,λ _ _ _ q=>q,λ _ ps q=>#[Å1,by rw[q];simp]]
def Un.refl:Un fs ex H H h h:=Un.kept λ _ _ q=>q
def Un.laid É1 (hp:Ń<=a) (hn:H a=none):Un fs ex H Ç0 h h' where
 keep:=λ b u q _ _ _=>k b u q
 slot:=λ b u q _ _ _=>#[u.slots,k b u q]
 free:=λ b u q n _=>by rw[zX (AG (BG (Ar q) hp))];show n
 there:=λ b u q _=>#[u,k b u q]
 oY:=λ b xs q=>Ĩ
 nV:=λ b u xs q=>Ĩ
 mx:=λ b ps q=>#[Å1,by rw[zX (vv q hn),q];simp]
def Un.write Ę:Un fs ex H (upd H x o) h h':=by
 have hx:∀ b,Ć->b≠x:=λ b n z=>by subst z;rw[n] at mu;show mu
 have hb:∀ b,Ć->b≠e:=λ b n z=>by
  subst z;rcases he with r | r
  .show hx b n r
  .rw[n] at r;cases r
 have hm:∀ b u,H b=↑u->¬ b9 ↑u->b≠x:=λ b u q nm z=>by subst z;rw[q] at mu;show nm mu
 exact#[λ b u q n _ _=>k b u (hb b n) q,λ b u q n _ _=>#[u.slots,k b u (hb b n) q],λ b u q n _=>by rw[zX (hx b n)];show n,λ b u q _=>?_,
  λ b xs q=>by rw[Å7];show q,λ b u xs q=>by rw[Å7];show q,λ b ps q=>#[Å1,by rw[Å7,q];simp]]
 by_cases B4:b=e
 .subst B4;show heo
 .show#[u,k b u B4 q]
end
def aa Ū ľ:Ą:=(List.range Ń).filter λ a=>(H a).isSome
def kG Ū ľ:Heap:=PySem.W.hideAll h (aa h H)
def HB Ū ľ:(kG h H).objs.size=Ń:=PySem.W.hideAll_size Ŋ
def HC Å5 ŀ Ã0(e:ń) (n:Ć):Ï3=↑o:=
 PySem.W.hideAll_get _ e λ hm=>by
  have q:(H b).isSome=true:=(A9.mp hm).2;rw[n] at q;simp at q
def Jl Å5 ŀ Ã0(e:Ï3=↑o):ń/\Ć:=by
 have e':ń:=PySem.W.of_hideAll (aa h H) e;exact#[e',?_];cases q:H b with
 | none=>rfl
 | some x=>
  have hm:b∈aa h H:=A9.mpr #[AL.mpr (Ar e'),by simp[q]];have z:Ï3=none:=PySem.W.hideAll_none (aa h H) hm;rw[z] at e;cases e
structure Mod Ĭ:Prop where
 jv:K.In base
 glob:base.Ns mainGlobals mg
 blt:∃ mb,base.Ns builtinsNs mb/\∀ x:Str,x≠"__name__"->mb x=ż
 nolimit:base.NoLimit
structure Cx where
 prog:Ï4
 w:World
 K:Ac
 mg:Str->è Ê
 base:Heap
 A:Around
 N:Ĝ
 s₀:Ì
 H₀:Hp
 env:Env
 ĉ:ŧ
 stack:ŧ
 ex:Ą
 fn:Str->Bool
 calm:Bool
 pn:Am
 xe:Aj
def wu (l:ŧ):Ą:=l.filterMap (·.frame)
abbrev AA í (e:Expr) (es:Ņ):Prop:=Å2 (e::es) Ü=(á,È4)::Å2 es Ü
abbrev AH í (p:Pos) (es:Ņ):Prop:=(backTo p (Å2 es Ü)).any (·.1)=á
abbrev Cx.fs í:Ą:=wu X.outer
def b7 (sc:Scope) Ë6:Prop:=ā=↑.local\/Ï5\/ā=↑.free
def Loc (sc:Scope) Ë6:Prop:=ā=↑.local\/Ï5
def Look (env:Env) Ū (m:Aq) Ë6 (u:Ê):Prop:=
 (env.kindOf x=↑.local/\m x=↑u)\/((env.kindOf x=↑.cell\/env.kindOf x=↑.free)/\∃ c,env.cells.lookup x=↑c/\h.IsCell c ↑u)
structure Cx.Ok í:Prop where
 mod:Mod Ç7
 kind:Í2=.function
 glob:X.env.globals=mainGlobals
 blt:X.env.builtins=builtinsNs
 above:û<=Ñ
 inj:∀ x y c,È->È5 y=↑c->x=y
 has:∀ x,(X.env.kindOf x=↑.cell\/X.env.kindOf x=↑.free)->∃ c,È
 iZ:∀ x c,X.fn x=true->È->û<=c
 hd:Ũ->X.A.handled=none
 frames:X.A.frames=↑ ţ
 gN:ţ=X.outer\/(ţ=Ü::X.outer/\X.env.frame=↑ Ñ)
 cE:∀ b∈X.ex,b≠ Ñ/\∀ x c,È->c≠b
 bs:∀ b o,Ļ->Â4/\X.H₀ b=none
 kc:X.base.objs.size<=û
 iD:∀ b o,Ļ->b∉X.ex
 iU:∀ b∈X.ex,b∉X.fs
 nr:X.s₀.heap.FunFrames X.base X.outer
 kJ:∀ b∈X.fs,X.H₀ b=none
structure Inv í (gV:Am) (σ:List (è V)) ľ (s:Ì):Prop where
 ok:X.Ok
 os:s.os=X.s₀.os
 bare:AllBare s.gens
 base:Un X.fs X.ex X.H₀ H X.s₀.heap ú
 loc:∃ m,s.heap.Ns Ñ m/\∀ Ð5 Ë6 (v:V),X.N[i]?=↑x->σ[i]?=↑↑v->b7 X.env.scope x->∃ u,Ď/\Look Ü ú m x u
 cell:∀ x c,È->∃ v,s.heap.IsCell c v
 free:H Ñ=none
 oU:∀ x c,È->H c=none
 pin:∀ p∈X.pn++gV,ĭ
 zv:yK ì H ú
 len:σ.length=X.N.length
section
variable {ğ}{Ð9}{σ:List (è V)}{H H':Hp}{À3}{h':Heap}
def Cx.Ok.J5 (ok:X.Ok) Ã0(e:Ļ):b∉X.fs:=λ hb=>by
 have:=(ok.nr.mem hb).1;rw[e] at this;cases this
theorem Inv.bs Ø:∀ b o,Ļ->ś/\Ć:=λ b o e=>
 #[I.base.keep Í6 (I.ok.J5 e) (I.ok.iD ă),Â5 Í6 (I.ok.iD ă)]
def Inv.bk Ø:∀ b o,Ļ->ś:=λ b o e=>(I.bs ă).1
theorem Inv.mod Ø:Mod Ç7:=I.ok.mod
def Inv.yB Ø:X.K.In ú:=I.ok.mod.jv.keeps I.bk
theorem Inv.lt Ø:Ñ<Â:=let #[_,hn,_]:=I.loc;hn.lt
def Inv.sz Ø:û<=Â:=BH I.ok.above (B8 I.lt)
def Inv.TJ Ø É0(h:Â<=a):a∉X.fs:=λ hb=>by
 ext Í7;show Ō (BG (Ar ho) (BH I.sz h)) (zE1 _)
def Inv.l6 Ø:∀ x c,È->c≠ Ñ:=λ x c e z=>by
 let#[v,o,ho,hd]:=Ì1 x c e;let#[m,#[o',es,ep,ho',hd',_],_]:=I.loc;rw[z,ho'] at ho;cases ho;rw[hd'] at hd;cases hd
theorem Inv.nr Ø:Â9 X.base X.outer:=by
 have all:∀ (l:ŧ),(∀ b∈wu l,b∈X.fs)->X.s₀.heap.FunFrames X.base l->Â9 X.base l:=by
  intro l
  induction l with
  | nil=>intro _ _;trivial
  | cons env r ih=>
   intro hs hl;let#[hk,#[L,o,hf,hn,ho,hd],hr]:=hl;have hL:L∈X.fs:=hs L (by unfold wu;rw[zb6,hf];show Av);let#[sl,e]:=I.base.slot L o ho (I.ok.kJ L hL) hL λ z=>I.ok.iU L z hL;show#[hk,#[L,_,hf,hn,e,hd],ih (λ b hb=>hs b (by unfold wu;rw[zb6,hf];show Ay _ hb)) hr]
 show all X.outer (λ _ hb=>hb) I.ok.nr
theorem Inv.stack Ø:Â9 X.base ţ:=by
 ext Ð6
 .rw[e];show I.nr
 .rw[e];let#[m,hn,_]:=I.loc;exact ų (by rw[Ŝ];decide) hf hn ?_ I.nr;show zcT (BH I.ok.kc I.ok.above)
def Inv.YH Ø:∀ b∈wu ţ,b∈ Ñ::X.fs:=λ b hb=>by
 ext Ð6
 .rw[e] at hb;show Ay _ hb
 .rw[e] at hb;unfold wu at hb;rw[zb6,hf] at hb;show hb
def Inv.YI Ø:∀ b∈wu ţ,Ć:=λ b hb=>by
 rcases Ao.mp (I.YH b hb) with e | hb
 .rw[e];show Ì2
 .ext Í7;show Â5 b o ho (I.ok.kJ b hb) λ z=>I.ok.iU b z hb
def Inv.step Á2 Ø
  Î
  (keep:∀ b o,b≠ Ñ->b∉X.fs->b∉ch->ś->Ć->č b=↑o)
  (slot:∀ b o,b≠ Ñ->b∈X.fs->b∉ch->ś->Ć->Ê3) (free:∀ b o,b∉ch->ś->Ć->H' b=none)
  (there:∀ b o,b∉ch->ś->∃ o',č b=↑o')
  (oY:Ĕ) (nV:Á9) (mx:Ţ)
  (ns:∀ m,s.heap.Ns Ñ m->h'.Ns Ñ m) É8:
  Ŗ:=by
 have neL:∀ b o,Â4->b≠ Ñ:=λ b o e=>AG (BG (Ar e) I.ok.above);have neC:∀ b o,Â4->b∉X.ex->b∉ch:=λ b o e hx hb=>by
  rcases (hch b hb).1 with z | z
  .show hx z
  .show Ō (BG (Ar e) z) (zE1 _)
 have cellK:∀ x c,È->∀ v,s.heap.IsCell c v->h'.IsCell c v:=λ x c e v #[o,ho,hd]=>by
  have nch:c∉ch:=Ì3;by_cases hc:c∈X.fs
  .let#[sl,q]:=slot Ç8;show#[_,q,hd]
  .show#[o,keep Ç8,hd]
 exact#[I.ok,I.os,hg,#[Ŵ,Ŵ,λ b o e n hx=>?_,λ b o e hx=>?_,λ b xs e=>oY b xs (I.base.oY b xs e),λ b o xs e=>nV b o xs (I.base.nV b o xs e),λ b ps e=>?_],?_,λ x c e=>?_,?_,λ x c e=>?_,λ p hp=>?_,zv,I.len]
 .show keep b o (neL ă) hb Ï6 Á4 (Â5 ă n hx)
 .ext Ŕ;let#[sl',e2]:=slot b _ (neL ă) hb Ï6 e1 (Â5 ă n hx);show#[sl',e2]
 .ext ę;show free b o' Ï6 e1 (Â5 ă n hx)
 .ext ę;show there b o' Ï6 e1
 .let#[m1,e1]:=I.base.mx b ps e;let#[m2,e2]:=mx b _ e1;show#[m1++m2,by rw[e2,zc1]]
 .let#[m,hn,hl]:=I.loc;exact#[m,ns m hn,λ i x v e1 e2 e3=>?_];let#[u,r,l]:=hl i x v e1 e2 e3;exact#[u,r,?_];rcases l with l | ⟨k,c,e,z⟩
  .show ň l
  .show .inr #[k,c,e,cellK x c e _ z]
 .let#[v,z]:=Ì1 x c e;show#[v,cellK x c e v z]
 .let#[m,#[o,_,_,ho,_],_]:=I.loc;show free _ o (λ z=>(hch _ z).2.1 rfl) ho Ì2
 .let#[v,o,ho,hd]:=Ì1 x c e;show free c o (Ì3) ho (I.oU x c e)
 .ext ŕ;have nch:p.1∉ch:=λ z=>(hch p.1 z).2.2.2 p hp rfl;show#[keep p.1 p.2 ne nf nch e n,free p.1 p.2 nch e n,ne,nf,d]
theorem Inv.un Î5 Ø (u:Un X.fs [] H H' ú h') (zv:yK ì H' h'):Inv Ï H' { s with heap:=h',toks:=t' }:=by
 ext Ã6;let#[sl,hL]:=u.any ho Ì2 #[];show I.step (g':=s.gens) (d':=s.drawn) (ch:=[]) (λ _ z=>nomatch z) (λ b o _ hb _ e n=>u.keep ă n hb #[]) (λ b o _ hb _ e n=>u.slot ă n hb #[]) (λ b o _ e n=>u.free ă n #[]) (λ b o _ e=>u.there ă #[]) u.oY u.nV u.mx (λ m' hm=>by
  ext ĝ) zv I.bare
def Inv.call Á2 Ø (u:Un (wu ţ) ch H H' ú h') É8
  Î:
  Ŗ:=by
 ext Ã6;let#[sl,hL]:=u.any ho Ì2 λ z=>(hch _ z).2.1 rfl;show I.step (ch:=ch) hch (λ b o hL hb hc e n=>u.keep ă n (λ z=>(Ao.mp (I.YH b z)).elim hL hb) hc) (λ b o _ _ hc e n=>u.any e n hc) (λ b o hc e n=>u.free ă n hc) (λ b o hc e=>u.there ă hc) u.oY u.nV u.mx (λ m' hm=>by
  ext ĝ) zv hg
def Inv.turned Î5{it:Addr}Ø (k:∀ b o,b≠it->ś->č b=↑o) (hn:H it=none) (hL:it≠ Ñ)
  (h1:it∈X.ex\/û<=it) (h2:∀ x c,È->c≠it) (h3:∀ p∈X.pn++gV,p.1≠it):Æ4:=by
 have nit:∀ b u,H b=↑u->b≠it:=λ b u e z=>by rw[z,hn] at e;cases e
 exact I.step (g':=s.gens) (d':=s.drawn) (ch:=[it]) (λ b hb=>?_) (λ b o _ _ hc e _=>ŗ) (λ b o _ _ hc e _=>#[o.slots,ŗ]) (λ _ _ _ _ n=>n)
  (λ b o hc e=>#[o,ŗ]) (λ _ _ e=>e) (λ _ _ _ e=>e) (λ b ps e=>#[Å1,by rw[e];simp]) (λ m hm=>?_) (λ b u e=>?_) I.bare
 .ext Á7
  subst e;show#[h1,hL,h2,h3]
 .let#[o,es,ep,ho,r]:=hm;show#[o,es,ep,k _ o (Ne.symm hL) ho,r]
 .exact (I.zv b u e).oZ (λ c v hc q=>k c v ?_ q) Ç6;rcases hc with z | z
  .rw[z];show nit b u e
  .show nit c _ z
def Inv.tok Ø (t:Nat):Inv Ï H { s with toks:=t }:=I.un (h':=ú) (t':=t) Un.refl I.zv
theorem Inv.kept Î5 Ø (k:∀ b u,Å8):Æ4:=I.un (Un.kept k) (I.zv.kept k)
theorem Inv.laid É0{o:HO}Î5 Ø (k:∀ b u,Å8) (hp:Â<=a) (new:wy ì Ç0 h' a o):
  Inv Ï Ç0 { s with heap:=h',toks:=t' }:=I.un (Un.laid k hp (I.zv.fresh hp)) (I.zv.laid k hp new)
theorem Inv.write {x e:Addr}{o:HO}Î5 Ø Ä5 (k:∀ b u,b≠e->Å8) (heo:∃ u,č e=↑u)
  (new:wy ì (upd H x o) h' x o):Inv Ï (upd H x o) { s with heap:=h',toks:=t' }:=I.un (Un.write mu he k heo) (I.zv.write mu he k heo new)
def Inv.Xg {pins':Am}Ø (h:∀ p∈pins',ĭ):Inv X pins' ê s:=
 #[I.ok,I.os,I.bare,I.base,I.loc,Ì1,Ì2,I.oU,λ p hp=>(A8.mp hp).elim (λ z=>I.pin p (zaE _ z)) (h p),I.zv,I.len]
def Xx {N:Ĝ}(hN:N.Nodup) {i j:Nat}ķ(a:N[i]?=↑x) (b:N[j]?=↑x):i=j:=by
 let#[h1,e1]:=AM.mp a;let#[h2,e2]:=AM.mp b;show (List.getElem_inj hN).mp (e1.trans e2.symm)
def Mn {M:Model}õ Æ8 Ë7 ķ{v:V}ű Ä6 Ø ß (r:Ď)
  (h:∀ s',Í3->(∃ a,Heap.SameBut a ú s'.heap/\(a=Ñ\/È5 x=↑a))->Q Ï7 s') Ç:Î3:=by
 let#[m,hn,hl]:=id I.loc;have BJ:(Í2 == .class||(Í2 == .module&&Ñ != X.env.globals))=á:=by rw[Ŝ];rfl
 have hiσ:i < σ.length:=by rw[I.len];show (AM.mp hi).1
 have l6:=I.l6;have tracked:∀ É0{h':Heap},(∃ o,æ a=↑o/\H a=none)->Heap.SameBut a ú h'->yK ì H h':=λ{a h'} ha hs b ob e=>by
  let#[_,_,hfree]:=ha;exact (I.zv b ob e).oZ (λ c w' hc q=>(hs.2 c ?_).trans q) Ç6;rintro rfl;rcases hc with rfl | hc
  .rw[hfree] at e;cases e
  .rw[hfree] at hc;cases hc
 rcases hx with hk | hk
 .exact wpAny_storeName_local hk hn (λ h' hn' hs=>?_) BJ;let#[oL,_,_,hoL,_]:=id hn;exact h _ #[I.ok,I.os,I.bare,ÿ,#[_,hn',λ j y v' e1 e2 e3=>?_],λ y c e=>?_,Ì2,I.oU,λ p hp=>?_,tracked #[oL,hoL,Ì2] hs,by exists I.len] #[_,hs,ň rfl]
  .show ė Á4
  .ext Ŕ;show#[sl,ė e1]
  .ext ę;show#[o',ė e1]
  .by_cases hj:j=i
   .ext Â2;show#[u,r,ň #[hk,#[]]]
   .ext ģ;rcases q with ⟨k,e⟩ | ⟨k,c,e,z⟩
    .exact ň #[k,?_];have:y≠x:=λ e=>hj (Xx hN e1 (e▸hi));simp[this,e]
    .show .inr #[k,c,e,z.sameBut hs (l6 y c e)]
  .let#[w',z]:=Ì1 y c e;show#[w',z.sameBut hs (l6 y c e)]
  .ext ŕ;show#[(hs.2 p.1 ne).trans e,n,ne,nf,d]
 .have hfn:X.fn x=true:=by
   rcases hf with z | z
   .show z
   .rw[z] at hk;cases hk
  let#[c,hc]:=I.ok.has x (ň hk);let#[w',z]:=Ì1 x c hc;exact wpAny_storeName_cell Ŝ hk hc z (λ h' hc' hs=>?_);let#[oc,hoc,hocd]:=id z;exact h { s with heap:=h' } #[I.ok,I.os,I.bare,ÿ,#[m,hn.sameBut hs (Ne.symm (l6 x c hc)),λ j y v' e1 e2 e3=>?_],λ y c' e=>?_,Ì2,I.oU,λ p hp=>?_,tracked #[oc,hoc,I.oU x c hc] hs,by exists I.len] #[c,hs,.inr hc]
  .show Ă Á4
  .ext Ŕ;show#[sl,Ă e1]
  .ext ę;show#[o',Ă e1]
  .by_cases hj:j=i
   .ext Â2;show#[u,r,.inr #[ň hk,c,hc,hc']]
   .ext ģ;rcases q with q | ⟨k,c',e,z'⟩
    .show ň q
    .exact .inr #[k,c',e,z'.sameBut hs ?_];rintro rfl;show hj (Xx hN e1 (I.ok.inj Ŋ _ e hc▸hi))
  .by_cases BO:c'=c
   .subst BO;show#[_,hc']
   .let#[w2,z2]:=Ì1 y c' e;show#[w2,z2.sameBut hs BO]
  .ext ŕ;exact#[(hs.2 p.1 ?_).trans e,n,ne,nf,d];intro q;rw[q,hoc] at e;have q':oc=p.2:=BA e;show d w' (by rw[<- q'];show hocd)
def ja {M:Model}õ Æ8 Ë7 ķ{v:V}ű Ä6 Ø ß (r:Ď)
  (h:∀ s',Í3->Q Ï7 s') Ç:Î3:=
 Mn I hN hi hx r (λ s' I' _=>h s' I') hf
def Inv.ZA {s':Ì}{ch:Ą}Ø (ho:s'.os=s.os) (u:Un (wu ţ) ch H H' ú s'.heap) (zv:yK ì H' s'.heap) (hg:AllBare s'.gens)
  Î:ŷ:=by
 let#[h',g',d',t',o']:=s';have e:o'=s.os:=ho;subst e;show I.call (g':=g') (t':=t') (d':=d') u zv hg hch
end
abbrev XK:=Ê->è Addr->Ð
abbrev St:=List (è V)
abbrev VK:=V->Ð
abbrev TE:=St->þ
abbrev TT:=St->Hp->(Bool->Ð)->Prop
abbrev TA:=St->Hp->(ñ->Ð)->Prop
structure Ends where
 nx:Æ5
 rt:VK
 bk:Æ5:=λ _ _=>False
 ct:Æ5:=λ _ _=>False
abbrev TS:=Ends->Æ5
def EP í Ų Ì6 (u:Ê) Ð7:Prop:=∃ v H',ŷ/\Ď/\Q v H'
def TP í Ų Ì7 (b:Bool) Ð7:Prop:=∃ H',ŷ/\Q b H'
def AP í Ų (Q:ñ->Ð) Ð8 Ð7:Prop:=∃ vs H',ŷ/\Ê5/\Q vs H'
def SP í (gV:Am) (D:Ends) (f:Flow) Ð7:Prop:=
 match f with
 | .next=>∃ σ' H',ý/\D.nx ő
 | .brk=>∃ σ' H',ý/\D.bk ő
 | .cont=>∃ σ' H',ý/\D.ct ő
 | .ret u=>∃ v σ' H',ý/\Ď/\D.rt v H'
def PE í (e:Expr) (t:TE):Prop:=
 ∀ Ã Ì6,À->t ê Q->Ö Á (È4) İ s
def PT í (e:Expr) (t:TT):Prop:=
 ∀ Ã Ì7,À->t ê Q->Ö Á (isTrue e Ü (È4)) (TP Ï Q) Ê4
def PW í (e:Expr) (t:TT):Prop:=
 ∀ (whole:Sem Ê) Ã Ì7,À->t ê Q->Ö Á (isTrue e Ü whole) (TP Ï Q) Ê4
def PW.pt ğ À2{t:TT}(h:PW X e t):PT X e t:=h _
def PA í (es:Ņ) (t:TA):Prop:=
 ∀ (pos:Pos) Ã (Q:ñ->Ð),À->t ê Q->Ö Á (spliced (backTo pos (Å2 es Ü))) (AP Ï Q) Ê4
def PS í (st:Stmt) (t:TS):Prop:=
 ∀ Ã (D:Ends),À->t D ê->Ö Á (exec st Ü) (SP X gV D) Ê4
def p9 í (st:Ã9) (t:TS):Prop:=
 ∀ Ã (D:Ends),À->t D ê->Ö Á (execs st Ü) (SP X gV D) Ê4
def zM {α:Type}{t:Sem α}{Q Q':α->ı}{M:Model}õ Æ8 À3(h:Ö M A t Ş) (hQ:∀ a s,Q a s->Q' a s):Ö M A t Q' E s:=za6 h hQ λ _ _ x=>x
section
variable {ğ}
def eS Ð5:TE:=fun σ H Q=>∃ v,σ[i]?=↑↑v/\Q v H
def tC (v:V):TE:=λ _ H Q=>Q v H
def LL Ë7 ķ ē(hN:X.N[i]?=↑x) (hv:b7 X.env.scope x) Œ (BE:(x == ("__classdict__":Str))=á:=by decide):PE X ť (eS i):=by
 ext Í;let#[v,e,h]:=h;let#[m,hn,hl]:=I.loc;let#[u,r,l]:=hl i x v hN e hv;have fin:EP Ï Q u s:=Å9;rcases l with ⟨hk,hm⟩ | ⟨hk,c,hc,hcell⟩
 .show wpAny_Name (wpAny_loadName_local Ŝ hk hn hm fin) hd
 .rcases hk with hk | hk
  .show wpAny_Name (wpAny_loadName_cell Ŝ hk hc hcell fin) hd
  .show wpAny_Name (wpAny_loadName_free Ŝ hk hc hcell fin BE) hd
def L_ {i j pos}:PE X (.Constant (ö i) j pos) (tC (ö i)):=λ _ _ _ H _ I h=>wpAny_Constant_int #[ö i,H,Ŧ,Ħ,h]
def Kj {b j pos}:PE X (.Constant (.bool b) j pos) (tC (.bl b)):=λ _ _ _ H _ I h=>Constant_bool #[.bl b,H,I,rfl,h]
def LV {j pos}:PE X (.Constant .none j pos) (tC .zk):=λ _ _ _ H _ I h=>Constant_none #[.zk,H,I,rfl,h]
def LO {x j pos}:PE X (.Constant (.str x) j pos) (tC (.str x)):=λ _ _ _ H _ I h=>Calls.Constant_str #[.str x,H,Ŧ,Ħ,h]
def Gl í Ë6:Prop:=X.env.kindOf x=↑.globalImplicit
def iJ Æ8 Ð9 À3 Ñ0 ŀ ķ ű ē{Q:Aj}Ø Î6 (h:Q u s)
  Œ:Ö Á (eval ť Ü) Ş:=
 Calls.Name_function_global Ŝ hg (Calls.loadGlobal_global Â0 hm h) hd
def iK Æ8 Ð9 À3 Ñ0 ŀ ķ ű ē{Q:Aj}Ø Ě (hv:ż=↑u) (h:Q u s)
  Ė Œ:Ö Á (eval ť Ü) Ş:=by
 let#[mb,h1,h2]:=I.mod.blt;show Calls.Name_function_global Ŝ hg (Calls.loadGlobal_builtin Â0 hm (by rw[I.ok.blt];show h1.keeps I.bk) ((h2 x hn).trans hv) h) hd
def Tq ķ{v:V}ű ē Î6 (r:Ď) Œ:PE X ť (tC v):=
 λ _ _ _ H _ I h=>iJ I hg hm Å9 hd
def Ts ķ{v:V}ű ē Ě (hv:ż=↑u) (r:Ď) Ė Œ:PE X ť (tC v):=
 λ _ _ _ H _ I h=>iK I hg hm hv Å9 hn hd
variable {a b:Expr}{ta tb:TE}{ē}
variable {tA tB':TT}{rest:Ņ}
def Ml (t u:TT):TT:=fun σ H Q=>t ê λ c H1=>if c=true then u ş Q else Q á H1
def NW (t u:TT):TT:=fun σ H Q=>t ê λ c H1=>if c=true then Q true H1 else u ş Q
def NY (t:TT):TT:=fun σ H Q=>t ê λ c H1=>Q (!c) H1
def MX À4:PW X (Ÿ .And [a] pos) tA:=by
 ext À5;exact isTrue_and Ê6;cases c with
 | true=>show isTrue_and_nil e
 | á=>show e
def MV À4:PW X (Ÿ .Or [a] pos) tA:=by
 ext À5;exact isTrue_or Ê6;cases c with
 | á=>show isTrue_or_nil e
 | true=>show e
def MY À4 (hb:PW X (Ÿ .And Í8) tB'):PW X (Ÿ .And Å6) (Ml tA tB'):=by
 ext À5;exact isTrue_and (zM Ê7 λ c s1 Ķ=>?_);cases c with
 | true=>show hb wh È0
 | á=>show Ķ
def MW À4 (hb:PW X (Ÿ .Or Í8) tB'):PW X (Ÿ .Or Å6) (NW tA tB'):=by
 ext À5;exact isTrue_or (zM Ê7 λ c s1 Ķ=>?_);cases c with
 | true=>show Ķ
 | á=>show hb wh È0
def M_ À4:PT X (.UnaryOp .Not a pos) (NY tA):=by
 ext Í;show isTrue_not (ha Š (λ c H1=>Q (!c) H1) I h)
def Mj (ta tb:TE):TE:=fun σ H Q=>ta ê λ x H1=>∃ c,x=.bl c/\if c=true then tb ş Q else Q (.bl á) H1
def NV (ta tb:TE):TE:=fun σ H Q=>ta ê λ x H1=>∃ c,x=.bl c/\if c=true then Q (.bl true) H1 else tb ş Q
def NX (ta:TE):TE:=fun σ H Q=>ta ê λ x H1=>∃ c,x=.bl c/\Q (.bl (!c)) H1
def LS {op} {t:TE}(h:PE X a t):PE X (Ÿ op [a] pos) t:=λ gV s σ H Q I hw=>BoolOp_one (h Š Q I hw)
def Kk œ (hb:PE X (Ÿ .And Í8) tb):PE X (Ÿ .And Å6) (Mj ta tb):=by
 ext Í;exact BoolOp_and (Ĳ);ext Á3;exact zcN ?_;cases c with
 | true=>show hb È0
 | á=>show#[.bl á,H1,I1,rfl,q1]
def LQ œ (hb:PE X (Ÿ .Or Í8) tb):PE X (Ÿ .Or Å6) (NV ta tb):=by
 ext Í;exact BoolOp_or (Ĳ);ext Á3;exact zcN ?_;cases c with
 | á=>show hb È0
 | true=>show#[.bl true,H1,I1,rfl,q1]
def LU œ:PE X (.UnaryOp .Not a pos) (NX ta):=by
 ext Í;exact UnaryOp_ (Ĳ);ext Á3;show not_of (zcN #[.bl (!c),H1,I1,rfl,q1])
def Mc (t:TT) (ta tb:TE):TE:=fun σ H Q=>t ê λ c H1=>if c=true then ta ş Q else tb ş Q
def Ka {c:Expr}(hc:PT X c tA) ë:PE X (.IfExp c a b pos) (Mc tA ta tb):=by
 ext Í;exact wpAny_IfExp (zM (hc Å) λ d s1 Ķ=>?_);cases d with
 | true=>show ha È0
 | á=>show hb È0
end
def yj š ľ À1 (xs:ñ):Prop:=
 Rd H a (.lst xs)\/
  ∃ (o:Obj) (Ab:AE) (n:Nat),K.lookup a=↑o/\o.cls=Í0 "list"/\o.dict=none/\À8
def yJ š ľ À1 (xs:ñ):Prop:=
 Rd H a Ã8\/
  ∃ (o:Obj) (Ab:AE) (n:Nat),K.lookup a=↑o/\(o.cls=Í0 "tuple"/\o.dict=none)/\À8
def DA:Ê->è V
 | .none=>↑.zk
 | .bool b=>↑(.bl b)
 | ö i _=>↑(ö i)
 | .str x _=>↑(.str x)
 | .bytes b _=>↑(.bp b)
 | .float b _=>↑(.Wj b)
 | ç a=>↑(ç a)
 | Í0 n=>↑(.ty n)
 | _=>none
def RelV.abs {x:V}ű(r:È2):DA u=↑x:=by
 cases x with
 | zk=>cases r;rfl
 | bl _=>cases r;rfl
 | ref _=>cases r;rfl
 | ty _=>cases r;rfl
 | _=>let#[t,rfl]:=r;rfl
theorem RelV.inj {x y:V}ű(r:È2) (q:RelV y u):x=y:=BA (r.abs.symm.trans q.abs)
theorem Vals.inj:∀ {xs ys:ñ}Ő,Ť->Vals ys us->xs=ys
 | _,_,_,.nil,.nil=>rfl
 | _,_,_,ų r t,ų r' t'=>by rw[r.inj r',Vals.inj t t']
section
variable {ğ}{Ó}{É0}{xs ys:ñ}
def yj.of Ì9(h:H a=↑(.lst xs)):yj Ä7:=ň (ň h)
def yJ.of Ì9(h:H a=↑ Ã8):yJ Ä7:=ň (ň h)
def Inv.list Ø (h:yj X.K H a xs):∃ Ab:List Ê,Ê1/\PlainL ú a Å0/\ł<=ó:=by
 rcases h with h | ⟨o,Ab,n,hk,hc,hd,hs,hz,r⟩
 .let#[z,Ab,n,r,e]:=h.ok I.zv;show#[Ab,r,#[_,n,e,rfl,rfl,rfl],z]
 .exact#[Ab.toList,r,#[o,n,I.yB a o hk,hc,hd,by exists hs],?_];ext Ñ1
def Inv.tuple Ø (h:yJ X.K H a xs):∃ Ab:List Ê,Ê1/\IsTup ú a Å0/\ł<=ó:=by
 rcases h with h | ⟨o,Ab,n,hk,hc,hs,hz,r⟩
 .let#[z,Ab,r,p]:=h.ok I.zv;show#[Ab,r,p,z.1]
 .exact#[Ab.toList,r,#[o,I.yB a o hk,hc.1,n,by exists hs],?_];ext Ñ1
def Inv.X8 Ø (h:yj X.K H a xs) (h':yj X.K H a ys):xs=ys:=by
 let#[Ab,r,#[o,n,e,_,_,d],_]:=I.list h;let#[AW,r',#[o',n',e',_,_,d'],_]:=I.list h';rw[e] at e';cases e';rw[d] at d'
 injection d' with d1 _
 ext Æ1
 subst this;show r.inj r'
def Inv.Y8 Ø (h:yJ X.K H a xs) (h':yJ X.K H a ys):xs=ys:=by
 let#[Ab,r,#[o,e,_,n,d],_]:=I.tuple h;let#[AW,r',#[o',e',_,n',d'],_]:=I.tuple h';rw[e] at e';cases e';rw[d] at d'
 injection d' with d1 _
 ext Æ1
 subst this;show r.inj r'
end
abbrev Cx.lJ í (E:Aj):Cx:={ X with xe:=E }
abbrev Cx.vb í:Cx:=X.lJ λ _ _=>False
theorem Cx.Ok.lJ ğ(ok:X.Ok) (E:Aj):(X.lJ E).Ok:=
 à
def Cx.Ok.gL ğ Æ8(ok:(X.lJ E).Ok):X.Ok:=
 à
section
variable {ğ}{Ó}{Æ8}
theorem Inv.lJ Ø (E:Aj):Inv (X.lJ E) gV ê s:=#[I.ok.lJ E,I.os,I.bare,I.base,I.loc,Ì1,Ì2,I.oU,I.pin,I.zv,I.len]
theorem Inv.gL (I:Inv (X.lJ E) gV ê s):À:=#[I.ok.gL,I.os,I.bare,I.base,I.loc,Ì1,Ì2,I.oU,I.pin,I.zv,I.len]
theorem SP.gL {D:Ends}{f:Flow}{s':Ì}(h:SP (X.lJ E) gV D f s'):SP X gV D f s':=by
 cases f with
 | ret u=>let#[v,σ',H',I,r,q]:=h;show#[v,σ',H',I.gL,r,q]
 | _=>let#[σ',H',I,q]:=h;show#[σ',H',I.gL,q]
theorem p9.vb {st:Ã9}{t:TS}(h:p9 X.vb st t):p9 X st t:=λ gV s σ H D I hw=>
 za6 (h Š D (I.lJ _) hw) (λ _ _ q=>q.gL) λ _ _ z=>False.elim z
end
section
variable {ğ}{st:Stmt}{rest:Ã9}{t u:TS}{À2}{te:TE}{ē}
def N_:TS:=λ D σ H=>D.nx ê
def NR (t u:TS):TS:=λ D σ H=>t { D with nx:=u D } ê
def Lb:p9 X [] N_:=λ _ _ σ H _ I h=>zcP #[σ,H,I,h]
def Lc (h1:PS X st t) (h2:p9 X rest u):p9 X (st::rest) (NR t u):=by
 ext î;exact wpAny_execs_cons (zM (h1 Š { D with nx:=u D } I h) λ f s1 q=>?_);cases f with
 | next=>
  let#[σ',H',I',q]:=q;show h2 gV s1 ő D I' q
 | ret v=>show q
 | _=>show q
def Xc (h1:PS X st t):p9 X [st] t:=by
 ext î;exact wpAny_execs_cons (zM (h1 Š D I h) λ f s1 q=>?_);cases f with
 | next=>show zcP q
 | ret v=>show q
 | _=>show q
def Inv.quiet Ó Ø:interactive Ü=á:=by simp[interactive,Ŝ]
def Mf (te:TE):TS:=λ D σ H=>te ê λ _ H1=>D.nx ş
def Ll À6 (hs:swapsWith e none pos.line Ü=pure á:=by rfl):PS X (.Expr e pos) (Mf te):=by
 ext î;show wpAny_Expr_any (zM (he Å) λ v s1 Æ=>#[σ,H1,I1,q1]) I.quiet hs
def NT (te:TE):TS:=λ D σ H=>te ê D.rt
def Lh À6:PS X (.Return ↑e pos) (NT te):=by
 ext î;show wpAny_Return_some (zM (he Å) λ v s1 Æ=>#[x,σ,H1,I1,r1,q1])
def Mb (c:TT) (t u:TS):TS:=λ D σ H=>c ê λ b H1=>if b=true then t D ş else u D ş
def Li {c:Expr}{a b:Ã9}{tc:TT}(hc:PT X c tc) (ha:p9 X a t) (hb:p9 X b u):PS X (.If c a b pos) (Mb tc t u):=by
 ext î;exact wpAny_If (zM (hc Å) λ d s1 Ķ=>?_);cases d with
 | true=>show ha Ú D I1 q1
 | á=>show hb Ú D I1 q1
end
abbrev TG:=V->St->Hp->(Æ5)->Prop
abbrev kP:=ñ->St->Hp->(Æ5)->Prop
def PG í (target:Expr) (t:TG):Prop:=
 ∀ Ã (v:V) (u:Ê) (Q:Æ5),À->Ď->t v ê Q->
  Ö Á (assign target Ü u) Î4 Ê4
def kh í (ts:Ņ) (t:kP):Prop:=
 ∀ Ã (vs:ñ) Ð8 (Q:Æ5),À->Ê5->t vs ê Q->
  Ö Á (assignInOrder ((Å3 ts Ü).map (·.2)) us) Î4 Ê4
abbrev Vj:=V->V->V->Hp->(Ð)->Prop
def P0 í (t:Vj):Prop:=
 ∀ Ã (o i v:V) (ov iv u:Ê) (Q:Ð),À->RelV o ov->RelV i iv->Ď->t o i v H Q->
  Ö Á (setItem ov iv u) (λ _ s'=>∃ H',ŷ/\Q H') Ê4
section
variable {ğ}{ē}
def fJ Ð5:TG:=λ v σ H Q=>Q (σ.set i ↑v) H
def LH Ë7 ķ ß Ç:PG X ť (fJ i):=by
 intro gV s σ H v u Q I r h;show wpAny_assign_Name (ja I hN hi hx r (λ s' I'=>#[_,H,I',h]) hf)
def G8:kP:=λ vs σ H Q=>vs=[]/\Q ê
def G9 (t:TG) (u:kP):kP:=λ vs σ H Q=>∃ v r,vs=v::r/\t v ê fun σ' H'=>u r ő Q
def LC:kh X [] G8:=by
 intro gV s σ H vs us Q I r h;let#[e,h]:=h;subst e;cases r;show assignInOrder_nil #[σ,H,I,h]
def LD À2{es:Ņ}{t:TG}{u:kP}(h1:PG X e t) (h2:kh X es u)
  (hs:(Å3 (e::es) Ü).map (·.2)=assign e Ü::(Å3 es Ü).map (·.2):=by rfl):kh X (e::es) (G9 t u):=by
 intro gV s σ H vs us Q I r h;let#[v,vr,e1,h]:=h;subst e1;cases r with
 | cons r rr=>
  rw[hs];exact assignInOrder_cons (zM (h1 Š Ŋ _ I r h) λ _ s1 #[σ1,H1,I1,q1]=>?_);show h2 gV s1 σ1 H1 Ŋ Q I1 rr q1
def Rw š Ñ5 (t:kP):TG:=λ v σ H Q=>∃ a xs,v=ç a/\yJ Ä7/\ł=n/\t xs ê Q
def LF {es:Ņ}Ì8{t:kP}{n:Nat}(hc:Ũ) (h:kh X es t)
  (hn:(Å3 es Ü).length=n:=by rfl) (AB:(Å3 es Ü).findIdx? (·.1)=none:=by rfl):PG X (.Tuple es k pos) (Rw X.K n t):=by
 intro gV s σ H v u Q I r hw;let#[a,xs,e1,hq,hl,hw]:=hw;subst e1;cases r;let#[Ab,rv,ht,hz]:=I.tuple hq;exact assign_Tuple_tuple ō ht (by simp[hn,<- hl,rv.length]) AB λ h' hx=>?_;have I1:Inv Ï H { s with heap:=h' }:=I.kept (t':=Ů) λ b o e=>hx b o (AG (Ar e)) e;show h gV _ ê xs _ Q I1 (by exists rv) hw
def G7 (to ti:TE) (t:Vj):TG:=λ v σ H Q=>to ê λ o H1=>ti ş λ i H2=>t o i v H2 λ H3=>Q σ H3
def LG {o i:Expr}{to ti:TE}{t:Vj}(ho:PE X o to) (hi:PE X i ti) (hs:P0 X t)
  (ha:∀ v,assign (.Subscript o i pos) Ü v=(do
   let ov <- holding [v] (eval o Ü)
   let iv <- holding [v,ov] (eval i Ü)
   standAt pos
   holding [v,ov,iv] (setItem ov iv v)
   release [v,ov,iv] []):=by intro _;rfl):PG X (.Subscript o i pos) (G7 to ti t):=by
 intro gV s σ H v u Q I r h;rw[ha];exact tp (zaA (zM (ho Å) λ ov s1 Æ=>?_));exact tp (zaA (zM (hi È1) λ iv s2 ĳ=>?_));exact tp (zcQ (tp (zaA (zM (hs Ã4 ov iv u _ I2 r1 r2 r q2) λ _ s3 #[H3,I3,q3]=>?_))));show wpAny_release #[σ,H3,I3,q3]
def eU (te:TE) (g:TG):TS:=λ D σ H=>te ê λ x H1=>g x ş D.nx
def Tc {tg e:Expr}{te:TE}{g:TG}À6 (hg:PG X tg g) (hs:swapsWithSole [tg] e pos.line Ü=pure á:=by rfl) (hw:swappedStores [tg] e Ü=pure none:=by rfl)
  (h1:(Å3 [tg] Ü).map (·.2)=[assign tg Ü]:=by rfl):PS X (.Assign [tg] e pos) (eU te g):=by
 ext î;exact wpAny_Assign_stores (zM (he Å) λ v s1 Æ=>?_) hs hw;rw[h1];show zM (hg Ú x v _ I1 r1 q1) λ _ s2 q=>q
def Tb Ë7 ķ À2{te:TE}{pos':Pos}ß À6 (hs:swapsWith e ↑(.Name x pos') pos.line Ü=pure á:=by rfl) Ç:
  PS X (.Assign [.Name x pos'] e pos) (eU te (fJ i)):=by
 ext î;exact zcX (zM (he Å) λ v s1 #[y,H1,I1,r1,q1]=>?_) hs;show ja I1 hN hi hx r1 (λ s2 I2=>#[_,H1,I2,q1]) hf
def NK (c:TT) (tb:TS):TS:=λ D σ H=>∃ W:Nat->Æ5,(∃ m,W m ê)/\∀ m σ H,W m ê->
 c ê λ b H1=>if b=true then ∃ N:Æ5,(∀ σ' H',N ő->∃ m',m'<m/\W m' ő)/\tb { D with nx:=N,ct:=N,bk:=D.nx } ş else D.nx ş
def Ld {c:Expr}{body:Ã9}{tc:TT}{tb:TS}(hp:PassesOwn Á Ü X.xe) (hc:PT X c tc) (hb:p9 X body tb):PS X (.While c body [] pos) (NK tc tb):=by
 ext î;let#[W,#[m0,w0],turn]:=h;exact wpAny_While (codeAny_whileLoop (λ n s'=>∃ σ' H',ý/\W n ő) ?_ m0 #[σ,H,I,w0]);rintro n s1 ⟨σ1,H1,I1,w1⟩;exact zcR hp (zM (hc gV s1 σ1 H1 _ I1 (turn n σ1 H1 w1)) λ b s2 #[H2,I2,q2]=>?_);cases b with
 | true=>
  let#[N,hN,q2]:=q2;rw[Ĺ rfl];exact zcR hp (zM (hb gV s2 σ1 H2 _ I2 q2) λ f s3 q3=>?_);cases f with
  | next=>
   ext đ
  | cont=>
   ext đ
  | brk=>show q3
  | ret v=>show q3
 | á=>
  rw[ď zaF];show zcP #[σ1,H2,I2,q2]
end
structure It where
 go:Nat->Ð
 gH:Nat->Hp->V->Ð
 stop:Nat->Ð
def ml í (gV:Am) ľ (b:Addr):Prop:=
 Ć/\b≠ Ñ/\b∉X.fs/\(b∈X.ex\/û<=b)/\Â6
theorem Inv.Zp ğ Ð9 Ñ0{H H':Hp}À3{b:Addr}Ø (hb:Â<=b) (hn:H' b=none):ml X gV H' b:=by
 exact#[hn,BS (BG I.lt hb),I.TJ hb,.inr (BH I.sz hb),λ x c e z=>?_,λ p hp z=>?_]
 .let#[v,q]:=Ì1 x c e;show Ō (BG q.lt (by rw[z];show hb)) (zE1 _)
 .show Ō (BG (Ar (I.pin p hp).1) (by rw[z];show hb)) (zE1 _)
structure Turn ü š (tg:Expr) (J:It) (fp:Ą) (it:Addr) (tn:Nat->Heap->Prop):Prop where
 mem:it∈fp
 obj:∀ i h,tn i h->∀ b∈fp,∃ o,ń/\∀ v,o.data≠.cell v
 keep:∀ i h h',tn i h->(∀ b∈fp,∀ o,ń->č b=↑o)->tn i h'
 item:∀ í,X.prog=P->X.w=w->X.K=K->Ũ->∀ Ð5 Ã (E:Aj),À->(Ä0)->tn i ú->J.go i H->
  Ö Â7 X.A (pyNext (ç it)) (λ r s1=>∃ u,r=↑u/\
   Ö Â7 X.A Ì4 (λ _ s2=>∃ x H',Inv Ï H' s2/\È2/\J.gH i H x H'/\tn (i+1) s2.heap/\ŵ) E s1) E s
 done:∀ í,X.prog=P->X.w=w->X.K=K->Ũ->∀ Ð5 Ã (E:Aj),À->(Ä0)->tn i ú->J.stop i H->
  Ö Â7 X.A (pyNext (ç it)) (λ r s1=>r=none/\Inv Ï H s1) E s
 self:∀ (A:Around) Ð5 Æ2,tn i ú->Q (ç it) s->Ö Â7 A (pyIter (ç it)) Ş
abbrev TI:=St->Hp->(It->Ð)->Prop
def PB í Ų (tg:Expr) (R:It->Ð) (itv:Ê) (s2:Ì):Prop:=
 ∃ (it:Addr) (fp:Ą) (tn:Nat->Heap->Prop) (J:It) (H':Hp),itv=ç it/\Inv Ï H' s2/\Turn ì X.K tg J fp it tn/\tn 0 s2.heap/\(∀ b∈fp,ml X gV H' b)/\R J H'
def PI í (tg iter:Expr) (wi:TI):Prop:=
 ∀ Ã (R:It->Ð),À->wi ê R->
  Ö Á (eval iter Ü) (λ v s1=>Ö Á (pyIter v) (PB Ï tg R) X.xe s1) Ê4
def XX {M:Model}õ Æ8 À3 Ñ2{it:Addr}ű{o:Obj}{n:String}{vs:AE}Ä6(ho:æ it=↑o) (hc:o.cls=Í0 n) (hd:o.data=.fields vs)
  (hn:ä=á) (hQ:Q Ï7 s):Ö M A Ì4 Ş:=by
 unfold letOwnedTupleGo;cases tg <;> first
  | show Ah hQ
  | (cases u <;> first
    | show Ah hQ
    | (exact tp (wpAny_load ho ?_)
       rw[hc,hd];change Ö M A (if (ä&&vs[0]? == ↑(rawInt _))=true then _ else _) Ş;rw[ď (by intro h;rw[hn,Bool.false_and] at h;cases h)];show Ah hQ))
def PN š À1:It:=
 #[λ i H=>∃ xs x,yj Ä7/\Æ9,λ i H x H'=>H'=H/\∀ xs,yj Ä7->Æ9,λ i H=>∃ xs,yj Ä7/\ł<=i]
def PM š À1:It:=
 #[λ i H=>∃ xs x,yJ Ä7/\Æ9,λ i H x H'=>H'=H/\∀ xs,yJ Ä7->Æ9,λ i H=>∃ xs,yJ Ä7/\ł<=i]
def bC (lo:Int) Ñ5:It:=#[λ i _=>i<n,λ i H x H'=>H'=H/\x=ö (lo+i),λ i _=>n<=i]
def N6 Ò Ì9 Ñ2(a it:Addr):Turn P w K tg (PN K a) [it] it (λ i h=>h.IsListIter it a i) where
 mem:=#[]
 obj:=λ i h st b hb=>by
  ext Á7
  ext Ň
 keep:=Ã5
 item:=by
  ext Ë;let#[xs,x,hq,hx]:=hg;let#[Ab,rv,p,hz]:=I.list hq;ext Î7;exact wpAny_pyNext_list_item st p.isList Ë8;ext ï;show#[u,rfl,XX (s:={ s with heap:=h' }) e c d () #[x,H,I1,ru,#[rfl,λ ys hy=>by rw[I.X8 hy hq];show hx],st',Ç1]]
 done:=by
  ext Ë;let#[xs,hq,hx]:=hg;let#[Ab,rv,p,hz]:=I.list hq;ext Ô;have hl:=rv.length;show wpAny_pyNext_list_end ō st p.isList (by simp;lia) â
 self:=λ _ _ _ _ _ st h=>wpAny_pyIter_listiter st h
def N4 Ò Ì9 Ñ2(a it:Addr):Turn P w K tg (PM K a) [it] it (λ i h=>h.IsTupleIter it a i) where
 mem:=#[]
 obj:=λ i h st b hb=>by
  ext Á7
  ext Ň
 keep:=Ã5
 item:=by
  ext Ë;let#[xs,x,hq,hx]:=hg;ext Ñ3;ext Î7;exact wpAny_pyNext_tuple_item st Ê8 Ë8;ext ï;show#[u,rfl,XX (s:={ s with heap:=h' }) e c d () #[x,H,I1,ru,#[rfl,λ ys hy=>by rw[I.Y8 hy hq];show hx],st',Ç1]]
 done:=by
  ext Ë;let#[xs,hq,hx]:=hg;ext Ñ3;ext Ô;have hl:=rv.length;show wpAny_pyNext_tuple_end ō st Ê8 (by simp;lia) â
 self:=λ _ _ _ _ _ st h=>wpAny_pyIter_tupleiter st h
def N5 Ò Ì9 Ñ2(it:Addr) (lo:Int) Ñ5:Turn P w K tg (bC lo n) [it] it (λ i h=>IsRangeIter h it (lo+(i:Nat)*1) (Ï8-(i:Nat)) 1) where
 mem:=#[]
 obj:=λ i h st b hb=>by
  ext Á7
  subst e;show#[_,st,λ v z=>by
   have z':Data.fields _=Data.cell v:=z;cases z']
 keep:=λ i h h' st k=>k it #[] _ st
 item:=by
  ext Ë;ext Ô;have W:=Walks.range (prog:=X.prog) (w:=X.w) ō it lo 1 n;exact W.item i s Ŋ hg st λ v h' tk hv st' kk=>?_;let#[t,rfl]:=hv;have I1:Inv Ï H { s with heap:=h',toks:=tk }:=I.turned (λ b o hb e=>kk b o (by exists hb) e) f0 f1 f3 f4 f5;exact#[_,rfl,XX (s:={ s with heap:=h',toks:=tk }) (n:="range_iterator") st' rfl rfl () #[ö (lo+i),H,I1,#[t,?_],#[rfl,rfl],st',Ç1]];rw[Int.mul_one]
 done:=by
  ext Ë;ext Ô;show wpAny_pyNext_range_end ō st (by have:n<=i:=hg;lia) â
 self:=λ _ _ _ _ _ st h=>wpAny_pyIter_rangeiter st h
section
variable {ğ}{Ñ2}
def UP Ó{R:It->Ð}Æ8{lo hi:Int}{t u v:Tok}{tk:Nat}Ø (h1:-(2 ^ 62)<=lo) (h2:lo<2 ^ 62) (h3:-(2 ^ 62)<=hi) (h4:hi<2 ^ 62)
  (q:R (bC lo (hi-lo).toNat) H):Ö Á (pyIter (ç Â)) (PB Ï tg R) E { s with heap:=Ä,toks:=tk }:=by
 exact wpAny_pyIter_range (IsRange.new ..) (small_one h1 h2 h3 h4) ?_;have I1:Inv Ï H { s with heap:=Ä,toks:=tk }:=I.kept λ b o e=>za1 _ e;exact#[(Ä).objs.size,[(Ä).objs.size],_,_,H,rfl,
  I1.kept (t':=tk) λ b o e=>za1 _ e,N5 _ lo (hi-lo).toNat,?_,λ b hb=>?_,q]
 .have e1:lo+((0:Nat):Int)*1=lo:=#[];have e2:Ä1=Builtin.Range.rangeSize lo hi 1:=by rw[rangeSize_one];split <;> lia
  change IsRangeIter Ŋ (lo+((0:Nat):Int)*1) (Ä1) 1;rw[e1,e2];show AO _ rfl
 .have e:b=(Ä).objs.size:=by exists hb
  subst e;show I1.Zp (Ap _) (È6)
def Rl (ta:TA):TI:=fun σ H R=>ta ê λ vs H1=>∃ j:Int,vs=[ö j]/\-(2 ^ 62)<=j/\j<2 ^ 62/\R (bC 0 j.toNat) H1
def Rj (ta:TA):TI:=fun σ H R=>ta ê λ vs H1=>∃ i j:Int,vs=[ö i,ö j]/\(-(2 ^ 62)<=i/\i<2 ^ 62/\-(2 ^ 62)<=j/\j<2 ^ 62)/\R (bC i (j-i).toNat) H1
theorem LA {a:Expr}Ř (ha:PA X [a] ta) (hs:Å2 [a] Ü=[(á,eval a Ü)]:=by rfl):PI X tg (.Call (.Name "range" p) [a] [] pos) (Rl ta):=by
 intro gV s σ H R I h;exact Call_ (iK I hg hm boot_range (Ź ů hs rfl));let#[j,e,q1,q2,q]:=q1;subst e;cases r1 with
 | cons r rr=>
  cases rr;let#[t,rfl]:=r;show call_range_1 (UP I1 ⋯ ⋯ q1 q2 (by exists q))
theorem L9 {a b:Expr}Ř (ha:PA X [a,b] ta) (hs:Å2 [a,b] Ü=[(á,eval a Ü),(á,eval b Ü)]:=by rfl) (hs2:Å2 [b] Ü=[(á,eval b Ü)]:=by rfl):
  PI X tg (.Call (.Name "range" p) [a,b] [] pos) (Rj ta):=by
 intro gV s σ H R I h;exact Call_ (iK I hg hm boot_range (Ź ů (by rw[hs,hs2]) (by rw[hs2];rfl)));let#[i,j,e,#[q1,q2,q3,q4],q]:=q1;subst e;cases r1 with
 | cons r rr=>
  cases rr with
  | cons r' rr=>
   cases rr;let#[t,rfl]:=r;let#[t',rfl]:=r';show call_range_2 (UP I1 q1 q2 q3 q4 q)
def Md (wi:TI) (g:TG) (tb:TS):TS:=λ D σ H=>wi ê λ J H1=>∃ W:Nat->Nat->Æ5,(∃ m,W 0 m ş)/\∀ i m σ H,W i m ê->
 (J.stop i H/\D.nx ê)\/(J.go i H/\∃ N:Æ5,(∀ σ' H',N ő->∃ m',m'<m/\W (i+1) m' ő)/\∀ x H',J.gH i H x H'->g x σ H' fun σ2 H2=>tb { D with nx:=N,ct:=N,bk:=D.nx } σ2 H2)
def dr (fp:Ą) Ū:Am:=fp.filterMap λ b=>(ò b).map λ o=>(b,o)
def aR {fp:Ą}Å5 Ã0(hb:b∈fp) (e:ń):(b,o)∈dr fp h:=zb2.mpr #[b,hb,by rw[e];rfl]
def Jk {fp:Ą}Å5{p:Addr×Obj}(hp:p∈dr fp h):p.1∈fp/\ò p.1=↑p.2:=by
 let#[b,hb,e]:=zb2.mp hp;cases q:ò b with
 | none=>rw[q] at e;cases e
 | some o=>
  rw[q] at e;have e':(b,o)=p:=BA e;subst e';show#[hb,q]
def Inv.pinned Ó{fp:Ą}Ø (hf:Ä0) (ho:∀ b∈fp,∃ o,ś/\∀ v,o.data≠.cell v):Inv X (gV++dr fp ú) ê s:=
 I.Xg λ p hp=>(A8.mp hp).elim (λ z=>I.pin p (A6 _ z)) λ z=>by
  let#[hb,e]:=Jk z;let#[f0,f1,f2,_]:=hf p.1 hb;let#[o,e',d]:=ho p.1 hb;rw[e] at e';cases e';show#[e,f0,f1,f2,d]
def Inv.eQ {gV pl:Am}Ñ0 ŀ À3(I:Inv X (gV++pl) ê s):À:=I.Xg λ p hp=>I.pin p (A6 _ (zaE _ hp))
def Lj {iter:Expr}{body:Ã9}{wi:TI}{g:TG}{tb:TS}ē(hp:PassesOwn Á Ü X.xe) (hc:Ũ) (hi:PI X tg iter wi) (hg:PG X tg g) (hb:p9 X body tb)
  (hs:∀ x,foldedSetIterable iter Ü x=pure x:=by intro _;rfl):PS X (.For tg iter body [] pos) (Md wi g tb):=by
 ext î;exact wpAny_For (zM (hi Å) λ v s1 h1=>zM h1 λ itv s2 h2=>?_) hs;let#[it,fp,tn,J,H2,e,I2,T,st2,f2,W,#[m0,w0],turn]:=h2;subst e;have stat:∀ {H':Hp},(ŵ)->∀ b∈fp,ml X gV H' b:=λ hn b hb=>#[hn b hb,(f2 b hb).2];exact codeAny_forLoop_any (λ n s'=>∃ i σ' H',ý/\tn i s'.heap/\(ŵ)/\W i n ő) ?_ m0 #[0,σ,H2,I2,st2,λ b hb=>(f2 b hb).1,w0];rintro n s3 ⟨i,σ3,H3,I3,st3,fr3,w3⟩;rcases turn i n σ3 H3 w3 with ⟨stop,qn⟩ | ⟨go,N,hN,step⟩
 .exact zcR hp (zM (T.done X rfl rfl rfl hc É2 stop) λ r s4 #[hr,I4]=>?_);subst hr;show zcP #[σ3,H3,I4,qn]
 .exact zcR hp (zM (T.item X rfl rfl rfl hc É2 go) λ r s4 #[u,hr,h4]=>?_);subst hr;exact zcR hp (zM h4 λ _ s5 #[x,H5,I5,r5,y5,st5,fr5]=>?_);have I5':=I5.pinned (stat fr5) (T.obj Ŋ st5);exact zcR hp (zM (hg _ s5 σ3 H5 x u _ I5' r5 (step x H5 y5)) λ _ s6 #[σ6,H6,I6,q6]=>?_);exact zcR hp (zM (hb _ s6 σ6 H6 _ I6 q6) λ f s7 q7=>?_);have again:∀ {σ7:St}{H7:Hp},Inv X (gV++dr fp s5.heap) σ7 H7 s7->N σ7 H7->∃ m,m<n/\∃ i σ' H',Inv X gV ő s7/\tn i s7.heap/\(ŵ)/\W i m ő:=λ{σ7 H7} I7 n7=>by
   let#[m',hm,w7]:=hN σ7 H7 n7;exact#[m',hm,i+1,σ7,H7,I7.eQ,T.keep Ŋ _ st5 λ b hb o e=>(Å4).1,λ b hb=>?_,w7];let#[o,e,d]:=T.obj Ŋ st5 b hb;show (Å4).2.1
  cases f with
  | brk=>let#[σ7,H7,I7,q7]:=q7;show#[σ7,H7,I7.eQ,q7]
  | ret v=>let#[x7,σ7,H7,I7,r7,q7]:=q7;show#[x7,σ7,H7,I7.eQ,r7,q7]
  | _=>let#[σ7,H7,I7,n7]:=q7;show again I7 n7
end
abbrev R2:=V->V->þ
def xo í (f:Ê->Ê->Sem Ê) (r:R2):Prop:=
 ∀ Ã (x y:V) (v u:Ê) Ì6,À->RelV x v->RelV y u->r x y H Q->
  Ö Á (f v u) İ s
def Vh í (f:Ê->Sem Ê) (r:V->þ):Prop:=
 ∀ Ã (x:V) (v:Ê) Ì6,À->RelV x v->r x H Q->
  Ö Á (f v) İ s
def xR í (f:Ê) (r:ñ->þ):Prop:=
 ∀ Ã (xs:ñ) Ð8 Ì6,À->Ť->r xs H Q->
  Ö Á (call f us) İ s
def DH í (r:V->Hp->(Bool->Ð)->Prop):Prop:=
 ∀ Ã (x:V) (v:Ê) Ì7,À->RelV x v->r x H Q->
  Ö Á (truthy v) (TP Ï Q) Ê4
def eT (r:R2) (ta tb:TE):TE:=fun σ H Q=>ta ê λ x H1=>tb ş λ y H2=>r x y H2 Q
def NL (r:V->þ) (ta:TE):TE:=fun σ H Q=>ta ê λ x H1=>r x H1 Q
def rI (C:Int->Int->Prop) (g:Int->Int->V):R2:=λ x y H Q=>∃ i j,x=ö i/\y=ö j/\C i j/\Q Ä2 H
def nh (g:Int->Int->V):R2:=λ x y H Q=>∃ i j,x=ö i/\y=ö j/\Q Ä2 H
def rU (g:Int->V):V->þ:=λ x H Q=>∃ i,x=ö i/\Q (g i) H
section
variable {ğ}{a b:Expr}{ta tb:TE}{ē}
def WO ë Ð9 À3 Ñ0 ŀ{R:V->V->Ð}Ø
  (h:ta ê λ x H1=>tb ş λ y H2=>R x y H2) {Q:Aj}Ŀ
  (hf:∀ v u s2 x y H2,Inv Ï H2 s2->RelV x v->RelV y u->R x y H2->Ö Á (f v u) Q X.xe s2):
  Ö Á (eval a Ü) (λ v s₁=>Ö Á (eval b Ü) (λ u s₂=>Ö Á (f v u) Q X.xe s₂) X.xe s₁) Ê4:=by
 exact Ĳ;exact zM (hb È1) λ u s2 ĳ=>?_;show hf v u s2 x y H2 I2 r1 r2 q2
def LR {op:Operator}{r:R2}(ho:xo X (È7 op) r) ë:PE X (.BinOp a op b pos) (eT r ta tb):=by
 ext Í;show wpAny_BinOp Ğ
def LM {op:UnaryOp}{r:V->þ}(ho:Vh X (unaryOp op) r) œ:PE X (.UnaryOp op a pos) (NL r ta):=by
 ext Í;show UnaryOp_ (zM Ê7 λ v s1 Æ=>ho Ú x v Q I1 r1 q1)
def g_ Ŀ{C:Int->Int->Prop}{g:Int->Int->Int}
  (rule:∀ Ġ,C i j->ě):
  xo X f (rI C λ i j=>ö Ä2):=by
 ext Ā;let#[i,j,rfl,rfl,hc,q]:=h;ext Ē;let#[t',rfl]:=ry;show rule i j t t' s Ŋ hc Ï9
def TC Ŀ{g:Int->Int->Int}
  (rule:∀ Ġ,ě):
  xo X f (nh λ i j=>ö Ä2):=by
 ext ū;show rule i j t t' s Ŋ Ï9
def aH Ŀ{g:Int->Int->Bool}
  (rule:∀ Ġ,Q (.bool Ä2) s->Ì5):
  xo X f (nh λ i j=>.bl Ä2):=by
 ext ū;show rule i j t t' s Ŋ #[.bl Ä2,H,I,rfl,q]
def gE (i j:Int):Prop:=0<j/\j<1073741824
def ia (i j:Int):Prop:=0<=j/\j<=1000000/\i.natAbs<2 ^ 64
def mU (i j:Int):Prop:=(-(2 ^ 64)<i/\i<2 ^ 64)\/(-(2 ^ 64)<j/\j<2 ^ 64)
def mU.ok {i j:Int}(h:mU i j):IntMulOk i j:=by
 rcases h with ⟨h1,h2⟩ | ⟨h1,h2⟩
 .show .of_left (intBits_le_64 h1 h2)
 .show .of_right (intBits_le_64 h1 h2)
def KO:xo X (È7 .Add) (nh λ i j=>ö (i+j)):=TC λ _ _ _ _ _ _ _ q=>add_int q
def K3:xo X (È7 .Sub) (nh λ i j=>ö (i-j)):=TC λ _ _ _ _ _ _ _ q=>sub_int q
def K8:xo X (È7 .Mult) (rI mU λ i j=>ö (i*j)):=g_ λ _ _ _ _ _ _ _ hc q=>mul_int q hc.ok
def KL:xo X (È7 .FloorDiv) (rI gE λ i j=>ö (i/j)):=g_ λ i j _ _ _ _ _ hc q=>by
 have h1:(0:Int)<j:=hc.1;have h2:j<1073741824:=hc.2;show floordiv_int ⋯ (by rw[Int.fdiv_eq_ediv_of_nonneg i ⋯];show q) (ň (PyProof.noPylong_small ⋯))
def K9:xo X (È7 .Mod) (rI (λ _ j=>0<j) λ i j=>ö (i%j)):=g_ λ i j _ _ _ _ _ hc q=>by
 have h1:(0:Int)<j:=hc;show mod_int' ⋯ (by rw[Int.fmod_eq_emod_of_nonneg i ⋯];show q)
def K4:xo X (È7 .Pow) (rI ia λ i j=>ö (i ^ j.toNat)):=g_ λ _ _ _ _ _ _ _ hc q=>pow_int_small hc.1 hc.2.1 hc.2.2 q
def N0 {f:Ê->Sem Ê}{g:Int->Int}
  (rule:∀ Ð4 Æ2,Q (ö (g i) Ů) { s with toks:=Ů+1 }->Ö Á (f (ö i t)) Ş):
  Vh X f (rU λ i=>ö (g i)):=by
 intro gV s σ H x v Q I rx h;let#[i,rfl,q]:=h;ext Ē;show rule i t s Ŋ #[ö (g i),H,Ŧ,Ħ,q]
def Ny:Vh X (unaryOp .USub) (rU λ i=>ö (-i)):=N0 λ _ _ _ _ _ q=>neg_int q
end
section
variable {ğ}{a b c:Expr}{ta tb tc:TE}{ē}
def R9 Ó{Q:VK}{k k':Bool}Ø (q:Q (.bl k) H) (e:k=k'):EP Ï Q (.bool k') s:=by
 subst e;show#[.bl k,H,I,rfl,q]
def KA:xo X (ņ .Lt) (nh λ i j=>.bl (ź (i<j))):=aH λ _ _ _ _ _ _ _ q=>lt_int q
def yR:xo X (ņ .LtE) (nh λ i j=>.bl (ź (i<=j))):=aH λ _ _ _ _ _ _ _ q=>le_int q
def KH:xo X (ņ .Gt) (nh λ i j=>.bl (ź (j<i))):=aH λ _ _ _ _ _ _ _ q=>gt_int q
def KI:xo X (ņ .GtE) (nh λ i j=>.bl (ź (j<=i))):=aH λ _ _ _ _ _ _ _ q=>ge_int q
def KC:xo X (ņ .Is) (λ x y H Q=>y=.zk/\Q (.bl (ź (x=.zk))) H):=by
 ext Ā;let#[rfl,q]:=h;cases ry;exact is_none_gen (R9 I q ?_);cases x <;> first
  | (cases rx;rfl)
  | (ext Ē;rfl)
def T7:xo X (ņ .IsNot) (λ x y H Q=>y=.zk/\Q (.bl (! ź (x=.zk))) H):=by
 ext Ā;let#[rfl,q]:=h;cases ry;exact isnot_none_gen (R9 I q ?_);cases x <;> first
  | (cases rx;rfl)
  | (ext Ē;rfl)
def xo.or Ŀ{r r':R2}(h:xo X f r) (h':xo X f r'):xo X f (λ x y H Q=>r x y H Q\/r' x y H Q):=by
 intro gV s σ H x y v u Q I rx ry q;rcases q with q | q
 .show h Š x y v u Q I rx ry q
 .show h' Š x y v u Q I rx ry q
def m_ (b:Expr) {op:CmpOp}(h:op≠.In:=by decide) (h2:op≠.NotIn:=by decide):Ä3:=by
 have e1:(op == CmpOp.In)=á:=by cases op <;> first | rfl | show Ō rfl h
 have e2:(op == CmpOp.NotIn)=á:=by cases op <;> first | rfl | show Ō rfl h2
 cases b <;> simp[behindInMarks,e1,e2]
def Kg Æ3 ë (hm:Ä3):PE X (.Compare a [op] [b] pos) (eT r ta tb):=by
 ext Í;show wpAny_Compare1 Ğ hm
def NN (t:TE):TT:=fun σ H Q=>t ê λ x H'=>∃ k,x=.bl k/\Q k H'
def La Æ3 ë (hm:Ä3):PT X (.Compare a [op] [b] pos) (NN (eT r ta tb)):=by
 ext Í;exact wpAny_isTrue_Compare1 (zM Ê7 λ v s1 Æ=>zM (hb È1) λ u s2 ĳ=>
  zM (ho Ã4 u _ I2 r1 r2 q2) λ c s3 É6=>?_) hm
 subst e;cases r3;show zcN #[H3,I3,q3]
def Ut (r r':R2) (ta tb tc:TE):TE:=fun σ H Q=>ta ê λ x H1=>tb ş λ y H2=>r x y H2 λ z H3=>∃ k,z=.bl k/\
 (if k=true then tc σ H3 λ w' H4=>r' y w' H4 Q else Q (.bl á) H3)
def Kh {op op':CmpOp}{r r':R2}(ho:xo X (ņ op) r) (ho':xo X (ņ op') r') ë (hc:PE X c tc)
  (hm:lastMarks [op,op'] [b,c]=á:=by with_unfolding_all rfl):PE X (.Compare a [op,op'] [b,c] pos) (Ut r r' ta tb tc):=by
 ext Í;exact Compare_chain (zM Ê7 λ v s1 Æ=>chain_link (zM (hb È1) λ u s2 ĳ=>
  zM (ho Ã4 u _ I2 r1 r2 q2) λ d s3 É6=>?_)) hm
 subst e;cases r3;exact zcN ?_;cases k with
 | á=>show ite_ff #[.bl á,H3,I3,rfl,q3]
 | true=>show ite_tt (chain_last (zM (hc gV s3 σ H3 _ I3 q3) λ w' s4 #[z',H4,I4,r4,q4]=>ho' gV s4 σ H4 y z' u w' Q I4 r2 r4 q4))
def Vi š (x:V) ľ (k:Bool):Prop:=
 match x with
 | .zk=>k=á
 | .bl b=>k=b
 | ö i=>k=(i != 0)
 | .str y=>Ç2
 | .bp y=>Ê9
 | ç p=>(∃ xs,yj K H p xs/\k=Ç3)\/(∃ xs,yJ K H p xs/\k=Ç3)\/Æ6
 | _=>False
def I_ {κ:Type}{Aa:List (κ × V)}{vs:List (κ × Ê)}(r:KV Aa vs):(!vs.isEmpty)=!Aa.isEmpty:=by
 cases r <;> rfl
def SN {xs:ñ}{Ab:Ai}(r:Ê1):(!Ab.toArray.isEmpty)=Ç3:=by
 cases r <;> simp
def iH:(ó:Nat)<2 ^ 63:=by rw[sizeLine_eq];decide
theorem N9:DH X (λ x H Q=>∃ k,Vi X.K x H k/\Q k H):=by
 intro gV s σ H x v Q I rx h;let#[k,e,q]:=h;have hl:=iH;have hs:ó=16777216:=sizeLine_eq;cases x with
 | zk=>
  cases rx;have e':k=á:=e;subst e';show truthy_none #[H,I,q]
 | bl b=>
  cases rx;have e':k=b:=e;subst e';show zcN #[H,I,q]
 | int i=>
  ext Ē;have e':k=(i != 0):=e;subst e';show PySem.P.truthy_int #[H,I,q]
 | str y=>
  ext Ē;obtain⟨hy,e'⟩:Ç2:=e;subst e';show PySem.P.truthy_str ⋯ #[H,Ŧ,q]
 | bp y=>
  ext Ē;obtain⟨hy,e'⟩:Ê9:=e;subst e';show PySem.W.truthy_bytes ⋯ #[H,Ŧ,q]
 | ref p=>
  cases rx;have e':(∃ xs,yj X.K H p xs/\k=Ç3)\/(∃ xs,yJ X.K H p xs/\k=Ç3)\/Æ6:=e;rcases e' with ⟨xs,hx,e'⟩ | ⟨xs,hx,e'⟩ | ⟨Aa,hx,e'⟩
  .subst e';let#[Ab,r,pl,hz]:=I.list hx;have hlen:=r.length;show wpAny_truthy_list pl.isList À9
  .subst e';let#[Ab,r,pl,hz]:=I.tuple hx;have hlen:=r.length;show truthy_tuple pl À9
  .subst e';obtain⟨hz,hS,vs,r,m⟩:Aa.length<=ó/\(p == sysModules)=á/\∃ vs,KV Aa vs/\s.heap.DictOf (ox ì) p vs:=I.zv p _ hx;have hlen:Aa.length=È8:=Paired.length r;show wpAny_truthy_dict hS m ⋯ #[H,Ŧ,by rw[I_ r];show q]
 | _=>show (show False from e).elim
def MZ œ (he:∀ whole,isTrue a Ü whole=(do let v <- whole;standAt a.pos;holding [v] (truthy v))):
  PT X a (fun σ H Q=>ta ê λ x H'=>∃ k,Vi X.K x H' k/\Q k H'):=by
 ext Í;show isTrue_plain (zM Ê7 λ v s1 Æ=>N9 Ú x v Q I1 r1 q1) (he _)
def vals1 {x:V}Ő(r:Vals [x] us):∃ u,us=[u]/\È2:=by
 cases r with
 | cons r1 r2=>cases r2;show#[_,rfl,r1]
def vals2 {x y:V}Ő(r:Vals [x,y] us):∃ u w',us=[u,w']/\È2/\RelV y w':=by
 cases r with
 | cons r1 r2=>
  cases r2 with
  | cons r3 r4=>cases r4;show#[_,_,rfl,r1,r3]
def EH:xR X (Ž "abs") (λ xs H Q=>∃ i,xs=[ö i]/\Q (ö (if i<0 then -i else i)) H):=by
 intro gV s σ H xs us Q I r h;let#[i,rfl,q]:=h;let#[u,rfl,t,rfl]:=vals1 r;show call_abs_int λ u tk=>#[ö (if i<0 then -i else i),H,Ŧ,Ħ,q]
def E7 (hc:Ũ):xR X (Ž "max") (λ xs H Q=>∃ i j,xs=[ö i,ö j]/\Q (ö (if j>i then j else i)) H):=by
 ext ą;exact max_two_ints ō Ä4;by_cases hj:j>i
 .rw[Ĺ hj,Ĺ hj];show Ħ
 .rw[ď hj,ď hj];show Ħ
def E6 (hc:Ũ):xR X (Ž "min") (λ xs H Q=>∃ i j,xs=[ö i,ö j]/\Q (ö (if j<i then j else i)) H):=by
 ext ą;exact min_two_ints ō Ä4;by_cases hj:j<i
 .rw[Ĺ hj,Ĺ hj];show Ħ
 .rw[ď hj,ď hj];show Ħ
end
structure gi Ū (x dx C:Addr) (mA:Aq):Prop where
 obj:ò x=↑(ċ C dx)
 ns:h.Ns1 dx mA
 ne:dx≠x
def Ia Å5{dx:Addr}{mA:Aq}(n:h.Ns1 dx mA):∃ od,ò dx=↑od/\Â8:=by
 let#[o,es,ep,ho,hd,hk,_,hm]:=n;exact#[o,ho,λ name=>?_];have e:=hm name;unfold nsFind findBy at e;rw[<- Array.find?_toList] at e;unfold PySem.W.lookIn;rw[hd];dsimp only;split
 .rename_i y q;rw[q] at e;show congrArg some e
 .rename_i q;rw[q] at e;have a:es.toList.any (·.refKey)=á:=by
   rw[List.any_eq_false];intro y hy;let#[z,t,hkey]:=hk y (Array.mem_toList_iff.mp hy);simp[DictEntry.refKey,hkey]
  have a':¬ es.toList.any (·.refKey)=true:=by rw[a];show zaF
  rw[ď a'];show congrArg some e
def gi.look Å5{x dx C:Addr}{mA:Aq}(I:gi h x dx C mA):∃ od,PySem.W.InstAt h x (ċ C dx) C ↑od/\Â8:=
 let #[od,ho,hl]:=Ia I.ns
 #[od,#[I.obj,rfl,rfl,ho],hl]
section
variable {prog:Ï4}{w:World}{õ}{Æ8}{À3}{Ì9}{x dx C f:Addr}{mA:Aq}{name:Str}{v:Ê}
def get_map {expr:Bool}{Q:Aj}ĸ (hh:ž)
  (ha:ć Ä8 name=↑none) (hv:mA name=↑v) (hv':PySem.W.handedIn v=true) (h:Q v { s with toks:=Ů+1 }):
  Ö ð (getAttr (ç x) name expr) Ş:=by
 ext Æ7;show PySem.W.get_value X J (Ã1).1 (PySem.W.findObj_own hh ha rfl (by rw[hl,hv])) hv' h
def G3 É3 ĸ
  (hf:ć Ä8 name=↑↑ ĺ) (ht:Ã3) (hv:mA name=none) (h:Q (ç f,[ç x]) s):
  Ö ð (getMethod (ç x) name pl) Ş:=by
 ext Æ7;show PySem.W.method_fn X J (Ã1).1 (Ã1).2 hf (beq_iff_eq.mp ht) (by change (PySem.W.lookIn name od).map (·.isSome)=↑ á;rw[hl,hv];rfl) h
def M4 {ns:Ĝ}Ä6 Ë9
  (hs:ŋ) (hp:PySem.W.plainOver K C=true) (ht:Ð0 K C name=↑none) (hh:ž)
  (hw:PySem.Within mA ns) (hsz:ns.length<=ó)
  (h:∀ h',gi h' x dx C (λ y=>if y=name then ↑v else mA y)->Heap.SameBut dx ú h'->Q Ï7 { s with heap:=h',toks:=Ů+2 }):
  Ö ð (setAttr (ç x) name v) Ş:=by
 ext Æ7;exact PySem.W.set_plain X J hs (PySem.W.osa_open (s:={ s with toks:=Ů+1 }) (r:=none) X J hp ht λ b=>?_);let#[cd,hc,hd']:=PySem.W.any_some hh;have hx:æ x=↑#[ç C,↑dx,.plain,Å1]:=I.obj;exact tp (Ah (tp (tp (wpAny_loadPart hx (tp (PySem.W.Looks.here (s:={ s with toks:=Ů+1 }) (PySem.W.looks_clsIn X hc) ?_))))));rw[hd'];exact Ah (a:=↑dx) (tp (Ah (tp ?_)));exact wpAny_nsSet1 (s:={ s with toks:=Ů+1 }) I.ns λ h' hn2 hs2=>?_;let#[oD,esD,epD,hoD,hdD,hcD]:=hn2.count (PySem.Within.cons name v hw);exact tp (wpAny_lookBehind hoD (by rw[hdD];show pastItsLine_dict (BH hcD (by rw[A7];lia))) ?_);show Ah (h _ #[(hs2.2 _ (Ne.symm I.ne)).trans I.obj,hn2,I.ne] hs2)
def JT {R:Result->ı}{vs:Ai}{kw:ĩ}(X:K.In ú) (hm:PySem.W.makesIn K C=true)
  (hi:ć Ä8 "__init__"=↑↑ ĺ) (hf:PySem.W.typeIn K ĺ=↑(Í0 "function"))
  (h:codeAny (model prog w) (A.under (Ž "type.__call__" #[ç C::vs,kw])) (.call ĺ #[ç (Â+1)::vs,kw]) (PySem.W.InitBack (Â+1) R)
   { s with heap:=Ç4 }):
  codeAny ð (.call (ç C) #[vs,kw]) R s:=by
 let#[hh,g,d,t,os]:=s;show PySem.W.make_core (PySem.W.makes_of X hm) (PySem.W.looks_findIn X hi) (λ self=>PySem.W.bind_fn X self hf) Î2 h
end
def vq Ñ4 (v:V):Đ->Đ
 | []=>[(f,v)]
 | (g,x)::r=>if g=f then (g,v)::r else (g,x)::vq f v r
theorem Sg (f g:Str) (v:V):∀ fs:Đ,(vq f v fs).lookup g=if g=f then ↑v else Ð1 g
 | []=>by
  change ũ g [(f,v)]=_;by_cases h:g=f
  .have hb:(g == f)=true:=Í4;simp![ũ,hb,Ĺ h]
  .have hb:(g == f)=á:=Ł h;simp![ũ,hb,ď h]
 | (k,x)::r=>by
  have ih:=Sg f g v r;ext Ù
  .rw[Ĺ hk];by_cases h:g=k
   .have hb:(g == k)=true:=Í4;simp![ũ,hb,Ĺ (h.trans hk)]
   .have hb:(g == k)=á:=Ł h;simp![ũ,hb,ď (λ e:g=f=>h (e.trans hk.symm))]
  .rw[ď hk];by_cases h:g=k
   .have hb:(g == k)=true:=Í4;simp![ũ,hb,ď (λ e:g=f=>hk (h.symm.trans e))]
   .have hb:(g == k)=á:=Ł h;simp![ũ,hb];show ih
theorem XD Ñ4 (v:V):∀ fs:Đ,f∈(vq f v fs).map (·.1)/\∀ g,g∈ È3->g∈(vq f v fs).map (·.1)
 | []=>#[by simp[vq],λ g h=>Ð2]
 | (k,x)::r=>by
  let#[i1,i2]:=XD f v r;ext Ù
  .rw[Ĺ hk];subst hk;show#[#[],λ g h=>by exists h]
  .rw[ď hk];exact#[?_,λ g h=>?_]
   .rw[Az];show Ay _ i1
   .rw[Az] at h ⊢;rcases Ao.mp h with e | e
    .show Ao.mpr (ň e)
    .show Ay _ (i2 g e)
theorem Ss Ñ4 (v:V):∀ fs:Đ,(vq f v fs).length<=Ï2+1
 | []=>by simp[vq]
 | (k,x)::r=>by
  have ih:=Ss f v r;ext Ù
  .rw[Ĺ hk,A7,A7];lia
  .rw[ď hk,A7,A7];lia
def p8.some_of {v:V}{o:è Ê}(r:p8 ↑v o):∃ u,o=↑u/\Ď:=by
 cases o with
 | none=>show (show False from r).elim
 | some u=>show#[u,rfl,r]
def p8.none_of {o:è Ê}(r:p8 none o):o=none:=by
 cases o with
 | none=>rfl
 | some u=>show (show False from r).elim
def Rm {v:V}ű(r:Ď):PySem.W.handedIn u=true:=by
 cases v with
 | zk=>cases (show u=Value.none from r);rfl
 | bl b=>cases (show u=Value.bool b from r);rfl
 | int i=>let#[t,e]:=(show ∃ t,u=Value.int i t from r);cases e;rfl
 | str x=>let#[t,e]:=(show ∃ t,u=Value.str x t from r);cases e;rfl
 | bp b=>let#[t,e]:=(show ∃ t,u=Value.bytes b t from r);cases e;rfl
 | Wj b=>let#[t,e]:=(show ∃ t,u=Value.float b t from r);cases e;rfl
 | ref a=>cases (show u=Ï0 from r);rfl
 | ty n=>cases (show u=Value.type n from r);rfl
section
variable {Ò}{ŀ}{Å5}{a C dx:Addr}{fs:Đ}
def fB (zv:Ż) (e:H a=↑ ħ):∃ mA,gi h a dx C mA/\(ŭ)/\PySem.Within mA (È3)/\Ï2<=1000/\H dx=↑(.own a):=by
 let#[d,z,ne,ob,mA,n,r,q]:=(show wy Ŷ a ħ from zv a _ e)
 show#[mA,#[ob,n,ne],r,q,z,d]
end
structure oW š (C:Addr):Prop where
 pg:Í5 K C Str.empty=true
 hd:ž
 po:PySem.W.plainOver K C=true
 sa:ŋ
def oW.get Ì9{C:Addr}(c:oW K C) Ñ4:Í5 K C f=true:=c.pg
def jU š (C:Addr) Ñ4:Prop:=ć Ä8 f=↑none
def jU.taker Ì9{C:Addr}{f:Str}(n:jU K C f):Ð0 K C f=↑none:=by
 unfold Ð0;rw[show ć Ä8 f=↑none from n];rfl
structure Meth š (C:Addr) (m:Str) (f:Addr):Prop where
 at_:ć Ä8 m=↑↑ ĺ
 fn:Ã3
 kp:PySem.W.keepIn K ĺ=true
section
variable {ğ}{Ó}{a C dx:Addr}{fs:Đ}{f:Str}{v:V}{õ}{Æ8}
def G2 {b:Bool}{Q:Aj}Ø À7 (n:jU X.K C f) (l:Ð1 f=↑v)
  (h:∀ u s',Inv Ï H s'->Ď->Q u s'):Ö (model ì) A (getAttr (ç a) f b) Ş:=by
 ext É9;let#[u,hu,ru]:=p8.some_of (v:=v) (o:=mA f) (by rw[<- l];show r f);show get_map I.yB O (c.get f) c.hd n hu (Rm ru) (h u _ (Ŧ) ru)
def XY {m:Str}{g:Addr}É3 Ø À7 (k:Meth X.K C m g) (l:Ð1 m=none)
  (h:Q (ç g,[ç a]) s):Ö (model ì) A (getMethod (ç a) m pl) Ş:=by
 ext É9;have hn:mA m=none:=p8.none_of (by rw[<- l];show r m);show G3 I.yB O (c.get m) k.at_ k.fn hn h
def U7 {y:V}ű Ä6 Ø À7 (n:jU X.K C f) (hl:Ï2<1000) (ry:RelV y u)
  (h:∀ s',Inv Ï (upd H a (.ins C dx (vq f y fs))) s'->Q Ï7 s'):Ö (model ì) A (setAttr (ç a) f u) Ş:=by
 let#[mA,O,r,wi,_,ho]:=fB I.zv e;have hz:(È3).length<=ó:=by rw[AQ,sizeLine_eq];lia
 exact M4 I.yB O c.sa c.po n.taker c.hd wi hz λ h' O' sb=>h _ ?_;have hd:∃ o,č dx=↑o:=let #[o,_,_,e',_]:=O'.ns;#[o,e']
 exact I.write (x:=a) (e:=dx) (by rw[e];show True.intro) (.inr ho) (λ b q hb z=>(sb.2 b hb).trans z) hd ?_;exact#[by rw[zX O.ne];show ho,?_,O.ne,O'.obj,_,O'.ns,λ g=>?_,λ g hg=>?_]
 .have:=Ss f y fs;lia
 .change p8 ((vq f y fs).lookup g) (if g=f then ↑u else mA g);rw[Sg];by_cases q:g=f
  .rw[Ĺ q,Ĺ q];show ry
  .rw[ď q,ď q];show r g
 .by_cases q:g=f
  .rw[q];show (XD f y fs).1
  .exact (XD f y fs).2 g (wi g λ z=>hg ?_);change (if g=f then ↑u else mA g)=none;rw[ď q];show z
def Inv.made Ø:Inv Ï (upd (upd H Â (.own (Â+1))) (Â+1) (.ins C Â []))
  { s with heap:=Ç4 }:=by
 have e1:(Ý).get? Â=↑ Ë0:=AO ú rfl;have e2:(Ç4).get? (Â+1)=↑(ċ C Â):=by
  have:=AO (Ý) (o:=ċ C Â) rfl
  rwa [Heap.size_push] at this
 have e3:(Ý).Ns Â (λ _=>none):=#[Ë0,Å1,_,e1,rfl,(λ e he=>Ō he #[]),λ _=>rfl];have I1:=I.laid (a:=Â) (o:=.own (Â+1)) (h':=Ý) (t':=Ů) (λ b u q=>za1 _ q) (Ap _) #[_,e1];exact I1.laid (a:=Â+1) (o:=.ins C Â []) (t':=Ů) (λ b u q=>za1 _ q) (Nat.le_of_eq (Heap.size_push Ŋ)) ?_;have ne:Â ≠ Â+1:=AG (zE2 _);exact#[by rw[zX ne,yD],A0 _,ne,e2,λ _=>none,(Heap.Ns1.of_empty e3).at λ o q=>za1 _ q,λ _=>True.intro,λ y hy=>Ō rfl hy]
def Pg {prog:Ï4}{w:World}{env:Env}À2{f:Str}ē À3{Q:Aj}(hb:attributeBase e f env (eval e env)=eval e env)
  (h:Ö ð (eval e env) (λ o s₁=>Ö ð (getAttr o f true) Q E s₁) E s):Ö ð (eval (.Attribute e f pos) env) Ş:=
 Attribute_any_ h (by rw[arm_eval_Attribute,hb])
end
def Me š (ta:TE) Ñ4:TE:=fun σ H Q=>ta ê λ x H1=>∃ a C dx fs v,x=ç a/\H1 a=↑ ħ/\oW K C/\jU K C f/\Ð1 f=↑v/\Q v H1
def MA š (ta tv:TE) Ñ4:TS:=λ D σ H=>tv ê λ y H1=>ta ş λ x H2=>∃ a C dx fs,x=ç a/\H2 a=↑ ħ/\oW K C/\jU K C f/\Ï2<1000/\
 D.nx σ (upd H2 a (.ins C dx (vq f y fs)))
section
variable {ğ}{o e value:Expr}{f:Str}{pos pos':Pos}{ta tv:TE}
def Kb (he:PE X e ta) (hb:attributeBase e f Ü (È4)=È4):PE X (.Attribute e f pos) (Me X.K ta f):=by
 ext Í;exact Pg hb (zM (he Å) λ u s1 #[x,H1,I1,rx,a,C,dx,fs,v,ex,ea,c,n,l,q]=>?_);subst ex;obtain rfl:u=Ï0:=rx;show G2 I1 ea c n l λ u' s2 I2 ru=>#[v,H1,I2,ru,q]
def Lk (ha:PE X o ta) (hv:PE X value tv) (hs:swapsWith value ↑(.Attribute o f pos') pos.line Ü=pure á):PS X (.Assign [.Attribute o f pos'] value pos) (MA X.K ta tv f):=by
 ext î;exact plainObj_wpAny_Assign_Attribute (zM (hv Å) λ u s1 #[y,H1,I1,ry,q]=>zM (ha Ú _ I1 q) λ ov s2 #[x,H2,I2,rx,a,C,dx,fs,ex,ea,c,n,l,q2]=>?_) hs;subst ex;obtain rfl:ov=Ï0:=rx;show U7 I2 ea c n l ry λ s3 I3=>#[σ,_,I3,q2]
end
structure yg (k:Nat) (A:Around):Prop where
 hd:A.handled=none
 dp:A.depth+3*k+5<recursionLimit
 un:A.units+16*k+200<cLine
def yg.mono {j k:Nat}õ(r:yg k A) (h:j<=k):yg j A:=#[r.hd,by have:=r.dp;lia,by have:=r.un;lia]
theorem yg.deeper Ì8 õ(r:yg (k+1) A) (env:Env):yg k (A.deeper env):=
 #[r.hd,by have:=r.dp;change A.depth+1+3*k+5<_;lia,by have:=r.un;change A.units+3+16*k+200<_;lia]
def JU õ{C:Addr}Ő{kw:ĩ}:(ã).depth=A.depth+1:=by
 first | rfl | simp[Around.under,Code.weight,Code.isCreation,Code.isGuard,Code.isCaller,Code.frames,Code.isFrame,guardIds]
def JS õ{C:Addr}Ő{kw:ĩ}:(ã).units=A.units+1:=by
 first | rfl | simp[Around.under,Code.cUnits,Code.frames,Code.isFrame]
def yg.make Ì8 õ(r:yg (k+1) A) (C:Addr) Ð8 (kw:ĩ):yg k (ã):=
 #[r.hd,by have:=r.dp;rw[JU];lia,by have:=r.un;rw[JS];lia]
theorem yg.depth Ì8 õ(r:yg k A):A.depth<recursionLimit:=by have:=r.dp;lia
theorem yg.units Ì8 õ(r:yg k A):A.units+64<cLine:=by have:=r.un;lia
def ah:TA:=λ _ H Q=>Q [] H
def ai (ta:TE) (tr:TA):TA:=fun σ H Q=>ta ê λ x H1=>tr ş λ xs H2=>Q (x::xs) H2
section
variable {ğ}{À2}{es:Ņ}{te:TE}{t:TA}{ē}
def jj:PA X [] ah:=λ _ _ _ _ H Q I h=>Calls.spliced_nil #[[],H,I,.nil,h]
def lQ (ha:PE X e te) (hr:PA X es t) (hs:AA X e es:=by rfl):PA X (e::es) (ai te t):=by
 intro pos gV s σ H Q I h;rw[hs];change Ö Ŋ (spliced ((á,È4)::backTo pos (Å2 es Ü))) Ŋ s;exact Calls.spliced_cons (zM Ê7 λ u s1 Æ=>?_);show zM (hr pos È1) λ us s2 #[xs,H2,I2,r2,q2]=>#[x::xs,H2,I2,ų r1 r2,q2]
def NM (t:TA):TE:=fun σ H Q=>t ê λ xs H1=>ł<=ó/\∀ p,H1 p=none->Q (ç p) (upd H1 p Ã8)
def Ma (t:TA):TE:=fun σ H Q=>t ê λ xs H1=>ł<=ó/\∀ p,H1 p=none->Q (ç p) (upd H1 p (.lst xs))
def LN {x1} (h:PA X es t):PE X (.Tuple es x1 pos) (NM t):=by
 intro gV s σ H Q I hq;exact wpAny_Tuple_spliced Ĉ;have hf:H1 ġ=none:=È6;exact#[ç ġ,upd H1 ġ Ã8,ſ,rfl,q _ hf];show#[#[z,.new _],us,r,#[_,AO _ rfl,rfl,_,rfl]]
def LW (h:PA X es t):PE X (.List es pos) (Ma t):=by
 intro gV s σ H Q I hq;exact wpAny_List_spliced Ĉ;have hf:H1 ġ=none:=È6;exact#[ç ġ,upd H1 ġ (.lst xs),ſ,rfl,q _ hf];show#[z,us,0,r,AO _ rfl]
end
abbrev Sp:=ñ->Hp->VK->XK->Prop
abbrev mq:=ŧ->Hp->Ì->XK->Ê->ı
structure gB ü Ĭ ù:Prop where
 frames:A.frames=↑ ĉ
 mod:Mod K mg base
 bs:∀ b o,base.get? b=↑o->ś/\Ć
 kc:base.objs.size<=Â
 nr:Â9 base ĉ
 kJ:∀ b∈wu ĉ,Ć
 zv:yK P w H ú
 bare:AllBare s.gens
def CE (ĉ:ŧ) ü ľ (s:Ì) Ì6 (u:Ê) Ð7:Prop:=
 ∃ v H',s'.os=s.os/\AllBare s'.gens/\Un (wu ĉ) [] H H' ú s'.heap/\yK P w H' s'.heap/\Ď/\Q v H'
def CR (CX:mq) (ĉ:ŧ) ü ľ (s:Ì) Ì6 (E:XK) (r:Result) Ð7:Prop:=
 match r with
 | .ok (.ret u)=>CE ĉ P w H s Q u s'
 | .ok _=>False
 | .error e=>CX ĉ H s E e s'
structure wg ü Ĭ (CX:mq) (k:Nat) (f:Addr) (fd:FuncData) (ps:Ĝ) (sp:Sp):Prop where
 len:Â1
 run:∀ ù (args:Args) Ð8 (vs:ñ) Ì6 (E:XK),yg k A->gB ø Í9->BindsTo s fd args (ps.zip us)->Ê5->Ð3->
  codeAny Â7 A (.call ĺ args) (CR CX ĉ P w H s Q E) s
def wg.imp Ò Ĵ{CX:mq}Ì8{f:Addr}Ä9{sp sp':Sp}(F:wg ø CX k f fd ps sp)
  (h:∀ vs H Q E,sp' vs H Q E->Ð3):wg ø CX k f fd ps sp':=
 #[λ vs H Q E q=>F.len vs H Q E (h Ŋ Ŋ q),λ A ĉ s H args us vs Q E hr he hb hv hs=>F.run Í9 args us vs Q E hr he hb hv (h Ŋ Ŋ hs)]
def gB.make Ò Ĵ õ{ĉ:ŧ}À3 ŀ(e:gB ø Í9) (C:Addr) Ð8 (kw:ĩ):
  gB ø (ã) ĉ s H:=#[by first | show e.frames | (simpa [Around.under,Code.envs,Code.isFrame,pushEnvs] using e.frames),e.mod,e.bs,e.kc,e.nr,e.kJ,e.zv,e.bare]
section
variable {ğ}{Ð9}{Ñ0}{ŀ}{s s':Ì}
def Inv.cH Ø:gB ì Ç7 X.A ţ s H:=
 #[I.ok.frames,I.ok.mod,I.bs,BH I.ok.kc I.sz,I.stack,I.YI,I.zv,I.bare]
theorem Inv.after {Q:VK}ű Ø (h:CE ţ ì H s Q u s'):EP Ï Q u s':=by
 let#[v,H',os,bare,un,zv,r,q]:=h;let#[hh,g,d,t,os']:=s';obtain rfl:os'=s.os:=os;show#[v,H',I.call (h':=hh) (g':=g) (d':=d) (t':=t) (ch:=[]) un zv bare (λ b z=>Ō z #[]),r,q]
end
def Uu (sp:Sp) (dvs:ñ) (E:XK) (t:TA):TE:=fun σ H Q=>t ê λ vs H1=>sp (vs++dvs) H1 Q E
def Binds š (fd:FuncData) (ps:Ĝ) (ds:Ai):Prop:=
 ∀ (s:Ì) Ð8,K.In ú->(us++ds).length=È9->BindsTo s fd #[us,[]] (ps.zip (us++ds))
def Binds.all Ì9 Ä9(h:∀ us:List Ê,us.length=È9->bindArgs fd #[us,[]]=pure (ps.zip us)):Binds K fd ps []:=λ s us _ hl=>by
 rw[zaD] at hl ⊢;show .of_eq (h us hl)
def Passes (CX:mq) í (E:XK):Prop:=∀ Ų ľ (s:Ì) (e:Ê) Ð7,À->CX ţ H s E e s'->X.xe e s'
section
variable {ğ}{CX:mq}{Ì8}{f C:Addr}{Ä9}{sp:Sp}{dvs:ñ}{ds:Ai}{E:XK}{ķ}{p pos:Pos}{À2}{es:Ņ}{t:TA}
def UC Ó{Q:VK}Ő{vs:ñ}Ŭ Ś
  Ø (r:Ê5) (h:sp (vs++dvs) H Q E):Ö Á (call ĺ us) İ s:=by
 have r2:Vals (vs++dvs) (us++ds):=r.append hd;have hl:(us++ds).length=È9:=by rw[<- r2.length];show F.len Ŋ Ŋ h
 exact zcM (codeAny_mono (F.run X.A ţ s H #[us,[]] (us++ds) (vs++dvs) Q E hr I.cH (hb s us I.yB hl) r2 h) λ r s' hq=>?_);cases r with
 | error e=>show hx gV ê s e s' I hq
 | ok fl=>
  cases fl with
  | ret u=>show I.after hq
  | _=>show False.elim hq
def Ki Ŭ (hg:Gl X x) (hm:X.mg x=↑ ĺ) (hk:PySem.W.keepIn X.K ĺ=true) Ś
  Ç9 Ì0 Č:
  PE X ļ (Uu sp dvs E t):=by
 ext Í;exact zcS (iJ I hg hm ?_ AV);exact PySem.W.callWith_K (h₀:=X.base) I.ok.mod.jv hk (zM (ha pos Å) λ us s1 #[vs,H1,I1,r,q]=>#[I1.yB,?_]) he An;show UC F hr hb hd hx I1 r q
structure Mk š (C f:Addr):Prop where
 makes:PySem.W.makesIn K C=true
 init:ć Ä8 "__init__"=↑↑ ĺ
 fn:Ã3
 kp:PySem.W.keepIn Ä8=true
end
structure vn (N P:Ĝ) (sc:Scope):Prop where
 kind:sc.kind=.function
 co:sc.isCoroutine=á
 gen:sc.isGenerator=á
 nd:N.Nodup
 pre:N.take P.length=P
 par:∀ x∈P,ā=↑.local\/Ï5
 J4:∀ y∈sc.names,y.2≠.free
theorem QR Ċ:∀ {binds:ĩ}{m:Aq},(∀ v,(x,v)∉binds)->bindL kindOf binds m x=m x
 | [],_,_=>rfl
 | (n,v)::r,m,h=>by
  unfold bindL;rw[QR λ w hw=>h w (Ay _ hw)];split
  .ext Î0
   simp[this]
  .rfl
theorem QT Ċ:∀ {binds:ĩ}{m:Aq},(∀ v,(x,v)∉binds)->bindC kindOf binds m x=m x
 | [],_,_=>rfl
 | (n,v)::r,m,h=>by
  unfold bindC;rw[QT λ w hw=>h w (Ay _ hw)];split
  .rfl
  .ext Î0
   simp[this]
theorem QS Ċ{v:Ê}:∀ {P:Ĝ}{vs:Ai}Ë7{m:Aq},P.Nodup->P[i]?=↑x->vs[i]?=↑v->kindOf x=↑.local->
  bindL kindOf (P.zip vs) m x=↑v
 | [],_,_,_,_,h,_,_=>Ð2
 | _::_,[],_,_,_,_,h,_=>Ð2
 | p::P,w::vs,0,m,nd,h1,h2,hk=>by
  simp at h1 h2;subst h1;subst h2;change bindL Ĥ p=_;unfold bindL;rw[QR Ë1,Ĺ hk];simp
 | p::P,w::vs,i+1,m,nd,h1,h2,hk=>by
  change bindL Ĥ x=_;unfold bindL;show QS Â3
theorem QU Ċ{v:Ê}:∀ {P:Ĝ}{vs:Ai}Ë7{m:Aq},P.Nodup->P[i]?=↑x->vs[i]?=↑v->kindOf x≠↑.local->
  bindC kindOf (P.zip vs) m x=↑v
 | [],_,_,_,_,h,_,_=>Ð2
 | _::_,[],_,_,_,_,h,_=>Ð2
 | p::P,w::vs,0,m,nd,h1,h2,hk=>by
  simp at h1 h2;subst h1;subst h2;change bindC Ĥ p=_;unfold bindC;rw[QT Ë1,ď hk];simp
 | p::P,w::vs,i+1,m,nd,h1,h2,hk=>by
  change bindC Ĥ x=_;unfold bindC;show QU Â3
def start (N:Ĝ) (vs:ñ):St:=vs.map some++List.replicate (N.length-È8) none
def wB (CX:mq) ü Ĭ (N:Ĝ) (qual:Str) (scope:Scope) (f:Addr) (cd:Ê) ù (E:XK):Cx where
 prog:=P
 w:=w
 K:=K
 mg:=mg
 base:=base
 A:=A.deeper (é)
 N:=N
 s₀:=s
 H₀:=H
 env:=é
 ĉ:=ĉ
 stack:=é::ĉ
 ex:=[]
 calm:=true
 fn:=λ _=>true
 pn:=[]
 xe:=λ e s'=>Ö Â7 (A.deeper (é)) (leaving (é) e) (λ _ s''=>CX ĉ H s E e s'') (λ e' s''=>CX ĉ H s E e' s'') s'
def Q7 {sc:Scope}{n:Nat}ķ(h:Ï5):∃ c,(cellsFrom n sc.names []).lookup x=↑c:=by
 have q:=PySem.W.cellsFrom_some sc.names n [] (ň h);show zbL.mp q
def Hf {CX:mq}Ò Ĵ{N ps:Ĝ}{qual:Str}{scope:Scope}{f:Addr}{cd:Ê}õ{ĉ:ŧ}{s s1:Ì}ŀ{E:XK}Ő{vs:ñ}
  (S:vn N ps scope) (hd:A.handled=none) (e0:gB ø Í9) (hl:È8=È9) (r:Ê5)
  (x:InCallC s Â (bindL Î1) (Ë2) (bindC Î1) s1):
  Inv (Æ0) [] Ê0 s1:=by
 have An:È9<=N.length:=by have:=congrArg List.length S.pre;rw[zb7] at this;lia
 let#[h1,tk,rfl,hk]:=x.done;have noA:∀ b:Addr,b∉(Æ0).ex:=λ b z=>Ō (show b∈([]:Ą) from z) #[];exact#[#[e0.mod,S.kind,rfl,rfl,Ap _,λ y z c h1 h2=>?_,λ y hy=>?_,λ y c _ h=>?_,λ _=>hd,Around.frames_deeper e0.frames,.inr #[rfl,rfl],λ b z=>Ō z (noA b),e0.bs,e0.kc,λ b _ _=>noA b,λ b z=>Ō z (noA b),e0.nr,e0.kJ],
  rfl,e0.bare,Un.kept hk,#[_,x.toInCall.ns,λ i y v h1 h2 h3=>?_],λ y c h=>#[_,x.cell y c h],e0.zv.fresh (Ap _),λ y c h=>?_,λ p hp=>Ō (show p∈([]:Am) from hp) #[],e0.zv.kept hk,?_]
 .show name_of_addr x.apart (į h1) (į h2)
 .have hy:Ľ y=↑.cell\/Ľ y=↑.free:=hy;rcases hy with hy | hy
  .show Q7 hy
  .show Ō rfl (S.J4 _ (į hy))
 .show B8 (x.above y c (į h))
 .have hi:i<È8:=by
   unfold start at h2;by_cases hi:i<È8
   .show hi
   .rw[zaM (by exists hi)] at h2;rw[zb3] at h2;split at h2 <;> cases h2
  have ha:vs[i]?=↑v:=by
   unfold start at h2;rw[zaN (by exists hi),AF] at h2;cases e:vs[i]? with
   | none=>rw[e] at h2;cases h2
   | some a=>rw[e] at h2;cases h2;rfl
  let#[u,hu,rv]:=r.get ha;have hp:ps[i]?=↑y:=by
   rw[<- S.pre,List.getElem?_take_of_lt ⋯];show h1
  have ndP:ps.Nodup:=by rw[<- S.pre];show S.nd.sublist (List.take_sublist Ŋ)
  exact#[u,rv,?_];rcases S.par y (A5 hp) with k | k
  .show ň #[k,QS ndP hp hu k]
  .let#[c,e]:=Q7 (n:=Â+1) k;exact .inr #[ň k,c,e,?_];have q:=x.cell y c e;rw[QU ndP hp hu (by change Ľ y≠_;rw[k];decide)] at q;show q
 .show e0.zv.fresh (B8 (x.above y c (į h)))
 .unfold start;change _=N.length;rw[zD7,AQ,List.length_replicate];lia
def Rz {CX:mq}Ò Ĵ Ì8{f:Addr}{name qual:Str}{params:Arguments}{body:Ã9}{scope:Scope}{dV kV doc pm Af ct oc:Ê}{an od:è Addr}
  {osl:Array (è Ê)}{N ps:Ĝ}{sp:Sp}(lk:K.lookup f=↑#[oc,od,.func ŉ,osl]) (BE:PySem.W.codeIn K Af qual=true) (S:vn N ps scope)
  (len:Â1)
  (hbody:∀ ù (vs:ñ) Ì6 (E:XK),yg k (A.deeper (envOfC qual scope Â f Af))->Ð3->
   ∃ t,p9 Ģ body t/\t { nx:=λ _ H'=>Q .zk H',rt:=Q } Ê0):
  wg ø CX (k+1) f ŉ ps sp:=by
 exact#[len,λ A ĉ s H args us vs Q E hr e0 hb r hsp=>?_];have hl:=len Ŋ Ŋ hsp;have KX:K.In ú:=e0.mod.jv.keeps λ b o e=>(e0.bs ă).1;have lim:s.heap.NoLimit:=e0.mod.nolimit.keeps λ b o e=>(e0.bs ă).1;have hkind:∀ y∈ps.zip us,Ľ y.1=↑.local\/(Ľ y.1=↑.cell/\((Ë2).lookup y.1).isSome=true):=λ#[n,v] hy=>by
  rcases S.par n (zbK hy).1 with q | q
  .show ň q
  .show .inr #[q,PySem.W.cellsFrom_some Ŋ _ (ň q)]
 exact codeAny_call_function hr.depth (KX Ŋ lk) rfl S.co S.gen rfl (PySem.W.codeRec_of KX BE) (hb Ŋ Ŋ ?_);exact wpAny_newFunctionEnv_cells S.kind hkind λ env he s1 x=>?_;subst he;exact#[lim.keeps x.toInCall.keep,codeAny_func ?_];let#[t,ht,hq]:=hbody Í9 vs Q E (hr.deeper _) hsp;have I:Inv Ģ [] Ê0 s1:=Hf S hr.hd e0 hl r x;exact za6 (ht [] s1 Ê0 _ I hq) (λ fl s' hs=>?_) λ e s' hs=>hs;have fin:∀ {σ':St}{H':Hp}{v:V}ű,Inv Ģ [] ő s'->Ď->Q v H'->CE ĉ P w H s Q u s':=
  λ{σ' H' v u} J rv q=>#[v,H',J.os,J.bare,J.base,J.zv,rv,q]
 cases fl with
 | ret u=>
  let#[v,σ',H',J,rv,q]:=hs;show fin J rv q
 | next=>
  let#[σ',H',J,q]:=hs;show fin (v:=V.zk) (u:=Value.none) J rfl q
 | brk=>
  ext É4
 | cont=>
  ext É4
section
variable {ğ}{ķ}{p pos:Pos}{À2}{es:Ņ}{t:TA}{id T:String}{r:ñ->þ}
def aj (r:ñ->þ) (t:TA):TE:=fun σ H Q=>t ê λ vs H1=>r vs H1 Q
def mC (hc:xR X (Ž id) r) Ě (hv:ż=↑(Ž id)) Ç9 Ė Ì0
  Č:PE X ļ (aj r t):=by
 ext É5;show PyProof.Rows.callWith_builtin1 ĥ
def du (hc:xR X (Í0 T) r) Ě (hv:ż=↑(Í0 T)) Ç9 Ė Ì0
  Č:PE X ļ (aj r t):=by
 ext É5;show Ź ĥ
end
end L2
namespace HT
open PySem PyProof.Rows
def lexLt:List Int->List Int->Bool
 | [],[]=>á
 | [],_::_=>true
 | _::_,[]=>á
 | x::xs,y::ys=>É7
def iI (x y:Int) (xs ys:List Int):lexLt (x::xs) (y::ys)=É7:=rfl
section
variable {prog:Ï4}{w:World}{õ}{Æ8}{À3}
def yM (n d:Nat):Ŏ->Nat
 | none=>d
 | some v=>ĕ
def M9 (n d:Nat) (hd:d<=n) (o:Ŏ):yM n d o<=n:=by
 cases o with
 | none=>show hd
 | some v=>
  change (ĕ)<=n;by_cases hv:v<0
  .rw[Ĺ hv];lia
  .rw[ď hv];show Nat.min_le_right Ŋ
def Qy (v:Int) (n d:Nat):Á5=((yM n d ↑v:Nat):Int):=by
 change Á5=(((ĕ):Nat):Int)
 by_cases hv:v<0
 .simp![Ĺ hv];lia
 .simp![ď hv];lia
theorem Dz (lo hi:Ŏ) Ñ5:Á0 lo hi 1 Ï8=(ř,((yM n n hi:Nat):Int)):=by
 have h1:¬ ((1:Int)<0):=⋯;unfold Á0;simp![h1,if_false];exact Prod.ext ?_ ?_
 .cases lo with
  | none=>rfl
  | some v=>show Qy v n 0
 .cases hi with
  | none=>rfl
  | some v=>show Qy v n n
theorem Lv (i j:Nat):Į (i:Int) (j:Int) 1=j-i:=by
 unfold Į;have h1:(1:Int)>0:=⋯;simp![h1,if_true,Int.ediv_one];split <;> lia
def U1 {v:Ê}{o:Ŏ}{Q:Ŏ->ı}(p:IsPart v o) (h:Q o s):Ö ð (Builtin.Slice.slicePartIndex v) Ş:=by
 cases p with
 | none=>show slicePart_none h
 | int i t=>show slicePart_int h
def My {sl:Addr}{vl vu:Ê}{lo hi:Ŏ}{n:Nat}{Q:Int×Int×Nat->ı}ĵ
  (h:Q (ř,1,yM n n hi-yM n 0 lo) s):Ö ð (Builtin.Slice.sliceApplied (ç sl) (pure Ï8)) Ş:=by
 let#[os,hos,hcs,hds]:=id hs;unfold Builtin.Slice.sliceApplied Builtin.Slice.sliceFields;exact tp (tp (za7 hos hds (x:=vl) rfl (tp (za7 hos hds (x:=vu) rfl (tp (za7 hos hds (x:=.none) rfl (Ah ?_)))))));exact tp (slicePart_none ?_);change Ö Ŋ (if ((1:Int) == 0)=true then _ else _) Ŋ s;rw[ď ()];exact tp (U1 pl (tp (U1 pu (tp (Ah ?_)))));change Ö Ŋ (match Á0 lo hi 1 Ï8 with | (lo,hi)=>pure (lo,(1:Int),Į lo hi 1)) Ŋ s;rw[Dz lo hi n];change Ö Ŋ (pure (ř,(1:Int),Į ř ((yM n n hi:Nat):Int) 1)) Ŋ s;rw[Lv];show Ah h
theorem Lz (xs:AE) (i k:Nat):((List.range k).filterMap λ(m:Nat)=>xs[Á1]?).toArray=((xs.toList.drop i).take k).toArray:=by
 have e:(λ(m:Nat)=>xs[Á1]?)=λ m=>xs[i+m]?:=by
  funext m;have:Á1=i+m:=⋯;rw[this]
 rw[e];have:=pick_run xs i k;rw[List.filterMap_map] at this;have e2:((λ x=>xs[x]?) ∘ λ x=>i+x)=λ m=>xs[i+m]?:=rfl;rw[e2] at this;rw[this]
def G4 {t sl:Addr}{items:AE}{vl vu:Ê}{lo hi:Ŏ}{Q:Aj}(ht:IsTup ú t items) ĵ
  (hw:¬ (À0=0/\Ç5=É))
  (h:Q (ç Â) { s with heap:=s.heap.push { cls:=Í0 "tuple",data:=.seq (ô).toArray } })
  (hsz:É<=ó):Ö ð (getItem (ç t) (ç sl)) Ş:=by
 have htake:sizeOk (.seq (ô).toArray):=by
  change (ô).toArray.size<=ó;rw[AN,zb7,zc4,B_];lia
 have hj:Ç5<=É:=M9 Ŋ (Ap _) hi;let#[os,hos,hcs,hds]:=id hs;have hTs:s.TypeIs (ç sl) "slice":=#[os,hos,hcs];unfold getItem
 try with_reducible exact zaA ?_
 first | exact tp (Ah ?_) | skip
 exact tp (wpAny_sequenceKey ht.typeIs () ?_);exact tp (zcO (name:=Str.ofString "__getitem__") ht.typeIs Ë3
  (zcJ Ë3 ht.typeIs entry_tuple_getitem ?_ (args_tuple_getitem Ŋ)))
 change Ö Ŋ (Builtin.Tuple.tupleItemsOf (ç t) >>= _) Ŋ s;exact tp (tupleItemsOf_ ht ?_);exact tp (zcU hTs ?_);rw[Ĺ ()];exact tp (My hs pl pu ?_);have hno:¬ (Ī):=by
  intro q;rw[zE5,zE5] at q;have q1:((À0:Nat):Int)=0:=eq_of_beq q.1.1;have q2:Ç5-À0=É:=eq_of_beq q.2;show hw #[⋯,⋯]
 change Ö Ŋ (if Ī then _ else _) Ŋ s;rw[ď hno,Lz]
 first
  | show tp (m:=ī) (zaB ŏ htake)
  | show tp (m:=ī) (zaB (tp (Ah ŏ)) htake)
  | show tp (tp (m:=ī) (zaB (Ah ŏ) htake))
  | show tp (tp (m:=ī) (zaB ŏ htake))
end
end HT
namespace L2
open PySem PySem.Spec PyProof.Rows
abbrev TO:=St->Hp->(Ŏ->Ð)->Prop
def PO í (e:è Expr) (t:TO):Prop:=
 ∀ Ã (Q:Ŏ->Ð),À->t ê Q->
  Ö Á (evalPart e Ü) (λ u s'=>∃ o H',ŷ/\IsPart u o/\Q o H') Ê4
def NZ:TO:=λ _ H Q=>Q none H
def NU (t:TE):TO:=fun σ H Q=>t ê λ x H1=>∃ i,x=ö i/\Q ↑i H1
def intsAre_of {ns:List Int}:∀ Ő,Vals (ns.map V.int) us->IntsAre us ns:=by
 induction ns with
 | nil=>intro us r;rw[B6] at r;cases r;show .nil
 | cons n ns ih=>
  intro us r;rw[Az] at r;cases r with
  | cons r1 r2=>
   let#[t,e]:=r1;subst e;show ų n t (ih r2)
section
variable {ğ}{À2}{te:TE}{lo hi:è Expr}{tl th:TO}{pos p2:Pos}
def Ls:PO X none NZ:=by
 ext Í;rw[evalPart_none];show Ah #[none,H,I,.none,h]
def Lr (h:PE X e te):PO X ↑e (NU te):=by
 intro gV s σ H Q I hw;rw[evalPart_some];exact zM (h Š _ I hw) λ u s1 Æ=>?_;let#[i,rfl,q]:=q1;let#[t,rfl]:=r1;show#[↑i,H1,I1,ö i t,q]
def Pu í (r:V->Ŏ->Ŏ->þ):Prop:=
 ∀ Ã (x:V) (v vl vu:Ê) (lo hi:Ŏ) (sl:Addr) Ì6,À->RelV x v->Ë4->IsPart vl lo->IsPart vu hi->r x lo hi H Q->
  ∃ T id,typeLookup (Í0 T) "__getitem__"=pure ↑(Ž id)/\s.TypeIs v T/\Ö Á (getItem v (ç sl)) İ s
def NQ (r:V->Ŏ->Ŏ->þ) (te:TE) (tl th:TO):TE:=fun σ H Q=>te ê λ x H1=>tl ş λ l H2=>th σ H2 λ u H3=>r x l u H3 Q
theorem LP {r:V->Ŏ->Ŏ->þ}(hr:Pu X r) À6 (hl:PO X lo tl) (hu:PO X hi th):PE X (.Subscript e (.Slice lo hi none p2) pos) (NQ r te tl th):=by
 ext Í;exact Subscript_ (zM (he Å) λ v s1 Æ=>?_);exact wpAny_Slice (zM (hl È1) λ vl s2 #[l,H2,I2,pl,q2]=>zM (hu gV s2 σ H2 _ I2 q2) λ vu s3 #[u,H3,I3,pu,q3]=>?_);rw[evalPart_none];exact Ah ?_;have I4:Inv Ï H3 { s3 with heap:=å }:=I3.kept (t':=s3.toks) λ b ob q=>za1 _ q;let#[T,id,hT,ht,hg]:=hr gV { s3 with heap:=å } σ H3 x v vl vu l u Ë5 Q I4 r1 (Heap.IsSliceOf.new ..) pl pu q3;change Ö Á (subscriptTail e (.Slice lo hi none p2) v (ç Ë5)) İ { s3 with heap:=å };show tail_any (ops:=[ç Ë5,v]) ht hT hg (by with_unfolding_all rfl)
)
example:=`(
example Ă:=NameKind.free
example Ì3:=.cell
example ź:=env.scope.kind == .function
example À:=(k == Ă&&ź&&env.kindOf n == ↑ Ì3)
example Ė:=.lst
example ů:=ys.length
example ê:=sizeLine
example Ü:=.ref
example Ì6:=(Ü D)
example Á:=∀ i m σ H,W i m σ H->(J.stop i H/\Q Ì6 H)\/(J.go i H/\∀ x H',J.gH i H x H'->g x σ H' fun σ2 H2=>tc σ2 H2 λ b H3=> if b=true then te σ2 H3 λ y H4=>∃ ys m',H4 D=↑(Ė ys)/\ů<ê/\m'<m/\W (i+1) m' σ2 (upd H4 D (Ė (ys++[y]))) else ∃ m',m'<m/\W (i+1) m' σ2 H3)
example ć:=scope
example Â:=(xD X N' ć cl C s H fp)
example Ã:=s.heap.objs.size
example Ź(ha:PD X a ta):=0
example Ä Ź (hb:PD X b tb):=0
example Å:=(.ListComp elt [#[tg,iter,ifs,0]] ć pos)
example í:=by let#[δ,S,r1,r2,h]:=hu
example Ë1 _:=x ha.mo r1 r2 h
example ā:=λ x S1 v H1 h1 q1 e1 p1=>?_
example Ê2:=zY.go
example Æ:=by ext í;exact Ê2 Ë1 ā
example Ľ:=s₁.heap
example œ:=.bool true
example Ç _:=x callerA (.call (Ü fa) #[[Ü a],[]]) (λ r s'=>r=.ok (.ret (œ))/\OldK Ľ s'.heap/\s'.os=s₁.os/\AllBare s'.gens) s₁
example Ĉ:=scope.names
example È:=(x,Ă)∈ Ĉ
example É:=by simp![zj]
example Ê:=by let#[δ,S,r1,r2,z]:=hu
example Ĕ _:=x X gV σ
example ý(H:Hp):=0
example Ó _:=x (model X.prog X.w) X.A
example ĕ:=Shared
example Â3(gV:Am) (s:ĕ) (σ:St):=0
example ę:=Value
example Â6:=.builtin
example ŏ:=List V
example Ë:=∀ Â3 ý (x:V) (xs:ŏ) (v:ę) (us:Ai) (Q:VK),Inv Ĕ H s->RelV x v->Vals xs us->r x xs H Q-> wpAny Ó (call (Â6 id) (v::us)) (EP Ĕ Q) X.xe s
example ū:=#[_,AO _ rfl,rfl,rfl]
example õ:=Ab.toArray
example ĸ:=λ i=>bs.getD i true
example Ì:=#[Ã,_,_,_,_,_,ĸ,rfl,Walks.list (A:=X.A.in1) (I.ok.hd hc) Ã p (AG Au) õ,#[ū,pl.isList.push _],λ i v s' Q' E' hv hq'=>?_,λ h' tk hk=>?_]
example Í _:=x δ S
example Ì2:=(n,k)
example ĉ:=NameKind.cell
example Î:=(names.map λ Ì2=>if À then (n,ĉ) else Ì2).lookup x
example É9:=.type
example Ï:=É9 "list"
example Ð _:=x _ _
example Ñ:=PySem.W.fnOf x qual (pV st) (xA st) (zW st) .none kV doc pm an Af ct
example ĥ:=r1.ext e1
example ŝ:=e1.trans
example Ò _:=x (ĥ) p1 z λ y S2 w H2 h2 q2 e2 p2=>h2 w H2 q2 (ŝ e2) p2
example Ô:=xs.length
example Õ(hg:∀ cl C s H fp,PG Â tg g) (hf:∀ cl C s H fp,PF Â ifs tc) (he:∀ cl C s H fp,PE Â elt te):=0
example Ö:=List.lookup x ((if À=true then (n,ĉ) else Ì2)::_)
example ġ{H:Hp}:=0
example Ś{σ:St}:=0
example Ø{gV:Am}Ś ġ{s:ĕ}:=0
example Ù:=fun σ H Q hu=>?_
example Ú:=ŏ->Hp->VK->Prop
example Û(I:Inv Ĕ H s):=0
example ß _:=x σ H Q
example Ý(hi:∀ σ H Q,t' ß->t ß):=0
example Þ(K:Ac):=0
example à{xs:ŏ}:=0
example á:=Option
example â:=SS->Prop
example ã:=by let#[u,rfl,ru]:=vals1 r;cases ru;let#[Ab,rv,pl,hz]:=I.list hq;have hl:=rv.length;rw[AQ] at hl;have Au:p<Ã:=by let#[o,n,e,_]:=pl;show Ar e
example å _:=x K H
example Ş:=Int->Int->D
example ä{g:Ş}{g':Int->Int->V}(hg:∀ i j H,zj å (g i j) (g' i j)):=0
example æ:=(.refl H)
example Ë2:=r.length
example Ç5:=by let#[j,h1,h2,h3,h4,h5]:=W_ he
example ç:=by ext Ç5;let#[w,ew,rw']:=r.get h2;have hl:=Ë2;have hn:=iH;have fin:EP Ĕ Q w s:=#[z,H,I,rw',q]
example Æ6:=Ext H H'
example è(e:Æ6):=0
example é:=by rw[zX (ou q h (by intro z;cases z))];show q
example ë:=zw å ds xs
example ì:=xv å δ σ
example î:=h.elim
example Ê6 _:=x r1 r2
example ï:=by let#[δ,S,r1,r2,h']:=hu;exact vo.go h.mo Ê6 h' λ ds S1 xs H1 h1 q1 e1 p1=>#[by rw[<- q1.length];show h1.1,λ p hp=>?_]
example Á4:=by intro value slice gV s σ H x y v u Q I rx ry h hs
example ð:=by ext Á4;let#[p,xs,i,z,rfl,rfl,hq,he,q]:=h;cases rx;let#[t,rfl]:=ry
example ñ:=(∀ d S',Q d S'->Q' d S')
example ò:=False
example É0 _:=x gV s ß I (hi ß q)
example ó:=λ gV s σ H Q I q=>h É0
example ô _:=x ha.mo hb.mo
example É8{K:Ac}:=0
example ö É8{H H':Hp}:=0
example ø:=List (á Nat)
example ą:=X.env
example ù:=by intro gV s σ H Q I h;let#[cl,hclos,c1,c2]:=Qw (ć:=ć) (env:=ą) λ y hy hk=>I.ok.has y.1 (S.free y hy hk)
example ú:=X.env.scope.names.lookup
example À7{f:wx}{r:R2}{ta tb:zy}:=0
example Ł{pos:Pos}:=0
example û{a b:Expr}{op:CmpOp}Ł À7(ho:xo X (compareOp op) r) (hr:vB X.K f r) (hf:p_ f):=0
example ü:=by let#[x,hx,h1]:=h0.one;subst hx
example Ê4:=λ ds S1 xs H1 h1 q1 e1 p1=>?_
example þ:=by ext Ê;exact vo.go hm Ê6 z Ê4
example ÿ:=List D
example Ā:=yb å S
example ă:=cl.lookup x
example Ą:=by intro gV s σ H xs us Q I r h
example À0 _:=x gV s σ H
example Ć _:=x rfl hs hclos S.kind (λ y hy e=>e▸S.uniq y hy) (zM (hi À0 _ I h) λ v s1 h1=>zM h1 λ itv s2 h2=>?_)
example Ċ:=List (Str×Addr)
example ċ:=by let#[Ab,r',pl,hz]:=I.list hq;have hlen:=r'.length
example Č:=Hp->Prop
example č:=H2.objs.size
example Ď:=fun δ5 S5 w5 σ5 H5 b1 b2 b3=>#[((x2.trans x3).trans a2).trans b2,δ5,S5,b1,b3,w5]
example ď:=by rw[e];show#[.bl _,H,I.kept (t':=tk) λ b o eo=>hk b o (by exists AG (Ar eo)) (za1 _ eo),rfl,q]
example Đ:=List Str
example đ:=by let#[x,r,h1,h2,h3]:=h
example Ē _:=x Í Ð
example ē{x qual:Str}{st:Stmt}{f:Addr}:=0
example ė(hc:X.calm=true):=0
example Ä4:=(by simp![AN] <;> lia)
example Ğ:=.int
example Ę _:=x Ä4 #[Ğ ů,H,I.tok _,#[s.toks+1,by rw[AN,hlen]],q]
example Ě:=scope.names.lookup
example ě:=PySem.W.nsIn
example Ĝ:=List Expr
example ĝ{q:Program}{loose:Đ}{XP:(Str->á ę)->Heap->Prop}{YP:World->Heap->Prop}{d:DefRec}:=0
example ğ:=by simpa only [zj] using h
example Ġ{X:Cx}:=0
example Ģ _:=x δ S1
example ű:=by let#[a,xs,rfl,r1,r2]:=h1
example Ç4:=by simp![zj] at h1 h2
example ģ:=by rename_i q;ext Ç4;ext ű;let#[x',e1,e2]:=r2.yc q
example Ĥ:=Ab.toArray.size
example Ħ:=.inl
example ħ(ha:yG ta) (hb:yG tb):=0
example Ĩ:=by split at h
example ĩ:=∀ x,foldedSetIterable iter ą x=pure x
example Ī:=false
example ī:=decide
example Ĭ:=s.heap.get?
example ĭ:=mainGlobals
example Į(B3:∀ b∈fp,ml X gV H b):=0
example į{e:Expr}:=0
example İ:=by simp![zj] at r;subst r
example ı:=#[fun δ S Q Q' hq z=>hm Ē (λ ds S1 z=>?_) z,PI.imp h fun σ H R hu=>?_]
example Ĳ:=#[δ,S,r1,r2,mo Ē (λ d S' q v H' a b c=>k d S' v H' q a b c) h]
example ĳ:=hq Ð h
example Ĵ:=by rw[zX (vv q h)];show q
example ĵ:=qI (λ z=>?_) (λ z=>?_) h1
example Ķ:=PySem.mem_of_lookup
example ķ:=ye.fits λ _ _ _=>É
example Ĺ:=λ D σ H hu=>?_
example Í0:=yz->â
example ĺ:=∀ d δ S (Q Q':Í0),(∀ δ S,Q Í->Q' Í)->t d Í Q->t d Í Q'
example Ë6:=by let#[u,rfl,rx]:=vals1 r;cases rx
example Ļ:=by ext Ą;let#[p,ys,rfl,hq,q]:=h;ext Ë6
example ļ _:=x ho hc hd (λ h' c' kp e=>fin Ab r' hz h' c' kp e) Ä4
example ľ:=ds.length
example Ŀ:=by let#[oc,od,kV,doc,pm,an,Af,ct,osl,rfl,lk,BE]:=F.ex
example ŀ:=by .let#[_,_,_,_,o,_,_,e,ex,_]:=I.zv p _ hk;show#[o,e,ex]
example ł:=pB.go hb.mo (ĥ) p1 z λ y S2 H2 h2 e2 p2=>h2 H2 (ŝ e2) p2
example Ê9 _:=x P w K mg base
example Ń _:=x (wB xP Ê9 N qual (zW st) f Af A outer s H E).vb (xA st) t
example Å9:=(Ap _)
example ń:=I.zv.fresh Å9
example Ņ:=ns.map V.int
example ņ:=I.items.length
example Ň(X:Cx):=0
example ň _:=x ye.mo ha hb (m_ _)
example ŉ _:=x ta tb
example Ŋ:=.inr
example ŋ:=by let#[it,fp,tn,J,H2,e,I2,T,st2,f2,rd]:=h2;subst e
example ſ:=(.new hl _)
example Æ5:=zw.ext
example Ō:=by simp![zj];show#[l,xs,rfl,yJ.of yD,Æ5 ſ _ r2]
example ō _:=x (fI.fits λ _ _ _=>É) fI.mo ha hb
example Ç8:=False.elim
example Ŏ:=λ _ _ z=>Ç8 z
example Ő:=if_pos
example ő:=if_neg
example Œ:=[].toArray
example Ŕ:=(own++cl).lookup
example ŕ:=zj å d x
example Ŗ:=PE.imp
example ŗ:=λ gV s σ H v w Q I r q=>h À0 v w Q I r (hi v ß q)
example Ř:=by exact#[#[o,e,ex.1],λ a e2=>?_];cases e2;show#[o,e,ex.2.1]
example ř:=by let#[Ab,r',pl,hz]:=I.tuple hq
example ś:=List (Str×NameKind)
example Ŝ:=X.env.cells.lookup x
example ş:=.seq vs.toArray
example Š:=kW X N' pick ć
example Ž _:=x K H'
example š:=Æ6->yb Ž S'->Q v H'
example Ţ{P:Program}{w:World}É8:=0
example ţ:=∀ (s:ĕ) (u:ę),BindsTo s fd #[[u],[]] [(x,u)]
example Ť:=compEnvC ć cl C ą
example ť _:=x q loose XP YP l.row.toRowW d [] (λ f vs=>PySem.call f vs)
example Ŧ:=by rcases Ao.mp hx with q | q
example ŧ:=(Ė xs)
example Ũ:=PyProof.Rows
example ũ:=.tup ds
example Ū:=.BoolOp
example Ŭ _:=x he c1 c2 I2 T st2 f2 rd λ C D oC H' s' hC J' ho hn q=>?_
example ŭ _:=x ha.pe hb.pe
example Ů:=pl.isList
example Ű:=xs=[Ü p]
example Ų:=z.length
example ų:=absurd
example Ŵ:=s₁.heap.get?
example ŵ:=#[z.1,hq Ð z.2]
example Ŷ{p:Addr}:=0
example ŷ{S:SS}:=0
example Ÿ(r1:ì) (r2:Ā) (h:t Í R):=0
example Ż:=s.heap.push { cls:=É9 "dict",data:=.dict Œ }
example Î0:=List Addr
example ż{fp:Î0}{tn:Nat->Heap->Prop}{J:It}{cl:Ċ}:=0
example ž:=.free
example À1:=by simp![zw] at h
example À2:=HT.yM Ô 0 lo
example À3:=Builtin.List.listTooLong
example À4:=IntsAre vs ns
example À5:=(assign (.Name y py) ą)
example À6:=Paired.dQ h λ p q z=>#[z.1,zj.ext e p.2 z.2]
example À8:=yg k (A.deeper (envOfC qual (zW st) Ã f Af))
example À9:=by cases e;simp![zj] at r;let#[a,xs,h1,h2,h3]:=r
example Á0:=λ gV s σ H Q I q=>h gV s ß I (hi Q σ H q)
example Á1:=by rename_i e;let#[a,ys,rfl,q,r]:=yu.sq h1 h2 e
example Á2:=∀ l,H l=none->Q (Ü l) (upd H l (.tup ys))
example Á3:=env.cells.lookup
example Á5(Af:ę) (A:Around) (outer:List Env) (s:ĕ):=0
example Á6(c:Str) (C:Addr):=0
example Á7:=I1.kept (t':=s1.toks) λ b o eo=>za1 _ eo
example Á8:=ForInStep.yield
example Á9:=(my pick σ)
example Â0(F:pM K x qual st f fd):=0
example Â1:=by simp![zj] at h ⊢;let#[a,xs,h1,h2,h3]:=h
example Â2:=∀ l,H l=none->Q (Ü l) (upd H l (Ė ys))
example Â4:=t Í Q->t Í Q'
example Â5:=some (Ė ds)
example Â7:=K.lookup
example Â8:=#[cl,?_,λ x d hx=>?_,λ x hx=>?_]
example Â9:=own.lookup
example Ã0:=λ p hp=>ų (show p∈([]:Am) from hp) #[]
example Ã1:=I8.pin (b,o) (A6 _ (A6 _ (aR hb e)))
example Ã2:=by rw[Az] at h;simp![zw,zj] at h;ext đ;subst h1 h2
example Ã3:=(∀ b∈fp,H' b=none)
example Ã4:=λ _ _ q=>q
example Ã5:=List.range
example Ã6 _:=x (a::b::rest) pos
example Ã7:=∃ z,xs=[.str z]/\Ų<=ê/\Q (Ğ Ų) H
example Ã8(T:Turn X.prog X.w X.K tg J fp it tn):=0
example Ã9:=by ext Ą;let#[p,bs,rfl,hq,q]:=h;ext ã
example Ä0:=Heap.size_push
example Ä1:=Paired λ p q=>p.1=q.1/\zj å p.2 q.2
example Ä2:=λ v H2 r x q=>h v H2 r (e.trans x) q
example Ì0:=λ _ _ _=>ò
example Ä3 _:=x [Ü a] H (λ v _=>v=.bl true) Ì0
example Ä5:=Ĭ p=↑{ cls:=Ï,data:=.seq õ n }
example Ä6:=á Addr
example Ä7:=B3 b hb
example Ä8:=Inv Â [] σ' H' s'
example Ä9:=Option.none
example Å0:=(.new hp _)
example Å1:=λ _ _ h=>v8.ext e h
example Å2{ds:ÿ}:=0
example Å3 _:=x X.K H p ys
example Å4:=by have e':b=a:=hA b (by rw[q];simp);subst e'
example Å5(hi:∀ D σ H,t' D σ H->t D σ H):=0
example Å6:=by simp![zj] at r;let#[a,xs,rfl,r1,r2]:=r
example Å7:=Ĭ l=↑{ cls:=Ï,data:=.seq õ n }
example Å8 _:=x (ĥ) p1 h1 λ y S2 w H2 h2 q2 e2 p2=>?_
example Æ0:=s.heap.update
example Æ1:=List Int
example Æ2:=ns.length
example Æ3:=(x,ĉ)∈ Ĉ
example Æ4:=zj å d v
example Æ7:=.Compare
example Æ8:=List Stmt
example Æ9:=#[h.1,hq Ð h.2]
example Ç0:=h H æ p
example Ç1{fd:FuncData}:=0
example Ç2(pick:ø):=0
example Ç3{σ':St}{H':Hp}{s':ĕ}{oC:Obj}:=0
example Ç6(hi:∀ v σ H Q,t' v ß->t v ß):=0
example Ç7:=Obj.mapSeq
example Ç9:=PySem.Spec
example È0:=List Bool
example È1:=K w.params
example È2:=ă=↑c
example È3:=Inv X (gV++[(C,oC)]) σ H' s'
example È4:=Q (!ds.isEmpty) S
example È5:=λ v σ H Q hu=>?_
example È6 _:=x å a xs
example È7:=by let#[z,Ab,n,r,hl,e]:=I.X5 hH
example È8(i:Nat):=0
example È9{ć:Scope}:=0
example É1:=(by rw[hk];show#[_,I',q])
example É2 _:=x (C,oC) (A6 _ (A6 _ (AJ.mpr rfl)))
example É3:=SS->DK->Prop
example É4:=(Ext.refl H)
example É5:=λ l hl=>h Ð ?_ ſ (h2.new hl)
example É6:=by rcases e2 x d hx with q | ⟨q1,q2⟩
example É7 _:=x i [] s3 σ3 H3 _ I3 (stat fr3) st3
example Ê0:=PySem.W.codeIn K Af qual=true
example Ê1:=Nat->Nat->St->Č
example Ê3:=by rw[r2.isEmpty]
example Ê5:=(((ŝ x2).trans x3).trans a2)
example Ê7:=by intro gV s σ H x vs v us Q I rx rv h
example Ê8(hn:l.most=↑n):=0
example Ë0 _:=x (b::rest) pos
example Ë3:=Ŵ a=↑{ cls:=Ï,data:=ş }
example Ë4:=PySem.W.keepIn K (Ü f)=true
example Ë5:=Bool->â
example Ë7(a:Addr):=0
example Ë8:=by simp![zj] at q1;exact#[k,q1,ĵ]
example Ë9:=(upd H p (Ė (xs.set j v)))
example Ì1:=(ă).isSome
example Ì4:=h.objs.size
example Ì5:=pushCells_keeps
example Ì7:=by simpa only [B6,zw] using h
example Ì8{a:Addr}:=0
example Ì9:=(upd H p u)
example Í1:=(yT f ŉ)
example Í2:=hq Ð z
example Í3:=h x' H e2 æ h3
example Í4:=(vo X.K tA)
example Í5{n:Nat}:=0
example Í6:=by cases rx;let#[u,rfl,ru]:=rv.one
example Í7(w:World):=0
example Í8{x:Str}:=0
example Í9{env:Env}:=0
example Î1{pick:ø}:=0
example Î2{i:Nat}:=0
example Î3{d:D}:=0
example Î4(t:ya):=0
def bf (xs:ŏ) (lo hi:á Int):ŏ:=(xs.drop (À2)).take (HT.yM Ô Ô hi-À2)
def FO (xs:ŏ) (lo hi:á Int):(bf xs lo hi).length<=Ô:=by
 unfold bf;rw[zb7,zc4];lia
def MQ Þ:V->á Int->á Int->Hp->VK->Prop:=λ x lo hi H Q=>∃ a xs,x=Ü a/\yJ È6/\
 ¬ (À2=0/\HT.yM Ô Ô hi=Ô)/\∀ p,H p=none->Q (Ü p) (upd H p (.tup (bf xs lo hi)))
theorem Mz:Pu X (MQ X.K):=by
 intro gV s σ H x v vl vu lo hi sl Q I rx hs pl pu h;let#[a,xs,rfl,hx,hw,q]:=h;cases rx;let#[Ab,r,ht,hz]:=I.tuple hx;have hlen:Ĥ=Ô:=by rw[AN];show r.length.symm
 exact#["tuple",_,PyProof.Rows.slot_tuple_getitem.lookup,ht.typeIs,?_];exact HT.G4 ht hs pl pu (by rw[hlen];show hw) ?_ (by rw[hlen];show hz);rw[hlen];exact#[Ü Ã,_,I.laid (t':=s.toks) (o:=.tup (bf xs lo hi)) (λ b ob q=>za1 _ q) Å9 ?_,rfl,q _ (ń)];show#[#[BH (FO xs lo hi) hz,.new _],_,(r.drop (À2)).take (HT.yM Ô Ô hi-À2),IsTup.new Ð]
def Vals.J7 à{us:Ai}(r:Vals xs us):us=[]↔xs=[]:=by
 cases r with
 | _=>simp
end
def o6 (n:Nat) (i:Int):á Nat:=if 0<=i then (if i<n then ↑i.toNat else none) else if -(n:Int)<=i then ↑(i+n).toNat else none
def yc {α:Type}(xs:List α) (i:Int):á α:=(o6 Ô i).bind λ j=>xs[j]?
theorem SG Í5{i:Int}{j:Nat}(h:o6 n i=↑j):seqIndex? i n=↑j/\j<n/\-(n:Int)<=i/\i<n:=by
 unfold o6 at h;by_cases h0:0<=i
 .rw[Ő h0] at h;by_cases h1:i<n
  .rw[Ő h1] at h;have e:i.toNat=j:=BA h;show#[by rw[seqIndex_of h0 h1,e],⋯,⋯,h1]
  .rw[ő h1] at h;cases h
 .rw[ő h0] at h;by_cases h1:-(n:Int)<=i
  .rw[Ő h1] at h;have e:(i+n).toNat=j:=BA h;show#[by rw[seqIndex_neg ⋯ h1,e],⋯,h1,⋯]
  .rw[ő h1] at h;cases h
def W_ {α:Type}{xs:List α}{i:Int}{v:α}(h:yc xs i=↑v):∃ j,seqIndex? i Ô=↑j/\xs[j]?=↑v/\j<Ô/\-(Ô:Int)<=i/\i<Ô:=by
 unfold yc at h;cases e:o6 Ô i with
 | none=>rw[e] at h;cases h
 | some j=>
  rw[e] at h;let#[h1,h2,h3,h4]:=SG e;show#[j,h1,h,h2,h3,h4]
def Pz (b:Expr):Prop:=∀ o i,subscripted b Ī o i=operate [o,i] (getItem o i)
def kR Ň (r:R2):Prop:=
 ∀ (value slice:Expr) Â3 ý (x y:V) (v u:ę) (Q:VK),Inv Ĕ H s->RelV x v->RelV y u->r x y H Q->
  subscripted slice Ī v u=operate [v,u] (getItem v u)->wpAny Ó (subscriptTail value slice v u) (EP Ĕ Q) X.xe s
def DV Ň (id:String) (r:V->Ú):Prop:=
 Ë
section
variable {Ġ}{a b:Expr}{ta tb:TE}{Ł}
def kR.or {r r':R2}(h:kR X r) (h':kR X r'):kR X (λ x y H Q=>r x y H Q\/r' x y H Q):=by
 intro value slice gV s σ H x y v u Q I rx ry q hs;rcases q with q | q
 .show h value slice À0 x y v u Q I rx ry q hs
 .show h' value slice À0 x y v u Q I rx ry q hs
def LY {r:R2}(hr:kR X r) (ha:PE X a ta) (hb:PE X b tb) (hs:Pz b):PE X (.Subscript a b pos) (eT r ŉ):=by
 intro gV s σ H Q I h;show Subscript_ (WO ha hb I h λ v u s2 x y H2 I2 rx ry q=>hr a b gV s2 σ H2 x y v u Q I2 rx ry q (hs Ð))
def UT Þ:R2:=λ x y H Q=>∃ p xs i v,x=Ü p/\y=Ğ i/\yj å p xs/\yc xs i=↑v/\Q v H
def UR Þ:R2:=λ x y H Q=>∃ p xs i v,x=Ü p/\y=Ğ i/\yJ å p xs/\yc xs i=↑v/\Q v H
def US:R2:=λ x y H Q=>∃ z i c,x=.str z/\y=Ğ i/\Ų<=ê/\yc z.cps.toList i=↑c/\Q (.str #[[c].toArray]) H
theorem IT:kR X (UT X.K):=by
 ext ð;let#[Ab,r,pl,hz]:=I.list hq;ext ç;by_cases h0:0<=i
 .have hj:i.toNat=j:=by
   rw[seqIndex_of h0 h5] at h1;show BA h1
  show item_listR Ů h0 ⋯ (by rw[hj];exists ew) fin hs
 .have hj:(i+(Ĥ:Int)).toNat=j:=by
   rw[seqIndex_neg ⋯ h4] at h1;rw[AN,<- hl];show BA h1
  show subscriptTail_builtinR (x:=w) pl.isList.typeIs slot_list_getitem.lookup
   (wpAny_getItem_list_neg (Q:=λ r s'=>r=w/\EP Ĕ Q r s') Ů ⋯ (by rw[AN] <;> lia) ⋯ (by rw[hj];exists ew) #[rfl,fin]) hs
theorem IM:kR X (UR X.K):=by
 ext ð;let#[Ab,r,pl,hz]:=I.tuple hq;ext ç;show subscriptTail_builtinR (x:=w) pl.typeIs slot_tuple_getitem.lookup
  (getItem_tuple (j:=j) (Q:=λ r s'=>r=w/\EP Ĕ Q r s') pl ⋯ ⋯ (by rw[AN,<- hl];show h1) (by exists ew) #[rfl,fin]) hs
theorem IP:kR X US:=by
 ext Á4;let#[z,i,c,rfl,rfl,hz,he,q]:=h;let#[t,rfl]:=rx;let#[t',rfl]:=ry;ext Ç5;have hl:z.cps.toList.length=Ų:=by simp[Str.length]
 rw[hl] at h1 h4 h5;have hn:=iH;show tail_any (typeIs_str s z t) slot_str_getitem.lookup (getItem_str (c:=c) (by
  have e1:ī (i < -(2 ^ 63:Int))=Ī:=za2 ⋯;have e2:ī (i≥2 ^ 63)=Ī:=za2 ⋯;rw[e1,e2,Bool.or_false]) (by rw[h1];exists h2) #[.str #[[c].toArray],H,I.tok _,#[_,rfl],q]) hs
def UU Þ:R2:=λ x y H Q=>UT K x y H Q\/UR K x y H Q\/US x y H Q
def IQ:kR X (UU X.K):=IT.or (IM.or IP)
def JR (Ab:Ai) (n j:Nat) (u:ę):Ç7 (·.setIfInBounds j u) { cls:=Ï,data:=.seq õ n }={ cls:=Ï,data:=.seq (Ab.set j u).toArray n }:=by
 simp[Ç7]
theorem Inv.lst Ø Ŷ à Û (h:H p=↑ ŧ):
  ∃ (Ab:Ai) (n:Nat),Vals xs Ab/\Ä5/\Ô<=ê:=by
 let#[z,Ab,n,r,e]:=I.zv p _ h;show#[Ab,n,r,e,z]
def Inv.JZ Ø Ŷ{xs ys:ŏ}{Ab AW:Ai}{n n':Nat}{f:Obj->Obj}Û (h:H p=↑ ŧ)
  (ho:Ä5) (hf:f { cls:=Ï,data:=.seq õ n }={ cls:=Ï,data:=.seq AW.toArray n' }) (r:Vals ys AW) (hz:ů<=ê) (t:Nat):
  Inv Ĕ (upd H p (Ė ys)) { s with heap:=Æ0 p f,toks:=t }:=by
 have e:(Æ0 p f).get? p=↑{ cls:=Ï,data:=.seq AW.toArray n' }:=by
  rw[za8 f ho (by rw[hf] <;> rfl),hf]
 exact I.write (x:=p) (e:=p) (by rw[h];trivial) (Ħ rfl) (λ b u hb q=>(za9 Ð (Ne.symm hb)).trans q) #[_,e] ?_;show#[hz,AW,n',r,e]
def MR:V->V->V->Hp->(Č)->Prop:=λ o i v H Q=>∃ p xs k j,o=Ü p/\i=Ğ k/\H p=↑ ŧ/\o6 Ô k=↑j/\Q Ë9
theorem set_list:P0 X MR:=by
 intro gV s σ H o i v ov iv u Q I ro ri rv h;let#[p,xs,k,j,rfl,rfl,hp,hj,q]:=h;cases ro;let#[t,rfl]:=ri;let#[Ab,n,r,ho,hz]:=I.lst hp;let#[h1,h2,h3,h4]:=SG hj;have hl:=Ë2;have hn:=iH;have I':Inv Ĕ Ë9 { s with heap:=Æ0 p (Ç7 (·.setIfInBounds j u)) }:=
  I.JZ hp ho (JR Ab n j u) (r.set rv j) (by rw[zaT];show hz) s.toks
 by_cases h0:0<=k
 .have hk:k.toNat=j:=by
   rw[seqIndex_of h0 h4] at h1;show BA h1
  show PySem.W.ki_setAt ho h0 ⋯ (by rw[AN,<- hl];show h4) É1
 .have hk:(k+(Ĥ:Int)).toNat=j:=by
   rw[seqIndex_neg ⋯ h3] at h1;rw[AN,<- hl];show BA h1
  show PySem.W.ki_setBack ho ⋯ (by rw[AN,<- hl];show h3) ⋯ É1
theorem EB:xR X (Â6 "len") (λ xs H Q=>∃ p ys,Ű/\(yj Å3\/yJ Å3)/\Q (Ğ ů) H):=by
 ext Ļ;have hn:=iH;rcases hq with hq | hq
 .ext ċ;show Calls.call_len_list Ů Ę
 .ext ř;have hlen:=r'.length;show len_tuple pl Ę
theorem EA:xR X (Â6 "len") (λ xs H Q=>Ã7):=by
 ext Ą;let#[z,rfl,hz,q]:=h;let#[u,rfl,t,rfl]:=vals1 r;have hn:=iH;show len_str ⋯ #[Ğ Ų,H,I.tok _,#[_,rfl],q]
def xR.or {f:ę}{r r':Ú}(h:xR X f r) (h':xR X f r'):xR X f (λ xs H Q=>r xs H Q\/r' xs H Q):=by
 intro gV s σ H xs us Q I rs q;rcases q with q | q
 .show h À0 xs us Q I rs q
 .show h' À0 xs us Q I rs q
theorem E8:xR X (Ï) (λ xs H Q=>∃ p ys,Ű/\(yj Å3\/yJ Å3)/\Â2):=by
 ext Ļ;have fin:∀ (Ab:Ai),Vals ys Ab->ů<=ê->∀ (h':Heap) (c':Nat),(∀ b o',Ĭ b=↑o'->h'.get? b=↑o')->
   h'.get? Ã=↑{ cls:=Ï,dict:=none,data:=.seq õ c',slots:=Œ }->EP Ĕ Q (Ü Ã) { s with heap:=h' }:=λ Ab r' hz h' c' kp e=>
  #[Ü Ã,_,I.laid (t':=s.toks) kp Å9 (show wy X.prog X.w _ h' _ (Ė ys) from #[hz,Ab,c',r',e]),rfl,q _ (ń)]
 rcases hq with hq | hq
 .ext ċ;let#[o,ho,hc,n,hd]:=Ů;show call_list_seq p (Ħ rfl) ļ
 .ext ř;have hlen:=r'.length;let#[o,ho,hc,n,hd]:=pl;show call_list_seq p (Ŋ rfl) ļ
theorem Ep:xR X (É9 "tuple") (λ xs H Q=>∃ p ys,Ű/\((yj Å3/\Á2)\/(yJ Å3/\Q (Ü p) H))):=by
 ext Ą;let#[p,ys,rfl,h]:=h;ext Ë6;rcases h with ⟨hq,q⟩ | ⟨hq,q⟩
 .ext ċ;exact call_tuple_list Ů (λ h' kp=>?_) Ä4;have I1:Inv Ĕ H { s with heap:=h' }:=I.kept (t':=s.toks) kp;have I2:Inv Ĕ (upd H h'.objs.size (.tup ys)) { s with heap:=h'.push { cls:=É9 "tuple",data:=.seq õ } }:=
   I1.laid (t':=s.toks) (λ b o e=>za1 _ e) Å9 (show wy X.prog X.w Ð _ (.tup ys) from #[#[hz,.new _],Ab,r',IsTup.new Ð])
  show#[Ü h'.objs.size,_,I2,rfl,q _ (I1.zv.fresh Å9)]
 .ext ř;show call_tuple_same pl #[Ü p,H,I,rfl,q]
def Ui Þ (T:String) (x:V) ý:Prop:=match x with
 | .str _=>T="str"
 | Ğ _=>T="int"
 | Ü p=>(T="list"/\∃ xs,yj å p xs)\/(T="tuple"/\∃ o,Â7 p=↑o/\o.cls=É9 "tuple"/\o.dict=none)\/
   (T="dict"/\((∃ Aa,H p=↑(.dK Aa))\/∃ Aa,H p=↑(.dT Aa)))\/(T="set"/\∃ S n,H p=↑(.set S n))
 | _=>ò
def N1 Ø{T:String}{x:V}{v:ę}Û (r:RelV x v) (ty:Ui X.K T x H):
  s.TypeIs v T/\∀ a,v=Ü a->∃ ob,Ĭ a=↑ob/\ob.dict=none:=by
 cases x with
 | str z=>
  let#[t,rfl]:=r;cases (show T="str" from ty);show#[typeIs_str s z t,λ _ e=>nomatch e]
 | int i=>
  let#[t,rfl]:=r;cases (show T="int" from ty);show#[typeIs_int s i t,λ _ e=>nomatch e]
 | ref p=>
  cases r;rcases ty with ⟨rfl,xs,hq⟩ | ⟨rfl,o,hk,hc,hd⟩ | ⟨rfl,hk⟩ | ⟨rfl,S,n,hk⟩
  .let#[Ab,_,pl,_]:=I.list hq;exact#[pl.isList.typeIs,λ a e=>?_];cases e;let#[o,n,e,c,hd,_]:=pl;show#[o,e,hd]
  .exact#[#[o,I.yB p o hk,hc],λ a e=>?_];cases e;show#[o,I.yB _ o hk,hd]
  .have z:∃ o,Ĭ p=↑o/\o.ExactDict:=by
    rcases hk with ⟨Aa,hk⟩ | ⟨Aa,hk⟩
    ext ŀ
    ext ŀ
   let#[o,e,ex]:=z;ext Ř
  .let#[o,_,_,_,e,ex,_]:=I.zv p _ hk;ext Ř
 | _=>show Ç8 ty
def YG Þ (T:String) (r:V->Ú) (to:TE) (t:TA):TE:=fun σ H Q=>to σ H λ x H1=>Ui K T x H1/\t σ H1 λ xs H2=>r x xs H2 Q
variable {o e:Expr}{es:Ĝ}{to:TE}{t:TA}{name:Str}{apos Ad:Pos}{T id:String}{r:V->Ú}
def Tr (pa:PlainAttrs T) (slot:Slot T name id) (hty:typeOf (Â6 id)=pure (É9 "method_descriptor")) (hm:DV X id r) (ho:PE X o to) (ha:PA X (e::es) t)
  (hbase:attributeBase o name ą (eval o ą)=eval o ą:=by rfl)
  (AY:((backTo Ad (starEach (e::es) ą)).all (λ x=>!x.1)&&(backToKw Ad (keywordEach [] ą)).all (λ x=>x.1.isSome)
   && ī ((e::es).length+([]:List Keyword).length+(if ([]:List Keyword).isEmpty then 0 else 1)<30))=true:=by rfl)
  (hline:(apos.endLine == Ad.line)=true:=by rfl) (hs:AA X e es:=by rfl) (hplain:AH X Ad es:=by rfl):
  PE X (.Call (.Attribute o name apos) (e::es) [] Ad) (YG X.K T r to t):=by
 intro gV s σ H Q I h;exact wpAny_Call_method_late hbase AY hline rfl (zM (ho À0 _ I h) λ v s1 #[x,H1,I1,r1,ty,q1]=>?_);let#[h1,h2]:=N1 I1 r1 ty;exact#[T,id,pa,slot,hty,h1,h2,?_];have hA:=ha Ad gV s1 σ H1 _ I1 q1;rw[hs] at hA ⊢;exact Calls.callWith_builtin (by change (Ī||(backTo Ad (starEach es ą)).any (·.1))=Ī;rw[hplain] <;> rfl) (Calls.evalArgs_plain ?_);show zM hA λ us s2 #[vs,H2,I2,r2,q2]=>hm gV s2 σ H2 x vs v us Q I2 Ê6 q2
end
def PH Ň (id:String) (r:V->Ú):Prop:=
 Ë
theorem Vals.one:∀ {x:V}{us:Ai},Vals [x] us->∃ u,us=[u]/\RelV x u
 | _,_,.cons r .nil=>#[_,rfl,r]
theorem Vals.rep à{us:Ai}(h:Vals xs us):∀ k:Nat,Vals (List.replicate k xs).flatten (List.replicate k us).flatten
 | 0=>.nil
 | k+1=>by
  rw[zaG,zaG,zaO,zaO];show Vals.append h (Vals.rep h k)
section
variable {Ġ}{Ø}{l:Addr}{xs ys:ŏ}
def Inv.TZ {Ab AW:Ai}Í5{f:Array ę->Array ę}{t':Nat}Û (hH:H l=↑ ŧ)
  (e:Å7) (hf:f õ=AW.toArray) (hv:Vals ys AW) (hz:ů<=ê):
  Inv Ĕ (upd H l (Ė ys)) { s with heap:=Æ0 l (Ç7 f),toks:=t' }:=by
 have q:=PySem.IsL.update e f;rw[hf] at q;exact I.write (x:=l) (e:=l) (by rw[hH];show trivial) (Ħ rfl) (λ b' u hb hu=>(za9 s.heap (Ç7 f) (Ne.symm hb)).trans hu) #[_,q] ?_;show#[hz,AW,_,hv,q]
def Inv.Ib {Ab:Ai}{t':Nat}Û (hv:Vals ys Ab) (hz:ů<=ê):
  Inv Ĕ (upd H Ã (Ė ys)) { s with heap:=s.heap.push { cls:=Ï,data:=.seq õ },toks:=t' }:=
 I.laid (λ _ _ q=>za1 _ q) Å9 #[hz,Ab,0,hv,AO _ rfl]
theorem Inv.fresh Û:H Ã=none:=ń
def Inv.X5 Û (hH:H l=↑ ŧ):Ô<=ê/\∃ (Ab:Ai) (n:Nat),Vals xs Ab/\Ô=Ab.length/\Å7:=by
 let#[z,Ab,n,r,e]:=I.zv l _ hH;show#[z,Ab,n,r,Ë2,e]
theorem J1 Í5(h:n<=ê):À3 n=Ī:=by
 unfold À3;show za2 ⋯
def UZ:V->Ú:=λ x vs H Q=>∃ l xs y,x=Ü l/\vs=[y]/\H l=↑ ŧ/\Ô<ê/\Q .zk (upd H l (Ė (xs++[y])))
theorem TX:PH X "list.append" UZ:=by
 ext Ê7;let#[l,xs,y,rfl,rfl,hH,hz,q]:=h;ext Í6;ext È7;exact call_meets F.slot_list_append #[_,e,rfl] F.entry_list_append (F.args_list_append_2 Ð) (PySem.list_append l õ n u (by rw[AN];lia)) #[e,?_];exact#[.zk,_,I.TZ (AW:=Ab++[u]) hH e #[] (r.append (.cons ru .nil)) ?_,rfl,q];rw[zD7,List.length_singleton];lia
def UX:V->Ú:=λ x vs H Q=>∃ l b xs zs,x=Ü l/\vs=[Ü b]/\H l=↑ ŧ/\H b=↑(Ė zs)/\Ô+zs.length<=ê/\Q .zk (upd H l (Ė (xs++zs)))
theorem JJ:PH X "list.extend" UX:=by
 ext Ê7;let#[l,b,xs,zs,rfl,rfl,hH,hB,hz,q]:=h;ext Í6;cases ru;ext È7;let#[z2,its2,n2,r2,hl2,e2]:=I.X5 hB;have hsz:Ĥ+its2.toArray.size<=ê:=by rw[AN,AN];lia
 have hlong:¬ (!Ab.toArray.isEmpty&&À3 (Ĥ+its2.toArray.size))=true:=by
  rw[J1 hsz,zaP];show zaF
 exact call_meets F.slot_list_extend #[_,e,rfl] F.entry_list_extend (F.args_list_extend_2 Ð)
  (AutoSeq1.list_extend_list_list_0 l õ n b its2.toArray n2 hlong (by rw[AN];lia) ⋯) #[e,e2,?_]
 exact#[.zk,_,I.TZ (AW:=Ab++its2) hH e #[] (r.append r2) ?_,rfl,q];rw[zD7];lia
end
end L2
namespace OD
open PySem PySem.W PySem.Calls Ũ
def Hi {P:Params}{h:Heap}:∀ (ns:Æ1) (vs:Ai),WellAll P h vs (ns.map WData.int)->À4:=by
 intro ns
 induction ns with
 | nil=>
  intro vs w;rw[B6] at w;cases w;show .nil
 | cons n ns ih=>
  intro vs w;rw[Az] at w;cases w with
  | cons a b=>
   cases a;show .cons Ð (ih _ b)
def M8 {l:OpenLaw}Í5 Ê8 {P:Params}{h:Heap}{args:List WData}{vals:Ai}
  (hpre:l.row.toRowW.claim.pre args=true) (hwl:WellAll P h vals args):
  ∃ a vs ns,vals=[Value.ref a]/\args=[WData.list (ns.map WData.int)]/\h.get? a=↑{ cls:=Ï,data:=ş }/\À4/\Æ2<=n:=by
 have hsh:WShape.hasAll [] args [.list Ğ]=true:=(pre_splitW hpre).1;have hc:l.pre.holds [] { args:=args }=true:=(pre_splitW hpre).2;let#[d,r,rfl,h1,h2]:=hasAllW_cons hsh;obtain rfl:=hasAllW_nil h2;let#[xs,rfl,h3]:=hasW_list h1;let#[ns,rfl]:=items_int h3;have hlen:Æ2<=n:=by
  unfold OpenLaw.pre at hc;have h4:(WTm.not (.lt (.lit (Ğ (n:Int))) (.len (.arg 0)))).holds [] { args:=[.list (ns.map Ğ)] }=true:=by
   have h4:=(holds_andW hc).1;rw[hn] at h4;show h4
  have h5:=condW_of h4 (w_not (w_lt w_lit (w_len_list (w_arg rfl))));rw[AQ] at h5;exact Nat.le_of_not_lt λ q=>?_;have q':(n:Int)<((Æ2:Nat):Int):=⋯
  first
   | (rw[za3 q'] at h5;show ų h5 ())
   | (simp at h5;lia)
 cases hwl with
 | cons w1 w2=>
  cases w2;cases w1 with
  | list ho AX=>show#[_,_,ns,rfl,rfl,ho,Hi ns _ AX,hlen]
def Lq (l:OpenLaw) (args:List WData):l.row.toRowW.claim.post args (œ) args=true:=
 postW_of (r:=l.row.toRowW) (X:=(true == true))
  (show WShape.has [] (œ) .bool=true by first | rfl | decide | simp[WShape.has,WShape.arms,WShape.armsAll])
  (show (WTm.eq .res (.lit (œ))).value [] { args:=args,res:=↑(œ),after:=args }=↑(.bool (true == true)) from w_eq_bool (w_res rfl) w_lit) rfl
def Df {l:OpenLaw}Í5 ĝ
  Ê8 (hdf:d.params.defaults=[])
  (call:∀ Í7 (s₀ s₁:ĕ) (mg mb:Aq) (fa:Addr) (o:Obj) (pm cd doc:ę) Ë7 (vs:Ai) (ns:Æ1),
   Ground q loose [] XP w s₀ mg mb Ľ->YP w Ľ->
   Ŵ fa=↑o->o.data=.func (docDef d.name d.params d.body d.scope pm cd doc)->s₁.heap.CodeRec cd d.name->mg d.name=↑(Ü fa)->
   Ë3->À4->Æ2<=n->s₁.gens=Œ->
   codeAny (model l.prog w) Ç):
  WalkO ť:=by
 intro w s₀ s₁ mg mb G Y fa o pm cd doc dV kV ho hd BE hD hmg hg args vals as hpre hlay hrd hwl hlo;obtain rfl:dV=.none:=Dflts.none hD hdf;obtain rfl:kV=.none:=Dflts.noKw hD;let#[a,vs,ns,rfl,rfl,hobj,hints,hlen]:=M8 hn hpre hwl;exact enter_call (codeAny_mono (call w s₀ s₁ mg mb fa o pm cd doc a vs ns G Y ho (fd_plain hd) BE hmg hobj hints hlen hg) λ r s' hq=>?_);let#[rfl,h2,h3,h4]:=hq;show#[Ħ #[œ,œ,[],rfl,λ _=>rfl,œ,Lq l _,λ _=>#[List.Pairwise.nil,λ _ hm=>(nomatch hm)]],h2,h3,h4]
end OD
namespace L2
open PySem Ç9 Ũ
theorem VX:∀ {vs:Ai}{ns:Æ1},À4->Vals (Ņ) vs
 | _,_,.nil=>.nil
 | _,_,.cons n t h=>.cons #[t,rfl] (VX h)
def ZM ý:Prop:=∀ b,H b=none\/∃ o xs,H b=↑(.pF o ŧ)
def Iy Ţ{mg mb:Aq}{CX:mq}{k:Nat}{fa a:Addr}Ç1 Í8{sp:Sp}{s₁:ĕ}{vs:Ai}{ns:Æ1}
  (KX:K.In Ľ) (hns:s₁.heap.Ns ĭ mg) (hb:s₁.heap.Ns builtinsNs mb) (hbb:∀ x:Str,x≠"__name__"->mb x=bootBuiltins x) (hlim:s₁.heap.NoLimit) (hg:s₁.gens=Œ)
  (ha:Ë3) (hi:À4) (hl:Æ2<=ê) (hr:yg k callerA)
  (F:∀ base:Heap,K.In base->base.Ns ĭ mg->wg Ê9 CX k fa fd [x] sp) (hbind:ţ)
  (hsp:∀ H:Hp,ZM H->yj å a (Ņ)->sp Ä3)
  (hCX:∀ H e s',CX [] H s₁ (Ì0) e s'->ò):
  codeAny (model P w) Ç:=by
 have rv:=VX hi;have lenV:=hi.length;have core:∀ H:Hp,ZM H->yj å a (Ņ)->yK P w H Ľ->(∀ b,H b≠none->b=a)->(H a≠none->Â7 a=none)->
   codeAny (model P w) Ç:=by
  intro H hO hS zv hA hK;have base_of:∀ {b:Addr}{o:Obj},Ŵ b=↑o->H b=none->(kG Ľ H).get? b=↑o:=λ e n=>HC e n;have noA:∀ {b:Addr}{o:Obj}{es:Array DictEntry}{ep:Nat},Ŵ b=↑o->o.data=.dict es ep->H b=none:=λ{b o es ep} e d=>by
   cases q:H b with
   | none=>rfl
   | some u=>
    ext Å4;rw[ha] at e;cases e;have d':Data.seq vs.toArray _=Data.dict es ep:=d;cases d'
  have nsK:∀ {b:Addr}{m:Aq},s₁.heap.Ns b m->(kG Ľ H).Ns b m:=λ{b m} #[o,es,ep,e,d,r]=>#[o,es,ep,base_of e (noA e d),d,r];have hKb:K.In (kG Ľ H):=λ b o e=>base_of (KX b o e) (by
   cases q:H b with
   | none=>rfl
   | some u=>
    ext Å4;rw[hK (by rw[q];simp)] at e;cases e)
  have hM:Mod K mg (kG Ľ H):=#[hKb,nsK hns,#[mb,nsK hb,hbb],let #[mc,h1,h2]:=hlim;#[mc,nsK h1,h2]];have e0:gB P w K mg (kG Ľ H) callerA [] s₁ H:=#[rfl,hM,λ b o e=>Jl e,Nat.le_of_eq (HB Ð),trivial,λ b hb=>ų (show b∈([]:Î0) from hb) #[],zv,.of_eq hg];exact codeAny_mono ((F _ hKb (nsK hns)).run callerA [] s₁ H #[[Ü a],[]] [Ü a] [Ü a] Ð hr e0 (hbind s₁ (Ü a)) (.cons rfl .nil) (hsp H hO hS)) λ r s' h=>?_;cases r with
  | error e=>show (hCX H e s' h).elim
  | ok fl=>
   cases fl with
   | ret u=>
    let#[v,H',os,bare,un,BZ,r',q]:=h;have q':v=.bl true:=q;subst q';obtain rfl:u=Value.bool true:=r';exact#[rfl,OldK.of_keep λ b o e=>?_,os,bare];cases q:H b with
    | none=>show un.keep b o e q (by intro z;show ų (show b∈([]:Î0) from z) #[]) #[]
    | some u=>
     rcases hO b with z | ⟨ob,xs,z⟩
     .rw[q] at z;cases z
     .have z2:=un.nV b ob _ z;let#[e1,_]:=zv b _ z;let#[e2,_]:=BZ b _ z2;rw[e] at e1;cases e1;show e2
   | _=>show Ç8 h
 cases hk:Â7 a with
 | some o=>
  have e:=KX a o hk;rw[ha] at e;cases e;exact core (λ _=>none) (λ _=>Ħ rfl) (Ŋ #[_,vs.toArray,_,hk,rfl,rfl,rfl,by rw[AN,lenV];show hl,by exists rv]) (λ b u z=>by have z':(none:á HO)=↑u:=z;cases z') (λ b z=>ų rfl z) λ z=>ų rfl z
 | none=>
  exact core (λ b=>if b=a then ↑(.pF { cls:=Ï,data:=ş } (Ė (Ņ))) else none) (λ b=>?_) (Ħ (Ŋ #[{ cls:=Ï,data:=ş },Ő rfl])) (λ b u z=>?_) (λ b z=>?_) λ _=>hk
  .by_cases hb:b=a
   .show Ŋ #[_,_,Ő hb]
   .show Ħ (ő hb)
  .by_cases hb:b=a
   .have z':=(Ő hb).symm.trans z;cases z';subst hb;show#[ha,by rw[AQ];show hl,vs,_,rv,ha]
   .have z':=(ő hb).symm.trans z;cases z'
  .by_cases hb:b=a
   .show hb
   .show ų (ő hb) z
def Nq {l:PySem.W.OpenLaw}{n k:Nat}ĝ{K:Params->Ac}{CX:World->mq}{sp:World->Sp}Í8
  Ê8 (hn2:n<=ê) (hdf:d.params.defaults=[]) (hr:yg k callerA)
  (hY:∀ Í7 (h:Heap),YP w h->(È1).In h)
  (F:∀ Í7 (mg:Aq) (fa:Addr) (h:Heap),(È1).In h->h.Ns ĭ mg->mg d.name=↑(Ü fa)->
   ∃ fd:FuncData,(ţ)/\
    ∀ base:Heap,(È1).In base->base.Ns ĭ mg->wg l.prog w (È1) mg base (CX w) k fa fd [x] (sp w))
  (hsp:∀ Í7 ý Ë7 (ns:Æ1),Æ2<=n->ZM H->yj (È1) H a (Ņ)->sp w Ä3)
  (hCX:∀ Í7 ý (s:ĕ) (e:ę) (s':ĕ),CX w [] H s (Ì0) e s'->ò):
  PySem.W.WalkO ť:=by
 exact OD.Df hn hdf λ w s₀ s₁ mg mb fa o pm cd doc a vs ns G Y ho hd BE hmg hobj hints hlen hg=>?_;have KX:=hY w _ Y;let#[fd,hb,hF]:=F w mg fa _ KX G.T.g hmg;show Iy KX G.T.g G.T.b G.T.builtins G.T.nolimit hg hobj hints (BH hlen hn2) hr hF hb (λ H hO hS=>hsp w H a ns hlen hO hS) λ H e s'=>hCX w H s₁ e s'
def pV (s:Stmt):Arguments:=match s with
 | .FunctionDef _ a Ð Ð Ð Ð=>a
 | _=>{ posonlyargs:=[],args:=[],vararg:=none,kwonlyargs:=[],kw_defaults:=[],kwarg:=none,defaults:=[] }
def xA (s:Stmt):Æ8:=match s with
 | .FunctionDef Ð b Ð Ð Ð _=>b
 | _=>[]
def zW (s:Stmt):Scope:=match s with
 | .FunctionDef Ð Ð Ð sc Ð _=>sc
 | _=>{ kind:=.function,names:=[],isGenerator:=Ī,isCoroutine:=Ī }
abbrev xP:mq:=λ _ _ _ _ _ _=>ò
abbrev E0:XK:=Ì0
def Tu Ġ:Passes xP X E0:=λ _ _ _ _ _ _ _ h=>î
structure pM Þ (x qual:Str) (st:Stmt) (f:Addr) (fd:FuncData):Prop where
 ex:∃ (oc:ę) (od:Ä6) (kV doc pm:ę) (an:Ä6) (Af ct:ę) (osl:Array (á ę)),
  fd=Ñ/\Â7 f=↑#[oc,od,.func fd,osl]/\Ê0
 kp:Ë4
section
variable {Ţ}{mg:Aq}{base:Heap}
def pM.ok ē Ç1{N ps:Đ}{k:Nat}{sp:Sp}Â0 (S:vn N ps (zW st)) (len:∀ vs H Q E,sp vs H Q E->vs.length=ps.length)
  (hbody:∀ Á5 ý (vs:ŏ) (Q:VK) (E:XK),À8->sp vs H Q E->
   ∃ t,p9 Ń/\t { nx:=λ _ H'=>Q .zk H',rt:=Q } (start N vs) H):wg Ê9 xP (k+1) f fd ps sp:=by
 ext Ŀ;exact Rz lk BE S len λ A outer s H vs Q E hr hsp=>?_;let#[t,h,q]:=hbody Af A outer s H vs Q E hr hsp;show#[t,h.vb,q]
def pM.binds ē Ç1{ps:Đ}Â0
  (h:∀ (kV doc pm:ę) (an:Ä6) (Af ct:ę) (us:Ai),us.length=ps.length->bindArgs (Ñ) #[us,[]]=pure (ps.zip us)):Binds K fd ps []:=by
 ext Ŀ;show .all (h kV doc pm an Af ct)
def fK ē{oc:ę}{od an:Ä6}{osl:Array (á ę)}{kV doc pm Af ct:ę}(l:Â7 f=↑#[oc,od,.func (Ñ),osl])
  (c:Ê0) (k:Ë4):pM K x qual st f (Ñ):=#[#[oc,od,kV,doc,pm,an,Af,ct,osl,rfl,l,c],k]
end
def XR {A:Around}{k:Nat}(hr:yg k A):A.units+1<cLine:=zc5 (Nat.add_le_add_left (by decide:1<=64) _) hr.units
section
variable {Ġ}
def pv È8 Í8 Ł(hN:X.N[i]?=↑x:=by rfl) (hv:b7 X.env.scope x:=by first | show Or.inl rfl | show Or.inr (Or.inl rfl) | show Or.inr (Or.inr rfl)) (hd:(x == ("__debug__":Str))=Ī:=by decide)
  (BE:(x == ("__classdict__":Str))=Ī:=by decide):PE X (.Name x pos) (eS i):=LL hN hv hd BE
end
def fW (H H':Hp):Prop:=∀ b o,H b=↑o->H' b=↑o
end L2
namespace PySem
theorem WA Í9:∀ (l:ś) (acc:Ċ),(∀ y∈l,y.2=ž->∃ c,Á3 y.1=↑c)->
  ∃ cl,(forIn l acc (λ(x:Str×NameKind) r=>if (x.2 == Ă)=true then do let a <- cellOf env x.1;pure (Á8 ((x.1,a)::r)) else pure (Á8 r)):Sem (Ċ))=pure cl/\
   (∀ x c,È2->acc.lookup x=↑c\/((x,Ă)∈l/\Á3 x=↑c))/\(∀ x,(x,Ă)∈l\/(acc.lookup x).isSome->Ì1)
 | [],acc,_=>#[acc,rfl,λ x c h=>Ħ h,λ x h=>by exists h]
 | Ì2::l,acc,h=>by
  by_cases hk:k=ž
  .subst hk;let#[c,hc]:=h (n,ž) Av rfl;let#[cl,e1,e2,e3]:=WA l ((n,c)::acc) λ y hy=>h y (Ay _ hy);exact Â8
   .rw[zbM];simp![beq_self_eq_true,if_true,cellOf,hc];show e1
   .ext É6
    .rw[BF] at q;cases hxn:x == n with
     | true=>
      rw[hxn] at q;have:x=n:=by exists hxn
      subst this;exact Ŋ #[Av,?_];rw[hc];show q
     | Ī=>rw[hxn] at q;show Ħ q
    .show Ŋ #[Ay _ q1,q2]
   .exact e3 x ?_;rcases hx with hx | hx
    .ext Ŧ
     .have:x=n:=congrArg Prod.fst q;subst this;show Ŋ (by simp[BF])
     .show Ħ q
    .exact Ŋ ?_;rw[BF];cases x == n <;> simp[hx]
  .have hb:(k == Ă)=Ī:=by exists hk
   let#[cl,e1,e2,e3]:=WA l acc λ y hy=>h y (Ay _ hy);exact Â8
   .rw[zbM];simp![hb,BM,if_false];show e1
   .ext É6
    .show Ħ q
    .show Ŋ #[Ay _ q1,q2]
   .exact e3 x ?_;rcases hx with hx | hx
    .ext Ŧ
     .show ų (congrArg Prod.snd q).symm hk
     .show Ħ q
    .show Ŋ hx
def Qw È9 Í9(h:∀ y∈ Ĉ,y.2=ž->∃ c,Á3 y.1=↑c):
  ∃ cl,closureFor ć env=pure cl/\(∀ x c,È2->È/\Á3 x=↑c)/\∀ x,È->Ì1:=by
 let#[cl,e1,e2,e3]:=WA (env:=env) Ĉ [] h;exact#[cl,?_,λ x c hx=>?_,λ x hx=>e3 x (Ħ hx)]
 .simp![closureFor];rw[e1];rfl
 .rcases e2 x c hx with q | q
  .simp at q
  .show q
theorem Sf Í9:∀ {names:ś}Í8,names.lookup x=↑ ž->
  Î=↑ Ì3\/
  Î=↑ ž
 | [],_,h=>by simp at h
 | Ì2::r,x,h=>by
  have ih:=@Sf env r x;change Ö=_\/Ö=_;cases hx:x == n with
  | true=>
   simp![BF,hx] at h;cases h;by_cases hc:(Ă == Ă&&ź&&env.kindOf n == ↑ Ì3)=true
   .rw[Ő hc];simp[BF,hx]
   .rw[ő hc];simp[BF,hx]
  | Ī=>
   simp![BF,hx] at h;by_cases hc:À=true
   .rw[Ő hc];simp![BF,hx];show ih h
   .rw[ő hc];simp![BF,hx];show ih h
theorem UN Í9:∀ {names:ś}Í8,
  (Î=↑ Ì3\/
  Î=↑ ž)->(x,Ă)∈names\/(x,ĉ)∈names
 | [],_,h=>by simp at h
 | Ì2::r,x,h=>by
  have ih:=@UN env r x;have h':Ö=↑ Ì3\/Ö=↑ ž:=h;cases hx:x == n with
  | true=>
   have hxn:x=n:=by exists hx
   subst hxn;by_cases hc:(k == Ă&&ź&&env.kindOf x == ↑ Ì3)=true
   .simp![zE5] at hc;have:k=ž:=by exists hc.1.1
    subst this;show Ħ Av
   .rw[ő hc] at h';simp![BF,beq_self_eq_true] at h';rcases h' with q | q
    .cases BA q;show Ŋ Av
    .cases BA q;show Ħ Av
  | Ī=>
   exact (ih ?_).imp (Ay _) (Ay _);by_cases hc:À=true
   .rw[Ő hc] at h';simp![BF,hx] at h';show h'
   .rw[ő hc] at h';simp![BF,hx] at h';show h'
theorem WE:∀ (names:ś) (h:Heap) (acc:Ċ),∃ own,cellsFrom Ì4 names acc=own++acc/\(∀ p∈own,(p.1,ĉ)∈names/\Ì4<=p.2/\(pushCells h names).IsCell p.2 none)/\
  (own.Pairwise λ x y=>x.2≠y.2)/\∀ x,(x,ĉ)∈names->(Â9 x).isSome
 | [],h,acc=>#[[],rfl,λ _ hp=>(by cases hp),.nil,λ _ hx=>(by cases hx)]
 | Ì2::r,h,acc=>by
  unfold cellsFrom pushCells;split
  .rename_i hk;have hk':k=Ì3:=by exists hk
   subst hk';let#[own,e1,e2,e3,e4]:=WE r (h.push { cls:=É9 "cell",data:=Ì3 none }) ((n,Ì4)::acc);rw[Ä0] at e1 e2;exact#[own++[(n,Ì4)],by rw[e1,zc6];rfl,λ p hp=>?_,?_,λ x hx=>?_]
   .rcases A8.mp hp with q | q
    .let#[f1,f2,f3]:=e2 p q;show#[Ay _ f1,⋯,f3]
    .cases AJ.mp q;show#[Av,Ap _,_,Ì5 Ð Ð (AO _ rfl),rfl]
   .exact zbN.mpr #[e3,zc7 Ð,λ a ha b hb=>?_];cases AJ.mp hb;show BS (e2 a ha).2.1
   .rw[zbO,Option.isSome_or];ext Ŧ
    .cases q;simp[BF]
    .rw[e4 x q];rfl
  .rename_i hk;let#[own,e1,e2,e3,e4]:=WE r h acc;exact#[own,e1,λ p hp=>#[Ay _ (e2 p hp).1,(e2 p hp).2],e3,λ x hx=>?_];ext Ŧ
   .cases q;simp at hk
   .show e4 x q
def JB {M:Model}{A:Around}{E:Aj}{s:ĕ}È9{globals:Addr}{closure:Ċ}{qual:Str}Í9{Q:Env->ĕ->Prop}
  (hQ:∀ h',h'=pushCells (Ż) Ĉ->Q (newEnv ć Ã globals (cellsFrom (Ã+1) Ĉ closure) qual none .none ↑env builtinsNs) { s with heap:=h' }):
  wpAny M A (newFunctionEnv ć globals closure [] qual none .none ↑env) Q E s:=by
 simp![newFunctionEnv,Option.isSome_some,if_true];exact tp (wpAny_alloc ?_);exact tp (wpAny_layCells _ (λ name kind cells=>by cases hkc:kind == ĉ <;> simp[hkc]) Ð Ð ?_);rw[show ({ s with heap:=Ż }:ĕ).heap.objs.size=Ã+1 from Ä0 ..];simp![List.forIn_nil];show tp (Ah (Ah (hQ _ rfl)))
end PySem
namespace L2
open PySem Ç9 Ũ
def my Ç2 (σ:St):St:=pick.map λ o=>o.bind λ i=>(σ[i]?).join
def xD Ň (N':Đ) (ć:Scope) (cl:Ċ) (C:Addr) (s:ĕ) ý (ex:Î0):Cx:=
 { X with N:=N',s₀:=s,H₀:=H,env:=Ť,outer:=X.stack,stack:=X.stack,ex:=ex,fn:=λ x=>ī (Ě x=↑ Ì3),pn:=[],xe:=λ _ _=>ò }
def gZ (N N':Đ) Ç2 (ć:Scope):Bool:=(N'.zip pick).all λ p=>match p.2 with
 | none=>true
 | some j=>ī (N[j]?=↑p.1)&&ī (Ě p.1=↑ ž)
structure kW Ň (N':Đ) Ç2 (ć:Scope):Prop where
 kind:scope.kind=.function
 uniq:∀ y∈ Ĉ,Ě y.1=↑y.2
 free:∀ y∈ Ĉ,y.2=ž->ú y.1=↑ Ì3\/ú y.1=↑ ž
 len:pick.length=N'.length
 ok:gZ X.N N' pick ć=true
def gZ.get {N N':Đ}Î1 È9(h:gZ N N' pick ć=true) {i j:Nat}Í8(h1:N'[i]?=↑x) (h2:pick[i]?=↑↑j):N[j]?=↑x/\Ě x=↑ ž:=by
 unfold gZ at h;have hm:(x,↑j)∈N'.zip pick:=by
  exact A5 (i:=i) ?_;rw[List.getElem?_zip_eq_some];show#[h1,h2]
 have q:=zE4.mp h _ hm;simp![zE5,decide_eq_true_eq] at q;show q
def my.get Î1 Ś Î2{v:V}(h:Á9[i]?=↑↑v):∃ j,pick[i]?=↑↑j/\σ[j]?=↑↑v:=by
 unfold my at h;rw[AF] at h;cases e:pick[i]? with
 | none=>rw[e] at h;cases h
 | some o=>
  rw[e] at h;cases o with
  | none=>simp at h
  | some j=>
   exact#[j,rfl,?_];simp![Option.map_some,Option.some.injEq,AI] at h;cases q:σ[j]? with
   | none=>rw[q] at h;simp at h
   | some w=>rw[q] at h;simp at h;rw[h]
def PF Ň (ifs:Ĝ) (t:TT):Prop:=∀ Â3 ý (Q:Bool->Č),Inv Ĕ H s->t ß->
 wpAny Ó (forIn ifs true λ c r=>if r=true then do let ok <- isTrue c ą (eval c ą);pure (Á8 ok) else pure (Á8 r)) (TP Ĕ Q) X.xe s
def LJ Ġ:PF X [] (λ _ H Q=>Q true H):=λ _ _ _ H _ I h=>wpAny_tests_nil #[H,I,h]
def LI Ġ{c:Expr}{t:TT}(h:PT X c t):PF X [c] t:=λ gV s σ H Q I q=>wpAny_tests_one (h gV s ß I q)
def YF Ç2 (wi:TI) (g:TG) (tc:TT) (te:TE):TE:=fun σ H Q=>wi σ H λ J H1=>∀ D,H1 D=none->∃ W:Ê1,(∃ m,W 0 m Á9 (upd H1 D (Ė [])))/\
 Á
section
variable {Ġ}{Ø}{N':Đ}{Î1}{È9}{cl:Ċ}{C:Addr}{fp:Î0}
def Hh (S:Š) Û Į (Au:∀ b∈fp,b<Ã)
  {h1:Heap}(c1:∀ x c,È2->(È/\Ŝ=↑c)\/(Æ3/\C<c/\h1.IsCell c none)) (c2:∀ x,È\/Æ3->Ì1) (c3:∀ x y c,È2->cl.lookup y=↑c->x=y)
  {m1:Aq}{t':Nat}(hC:Ã<C) (old:∀ b o,Ĭ b=↑o->h1.get? b=↑o) (hns:h1.Ns C m1)
  (hD:h1.get? Ã=↑{ cls:=Ï,data:=.seq Œ 0 }):
  Inv Â [] Á9 (upd H Ã (Ė [])) { s with heap:=h1,toks:=t' }:=by
 have hDn:H Ã=none:=ń;have hCn:H C=none:=I.zv.fresh (B8 hC);have cf:∀ x c,È2->(∃ v,h1.IsCell c v)/\(c<Ã\/C<c)/\upd H Ã (Ė []) c=none:=λ x c e=>by
  rcases c1 x c e with ⟨_,q⟩ | ⟨_,q1,q2⟩
  .let#[v,o,z1,z2]:=I.cell x c q;have hl:=Ar z1;show#[#[v,o,old Ð z1,z2],Ħ hl,by rw[zX (AG hl)];show I.oU x c q]
  .show#[#[_,q2],Ŋ q1,by rw[zX (BS (zaH hC q1))];show I.zv.fresh (B8 (zaH hC q1))]
 exact#[#[I.ok.mod,S.kind,I.ok.glob,I.ok.blt,B8 hC,c3,λ x hx=>?_,λ x c hf e=>?_,I.ok.hd,I.ok.frames,Ħ rfl,
  λ b hb=>#[AG (zaH (Au b hb) hC),λ x c e=>?_],I.bs,BH I.ok.kc I.sz,λ b o e hb=>?_,λ b hb z=>?_,I.stack,I.YI],
  rfl,I.bare,Un.laid old Å9 hDn,#[m1,hns,λ i x v e1 e2 e3=>?_],λ x c e=>?_,?_,λ x c e=>?_,Ã0,I.zv.laid old Å9 ?_,?_]
 .show zbL.mp (c2 x (UN hx))
 .have hf':=of_decide_eq_true (show ī (Ě x=↑ Ì3)=true from hf);rcases c1 x c e with ⟨q,_⟩ | ⟨_,q,_⟩
  .rw[S.uniq _ q] at hf';cases hf'
  .show B8 (zaH hC q)
 .rcases c1 x c e with ⟨_,q⟩ | ⟨_,q,_⟩
  .show (Ä7).2.2.2.2.1 x c q
  .show BS (zaH (zaH (Au b hb) hC) q)
 .rcases (Ä7).2.2.2.1 with z | z
  .show I.ok.iD b o e z
  .show ų (BG (Ar (I.ok.bs b o e).1) z) (zE1 _)
 .rcases Ao.mp (I.YH b z) with q | q
  .show (Ä7).2.1 q
  .show (Ä7).2.2.1 q
 .let#[j,p1,p2]:=my.get e2;let#[q1,q2]:=gZ.get S.ok e1 p1;let#[m0,n0,l0]:=I.loc;have hm:È:=Ķ q2;have hk:ú x=↑ Ì3\/ú x=↑ ž:=S.free _ hm rfl;let#[u,r,l]:=l0 j x v q1 p2 (Ŋ hk);exact#[u,r,Ŋ #[Sf q2,?_]];rcases l with ⟨k,_⟩ | ⟨_,c,e,z⟩
  .have k':ú x=↑.local:=k;rcases hk with hk | hk <;> (rw[k'] at hk;cases hk)
  .let#[c',e']:=zbL.mp (c2 x (Ħ hm));have e'':Ŝ=↑c':=by
    rcases c1 x c' e' with ⟨_,q⟩ | ⟨q,_⟩
    .show q
    .have:=S.uniq _ q;rw[q2] at this;cases this
   rw[e] at e'';cases e'';let#[o,z1,z2]:=z;show#[c,e',o,old Ð z1,z2]
 .show (cf x c e).1
 .change upd H Ã (Ė []) C=none;rw[zX (BS hC)];show hCn
 .show (cf x c e).2.2
 .show#[A0 _,[],0,.nil,hD]
 .change (my pick σ).length=N'.length;unfold my;rw[AQ];show S.len
def He Ç3 Û Į (hC:Ã<C)
  (I':Ä8) (hoC:s'.heap.get? C=↑oC):È3:=by
 have J:Inv Ĕ H' s':=I.ZA (ch:=fp) I'.os I'.base I'.zv I'.bare λ b hb=>#[(Ä7).2.2.2.1,(Ä7).2.1,(Ä7).2.2.2.2.1,(Ä7).2.2.2.2.2];exact J.Xg λ p hp=>(A8.mp hp).elim (λ z=>J.pin p (A6 _ z)) λ z=>?_;obtain rfl:p=(C,oC):=AJ.mp z;exact#[hoC,I'.free,BS (zaH I.lt hC),I.TJ (B8 hC),λ v hv=>?_];let#[m,#[o,es,ep,ho,hd,_],_]:=I'.loc;have ho':s'.heap.get? C=↑o:=ho;rw[hoC] at ho';cases ho';rw[hd] at hv;cases hv
def SX Ç3{h':Heap}Û (hC:Ã<C) (J:Inv X (gV++[(C,oC)]) σ' H' s') (hs:Heap.SameBut C s'.heap h'):Inv X gV σ' H' { s' with heap:=h' }:=by
 have J':=J.eQ;have hp:=J.pin É2;have lt:∀ c,c<Ã->c≠C:=λ c h=>AG (zaH h hC);exact J'.turned (t':=s'.toks) (it:=C) (λ b o hb e=>hs.extBut b o hb e) hp.2.1 hp.2.2.1 (Ŋ (BH I.sz (B8 hC))) (λ x c e z=>?_) (λ p hq z=>?_)
 .let#[v,q]:=I.cell x c e;show lt c q.lt z
 .show lt p.1 (Ar (I.pin p hq).1) z
end
section
variable {Ġ}{N':Đ}{Î1}{È9}{elt iter tg:Expr}{ifs:Ĝ}{Ł}{wi:TI}{g:TG}{tc:TT}{te:TE}
def Ip Ø{it C:Addr}ż{W:Ê1}{Q:V->Č}{R:Result->ĕ->Prop}{D:Addr}
  ė (hg:PG Â tg g) (hf:PF Â ifs tc) (he:PE Â elt te)
  Ã8 Į (hstat:∀ b∈fp,b≠C/\b∉wu X.stack/\∀ x c,È2->c≠b)
  (turn:Á)
  (fin:∀ σ' H' s',Ä8->Q Ì6 H'->R (.ok .next) s')
  {m0:Nat}{σ0:St}{H0:Hp}{s0:ĕ}(I0:Inv Â [] σ0 H0 s0) (t0:tn 0 s0.heap) (f0:∀ b∈fp,H0 b=none) (w0:W 0 m0 σ0 H0):
  codeAny Ó (.compLoop Å 0 (Ü it) Ì6 (Ť)) R s0:=by
 have stat:∀ {H':Hp},Ã3->∀ b∈fp,ml Â [] H' b:=λ hn b hb=>#[hn b hb,(hstat b hb).1,(hstat b hb).2.1,Ħ hb,(hstat b hb).2.2,Ã0];exact codeAny_loop rfl (λ n s'=>∃ i σ' H',Ä8/\tn i s'.heap/\Ã3/\W i n σ' H') (λ n s3 hI=>?_) m0 #[0,σ0,H0,I0,t0,f0,w0];let#[i,σ3,H3,I3,st3,fr3,w3]:=hI;change wpAny _ X.A ((compTurn Å 0 (Ü it) Ì6 (Ť)).onRaise (λ x=>do noteFrame x (Ť);theTreesLotGoes x)) Ð s3;exact wpAny_noted ?_;rw[compTurn_list];exact tp (zcQ (tp ?_));rcases turn i n σ3 H3 w3 with ⟨stop,qn⟩ | ⟨go,step⟩
 .exact zM (T.done Â rfl rfl rfl hc É7 stop) λ r s4 #[hr,I4]=>?_;subst hr;show Ah (fin σ3 H3 s4 I4 qn)
 .exact zM (T.item Â rfl rfl rfl hc É7 go) λ r s4 #[u,hr,h4]=>?_;subst hr;exact tp (zM h4 λ _ s5 #[x,H5,I5,r5,y5,st5,fr5]=>?_);have I5':=I5.pinned (stat fr5) (T.obj Ð st5);exact tp (za6 (hg _ s5 σ3 H5 x u _ I5' r5 (step x H5 y5)) (λ _ s6 #[σ6,H6,I6,q6]=>?_) Ŏ);exact tp (za6 (hf _ s6 σ6 H6 _ I6 q6) (λ ok s7 #[H7,I7,q7]=>?_) Ŏ);have back:∀ {H8:Hp}{s8:ĕ},Inv Â ([]++dr fp s5.heap) σ6 H8 s8->(∃ m',m'<n/\W (i+1) m' σ6 H8)->∃ m,m<n/\∃ i σ' H',Inv Â [] σ' H' s8/\tn i s8.heap/\Ã3/\W i m σ' H':=λ{H8 s8} I8 #[m',hm,w8]=>by
   exact#[m',hm,i+1,σ6,H8,I8.eQ,T.keep Ð _ st5 λ b hb o e=>(Ã1).1,λ b hb=>?_,w8];let#[o,e,d]:=T.obj Ð st5 b hb;show (Ã1).2.1
  cases ok with
  | Ī=>
   rw[ő zaF] at q7;show Ah #[rfl,back I7 q7]
  | true=>
   rw[Ő rfl] at q7;exact tp (tp (za6 (he _ s7 σ6 H7 _ I7 q7) (λ uy s8 #[y,H8,I8,r8,ys,m',e8,z8,hm,w8]=>?_) Ŏ));exact tp (za6 (TX (X:=xD X N' ć cl C s H fp) _ s8 σ6 H8 Ì6 [y] Ì6 [uy] (λ _ H9=>W (i+1) m' σ6 H9) I8 rfl (.cons r8 .nil) #[D,ys,y,rfl,rfl,e8,z8,w8]) (λ _ s9 #[_,H9,I9,_,q9]=>?_) Ŏ);show Ah (Ah #[rfl,back I9 #[m',hm,q9]])
def Sz Ø{it:Addr}ż{Q:V->Č}{E:Aj}{RR:ę->Addr->Result->ĕ->Prop}
  (S:Š) ė Õ
  (c1:∀ x c,È2->È/\Ŝ=↑c) (c2:∀ x,È->Ì1)
  Û Ã8 (t0:tn 0 s.heap) Į
  (rd:∀ D,H D=none->∃ W:Ê1,(∃ m,W 0 m Á9 (upd H D (Ė [])))/\
   Á)
  (fin:∀ C D oC H' s',Ã<C->È3->s'.heap.get? C=↑oC->(∃ m,s'.heap.Ns C m)->Q Ì6 H'->RR Ì6 C (.ok .next) s'):
  wpAny Ó (newList []) (λ acc s₃=>wpAny Ó (newFunctionEnv ć X.env.globals cl [] X.env.qual none .none ↑ ą) (λ cenv s₄=>
   codeAny Ó (.compStart Å 0 (Ü it) acc { cenv with ć:=relabel ć ą }) (RR acc cenv.locals) s₄) E s₃) E s:=by
 exact zaB (JB λ h₁ eh=>?_);dsimp only at eh ⊢;generalize hH2:s.heap.push { cls:=Ï,dict:=none,data:=.seq ([]:Ai).toArray }=H2 at eh ⊢;have hC:č=Ã+1:=by rw[<- hH2,Ä0]
 have Au:Ã<č:=by rw[hC];show zE2 _
 have up:∀ b o,H2.get? b=↑o->h₁.get? b=↑o:=λ b o e=>by rw[eh];show Ì5 Ð Ð (za1 _ e)
 have old:∀ b o,Ĭ b=↑o->h₁.get? b=↑o:=λ b o e=>up b o (hH2▸za1 _ e);have A3:h₁.get? Ã=↑{ cls:=Ï,data:=.seq Œ 0 }:=up Ð (hH2▸AO _ rfl);have hns₁:h₁.Ns č λ _=>none:=by rw[eh];show (Heap.Ns.new H2 (É9 "dict")).keeps (Ì5 Ð)
 let#[own,o1,o2,o3,o4]:=WE Ĉ (H2.push { cls:=É9 "dict",data:=.dict Œ }) cl;rw[Ä0] at o1 o2;rw[<- eh] at o2;rw[o1];have d1:∀ x c,Ŕ x=↑c->(È/\Ŝ=↑c)\/(Æ3/\č<c/\h₁.IsCell c none):=λ x c e=>by
  rw[zbO] at e;cases q:Â9 x with
  | some c'=>
   rw[q] at e;cases e;show Ŋ (o2 _ (Ķ q))
  | none=>rw[q] at e;show Ħ (c1 x c e)
 have d2:∀ x,È\/Æ3->(Ŕ x).isSome:=λ x hx=>by
  rw[zbO,Option.isSome_or];rcases hx with hx | hx
  .rw[c2 x hx,zaQ]
  .rw[o4 x hx];rfl
 have d3:∀ x y c,Ŕ x=↑c->Ŕ y=↑c->x=y:=λ x y c e1 e2=>by
  rw[zbO] at e1 e2;have low:∀ x c,È2->c<č:=λ x c e=>by
   let#[v,q]:=I.cell x c (c1 x c e).2;show zaH q.lt Au
  have hi:∀ x c,Â9 x=↑c->č<c:=λ x c e=>(o2 _ (Ķ e)).2.1;cases q1:Â9 x with
  | some c1'=>
   rw[q1] at e1;cases e1;cases q2:Â9 y with
   | some c2'=>rw[q2] at e2;cases e2;show PySem.name_of_addr o3 (Ķ q1) (Ķ q2)
   | none=>rw[q2] at e2;show ų (low y _ e2) (Nat.lt_asymm (hi x _ q1))
  | none=>
   rw[q1] at e1;cases q2:Â9 y with
   | some c2'=>rw[q2] at e2;cases e2;show ų (low x _ e1) (Nat.lt_asymm (hi y _ q2))
   | none=>rw[q2] at e2;show I.ok.inj x y c (c1 x c e1).2 (c1 y c e2).2
 have hflt:∀ b∈fp,b<Ã:=λ b hb=>by
  let#[o,e,_]:=T.obj Ð t0 b hb;show Ar e
 have hDn:H Ã=none:=ń;let#[W,#[m0,w0],turn]:=rd Ã hDn;have I0:=Hh (t':=s.toks) S I B3 hflt d1 d2 d3 Au old hns₁ A3;have t1:tn 0 h₁:=T.keep Ð _ t0 λ b _ o e=>old b o e;have AB:∀ b∈fp,b≠ č/\b∉wu X.stack/\∀ x c,Ŕ x=↑c->c≠b:=λ b hb=>I0.ok.cE b hb |> λ q=>#[q.1,I0.ok.iU b hb,q.2]
 have loop:codeAny Ó (.compLoop Å 0 (Ü it) (Ü Ã) (compEnvC ć (own++cl) č ą)) (RR (Ü Ã) č) { s with heap:=h₁ }:=by
  exact Ip (σ:=σ) hc (hg Ð Ð _) (hf Ð Ð _) (he Ð Ð _) T B3 AB turn (fun σ' H' s' I' q=>?_) I0 t1 (λ b hb=>?_) w0
  .let#[m,hn,_]:=I'.loc;have hn':s'.heap.Ns č m:=hn;let#[oC,es,ep,ho,hr]:=id hn';show fin Ð oC H' s' Au (He I B3 Au I' ho) ho #[m,hn'] q
  .change upd H Ã (Ė []) b=none;rw[zX (AG (hflt b hb))];show (Ä7).1
 show codeAny_compStart_list loop (T.self _ 0 Ð _ t1 loop)
def LX (S:Š) ė (hi:PI X tg iter wi) Õ
  (hs:ĩ:=by intro _;rfl):PE X Å (YF pick wi g tc te):=by
 ext ù;rw[eval_ListComp];exact wpAny_comprehension_free (use:=none) Ć;ext ŋ;exact Sz (RR:=λ acc C=>compPost Ó X.xe none (EP Ĕ Q) acc C) S hc hg hf Ŭ;let#[m,hn]:=hn;show#[m,hn,λ h' hs'=>#[Ü D,H',SX I2 hC J' hs',rfl,q]]
def Lf Î2{y:Str}{py BN:Pos}(S:Š) ė (hi:PI X tg iter wi) Õ
  (hN:X.N.Nodup) (hy:X.N[i]?=↑y) (hx:Loc X.env.scope y)
  (hsw:swapsWith Å ↑(.Name y py) BN.line ą=pure true:=by rfl)
  (hfn:X.fn y=true\/ú y=↑.local:=by first | show Ħ rfl | show Ŋ rfl | assumption)
  (hs:ĩ:=by intro _;rfl):PS X (.Assign [.Name y py] Å BN) (eU (YF pick wi g tc te) (fJ i)):=by
 ext ù;rw[exec_Assign_Name_used Ð Ð hsw];exact tp (zcQ (tp ?_));change wpAny _ X.A (do let _ <- comprehension Å ć ą _ (newList []) Ī (eval iter ą) ↑ À5) Ð s;exact tp (za6 (wpAny_comprehension_free (use:=↑ À5) (Q:=λ _ s'=>SP X gV Q .next s') Ć) (λ _ s' hq=>Ah (Ah hq)) λ _ _ e=>e)
 ext ŋ;exact Sz (Q:=λ x H1=>fJ i x σ H1 Q.nx) (RR:=λ acc C=>compPost Ó X.xe ↑ À5 (λ _ s'=>SP X gV Q .next s') acc C) S hc hg hf Ŭ;change wpAny _ X.A (assign (.Name y py) ą Ì6) Ð _;exact wpAny_assign_Name (ja J' hN hy hx (v:=Ü D) rfl (λ s3 J3=>?_) hfn);have hp:=(J3.pin É2).1;let#[m,o,es,ep,ho',hr]:=hn;have:o=oC:=BA (ho'.symm.trans ho);subst this;show#[m,#[o,es,ep,hp,hr],λ h' hs'=>#[_,H',SX I2 hC J3 hs',q]]
end
end L2
namespace L3
open PySem Ç9 L2
open Ũ hiding St
inductive D where
 | zk | bl (b:Bool) | int (i:Int) | str (x:Str) | tup (ds:ÿ) | pP (ds:ÿ) | ref Ë7 | err (c f:Str) (d:D)
def fV Þ ý Ë7 (xs:ŏ):Prop:=
 (∃ o,H a=↑(.pF o ŧ))\/
  ∃ (o:Obj) (Ab:AE) (n:Nat),Â7 a=↑o/\o.cls=Ï/\o.dict=none/\o.data=.seq Ab n/\Ab.size<=ê/\Vals xs Ab.toList
def fV.sq É8 ġ Ì8 à(h:fV È6):yj È6:=by
 rcases h with h | h
 .show Ħ (Ŋ h)
 .show Ŋ h
abbrev pY:List ę:=[É9 "ValueError",É9 "Exception",É9 "BaseException",É9 "object"]
abbrev jm:Đ:=["__getattribute__","__getattr__","__class__","__setattr__","place","pair","way","times","told","name","row"]
def jR Þ Á6 (bm:Ai) (N:Addr):Prop:=
 (∃ (q:Str) (bs:Ai) (sn:Đ) (sub:Ai) (ab:Bool) (col:á Bool) (dd:Ä6) (k0 k1 k2 k3 k5:á ę),Â7 C=↑(excClassObj c q C N bs bm true sn sub ab col dd k0 k1 k2 k3 k5 "ValueError.__new__"))/\
 PySem.W.nsOkIn K N=true/\∀ n∈jm,ě K N n=↑none
structure km Þ (c:Str) (C P N NP:Addr):Prop where
 own:jR K c C (Ü P::pY) N
 par:jR K "PurseError" P pY NP
 top:ě K ĭ c=↑↑(Ü C)
 Ta:ě K ĭ "PurseError"=↑↑(Ü P)
 Tf:ě K NP "__init__"=↑none
def lI Þ Á6:Prop:=∃ P N NP,km K c C P N NP
def ownIn Þ Á6 (bm:Ai):Ä6:=match Â7 C with
 | some #[É9 "type",_,.cls cd,sl]=>(match cd.mro,sl.toList with
  | Ü C'::bm',[_,_,_,_,↑(Â6 n),_]=>if C' == C&&n == "ValueError.__new__"&&!cd.hasDel&&bm' == bm&&cd.hasDict&&cd.name == c&&PySem.W.nsOkIn K cd.ns&&jm.all (λ n=>ě K cd.ns n == ↑none) then ↑cd.ns else none
  | _,_=>none)
 | _=>none
def Tx É8{c:Str}{C N:Addr}{bm:Ai}(h:ownIn K c C bm=↑N):jR K c C bm N:=by
 unfold ownIn at h;ext Ĩ
 .rename_i dd cd sl ho;ext Ĩ
  .rename_i C' bm' k0 k1 k2 k3 n k5 hm hs;ext Ĩ
   .rename_i hc;cases h;simp![zE5,beq_iff_eq,Bool.not_eq_true',zE4] at hc;let#[#[#[#[#[#[#[rfl,rfl],hdel],rfl],hhd],rfl],zv],hn]:=hc;let#[nm,bs,mro,ns,qn,hd,sn,sub,ab,col,del]:=cd;dsimp only at hm hdel zv hn hhd;subst hm hdel hhd;have hsl:sl=[k0,k1,k2,k3,↑(Â6 "ValueError.__new__"),k5].toArray:=by
     let#[l]:=sl;simp only at hs;rw[hs]
    subst hsl;show#[#[qn,bs,sn,sub,ab,col,dd,k0,k1,k2,k3,k5,ho],zv,hn]
   .cases h
  .cases h
 .cases h
def cF Þ (c:Str):á (Addr×Addr×Addr×Addr):=match ě K ĭ c,ě K ĭ "PurseError" with
 | some ↑(Ü C),↑↑(Ü P)=>(match ownIn K c C (Ü P::pY),ownIn K "PurseError" P pY with
  | some N,↑NP=>if ě K NP "__init__" == ↑none then ↑(C,P,N,NP) else none
  | _,_=>none)
 | _,_=>none
def Wr É8{c:Str}{C P N NP:Addr}(h:cF K c=↑(C,P,N,NP)):km K c C P N NP:=by
 unfold cF at h;ext Ĩ
 .rename_i h1 h2;ext Ĩ
  .rename_i h3 h4;ext Ĩ
   .rename_i h5;cases h;show#[Tx h3,Tx h4,h1,h2,beq_iff_eq.mp h5]
   .cases h
  .cases h
 .cases h
def oH (e C:Addr) (dx:Ä6):HO:=.ext λ h=>∃ oe vs,h.get? e=↑oe/\oe.cls=Ü C/\oe.dict=dx/\oe.data=.fields vs
def Xd ý (f:Str) (w:V):Ä6->Prop
 | some x=>H x=↑(.xd [(f,w)])
 | none=>f=""/\w=.zk
mutual
def zj Þ ý:D->V->Prop
 | .zk,v=>v=.zk
 | .bl b,v=>v=.bl b
 | Ğ i,v=>v=Ğ i
 | .str x,v=>v=.str x
 | ũ,v=>∃ a xs,v=Ü a/\yJ È6/\ë
 | .pP ds,v=>∃ a xs,v=Ü a/\fV È6/\ë
 | Ü a,v=>v=Ü a
 | .err c f d,v=>∃ e C dx w,v=Ü e/\(lI K c C/\H e=↑(oH e C dx)/\Xd H f w dx)/\zj å d w
def zw Þ ý:ÿ->ŏ->Prop
 | [],xs=>xs=[]
 | d::ds,xs=>∃ x r,xs=x::r/\ŕ/\zw å ds r
end
structure Ext (H H':Hp):Prop where
 tup:∀ b xs,H b=↑(.tup xs)->H' b=↑(.tup xs)
 pF:∀ b o u,H b=↑(.pF o u)->H' b=↑(.pF o u)
 ext:∀ b φ,H b=↑(.ext φ)->H' b=↑(.ext φ)
 xd:∀ b fs,H b=↑(.xd fs)->H' b=↑(.xd fs)
def Ext.refl ý:Ext H H:=#[λ _ _ h=>h,λ _ _ _ h=>h,λ _ _ h=>h,λ _ _ h=>h]
def Ext.trans {H H1 H2:Hp}(a:Ext H H1) (b:Ext H1 H2):Ext H H2:=#[λ c xs h=>b.tup c xs (a.tup c xs h),λ c o u h=>b.pF c o u (a.pF c o u h),λ c u h=>b.ext c u (a.ext c u h),λ c u h=>b.xd c u (a.xd c u h)]
def Ext.new ġ Ŷ(h:H p=none) (o:HO):Ext H (upd H p o):=
 #[λ b xs q=>Ĵ,λ b ob u q=>Ĵ,λ b u q=>Ĵ,λ b u q=>Ĵ]
theorem Ext.lst ġ Ŷ à(h:H p=↑ ŧ) (o:HO):Ext H (upd H p o):=
 #[λ b ys q=>é,λ b ob u q=>é,λ b u q=>é,λ b u q=>é]
def Ext.aq ö Ì8 à è (h:yJ È6):yJ Ž a xs:=by
 rcases h with (h | ⟨o,h⟩) | h
 .show Ħ (Ħ (e.tup Ð h))
 .show Ħ (Ŋ #[o,e.pF Ð _ h])
 .show Ŋ h
def Ext.au ö Ì8 à è (h:fV È6):fV Ž a xs:=by
 rcases h with ⟨o,h⟩ | h
 .show Ħ #[o,e.pF Ð _ h]
 .show Ŋ h
section
variable {ö}
def Xd.ext {H H':Hp}{f:Str}{w:V}{dx:Ä6}(h:Xd H f w dx) è:Xd H' f w dx:=by
 cases dx with
 | none=>show h
 | some x=>show e.xd Ð h
mutual
theorem zj.ext è:∀ (d:D) {v:V},Æ4->zj Ž d v
 | .zk,v,h=>ğ
 | .bl b,v,h=>ğ
 | Ğ i,v,h=>ğ
 | .str x,v,h=>ğ
 | Ü a,v,h=>ğ
 | .err c f d,v,h=>by
  simp![zj] at h ⊢;let#[a,C,dx,w,h1,#[h2,h3,h4],h5]:=h;show#[a,C,dx,w,h1,#[h2,e.ext Ð h3,h4.ext e],zj.ext e d h5]
 | ũ,v,h=>by
  ext Â1;show#[a,xs,h1,e.aq h2,Æ5 e ds h3]
 | .pP ds,v,h=>by
  ext Â1;show#[a,xs,h1,e.au h2,Æ5 e ds h3]
theorem Æ5 è:∀ (ds:ÿ) à,ë->zw Ž ds xs
 | [],xs,h=>by simpa only [zw] using h
 | d::ds,xs,h=>by
  simp![zw] at h ⊢;ext đ;show#[x,r,h1,zj.ext e d h2,Æ5 e ds h3]
end
theorem zw.length:∀ Å2 à,ë->ľ=Ô
 | [],xs,h=>by ext À1;subst h;rfl
 | d::ds,xs,h=>by
  ext À1;let#[x,r,h1,_,h3]:=h;subst h1;simp[zw.length h3]
theorem zw.get:∀ Å2 à Î2 Î3,ë->ds[i]?=↑d->∃ x,xs[i]?=↑x/\ŕ
 | [],_,i,d,_,e=>by simp at e
 | c::ds,xs,i,d,h,e=>by
  ext À1;ext đ;subst h1;cases i with
  | zero=>simp at e;subst e;show#[x,rfl,h2]
  | succ i=>
   let#[y,e1,e2]:=zw.get (i:=i) h3 (by exists e);show#[y,by simpa using e1,e2]
theorem zw.append:∀ {ds es:ÿ}{xs ys:ŏ},ë->zw å es ys->zw å (ds++es) (xs++ys)
 | [],es,xs,ys,h,h'=>by ext À1;subst h;exists h'
 | d::ds,es,xs,ys,h,h'=>by
  ext À1;ext đ;subst h1;change zw å (d::(ds++es)) (x::(r++ys));simp![zw];show#[x,r++ys,rfl,h2,zw.append h3 h']
def zw.nil:zw å [] []:=by simp![zw]
def zw.cons Î3 Å2{x:V}à(h:ŕ) (h':ë):zw å (d::ds) (x::xs):=by
 simp![zw];show#[x,xs,rfl,h,h']
def zw.snoc Î3 Å2{x:V}à(h':ë) (h:ŕ):zw å (ds++[d]) (xs++[x]):=h'.append (.cons h .nil)
theorem zw.ints:∀ {ns:Æ1}à,zw å (ns.map D.int) xs->xs=Ņ
 | [],xs,h=>Ì7
 | n::ns,xs,h=>by
  ext Ã2;rw[Az,zw.ints h3]
theorem zw.Xp:∀ (ns:Æ1),zw å (ns.map D.int) (Ņ)
 | []=>.nil
 | n::ns=>.cons (É) (zw.Xp ns)
theorem zw.bools:∀ {ns:È0}à,zw å (ns.map D.bl) xs->xs=ns.map V.bl
 | [],xs,h=>Ì7
 | n::ns,xs,h=>by
  ext Ã2;rw[Az,zw.bools h3]
end
inductive O where
 | lst (ds:ÿ)
 | yp (Aa:List (Key×D))
 | obj (c:Str) (fs:List (Str×D))
abbrev SS:=Addr->á O
def wD Þ ý:List (Key×D)->List (Key×V)->Prop:=Ä1
def mh Þ ý:List (Str×D)->List (Str×V)->Prop:=Ä1
def kr Þ Á6:Prop:=ě K ĭ c=↑↑(Ü C)
def gf Þ ý Ë7:O->Prop
 | Ė ds=>∃ xs,H a=↑ ŧ/\ë
 | .yp Aa=>∃ vs,H a=↑(.dK vs)/\wD å Aa vs
 | .obj c fs=>∃ C dx vs,kr K c C/\H a=↑(.ins C dx vs)/\mh å fs vs
def yb Þ ý (S:SS):Prop:=∀ a o,S a=↑o->gf å a o
def ups (S:SS) Ë7 (o:O):SS:=λ b=>if b=a then ↑o else S b
def lK ŷ Ì8{o:O}:ups S a o a=↑o:=by unfold ups;rw[Ő rfl]
def ky ŷ{a b:Addr}{o:O}(h:b≠a):ups S a o b=S b:=by unfold ups;rw[ő h]
def Sx (S S':SS):Prop:=∀ b o,S b=↑o->S' b=↑o
def Sx.refl (S:SS):Sx S S:=λ _ _ h=>h
def Sx.trans {S S1 S2:SS}(a:Sx S S1) (b:Sx S1 S2):Sx S S2:=λ c o h=>b c o (a c o h)
def Sx.new ŷ Ŷ(h:S p=none) (o:O):Sx S (ups S p o):=λ b u q=>by
 rw[ky (by intro z;subst z;rw[h] at q;cases q)];show q
theorem Sx.none {S S':SS}(e:Sx S S') Ŷ(h:S' p=Ä9):S p=Ä9:=by
 cases q:S p with
 | none=>rfl
 | some o=>rw[e p o q] at h;cases h
section
variable {ö}{ŷ}
def gf.has Ì8{o:O}(h:gf å a o):H a≠none:=by
 cases o with
 | lst ds=>let#[xs,h,_]:=h;rw[h];simp
 | yp Aa=>let#[xs,h,_]:=h;rw[h];simp
 | obj c fs=>let#[C,dx,vs,_,h,_]:=h;rw[h];simp
theorem yb.none (r:Ā) Ŷ(h:H p=Ä9):S p=Ä9:=by
 cases q:S p with
 | none=>rfl
 | some o=>show ų h (r p o q).has
theorem wD.ext è {Aa:List (Key×D)}{vs:List (Key×V)}(h:wD å Aa vs):wD Ž Aa vs:=
 À6
theorem mh.ext è {fs:List (Str×D)}{vs:List (Str×V)}(h:mh å fs vs):mh Ž fs vs:=
 À6
def gf.keep Ì8{o:O}è (k:∀ u,H a=↑u->H' a=↑u) (h:gf å a o):gf Ž a o:=by
 cases o with
 | lst ds=>let#[xs,h1,h2]:=h;show#[xs,k _ h1,Æ5 e ds h2]
 | yp Aa=>let#[xs,h1,h2]:=h;show#[xs,k _ h1,h2.ext e]
 | obj c fs=>let#[C,dx,vs,h0,h1,h2]:=h;show#[C,dx,vs,h0,k _ h1,h2.ext e]
theorem yb.keep è (k:∀ a u o,S a=↑o->H a=↑u->H' a=↑u) (r:Ā):yb Ž S:=λ a o h=>(r a o h).keep e λ u q=>k a u o h q
def yb.same (e:fW H H') (r:Ā):yb Ž S:=r.keep #[λ b xs q=>e Ð q,λ b o u q=>e Ð q,λ b u q=>e Ð q,λ b u q=>e Ð q] λ a u _ _ q=>e a u q
theorem yb.new Ŷ{u:HO}(hp:H p=Ä9) (r:Ā):yb K Ì9 S:=
 r.keep (Ext.new hp u) λ a v o _ q=>by rw[zX (vv q hp)];show q
theorem yb.ups Ŷ{u:HO}{o:O}(e:Ext H Ì9) (hn:gf K Ì9 p o) (r:Ā):yb K Ì9 (ups S p o):=λ a o' h=>by
 by_cases ha:a=p
 .subst ha;rw[lK] at h;cases h;show hn
 .rw[ky ha] at h;show (r a o' h).keep e λ v q=>by rw[zX ha];show q
end
abbrev yz:=List (á D)
def xv Þ ý (δ:yz) (σ:St):Prop:=δ.length=σ.length/\∀ È8 (d:D),δ[i]?=↑↑d->∃ v,σ[i]?=↑↑v/\Æ4
theorem xv.ext ö{δ:yz}Ś è (r:ì):xv Ž δ σ:=#[r.1,λ i d h=>by
 let#[v,h1,h2]:=r.2 i d h;show#[v,h1,zj.ext e d h2]]
theorem xv.set É8 ġ{δ:yz}Ś È8 Î3{v:V}(r:ì) (h:Æ4):xv å (δ.set i ↑d) (σ.set i ↑v):=by
 exact#[by rw[zaT,zaT];show r.1,λ j c hc=>?_];rw[zb4] at hc ⊢;by_cases hj:i=j
 .subst hj;rw[Ő rfl] at hc ⊢;by_cases hl:i < δ.length
  .rw[Ő hl] at hc;rw[Ő (by rw[<- r.1];show hl)];cases hc;show#[v,rfl,h]
  .rw[ő hl] at hc;cases hc
 .rw[ő hj] at hc ⊢;show r.2 j c hc
abbrev DK:=D->â
abbrev zy:=yz->É3
abbrev xn:=yz->SS->(Ë5)->Prop
abbrev ya:=yz->SS->(ÿ->â)->Prop
def yG (t:zy):Prop:=∀ δ S (Q Q':DK),ñ->Â4
def oG (t:xn):Prop:=∀ δ S (Q Q':Ë5),ñ->Â4
def lE Î4:Prop:=∀ δ S (Q Q':ÿ->â),ñ->Â4
def pH Þ ý (Q:VK):DK:=λ d S'=>∀ v H',zj Ž d v->š
def cO Þ ý (Q:Bool->Č):Ë5:=λ b S'=>∀ H',Æ6->yb Ž S'->Q b H'
def F7 Þ ý (Q:ŏ->Č):ÿ->â:=λ ds S'=>∀ vs H',zw Ž ds vs->Æ6->yb Ž S'->Q vs H'
def v8 Þ ý (Q:St->Č):Í0:=fun δ S'=>∀ σ H',xv Ž δ σ->Æ6->yb Ž S'->Q σ H'
def pH.ext ö{Q:VK}è Î3 ŷ(h:pH å Q d S):pH Ž Q d S:=Ä2
def cO.ext ö{Q:Bool->Č}è {d:Bool}ŷ(h:cO å Q d S):cO Ž Q d S:=λ H2 x q=>h H2 (e.trans x) q
def v8.ext ö{Q:St->Č}è {d:yz}ŷ(h:v8 å Q d S):v8 Ž Q d S:=Ä2
def zY Þ (t:zy):TE:=fun σ H Q=>∃ δ S,ì/\Ā/\t Í (pH å Q)
def pB Þ (t:xn):TT:=fun σ H Q=>∃ δ S,ì/\Ā/\t Í (cO å Q)
def vo Þ Î4:TA:=fun σ H Q=>∃ δ S,ì/\Ā/\t Í (F7 å Q)
structure PD Ň (e:Expr) (t:zy):Prop where
 mo:yG t
 pe:PE X e (zY X.K t)
structure yh Ň (e:Expr) (t:xn):Prop where
 mo:oG t
 pt:PT X e (pB X.K t)
structure y6 Ň (es:Ĝ) Î4:Prop where
 mo:lE t
 pa:PA X es (vo X.K t)
def Ŗ Ġ į{t t':TE}(h:PE X e t) Ý:PE X e t':=ó
def PT.imp Ġ į{t t':TT}(h:PT X e t) Ý:PT X e t':=ó
def PA.imp Ġ{e:Ĝ}{t t':TA}(h:PA X e t) Ý:PA X e t':=λ pos gV s σ H Q I q=>h pos É0
def PS.imp Ġ{e:Stmt}{t t':TS}(h:PS X e t) Å5:PS X e t':=Á0
def p9.imp Ġ{e:Æ8}{t t':TS}(h:p9 X e t) Å5:p9 X e t':=Á0
section
variable {Ġ}{É8}
def Ê2 {t:zy}Ś ġ{Q:VK}{δ:yz}ŷ{R:DK}(mo:yG t) Ÿ (k:∀ d S' v H',R d S'->zj Ž d v->š):zY K t ß:=
 Ĳ
def pB.go {t:xn}Ś ġ{Q:Bool->Č}{δ:yz}ŷ{R:Ë5}(mo:oG t) Ÿ (k:∀ d S' H',R d S'->Æ6->yb Ž S'->Q d H'):pB K t ß:=
 #[δ,S,r1,r2,mo Ē (λ d S' q H' b c=>k d S' H' q b c) h]
def vo.go {t:ya}Ś ġ{Q:ŏ->Č}{δ:yz}ŷ{R:ÿ->â}(mo:lE t) Ÿ (k:∀ d S' v H',R d S'->zw Ž d v->š):vo K t ß:=
 Ĳ
def yq È8:zy:=fun δ S Q=>match δ[i]? with
 | some ↑d=>Q d S
 | _=>ò
def dC (d:D):zy:=λ _ S Q=>Q d S
def Ku È8 Í8 Ł(h:PE X (.Name x pos) (eS i)):PD X (.Name x pos) (yq i):=by
 exact#[fun δ S Q Q' hq h=>?_,Ŗ h Ù]
 .unfold yq at h ⊢;ext Ĩ
  .show ĳ
  .show h
 .ext í;unfold yq at h;ext Ĩ
  .rename_i d e;let#[v,h1,h2]:=r1.2 i d e;show#[v,h1,h v H h2 É4 r2]
  .show î
def dC.mo (d:D):yG (dC d):=λ _ _ _ _ hq h=>ĳ
def dw į Î3{v:V}(h:PE X e (tC v)) (r:∀ H,zj X.K H d v):PD X e (dC d):=
 #[dC.mo d,Ŗ h λ _ H _ #[_,_,_,r2,h]=>h v H (r H) É4 r2]
def tQ {i j pos}:PD X (.Constant (Ğ i) j pos) (dC (Ğ i)):=dw L_ λ _=>É
def sg {i j pos}:PD X (.Constant (.bool i) j pos) (dC (.bl i)):=dw Kj λ _=>É
def tj {j pos}:PD X (.Constant .none j pos) (dC .zk):=dw LV λ _=>É
def uU {x j pos}:PD X (.Constant (.str x) j pos) (dC (.str x)):=dw LO λ _=>É
abbrev wx:=D->D->É3
def p_ (f:wx):Prop:=∀ x y S (Q Q':DK),ñ->f x y S Q->f x y S Q'
def vB Þ (f:wx) (r:R2):Prop:=∀ x y d e H S Q,ŕ->zj å e y->Ā->f d e S (pH å Q)->r x y H Q
def yT (f:wx) (ta tb:zy):zy:=fun δ S Q=>ta Í λ x S1=>tb Ģ λ y S2=>f x y S2 Q
def yT.mo {f:wx}{ta tb:zy}(hf:p_ f) ħ:yG Í1:=fun δ S Q Q' hq h=>
 ha Ē (λ x S1 h=>hb Ģ Ð (λ y S2 h=>hf x y S2 Ð hq h) h) h
def bW À7(hr:vB K f r) (hf:p_ f) ħ Ś ġ{Q:VK}(h:zY K Í1 ß):eT r (zY K ta) (zY K tb) ß:=by
 let#[δ,S,r1,r2,h]:=h;exact Ê2 ha Ê6 h ā;exact Ê2 hb Å8;show hr v w x y H2 S2 Q (zj.ext e2 x q1) q2 p2 (hf x y S2 Ð (λ d S' z=>z.ext (ŝ e2)) h2)
def ji {a b:Expr}{op:Operator}Ł À7(ho:xo X (binaryOp op) r) (hr:vB X.K f r) (hf:p_ f) Ä:PD X (.BinOp a op b pos) Í1:=
 #[yT.mo hf ô,Ŗ (LR ho ŭ) λ _ _ _ h=>bW hr hf ô h]
def aE û Ä (hm:behindInMarks op b=Ī):PD X (Æ7 a [op] [b] pos) Í1:=
 #[yT.mo hf ô,Ŗ (Kg ho ŭ hm) λ _ _ _ h=>bW hr hf ô h]
def n_ (t:zy):xn:=fun δ S Q=>t Í λ x S1=>match x with
 | .bl b=>Q b S1
 | _=>ò
def n_.mo {t:zy}(h:yG t):oG (n_ t):=fun δ S Q Q' hq q=>h Ē (λ d S' z=>by
 cases d <;> first
  | show Í2
  | show z) q
def jh û Ä (hm:behindInMarks op b=Ī):yh X (Æ7 a [op] [b] pos) (n_ Í1):=by
 exact#[n_.mo (yT.mo hf ô),PT.imp (La ho ŭ hm) fun σ H Q h=>?_];let#[δ,S,r1,r2,h]:=h;exact bW hr hf ô #[δ,S,r1,r2,yT.mo hf ô Ē (λ d S' z v H' a b c=>?_) h];cases d with
 | bl k=>simp![zj] at a;show#[k,a,z H' b c]
 | _=>show z.elim
def fI (C:Int->Int->Prop) (g:Ş):wx:=λ x y S Q=>match x,y with
 | Ğ i,Ğ j=>C i j/\Q (g i j) S
 | _,_=>ò
def fI.mo {C:Int->Int->Prop}{g:Ş}:p_ (fI C g):=λ x y S Q Q' hq h=>by
 unfold fI at h ⊢;ext Ĩ
 .show Æ9
 .show î
def ye (g:Ş):wx:=λ x y S Q=>match x,y with
 | Ğ i,Ğ j=>Q (g i j) S
 | _,_=>ò
def ye.mo {g:Ş}:p_ (ye g):=λ x y S Q Q' hq h=>by
 unfold ye at h ⊢;ext Ĩ
 .show ĳ
 .show î
def fI.fits {C:Int->Int->Prop}ä:vB K (fI C g) (rI C g'):=λ x y d e H S Q h1 h2 h3 h=>by
 unfold fI at h;ext Ĩ
 .ext Ç4;show#[_,_,h1,h2,h.1,h.2 _ H (hg Ð H) É4 h3]
 .show î
def ye.fits ä:vB K (ye g) (nh g'):=λ x y d e H S Q h1 h2 h3 h=>by
 unfold ye at h;ext Ĩ
 .ext Ç4;show#[_,_,h1,h2,h _ H (hg Ð H) É4 h3]
 .show î
variable {a b:Expr}{ta tb:zy}{Ł}
def uT Ä:PD X (.BinOp a .Sub b pos) (yT (ye λ i j=>Ğ (i-j)) ŉ):=ji K3 (ķ) ye.mo ha hb
def t6 Ä:PD X (.BinOp a .Mod b pos) (yT (fI (λ _ j=>0<j) λ i j=>Ğ (i%j)) ŉ):=ji K9 ō
def tX Ä:PD X (.BinOp a .FloorDiv b pos) (yT (fI gE λ i j=>Ğ (i/j)) ŉ):=ji KL ō
def uY Ä:PD X (.BinOp a .Pow b pos) (yT (fI ia λ i j=>Ğ (i ^ j.toNat)) ŉ):=ji K4 ō
abbrev Wn:wx:=ye λ i j=>.bl (ī (i<j))
abbrev Zt:wx:=ye λ i j=>.bl (ī (i<=j))
abbrev Wo:wx:=ye λ i j=>.bl (ī (j<i))
abbrev Wq:wx:=ye λ i j=>.bl (ī (j<=i))
def GP:vB K Wn (nh λ i j=>.bl (ī (i<j))):=ķ
def fit_le:vB K Zt (nh λ i j=>.bl (ī (i<=j))):=ķ
def GQ:vB K Wo (nh λ i j=>.bl (ī (j<i))):=ķ
def GR:vB K Wq (nh λ i j=>.bl (ī (j<=i))):=ķ
def tI Ä:PD X (Æ7 a [.LtE] [b] pos) (yT Zt ŉ):=aE yR fit_le ň
def tU Ä:PD X (Æ7 a [.GtE] [b] pos) (yT Wq ŉ):=aE KI GR ň
def ui Ä:yh X (Æ7 a [.Lt] [b] pos) (n_ (yT Wn ŉ)):=jh KA GP ň
def uj Ä:yh X (Æ7 a [.LtE] [b] pos) (n_ (yT Zt ŉ)):=jh yR fit_le ň
def uq Ä:yh X (Æ7 a [.Gt] [b] pos) (n_ (yT Wo ŉ)):=jh KH GQ ň
end
section
variable {Ġ}{É8}{a b c:Expr}{ta tb:zy}{Ł}
def bc (ta tb:zy):zy:=fun δ S Q=>ta Í λ x S1=>match x with
 | .bl k=>if k=true then tb Ģ Q else Q (.bl Ī) S1
 | _=>ò
def cV (ta tb:zy):zy:=fun δ S Q=>ta Í λ x S1=>match x with
 | .bl k=>if k=true then Q (.bl true) S1 else tb Ģ Q
 | _=>ò
def cW (ta:zy):zy:=fun δ S Q=>ta Í λ x S1=>match x with
 | .bl k=>Q (.bl (!k)) S1
 | _=>ò
def qI {c:Prop} [Decidable c] {A B A' B':Prop}(h1:A->A') (h2:B->B') (h:if c then A else B):if c then A' else B':=by
 by_cases q:c
 .rw[Ő q] at h ⊢;show h1 h
 .rw[ő q] at h ⊢;show h2 h
def bc.mo ħ:yG (bc ŉ):=fun δ S Q Q' hq h=>ha Ē (λ x S1 z=>by
 cases x <;> first
  | show qI (hb Ģ Ð hq) (hq Ð) z
  | show z) h
def cV.mo ħ:yG (cV ŉ):=fun δ S Q Q' hq h=>ha Ē (λ x S1 z=>by
 cases x <;> first
  | show qI (hq Ð) (hb Ģ Ð hq) z
  | show z) h
def cW.mo (ha:yG ta):yG (cW ta):=fun δ S Q Q' hq h=>ha Ē (λ x S1 z=>by
 cases x <;> first
  | show Í2
  | show z) h
def u_ {op} {t:zy}(h:PD X a t):PD X (Ū op [a] pos) t:=#[h.mo,LS h.pe]
variable {rest:Ĝ}
theorem sk Ź (hb:PD X (Ū .And Ë0) tb):PD X (Ū .And Ã6) (bc ŉ):=by
 exact#[bc.mo ô,Ŗ (Kk ŭ) Ù];ext Æ;cases x with
 | bl k=>
  ext Ë8
  .show Ê2 hb.mo Ò
  .show z _ H1 (É) e1 p1
 | _=>show h1.elim
theorem uZ Ź (hb:PD X (Ū .Or Ë0) tb):PD X (Ū .Or Ã6) (cV ŉ):=by
 exact#[cV.mo ô,Ŗ (LQ ŭ) Ù];ext Æ;cases x with
 | bl k=>
  ext Ë8
  .show z _ H1 (É) e1 p1
  .show Ê2 hb.mo Ò
 | _=>show h1.elim
theorem tf Ź:PD X (.UnaryOp .Not a pos) (cW ta):=by
 exact#[cW.mo ha.mo,Ŗ (LU ha.pe) Ù];ext Æ;cases x with
 | bl k=>
  simp![zj] at q1;show#[k,q1,h1 _ H1 (É) e1 p1]
 | _=>show h1.elim
def cL (t u:xn):xn:=fun δ S Q=>t Í λ k S1=>if k=true then u Ģ Q else Q Ī S1
def cK (t u:xn):xn:=fun δ S Q=>t Í λ k S1=>if k=true then Q true S1 else u Ģ Q
def fN (t:xn):xn:=fun δ S Q=>t Í λ k S1=>Q (!k) S1
variable {t u:xn}
def cL.mo (h:oG t) (h':oG u):oG (cL t u):=fun δ S _ _ hq z=>h Ē (λ k S1 z=>qI (h' Ģ Ð hq) (hq Ð) z) z
def cK.mo (h:oG t) (h':oG u):oG (cK t u):=fun δ S _ _ hq z=>h Ē (λ k S1 z=>qI (hq Ð) (h' Ģ Ð hq) z) z
def fN.mo (h:oG t):oG (fN t):=fun δ S _ _ hq z=>h Ē (λ k S1 z=>Í2) z
structure wF Ň (e:Expr) (t:xn):Prop where
 mo:oG t
 pw:PW X e (pB X.K t)
def PW.imp į{t t':TT}(h:PW X e t) Ý:PW X e t':=λ whole gV s σ H Q I q=>h whole É0
theorem wF.pt į{t:xn}(h:wF X e t):yh X e t:=#[h.mo,PW.pt h.pw]
def ud (h:yh X a t):wF X (Ū .And [a] pos) t:=#[h.mo,MX h.pt]
def uc (h:yh X a t):wF X (Ū .Or [a] pos) t:=#[h.mo,MV h.pt]
def yW (ha:yh X a t) (hb:wF X (Ū .And Ë0) u):wF X (Ū .And Ã6) (cL t u):=by
 exact#[cL.mo ô,PW.imp (MY ha.pt hb.pw) Ù];ext í;exact pB.go Ë1 λ k S1 H1 h1 e1 p1=>qI (λ z=>?_) (λ z=>z H1 e1 p1) h1;show ł
def yV (ha:yh X a t) (hb:wF X (Ū .Or Ë0) u):wF X (Ū .Or Ã6) (cK t u):=by
 exact#[cK.mo ô,PW.imp (MW ha.pt hb.pw) Ù];ext í;exact pB.go Ë1 λ k S1 H1 h1 e1 p1=>qI (λ z=>z H1 e1 p1) (λ z=>?_) h1;show ł
def ug (ha:yh X a t):yh X (.UnaryOp .Not a pos) (fN t):=by
 exact#[fN.mo ha.mo,PT.imp (M_ ha.pt) Ù];ext í;show pB.go Ë1 λ k S1 H1 h1 e1 p1=>h1 H1 e1 p1
def cZ (t:xn) (ta tb:zy):zy:=fun δ S Q=>t Í λ k S1=>if k=true then ta Ģ Q else tb Ģ Q
def cZ.mo (h:oG t) ħ:yG (cZ t ŉ):=fun δ S _ _ hq z=>h Ē (λ k S1 z=>qI (ha Ģ Ð hq) (hb Ģ Ð hq) z) z
def tR (hc:yh X c t) Ä:PD X (.IfExp c a b pos) (cZ t ŉ):=by
 exact#[cZ.mo hc.mo ô,Ŗ (Ka hc.pt ŭ) Ù];ext í;exact pB.go hc.mo Ê6 h λ k S1 H1 h1 e1 p1=>ĵ
 .show Ê2 ha.mo Ò
 .show Ê2 hb.mo Ò
def nJ (d:D) (S:SS) (Q:Ë5):Prop:=match d with
 | .zk=>Q Ī S
 | .bl k=>Q k S
 | Ğ i=>Q (i != 0) S
 | .str x=>x.length<=ê/\Q ((x.length:Int) != 0) S
 | ũ=>È4
 | .pP ds=>È4
 | Ü p=>match S p with
  | Â5=>È4
  | some (.yp Aa)=>Q (!Aa.isEmpty) S
  | _=>ò
 | .err Ð _=>ò
def Ww (ta:zy):xn:=fun δ S Q=>ta Í λ x S1=>nJ x S1 Q
def nJ.mo Î3 ŷ{Q Q':Ë5}(hq:∀ k S',Q k S'->Q' k S') (h:nJ d S Q):nJ d S Q':=by
 cases d with
 | str x=>show Æ9
 | err _ _ _=>show î
 | ref p=>
  unfold nJ at h ⊢;dsimp only at h ⊢;ext Ĩ
  .show ĳ
  .show ĳ
  .show h
 | _=>show ĳ
theorem zw.isEmpty ġ Å2 à(h:ë):ds.isEmpty=xs.isEmpty:=by
 have:=h.length;cases ds <;> cases xs <;> simp_all
def DU {α β:Type}{F:α->β->Prop}{xs:List α}{ys:List β}(h:Paired F xs ys):xs.isEmpty=ys.isEmpty:=by cases h <;> rfl
def nJ.fits ġ Î3{v:V}ŷ{Q:Bool->Č}(r:Æ4) (p:Ā) (h:nJ d S (cO å Q)):∃ k,Vi K v H k/\Q k H:=by
 cases d with
 | zk=>ext İ;show#[Ī,rfl,Ç0]
 | bl k=>ext İ;show#[k,rfl,Ç0]
 | int i=>ext İ;show#[_,rfl,Ç0]
 | str x=>ext İ;show#[_,#[h.1,rfl],h.2 H æ p]
 | err _ _ _=>show î
 | tup ds=>
  ext Å6;show#[_,Ŋ (Ħ #[xs,r1,Ê3]),Ç0]
 | pP ds=>
  ext Å6;show#[_,Ħ #[xs,r1.sq,Ê3],Ç0]
 | ref a=>
  ext İ;unfold nJ at h;dsimp only at h;ext Ĩ
  .rename_i ds e;let#[xs,e1,r2]:=p a _ e;show#[_,Ħ #[xs,yj.of e1,Ê3],Ç0]
  .rename_i Aa e;let#[xs,e1,r2]:=p a _ e;show#[_,Ŋ (Ŋ #[xs,e1,by rw[DU r2]]),Ç0]
  .show î
def uf Ź (he:∀ whole,isTrue a ą whole=(do let v <- whole;standAt a.pos;holding [v] (truthy v))):yh X a (Ww ta):=by
 exact#[fun δ S Q Q' hq h=>ha.mo Ē (λ x S1 z=>nJ.mo hq z) h,PT.imp (MZ ha.pe he) Ù];ext Æ;show nJ.fits q1 p1 (nJ.mo (λ k S' z=>z.ext e1) h1)
def ly:ya:=λ _ S Q=>Q [] S
def ma (te:zy) (tr:ya):ya:=fun δ S Q=>te Í λ x S1=>tr Ģ λ xs S2=>Q (x::xs) S2
variable {į}{es:Ĝ}{te:zy}{tA:ya}
def ma.mo (h:yG te) (h':lE tA):lE (ma te tA):=fun δ S _ _ hq z=>h Ē (λ x S1 z=>h' Ģ Ð (λ xs S2 z=>Í2) z) z
def uP:y6 X [] ly:=#[λ _ _ _ _ hq h=>ĳ,PA.imp jj fun σ H Q #[_,_,_,r2,h]=>h [] H .nil æ r2]
def uQ (ha:PD X e te) (hr:y6 X es tA) (hs:AA X e es):y6 X (e::es) (ma te tA):=by
 exact#[ma.mo ha.mo hr.mo,PA.imp (lQ ha.pe hr.pa hs) Ù];ext Æ;exact vo.go hr.mo (ĥ) p1 h1 λ xs S2 w H2 h2 q2 e2 p2=>?_;show h2 (v::w) H2 (.cons (zj.ext e2 x q1) q2) (ŝ e2) p2
def cT Î4:zy:=fun δ S Q=>t Í λ ds S1=>ľ<=ê/\Q (ũ) S1
def Qj Î4:zy:=fun δ S Q=>t Í λ ds S1=>ľ<=ê/\∀ p,S1 p=none->Q (Ü p) (ups S1 p (Ė ds))
def uS {k} (h:y6 X es tA):PD X (.Tuple es k pos) (cT tA):=by
 exact#[fun δ S _ _ hq z=>h.mo Ē (λ ds S1 z=>ŵ) z,Ŗ (LN h.pa) Ù];ext ï;exact h1.2 Ð ?_ (ŝ Å0) (p1.new hp);simp![zj];show#[p,xs,rfl,yJ.of yD,Æ5 Å0 ds q1]
theorem tE (h:y6 X es tA):PD X (.List es pos) (Qj tA):=by
 exact#[fun δ S _ _ hq z=>h.mo Ē (λ ds S1 z=>#[z.1,λ p hp=>hq Ð (z.2 p hp)]) z,Ŗ (LW h.pa) Ù];ext ï;exact h1.2 p (p1.none hp) Ð (É) (ŝ Å0) ?_;show p1.ups Å0 #[xs,yD,Æ5 Å0 ds q1]
def pG:wx:=λ x y S Q=>match x,y with
 | ũ,Ğ i=>match yc ds i with
  | some d=>Q d S
  | none=>ò
 | .pP ds,Ğ i=>match yc ds i with
  | some d=>Q d S
  | none=>ò
 | Ü p,Ğ i=>match S p with
  | Â5=>match yc ds i with
   | some d=>Q d S
   | none=>ò
  | _=>ò
 | _,_=>ò
def pG.mo:p_ pG:=λ x y S Q Q' hq h=>by
 unfold pG at h ⊢;ext Ĩ
 .skip
  ext Ĩ
  .show ĳ
  .show h
 .skip
  ext Ĩ
  .show ĳ
  .show h
 .skip
  ext Ĩ
  .skip
   ext Ĩ
   .show ĳ
   .show h
  .show î
 .show î
theorem zw.yc ġ Å2 à{i:Int}Î3(h:ë) (e:L2.yc ds i=↑d):∃ x,L2.yc xs i=↑x/\ŕ:=by
 unfold L2.yc at e ⊢;rw[h.length] at e;cases q:o6 Ô i with
 | none=>rw[q] at e;cases e
 | some j=>
  rw[q] at e;show h.get e
def pG.fits:vB K pG (UU K):=λ x y d e H S Q h1 h2 h3 h=>by
 unfold pG at h;ext Ĩ
 .ext Ĩ
  .ext ģ;show Ŋ (Ħ #[a,xs,_,x',rfl,h2,r1,e1,Í3])
  .show î
 .ext Ĩ
  .ext ģ;show Ħ #[a,xs,_,x',rfl,h2,r1.sq,e1,Í3]
  .show î
 .ext Ĩ
  .rename_i q0;ext Ĩ
   .rename_i q;ext Ç4;subst h1;let#[xs,r1,r2]:=h3 Ð q0;let#[x',e1,e2]:=r2.yc q;show Ħ #[_,xs,_,x',rfl,h2,yj.of r1,e1,Í3]
   .show î
  .show î
 .show î
def tJ Ä (hs:Pz b):PD X (.Subscript a b pos) (yT pG ŉ):=
 #[yT.mo pG.mo ô,Ŗ (LY IQ ŭ hs) λ _ _ _ h=>bW pG.fits pG.mo ô h]
abbrev vm:=ÿ->É3
def nG (f:vm):Prop:=∀ ds S (Q Q':DK),ñ->f ds S Q->f ds S Q'
def mS Þ (f:vm) (r:Ú):Prop:=∀ xs ds H S Q,ë->Ā->f ds S (pH å Q)->r xs H Q
def vj (f:vm) Î4:zy:=fun δ S Q=>t Í λ ds S1=>f ds S1 Q
def vj.mo {f:vm}(hf:nG f) (h:lE tA):yG (vj f tA):=fun δ S _ _ hq z=>h Ē (λ ds S1 z=>hf ds S1 Ð hq z) z
def Ug {f:vm}{r:Ú}(hf:nG f) (hr:mS K f r) (h:lE tA) Ś ġ{Q:VK}(hu:zY K (vj f tA) ß):aj r (vo K tA) ß:=by
 let#[δ,S,r1,r2,h']:=hu;exact vo.go h Ê6 h' Ê4;show hr xs ds H1 S1 Q q1 p1 (hf ds S1 Ð (λ d S' z=>z.ext e1) h1)
def mZ {f:vm}{r:Ú}į(h:PE X e (aj r Í4)) (hf:nG f) (hr:mS X.K f r) (ha:lE tA):PD X e (vj f tA):=
 #[vj.mo hf ha,Ŗ h λ _ _ _ hu=>Ug hf hr ha hu]
def yu (d:D) (S:SS):á (ÿ):=match d with
 | ũ=>↑ds
 | .pP ds=>↑ds
 | Ü p=>match S p with
  | Â5=>↑ds
  | _=>none
 | _=>none
theorem yu.sq ġ ŷ Î3{v:V}Å2(r:Æ4) (p:Ā) (e:yu d S=↑ds):∃ a xs,v=Ü a/\(yj È6\/yJ È6)/\ë:=by
 unfold yu at e;split at e
 .ext À9;show#[a,xs,h1,Ŋ h2,h3]
 .ext À9;show#[a,xs,h1,Ħ h2.sq,h3]
 .split at e
  .rename_i q;cases e;ext İ;let#[xs,h1,h2]:=p Ð q;show#[_,xs,rfl,Ħ (yj.of h1),h2]
  .cases e
 .cases e
def zw.one ġ Î3 à(h:zw å [d] xs):∃ x,xs=[x]/\ŕ:=by
 ext À1;let#[x,r,rfl,h2,rfl]:=h;show#[x,rfl,h2]
def zw.two ġ{d d':D}à(h:zw å [d,d'] xs):∃ x y,xs=[x,y]/\ŕ/\zj å d' y:=by
 ext À1;let#[x,r,rfl,h2,y,r',rfl,h3,rfl]:=h;show#[x,y,rfl,h2,h3]
def mI:vm:=λ ds S Q=>match ds with
 | [d]=>match yu d S with
  | some ds=>Q (Ğ ľ) S
  | none=>match d with
   | .str z=>Ų<=ê/\Q (Ğ Ų) S
   | _=>ò
 | _=>ò
def mI.mo:nG mI:=λ ds S Q Q' hq h=>by
 unfold mI at h ⊢;ext Ĩ
 .skip
  ext Ĩ
  .show ĳ
  .ext Ĩ
   .show Æ9
   .show î
 .show î
abbrev MS Þ:Ú:=λ xs H Q=>(∃ p ys,Ű/\(yj å p ys\/yJ å p ys)/\Q (Ğ ů) H)\/(Ã7)
def mI.fits:mS K mI (MS K):=λ xs ds H S Q h0 h2 h=>by
 unfold mI at h;ext Ĩ
 .ext ü;ext Ĩ
  .ext Á1;exact Ħ #[a,ys,rfl,q,?_];rw[<- Ë2];show h _ H (É) æ h2
  .ext Ĩ
   .simp![zj] at h1;subst h1;show Ŋ #[_,rfl,h.1,h.2 _ H (É) æ h2]
   .show î
 .show î
def mH:vm:=λ ds S Q=>match ds with
 | [d]=>match yu d S with
  | some ds=>∀ p,S p=none->Q (Ü p) (ups S p (Ė ds))
  | none=>ò
 | _=>ò
def mH.mo:nG mH:=λ ds S Q Q' hq h=>by
 unfold mH at h ⊢;ext Ĩ
 .skip
  ext Ĩ
  .show λ p hp=>hq Ð (h p hp)
  .show î
 .show î
def mH.fits:mS K mH (λ xs H Q=>∃ p ys,Ű/\(yj å p ys\/yJ å p ys)/\Â2):=λ xs ds H S Q h0 h2 h=>by
 unfold mH at h;ext Ĩ
 .ext ü;ext Ĩ
  .ext Á1;exact#[a,ys,rfl,q,λ l hl=>?_];show h l (h2.none hl) Ð (É) ſ (h2.ups ſ #[ys,yD,Æ5 ſ _ r])
  .show î
 .show î
def mF:vm:=λ ds S Q=>match ds with
 | [ũ]=>Q (ũ) S
 | [.pP ds]=>Q (ũ) S
 | [Ü p]=>match S p with
  | Â5=>Q (ũ) S
  | _=>ò
 | _=>ò
def mF.mo:nG mF:=λ ds S Q Q' hq h=>by
 unfold mF at h ⊢;ext Ĩ
 .show ĳ
 .show ĳ
 .skip
  ext Ĩ
  .show ĳ
  .show î
 .show î
def mF.fits:mS K mF (λ xs H Q=>∃ p ys,Ű/\((yj å p ys/\Á2)\/(yJ å p ys/\Q (Ü p) H))):=λ xs ds H S Q h0 h2 h=>by
 unfold mF at h;ext Ĩ
 .ext ü;have h1':=h1;simp![zj] at h1;ext ű;show#[a,xs,rfl,Ŋ #[r1,h _ H h1' æ h2]]
 .ext ü;simp![zj] at h1;ext ű;exact#[a,xs,rfl,Ħ #[r1.sq,É5]];ext Ō
 .ext ü;ext Ĩ
  .rename_i e;simp![zj] at h1;subst h1;let#[xs,r1,r2]:=h2 Ð e;exact#[_,xs,rfl,Ħ #[yj.of r1,É5]];ext Ō
  .show î
 .show î
def nX (g:Ş):vm:=λ ds S Q=>match ds with
 | [Ğ i,Ğ j]=>Q (g i j) S
 | _=>ò
def nX.mo {g:Ş}:nG (nX g):=λ ds S Q Q' hq h=>by
 unfold nX at h ⊢;ext Ĩ
 .show ĳ
 .show î
def nX.fits ä:mS K (nX g) (λ xs H Q=>∃ i j,xs=[Ğ i,Ğ j]/\Q (g' i j) H):=λ xs ds H S Q h0 h2 h=>by
 unfold nX at h;ext Ĩ
 .let#[x,y,hx,h1,h3]:=h0.two;subst hx;simp![zj] at h1 h3;subst h1 h3;show#[_,_,rfl,h _ H (hg Ð H) æ h2]
 .show î
def jI (to te:zy):zy:=fun δ S Q=>to Í λ x S1=>match x with
 | Ü p=>(∃ ds,S1 p=↑(Ė ds))/\te Ģ λ y S2=>match S2 p with
  | Â5=>ľ<ê/\Q .zk (ups S2 p (Ė (ds++[y])))
  | _=>ò
 | _=>ò
def jI.mo {to te:zy}(h:yG to) (h':yG te):yG (jI to te):=fun δ S Q Q' hq z=>h Ē (λ x S1 z=>by
 cases x with
 | ref p=>
  exact#[z.1,h' Ģ Ð (λ y S2 w=>?_) z.2];split at w
  .show#[w.1,hq Ð w.2]
  .show w.elim
 | _=>show z) z
theorem K0 {o e:Expr}{to te:zy}{e0:Expr}(hpe:PE X e0 (YG X.K "list" UZ (zY X.K to) (ai (zY X.K te) ah))) (h:yG to) (h':yG te):PD X e0 (jI to te):=by
 exact#[jI.mo h h',Ŗ hpe Ù];ext Ê;exact Ê2 h Ê6 z ā;cases x with
 | ref p=>
  let#[#[ds,hd],h1]:=h1;simp![zj] at q1;subst q1;let#[xs,g1,g2]:=p1 Ð hd;exact#[Ħ #[rfl,xs,yj.of g1],?_];exact Ê2 h' Å8;split at h2
  .rename_i ds' e3;let#[xs',g3,g4]:=p2 Ð e3;exact#[p,xs',w,rfl,rfl,g3,by rw[<- g4.length];show h2.1,?_];have e4:Ext H2 (upd H2 p (Ė (xs'++[w]))):=Ė g3 _;show h2.2 Ð (É) ((ŝ e2).trans e4) (p2.ups e4 #[_,yD,Æ5 e4 _ (g4.snoc q2)])
  .show h2.elim
 | _=>show h1.elim
end
structure ko where
 nx:Í0
 rt:DK
 bk:Í0:=λ _ _=>ò
 ct:Í0:=λ _ _=>ò
abbrev yw:=ko->Í0
structure ko.Le (E E':ko):Prop where
 nx:∀ δ S,E.nx Í->E'.nx Í
 rt:∀ d S,E.rt d S->E'.rt d S
 bk:∀ δ S,E.bk Í->E'.bk Í
 ct:∀ δ S,E.ct Í->E'.ct Í
def mO (t:yw):Prop:=∀ E E' δ S,ko.Le E E'->t E Í->t E' Í
def nZ Þ ý (D:Ends):ko:=#[v8 å D.nx,pH å D.rt,v8 å D.bk,v8 å D.ct]
theorem nZ.ext ö{D:Ends}è:(nZ å D).Le (nZ Ž D):=#[Å1,λ _ _ h=>pH.ext e h,Å1,Å1]
def Y6 Þ (t:yw):TS:=λ D σ H=>∃ δ S,ì/\Ā/\t (nZ å D) Í
structure yt Ň (st:Stmt) (t:yw):Prop where
 mo:mO t
 ps:PS X st (Y6 X.K t)
structure xw Ň (st:Æ8) (t:yw):Prop where
 mo:mO t
 ps:p9 X st (Y6 X.K t)
section
variable {Ġ}{É8}{st:Stmt}{rest:Æ8}{t u:yw}{Ł}{į}{te:zy}
def W6:yw:=λ E δ S=>E.nx Í
def iW (t u:yw):yw:=λ E δ S=>t { E with nx:=u E } Í
def iW.mo (h:mO t) (h':mO u):mO (iW t u):=λ E E' δ S hE z=>h { E with nx:=u E } { E' with nx:=u E' } Í #[fun δ S q=>h' E E' Í hE q,hE.rt,hE.bk,hE.ct] z
def uv:xw X [] W6:=#[λ _ _ _ _ hE h=>hE.nx Ð h,p9.imp Lb λ D σ H #[δ,S,r1,r2,h]=>h σ H r1 æ r2]
def uu (h:yt X st t):xw X [st] t:=#[h.mo,Xc h.ps]
def uw (h:yt X st t) (h':xw X rest u):xw X (st::rest) (iW t u):=by
 exact#[iW.mo h.mo h'.mo,p9.imp (Lc h.ps h'.ps) Ĺ];ext Ê;exact#[δ,S,r1,r2,h.mo { nZ X.K H D with nx:=u (nZ X.K H D) } _ Í #[fun δ' S' q σ' H' q1 q2 q3=>?_,Ã4,Ã4,Ã4] z];show#[δ',S',q1,q3,h'.mo Ð δ' S' (nZ.ext q2) q]
def Z6 (te:zy):yw:=λ E δ S=>te Í λ _ S1=>E.nx Ģ
def uC (he:PD X e te) (hs:swapsWith e none pos.line ą=pure Ī):yt X (.Expr e pos) (Z6 te):=by
 exact#[λ E E' δ S hE z=>he.mo Ē (λ _ _ q=>hE.nx Ð q) z,PS.imp (Ll he.pe hs) Ĺ];ext Ê;show Ê2 he.mo Ê6 z λ x S1 v H1 h1 q1 e1 p1=>h1 σ H1 (ĥ) e1 p1
def jG (te:zy):yw:=λ E δ S=>te Í E.rt
def u6 (he:PD X e te):yt X (.Return ↑e pos) (jG te):=by
 exact#[λ E E' δ S hE z=>he.mo Ē (λ _ _ q=>hE.rt Ð q) z,PS.imp (Lh he.pe) Ĺ];ext Ê;show Ê2 he.mo Ê6 z λ x S1 v H1 h1 q1 e1 p1=>h1 v H1 q1 e1 p1
def cY (c:xn) (t u:yw):yw:=λ E δ S=>c Í λ k S1=>if k=true then t E Ģ else u E Ģ
def uA {c:Expr}{p q:Æ8}{tc:xn}(hc:yh X c tc) (h:xw X p t) (h':xw X q u):yt X (.If c p q pos) (cY tc t u):=by
 exact#[λ E E' δ S hE z=>hc.mo Ē (λ k S1 z=>qI (h.mo Ð Ģ hE) (h'.mo Ð Ģ hE) z) z,PS.imp (Li hc.pt h.ps h'.ps) Ĺ];ext Ê;exact pB.go hc.mo Ê6 z λ k S1 H1 h1 e1 p1=>ĵ
 .show#[δ,S1,ĥ,p1,h.mo Ð Ģ (nZ.ext e1) z]
 .show#[δ,S1,ĥ,p1,h'.mo Ð Ģ (nZ.ext e1) z]
abbrev wO:=D->yz->SS->(Í0)->Prop
abbrev p7:=ÿ->yz->SS->(Í0)->Prop
def bB (t:wO):Prop:=ĺ
def PJ (t:p7):Prop:=ĺ
def eP Þ (t:wO):TG:=λ v σ H Q=>∃ d δ S,Æ4/\ì/\Ā/\t d Í (v8 å Q)
def Ue Þ (t:p7):kP:=λ v σ H Q=>∃ d δ S,zw å d v/\ì/\Ā/\t d Í (v8 å Q)
structure nE Ň (e:Expr) (t:wO):Prop where
 mo:bB t
 pg:PG X e (eP X.K t)
structure gh Ň (es:Ĝ) (t:p7):Prop where
 mo:PJ t
 pg:kh X es (Ue X.K t)
def PG.imp į{t t':TG}(h:PG X e t) Ç6:PG X e t':=ŗ
def kh.imp {e:Ĝ}{t t':kP}(h:kh X e t) Ç6:kh X e t':=ŗ
def hName È8:wO:=λ d δ S Q=>Q (δ.set i ↑d) S
def Kt į Î2(h:PG X e (fJ i)):nE X e (hName i):=
 #[λ _ _ _ _ _ hq z=>Í2,PG.imp h λ v σ H Q #[d,δ,S,r1,r2,r3,z]=>z _ H (r2.set i r1) æ r3]
def Zn:p7:=λ ds δ S Q=>ds=[]/\Q Í
def ck (t:wO) (u:p7):p7:=λ ds δ S Q=>match ds with
 | d::r=>t d Í fun δ' S'=>u r δ' S' Q
 | []=>ò
def uK:gh X [] Zn:=by
 exact#[λ _ _ _ _ _ hq z=>ŵ,kh.imp LC È5];let#[d,δ,S,r1,r2,r3,z1,z2]:=hu;subst z1;simp![zw] at r1;show#[r1,z2 σ H r2 æ r3]
def uL į{es:Ĝ}{t:wO}{u:p7}(h:nE X e t) (h':gh X es u) (hs:(assignEach (e::es) ą).map (·.2)=assign e ą::(assignEach es ą).map (·.2)):gh X (e::es) (ck t u):=by
 exact#[λ ds δ S Q Q' hq z=>?_,kh.imp (LD h.pg h'.pg hs) È5]
 .cases ds with
  | nil=>show z
  | cons d r=>show h.mo d Ē (fun δ' S' z=>h'.mo r δ' S' Ð hq z) z
 .let#[ds,δ,S,r1,r2,r3,z]:=hu;cases ds with
  | nil=>show z.elim
  | cons d r=>
   simp![zw] at r1;let#[x,xs,rfl,q1,q2]:=r1;exact#[x,xs,rfl,d,δ,S,q1,r2,r3,h.mo d Ē (fun δ' S' z σ' H' g1 g2 g3=>?_) z];show#[r,δ',S',Æ5 g2 r q2,g1,g3,h'.mo r δ' S' Ð (fun δ2 S2 z2=>v8.ext g2 z2) z]
def j7 (n:Nat) (t:p7):wO:=λ d δ S Q=>match d with
 | ũ=>ľ=n/\t ds Í Q
 | _=>ò
def Ks į Í5{t:p7}(h:PG X e (Rw X.K n (Ue X.K t))) (hm:PJ t):nE X e (j7 n t):=by
 exact#[λ d δ S Q Q' hq z=>?_,PG.imp h È5]
 .cases d with
  | tup ds=>show#[z.1,hm ds Ē hq z.2]
  | _=>show z
 .let#[d,δ,S,r1,r2,r3,z]:=hu;cases d with
  | tup ds=>
   simp![zj] at r1;let#[a,xs,rfl,q1,q2]:=r1;show#[a,xs,rfl,q1,by rw[<- q2.length];show z.1,ds,δ,S,q2,r2,r3,z.2]
  | _=>show z.elim
def pW (te:zy) (g:wO):yw:=λ E δ S=>te Í λ x S1=>g x Ģ E.nx
def pW.mo {g:wO}(h:yG te) (h':bB g):mO (pW te g):=λ E E' δ S hE z=>h Ē (λ x S1 q=>h' x Ģ Ð (fun δ S q=>hE.nx Ð q) q) z
def Nw {g:wO}(h:yG te) (h':bB g) {D:Ends}Ś ġ(hu:Y6 K (pW te g) D σ H):eU (zY K te) (eP K g) D σ H:=by
 ext Ê;exact Ê2 h Ê6 z ā;show#[x,δ,S1,q1,ĥ,p1,h' x Ģ Ð (fun δ S q=>v8.ext e1 q) h1]
def uE {tg e:Expr}{g:wO}(he:PD X e te) (hg:nE X tg g) (hs:swapsWithSole [tg] e pos.line ą=pure Ī) (hw:swappedStores [tg] e ą=pure none)
  (h1:(assignEach [tg] ą).map (·.2)=[assign tg ą]):yt X (.Assign [tg] e pos) (pW te g):=
 #[pW.mo he.mo hg.mo,PS.imp (Tc he.pe hg.pg hs hw h1) λ _ _ _ hu=>Nw he.mo hg.mo hu]
def Ko {e0:Stmt}Î2(h:PS X e0 (eU (zY X.K te) (fJ i))) (hm:yG te):yt X e0 (pW te (hName i)):=by
 exact#[pW.mo hm λ _ _ _ _ _ hq z=>Í2,PS.imp h Ĺ];ext Ê;exact Ê2 hm Ê6 z ā;show h1 _ H1 ((ĥ).set i q1) e1 p1
end
structure bO where
 items:ÿ
 keep:â
abbrev pz:=yz->SS->(bO->â)->Prop
def ZU (t:pz):Prop:=∀ δ S (Q Q':bO->â),(∀ I S',Q I S'->Q' I S')->Â4
def Vp Þ (H1:Hp) (J:It) (I:bO):Prop:=∀ È8 ý (S:SS),Ext H1 H->Ā->I.keep S->
 (∀ d,I.items[i]?=↑d->J.go i H/\∀ x H',J.gH i H x H'->Æ6/\yb Ž S/\zj Ž d x)/\(ņ<=i->J.stop i H)
def F8 Þ ý (R:It->Č):bO->â:=λ I S1=>∀ J H1,Ext H H1->yb K H1 S1->Vp K H1 J I->R J H1
def oJ Þ (t:pz):TI:=fun σ H R=>∃ δ S,ì/\Ā/\t Í (F8 å R)
structure xW Ň (tg iter:Expr) (t:pz):Prop where
 mo:ZU t
 pi:PI X tg iter (oJ X.K t)
def PI.imp Ġ{tg e:Expr}{t t':TI}(h:PI X tg e t) Ý:PI X tg e t':=ó
section
variable {Ġ}{É8}{tg e:Expr}{Ł}
theorem zw.at ġ Å2 à Î2 Î3{x:V}(r:ë) (h1:ds[i]?=↑d) (h2:xs[i]?=↑x):ŕ:=by
 let#[y,e1,e2]:=r.get h1;rw[h2] at e1;cases e1;show e2
def ng (lo:Int) (n:Nat):ÿ:=(Ã5 n).map λ(k:Nat)=>D.int (lo+(k:Int))
def MN {lo:Int}{n i:Nat}Î3(h:(ng lo n)[i]?=↑d):i<n/\d=Ğ (lo+(i:Int)):=by
 unfold ng at h;rw[AF] at h;cases q:(Ã5 n)[i]? with
 | none=>rw[q] at h;cases h
 | some j=>
  rw[q] at h;let#[h1,h2]:=AM.mp q;rw[zC5] at h1;rw[zc8] at h2;subst h2;cases h;show#[h1,rfl]
def MM (lo:Int) (n:Nat):(ng lo n).length=n:=by unfold ng;rw[AQ,zC5]
def Vp.range {H1:Hp}{lo:Int}Í5:Vp K H1 (bC lo n) #[ng lo n,λ _=>True]:=λ i H S _ x2 _=>by
 exact#[λ d hd=>?_,λ hl=>by rw[show (bO.mk (ng lo n) λ _=>True).items=ng lo n from rfl,MM] at hl;show hl];let#[h1,rfl]:=MN hd;exact#[h1,λ x H' q=>?_];let#[rfl,rfl]:=q;show#[.refl _,x2,É]
def XI Î4:pz:=fun δ S R=>t Í λ ds S1=>match ds with
 | [Ğ j]=>(-(2 ^ 62)<=j/\j<2 ^ 62)/\R #[ng 0 j.toNat,λ _=>True] S1
 | _=>ò
def XH Î4:pz:=fun δ S R=>t Í λ ds S1=>match ds with
 | [Ğ i,Ğ j]=>(-(2 ^ 62)<=i/\i<2 ^ 62/\-(2 ^ 62)<=j/\j<2 ^ 62)/\R #[ng i (j-i).toNat,λ _=>True] S1
 | _=>ò
variable {tA:ya}
def Kr (h:PI X tg e (Rl Í4)) (hm:lE tA):xW X tg e (XI tA):=by
 exact ı
 .split at z
  .show ŵ
  .show z.elim
 .ext þ;split at h1
  .let#[x,rfl,q]:=q1.one;simp![zj] at q;subst q;show#[_,rfl,h1.1.1,h1.1.2,h1.2 _ H1 e1 p1 .range]
  .show h1.elim
def Kq (h:PI X tg e (Rj Í4)) (hm:lE tA):xW X tg e (XH tA):=by
 exact ı
 .split at z
  .show ŵ
  .show z.elim
 .ext þ;split at h1
  .let#[x,y,rfl,q,q']:=q1.two;simp![zj] at q q';subst q q';show#[_,_,rfl,h1.1,h1.2 _ H1 e1 p1 .range]
  .show h1.elim
def c_ (ti:pz) (g:wO) (tb:yw):yw:=λ E δ S=>ti Í λ I S1=>∃ W:Nat->Í0,W 0 Ģ/\(∀ i δ S,W i Í->I.keep S)/\
 (∀ i d δ S,I.items[i]?=↑d->W i Í->g d Í fun δ2 S2=>tb { E with nx:=W (i+1),ct:=W (i+1),bk:=E.nx } δ2 S2)/\∀ δ S,W ņ Í->E.nx Í
def c_.mo {ti:pz}{g:wO}{tb:yw}(hi:ZU ti) (hg:bB g) (hb:mO tb):mO (c_ ti g tb):=λ E E' δ S hE z=>hi Ē (λ I S1 #[W,w0,wk,ws,wd]=>by
 exact#[W,w0,wk,λ i d δ S hd hw=>hg d Ē (fun δ2 S2 z=>hb { E with nx:=W (i+1),ct:=W (i+1),bk:=E.nx } { E' with nx:=W (i+1),ct:=W (i+1),bk:=E'.nx } δ2 S2 #[Ã4,hE.rt,hE.nx,Ã4] z) (ws i d Í hd hw),fun δ S q=>hE.nx Ð (wd Í q)]) z
def uB {iter:Expr}{body:Æ8}{ti:pz}{g:wO}{tb:yw}(hp:PassesOwn Ó ą X.xe) ė (hi:xW X tg iter ti) (hg:nE X tg g) (hb:xw X body tb)
  (hs:ĩ):yt X (.For tg iter body [] pos) (c_ ti g tb):=by
 exact#[c_.mo hi.mo hg.mo hb.mo,PS.imp (Lj hp hc hi.pi hg.pg hb.ps hs) Ĺ];ext Ê;exact#[δ,S,r1,r2,hi.mo Ē (λ I S1 hW J H1 e1 p1 rep=>?_) z];let#[W,w0,wk,ws,wd]:=hW;exact#[λ i m σ H2=>m=ņ-i/\i<=ņ/\Ext H1 H2/\∃ δ S,xv X.K H2 δ σ/\yb X.K H2 S/\W i Í,#[_,rfl,A0 _,.refl _,δ,S1,ĥ,p1,w0],?_];rintro i m σ2 H2 ⟨rfl,hi',x2,δ2,S2,q1,q2,w2⟩;let#[g1,g2]:=rep i H2 S2 x2 q2 (wk i δ2 S2 w2);by_cases hl:i<ņ
 .have hd:I.items[i]?=↑I.items[i]:=by simp[hl]
  let#[go,yl]:=g1 _ hd;exact Ŋ #[go,fun σ' H'=>Ext H1 H'/\∃ δ S,xv X.K H' δ σ'/\yb X.K H' S/\W (i+1) Í,fun σ' H' q=>#[_,⋯,rfl,hl,q],λ x H3 hy=>?_];let#[x3,p3,d3]:=yl x H3 hy;exact#[_,δ2,S2,d3,q1.ext x3,p3,hg.mo _ δ2 S2 Ð (fun δ4 S4 z4 σ4 H4 a1 a2 a3=>?_) (ws i _ δ2 S2 hd w2)];exact#[δ4,S4,a1,a3,hb.mo Ð δ4 S4 #[Ď,λ _ _ q=>pH.ext Ê5 q,λ _ _ q=>v8.ext Ê5 q,Ď] z4]
 .have e:i=ņ:=⋯;subst e;show Ħ #[g2 Å9,wd δ2 S2 w2 σ2 H2 q1 (ŝ x2) q2]
abbrev xE:=ÿ->É3
def mQ (sp:xE):Prop:=∀ ds S (Q Q':DK),ñ->sp ds S Q->sp ds S Q'
def mv Þ (sp:xE):Sp:=λ vs H Q _=>∃ ds S,zw å ds vs/\Ā/\sp ds S (pH å Q)
def ba (sp:xE) Î4:zy:=fun δ S Q=>t Í λ ds S1=>sp ds S1 Q
def Kz {sp:xE}{E:XK}į(h:PE X e (Uu (mv X.K sp) [] E Í4)) (hs:mQ sp) (hm:lE tA):PD X e (ba sp tA):=by
 exact#[fun δ S Q Q' hq z=>hm Ē (λ ds S1 z=>hs ds S1 Ð hq z) z,Ŗ h Ù];ext þ;rw[zaD];show#[ds,S1,q1,p1,hs ds S1 Ð (λ d S' q=>pH.ext e1 q) h1]
def oK (N:Đ) (ds:ÿ):yz:=ds.map some++List.replicate (N.length-ľ) none
theorem xv.init ġ{N:Đ}Å2{vs:ŏ}(r:zw å ds vs):xv å (oK N ds) (start N vs):=by
 have hl:=Ë2;exact#[by unfold oK L2.start;simp[hl],λ i d h=>?_];unfold oK at h;have hi:i<ľ:=by
  rcases BV i ľ with q | q
  .show q
  .rw[zaM (by exists q),zb3] at h;split at h <;> cases h
 rw[zaN (by exists hi),AF] at h;cases q:ds[i]? with
 | none=>rw[q] at h;cases h
 | some d'=>
  rw[q] at h;cases h;let#[x,e1,e2]:=r.get q;exact#[x,?_,e2];unfold L2.start;rw[zaN (by exists by lia),AF,e1];rfl
def Wd Ţ{mg:Aq}{base:Heap}ē Ç1{N ps:Đ}{k:Nat}{sp:xE}Â0 (Sc:vn N ps (zW st))
  (len:∀ ds S Q,sp ds S Q->ľ=ps.length)
  (hbody:∀ Á5 ý (E:XK),À8->
   ∃ t,xw Ń/\∀ ds S Q,sp ds S Q->t { nx:=λ _ S'=>Q .zk S',rt:=Q } (oK N ds) S):wg Ê9 xP (k+1) f fd ps (mv K sp):=by
 exact F.ok Sc (λ vs H Q E h=>?_) λ Af A outer s H vs Q E hr h=>?_
 .let#[ds,S,r1,_,z]:=h;rw[<- r1.length];show len Ð _ z
 .let#[ds,S,r1,r2,z]:=h;let#[t,ht,hq]:=hbody Af A outer s H E hr;exact#[_,ht.ps,oK N ds,S,.init r1,r2,ht.mo { nx:=λ _ S'=>pH å Q .zk S',rt:=pH å Q } Ð _ #[fun δ S' q σ' H' _ b c=>q .zk H' (É) b c,Ã4,λ _ _ q=>Ç8 q,λ _ _ q=>Ç8 q] (hq ds S _ z)]
def mz Ç2 (δ:yz):yz:=pick.map λ o=>o.bind λ i=>(δ[i]?).join
theorem xv.pick ġ{δ:yz}Ś(r:ì) Ç2:xv å (mz pick δ) Á9:=by
 exact#[by unfold mz my;simp,λ i d h=>?_];unfold mz at h;rw[AF] at h;cases q:pick[i]? with
 | none=>rw[q] at h;cases h
 | some o=>
  rw[q] at h;cases o with
  | none=>simp at h
  | some j=>
   simp![Option.map_some,AI,Option.some.injEq] at h;have hj:δ[j]?=↑↑d:=by
    cases q2:δ[j]? with
    | none=>rw[q2] at h;cases h
    | some o2=>rw[q2] at h;simp![Option.join_some] at h;rw[h]
   let#[v,e1,e2]:=r.2 j d hj;exact#[v,?_,e2];unfold my;rw[AF,q];simp[e1]
def hJ (δ δ':yz):Prop:=δ.length=δ'.length/\∀ È8 d,δ[i]?=↑↑d->δ'[i]?=↑↑d
def hJ.rep ġ{δ δ':yz}Ś(h:hJ δ δ') (r:xv å δ' σ):ì:=#[h.1.trans r.1,λ i d q=>r.2 i d (h.2 i d q)]
structure fX Ň (ifs:Ĝ) (t:xn):Prop where
 mo:oG t
 pf:PF X ifs (pB X.K t)
def PF.imp {ifs:Ĝ}{t t':TT}(h:PF X ifs t) Ý:PF X ifs t':=ó
def RS:xn:=λ _ S Q=>Q true S
def uO:fX X [] RS:=#[λ _ _ _ _ hq z=>Í2,PF.imp LJ λ _ H _ #[_,_,_,r2,z]=>z H æ r2]
def uN {c:Expr}{t:xn}(h:yh X c t):fX X [c] t:=#[h.mo,LI h.pt]
end
end L3
namespace L2
open PySem Ç9 Ũ
def Hy Þ (tl:TE):TI:=fun σ H R=>tl σ H λ x H1=>∃ a,x=Ü a/\(((∃ xs,yj K H1 a xs)/\R (PN K a) H1)\/((∃ xs,yJ K H1 a xs)/\R (PM K a) H1))
def L8 Ġ{tg l:Expr}{tl:TE}(hl:PE X l tl):PI X tg l (Hy X.K tl):=by
 intro gV s σ H R I h;exact zM (hl À0 _ I h) λ v s1 #[x,H1,I1,r1,a,hx,q1]=>?_;subst hx;cases r1;have new:∀ b∈[s1.heap.objs.size],ml X gV H1 b:=λ b hb=>by
  obtain rfl:b=s1.heap.objs.size:=AJ.mp hb;show I1.Zp Å9 (I1.zv.fresh Å9)
 rcases q1 with ⟨⟨xs,hq⟩,q⟩ | ⟨⟨xs,hq⟩,q⟩
 .let#[Ab,_,pl,_]:=I1.list hq;show zcY Ů #[_,_,_,_,H1,rfl,Á7,N6 a _,ū,new,q]
 .let#[Ab,_,pt,_]:=I1.tuple hq;show zd0 (show s1.heap.IsTuple a õ from pt) #[_,_,_,_,H1,rfl,Á7,N4 a _,ū,new,q]
def range_all (bs:È0):(Ã5 bs.length).all (ĸ)=bs.all id:=by
 rw[BK,zE4,zE4];constructor
 .intro h b hb;let#[i,hi,rfl]:=zaI.mp hb;have:=h i (AL.mpr hi);simpa [hi] using this
 .intro h i hi;have hi':=AL.mp hi;have:=h bs[i] (B9 hi');simpa [hi'] using this
def range_any (bs:È0):(Ã5 bs.length).any (ĸ)=bs.any id:=by
 rw[BK,BB,BB];constructor
 .rintro⟨i,hi,h⟩;have hi':=AL.mp hi;show#[bs[i],B9 hi',by simpa [hi'] using h]
 .rintro⟨b,hb,h⟩;let#[i,hi,rfl]:=zaI.mp hb;show#[i,AL.mpr hi,by simpa [hi] using h]
theorem QL {bs:È0}{Ab:Ai}(r:Vals (bs.map V.bl) Ab) Î2{v:ę}(h:õ[i]?=↑v):v=.bool (bs.getD i true):=by
 have hl:=Ë2;rw[AQ] at hl;have h':Ab[i]?=↑v:=by exists h
 have hi:i<bs.length:=by
  rw[hl];rcases BV i Ab.length with q | q
  .show q
  .rw[zb8 q] at h';cases h'
 let#[u,e1,e2]:=r.get (i:=i) (x:=.bl bs[i]) (by simp[hi]);rw[h'] at e1;cases e1;have:v=.bool bs[i]:=e2;rw[this];simp[hi]
section
variable {Ġ}
theorem EG ė:xR X (Â6 "all") (λ xs H Q=>∃ p,∃ bs:È0,Ű/\yj X.K H p (bs.map V.bl)/\Q (.bl (bs.all id)) H):=by
 ext Ã9
 exact call_all_walk (zcY Ů ?_);exact Ì
 .rw[QL rv hv];show zcN hq'
 .have e:(Ã5 Ĥ).all (ĸ)=bs.all id:=by rw[AN,<- hl,range_all]
  ext ď
theorem EF ė:xR X (Â6 "any") (λ xs H Q=>∃ p,∃ bs:È0,Ű/\yj X.K H p (bs.map V.bl)/\Q (.bl (bs.any id)) H):=by
 ext Ã9
 exact call_any_walk (zcY Ů ?_);exact Ì
 .rw[QL rv hv];show zcN hq'
 .have e:(Ã5 Ĥ).any (ĸ)=bs.any id:=by rw[AN,<- hl,range_any]
  ext ď
end
end L2
namespace L3
open PySem Ç9 L2
open Ũ hiding St
structure Bt (mg:Aq):Prop where
 len:mg "len"=none
 range:mg "range"=none
 any:mg "any"=none
 all:mg "all"=none
 sorted:mg "sorted"=none
 isinstance:mg "isinstance"=none
 bool:mg "bool"=none
 int:mg "int"=none
 str:mg "str"=none
 list:mg "list"=none
 tuple:mg "tuple"=none
 max:mg "max"=none
 min:mg "min"=none
section
variable {Ġ}{a e:Expr}{es:Ĝ}{te:zy}{pos p:Pos}
def zV {N':Đ}Î1{ć esc:Scope}{N:Đ}(hE:X.env.scope=esc:=by rfl) (hN:X.N=N:=by rfl) (h1:scope.kind=.function:=by rfl)
  (h2:scope.names.all (λ y=>ī (Ě y.1=↑y.2))=true:=by decide +kernel)
  (h4:scope.names.all (λ y=>! ī (y.2=ž)||(ī (esc.names.lookup y.1=↑ Ì3)||ī (esc.names.lookup y.1=↑ ž)))=true:=by decide +kernel)
  (h5:pick.length=N'.length:=by rfl) (h6:gZ N N' pick ć=true:=by decide +kernel):Š:=by
 exact#[h1,λ y hy=>of_decide_eq_true (zE4.mp h2 y hy),λ y hy hf=>?_,h5,by rw[hN];show h6];have:=zE4.mp h4 y hy;rw[za3 hf] at this;rw[hE];exists this
)
example:=`(
example À(I:Inv X gV σ H s):=0
example Á _:=x ‹_› hA
example ù{ds:List D}:=0
example Ú:=List T
example Æ1{ts:Ú}:=0
example Â Æ1 ù:=0
example ć _:=x S Z δ Y
example ů _:=x ć x _ hE e1 λ d S1 s1 r1=>?_
example Î2:=Ak.mp e
example Ã:=by let#[x,e1,e2]:=Î2;exact h ů
example Ä _:=x _ _
example Ŀ{H:Hp}:=0
example Æ7:=Shared
example Å{gV:Am}{σ:St}Ŀ{s:Æ7}:=0
example Æ:=Option
example ř _:=x _ (hE.grow s1) e2
example ĳ:=(s1.trans s2)
example č _:=x Z δ Y
example Ç _:=x S1 č y ř λ d S2 s2 r2=>hq d S2 ĳ (Cl.cl s1 r2)
example È:=p.getD
example ģ:=List Key
example Ä5:=List (ģ ×V)
example ā:=Value
example Å8:=List (ģ ×Addr× ā)
example É{Aa:Ä5}{xs:Å8}(r:KT H Aa xs):=0
example Ê:=zq S ts ds
example Ë:=by simp![zq] at h;let#[c,cs,rfl,h1,h2]:=h
example ċ:=List Int
example Ì:=List (ċ)
example Ç0:=decide
example Í:=λ kv=>Ç0 (kv.1=k)
example Î:=by let#[_,_,q,g]:=h2.jF p r2;cases q
example Ï:=if_neg
example Ĩ:=List (κ × V)
example Ð{Aa:Ĩ}{vs:List (κ × ā)}(r:KV Aa vs):=0
example Ñ:=if_pos
example Ò _:=x S (.refl S)
example Ó(he:AA X e es) (An:AH X pos es):=0
example Ô:=List (Key×V)
example Õ:=by rcases h with h | ⟨_,_,_,h,_⟩
example Ö:=false
example Ø:=vs.length
example Ù:=by let#[x,e1,e0]:=Î2;let#[xs,e2,e3]:=Ak.mp e0;cases e3;exact h ů;exact h' S1 č xs ř λ ds S2 s2 r2=>?_
example Å0:=by let#[d,rfl,h1]:=nI hv
example Û:=by ext Å0;let#[ts,e1,rfl]:=Aw.mp e;let#[es,h2,h3]:=h1.seq e1
example Ü _:=x ⋯ ⋯
example Ý:=Array Nat
example É4{k:Nat}:=0
example Þ É4(hr:yg k X.A) (ha:PD X a ta) (hb:PD X b tb):=0
example É3:=(by change X.A.units+1+_<_;lia)
example ß _:=x (λ y hy=>Po I a3 a6 g2 w1 a4 a1 rx (A:=X.A.in1) É3 É3 (by exists hy)) #[.bl _,H,I,rfl,?_]
example à:=(λ _=>nofun)
example á:=vs.toArray
example â:=sizeLine
example ã:=by rw[zX (ou q h (by intro z;cases z))];show q
example ä _:=x X.K H
example å:=.ref
example æ _:=x (model prog w) A
example ç:=by let#[_,_,_,_,_,q,_]:=h2.kL r2;cases q
example è:=Addr->Prop
example é:=T->T->Æ T
example Ç6:=List (Key×D)
example ê{Aa:Ç6}{vs:Ô}:=0
example ë:=ts.length
example ì:=by let#[δ,S,r1,r2,z]:=hu
example í:=.int
example ē:=[].toArray
example Ä7:=s.heap.update a (Obj.mapSeq λ _=>ē)
example î:=(((Ä7).push (seqObj "tuple" á 0)).push (seqObj "list" ē 0)).get?
example ï:=by simp![dep] at hn hu hu';let#[e1,e2,q]:=el hn hu hu' g1 g2 r1 r2 v1 v2;exact en (λ z=>by cases hq z;rfl) ?_;rw[Ws,<- e1,<- e2]
example Å3:=zw ä ds xs
example Ş{xs:List V}:=0
example ð Ş{Ab:Ai}(h1:Ê) (h2:Å3) (h3:Vals xs Ab):=0
example ñ:=HT.lexLt
example ò _:=x e (λ z=>nomatch z) fin
example ó:=Nat->Nat->Bool
example ô _:=x X.prog X.w
example õ(ha:y6 X (e::es) tA):=0
example ö:=.lst ts
example ø(he:PD X e te) (hg:Gl X "isinstance"):=0
example ú:=nomatch h2.flat r2
example û:=by let#[_,_,_,q,_]:=h2.lT p r2;cases q
example ü:=by rintro r ⟨a1,a2,a3,a4⟩;show#[a1,⋯,⋯,a4]
example ý(ha:xx fa ta) (hb:xx fb tb):=0
example þ:=#[hp.below ⋯,hp.below ⋯,?_]
example ÿ:=s.heap.objs.size
example Ā:=Aa.length
example Å1:=s.heap.get?
example Ă:=Å1 b=↑o
example ă(o:Ord lt):=0
example Ą:=by let#[_,_,_,q,_]:=h2.lM r2;cases q
example ą:=.Name
example Ć:=by intro gV s σ H x y v u Q I rx ry h;let#[S,d,e,t,u',a1,a2,a3,a4,a5,a6,a7,q]:=h
example Ĉ:=(seqObj "list" á 0)
example ĉ:=Ev->Æ Bool
example Ċ{g:Int->Int->T}{g':Int->Int->D}(h:∀ i j S,Sn S (g i j) (g' i j)) (n:∀ i j ts,g i j≠ ö):=0
example Č{a:Addr}:=0
example Ď _:=x Ä _
example ď:=.cons
example Đ:=by exact#[dd.typeIs,λ b q=>?_,hd];cases q;let#[ob,_,_,h1,h2,_]:=dd;show#[ob,h1,h2.2.1]
example đ:=Ev->Æ (Ú)
example Ē(p:yb ä S):=0
example Ĕ:=Æ7->Prop
example Æ2:=λ kv=>if kv.1=k then (kv.1,v) else kv
example Å4:=(Aa.any Í)
example ĕ:=if Å4=true then Aa.map (Æ2) else Aa++[(k,v)]
example Ė:=(a == sysModules)=Ö
example ė:=yf (fG (λ _ _ _=>pO) λ _ _ _=>nofun) ha hb
example Ę:=(.dK Aa)
example ę:=PySem.W.kia_one
example Ě:=(.lst ds)
example ě:=by let#[_,_,#[o,e,c,_],_]:=I.tuple h1
example Ĝ:=by rw[e] at e';cases e';rw[c] at c'
example Ã1:=(kf Ab ts u)
example ĝ:=by rw[show Ab.toArray.any Ã1=Ab.any Ã1 by simp,Pn I a3 a6 g2 w1];show q
example Ğ _:=x PySem.F.slot_dict_get dd.typeIs PySem.F.entry_dict_get (PySem.F.args_dict_get_3 Ď)
example ğ{P:Program}{w:World}:=0
example Ġ:=X.env
example ġ:=(·.2)
example Ģ:=Sn S t d
example Ĥ _:=x ha.pa () () he An
example ĥ:=.tup
example Ŝ:=cLine
example Ħ(hu:X.A.units+1<Ŝ) (ho:PE X o td):=0
example ħ:=h1.length.trans (r1.length.trans (r2.length.symm.trans h2.length.symm))
example Ç3:=Value.ref
example ĩ:=by subst ey;cases (show u=Ç3 b from ry);let#[z,hd,xs,rel,dd]:=cN I.zv e
example Ī:=λ r=>vd n r.2/\r.1<=n/\nD lt r.2 r.1
example ī:=ts.any λ t=>eqT t u
example Ĭ _:=x (e::es) [] pos
example ĭ É4(hr:yg k X.A) (ho:PD X o td):=0
example Į:=(È k 0)
example į:=lt (È m 0) (È (m-1) 0)
example İ:=by simp![zj]
example ı:=(zK S Z)
example Ĳ:=(Cl.of à oh)
example Ĵ:=by cases h
example ĵ{d:D}:=0
example Ķ(ry:RelV y u):=0
example ķ:=A.units
example ĸ:=Sx S S'
example Ĺ Ş{us:Ai}{l:Addr}(g:Ê) (r:zw K H ds xs) (v:Vals xs us):=0
example ĺ _:=x Ä Á
example Ļ(ok:yK P w H h):=0
example ļ:=by rcases g with ⟨Aa,k,e,ey,l⟩ | ⟨Aa,k,b,e,ey,eb,l⟩
example È8:=vs.toArray.zip á
example Ľ:=(arrOf (SortSt.mk' general' (È8) ē 7 none)).map ġ
example ľ{p:Ý}(hp:vd n p):=0
example ŀ{A:Around}:=0
example Ł:=zj ä d x
example Ç5:=tupleKind (ox P w)
example ł:=Ā<=â/\Ė/\ ∃ xs,KT H Aa xs/\h.DictOfH (Ç5) a xs
example Ń:=by let#[z,hd,vs,rel,dd]:=fO I.zv e
example ń:=tp (seqEpoch_at g6 rfl (tp (listUpdate_at g6 rfl ?_ (A0 _) ?_)))
example Æ6:=o.refl _
example Ņ:=by subst this;show Æ6
example ņ:=by simp![zj] at r
example Ň:=.inl
example ň:=PyProof.Rows
example ŉ:=by simpa only [Sn] using q
example Ŋ:=hq S1 s1
example ŋ:=by rw[h1.length,h2.length,h3.length]
example Ō:=by subst ex;obtain rfl:u=Ç3 a:=rx
example ō:=by let#[b,e1,e2]:=Î2;exact h ć b _ hE e1 λ S1 s1=>?_;split at e2
example Ŏ:=False
example ŏ:=hq _ Ò (Cl.of à pO)
example Ő:=by dsimp only
example ő:=λ a b=>ñ b a=Ö
example Œ:=True.intro
example œ:=List Bool
example Ŕ:=(f Y).bind
example ŕ{S:SS}:=0
example Ŗ(e2:L2.yc ds i=↑d) (h:Q d S):=0
example ŗ:=by rename_i t h;cases e;let#[d,h1,h2]:=hE.im i _ h;unfold yq;rw[h1]
example Ř:=by .simpa only [Sn] using h
example Ś:=xG.mono
example ś(S:SS) (Z:è):=0
example ŝ:=∀ a,Z a->S a≠none
example ş:=(backToKw Ad (keywordEach [] Ġ)).all (λ x=>x.1.isSome)
example Š:=(ts.getD j .zk)
example š:=H a=↑(.dK vs)
example Ţ(hf:X.fn x=true\/X.env.scope.names.lookup x=↑.local):=0
example ţ{X:Cx}:=0
example Ť:=kat_nil (by simpa [ñ] using h)
example ť:=wpAny
example Ŧ:=(ą "isinstance" p)
example ŧ:=.bl b
example Ũ:=λ z=>e (h1.trans z)
example ũ:=.Subscript o i pos'
example Ū:=by have q:=h1.flat r1;subst q
example ū:=.nil
example Ŭ:=wD K H Aa vs
example ŭ(i:Nat):=0
example Ů:=by ext ì;exact zY.go ho.mo r1 r2 z λ x S1 w H1 h1 q1 e1 p1=>?_
example Ű:=ÿ<=h1.objs.size->Q' vs { s with heap:=h1,toks:=tk }
example ű:=us.length
example Ų:=∃ bs:œ,yu d S=↑(bs.map D.bl)/\Q (.bl (g bs)) S
example ų:=by let#[a',xs',ds',q,k1,k2,k3]:=h2.lT p r2;cases q
example Ŵ:=of_decide_eq_false
example ŵ:=(show Ŏ from r).elim
example Ŷ:=Ā<=â/\Ė/\∃ vs,KV Aa vs/\h.DictOf (ox P w) a vs
example Å5:=putK Aa k v
example ŷ:=by have hl:(Å5).length<=â:=by have:=Sq Aa k v;lia
example Ÿ:=.Call
example Ź{vs:Ai}{rows:Ì}:=0
example ź:=by simp![Sn] at h
example Ż:=(kas_rev p i j).getD k 0
example ż:=by let#[a',xs',ds',q,k1,k2,k3]:=h2.lM r2;cases q
example Ž:=by have q:=h.flat r;subst q
example ž:=Paired.length
example ſ:=.str
example À0:=by simp[eqT]
example À1:=h1.symm.trans
example À2 _:=x Ä Ä
example À3(K:Ac) (H:Hp):=0
example À4 _:=x nu.fits nu.mo ha hb (m_ _)
example À5:=å p
example À6:=Le lt (È a 0) (È b 0)
example À7:=å a
example À8:=by let#[_,_,_,_,_,q,g,_]:=h2.kL r2;cases q
example À9:=(Ÿ (.Attribute o "get" apos) [e,f] [] Ad)
example Á0:=(Aa.map λ kv=>if kv.1=k then (kv.1,y) else kv)
example Á1{a C:Addr}{dx:Æ Addr}:=0
example Á2(h2:H a=↑(oH a C dx)):=0
example Á3:=(show ty=_ from hx)
example Á4:=Vd I a3 t u' (A:=X.A) Ü a4 a5 a1 a2 rx ry
example Á5:=by simp![zq] at h;subst h
example Á6:=by let#[_,_,#[o,n,e,c,_],_]:=I.list h1
example Á7 _:=x (r1.ext e1) p1 h1 λ y S2 w2 H2 h2 q2 e2 p2=>?_
example Á8:=(List.range n).toArray
example Á9:=.tuple_list ‹_› Á
example Â0:=by cases e2;change Q (!ds.isEmpty) S1;rw[h2.empty];show Ŋ
example Â1:=.list_tuple ‹_› Á
example Â2:=H b=↑(ĥ (k.map kV))
example Â3:=(e1.trans e2).trans e3
example Â4:=by simp![zj] at q1;let#[a,xs,rfl,g1,g2]:=q1
example Â5 _:=x hg2 () () he hg h1 h2 h3
example Â6(hi:X.N[i]?=↑x) (hx:Loc X.env.scope x):=0
example Â7:=by let#[xs,e1,e2]:=Î2
example Â8:=λ i j A_ hj=>?_
example Â9:=List (V× ċ)
example Ì1:=(.yp Aa)
example Ã0:=∃ a Aa,(d=À7/\Aa=[])/\S a=↑ Ì1
example Ã2:=by let#[o',_,e',c',_]:=Zf I h2;ext Ĝ;cases c'
example Ã3:=(if ([]:List Keyword).isEmpty then 0 else 1)
example Ã4:=Vb I p h1 h2 h3 u (j:=j) (by simp[hj])
example Ã5:=tupleKind_room_in1 hu
example Ã6{n:Nat}{lt:ó}:=0
example Ã7(rows:Ì):=0
example Ã8:=(model ô)
example Ã9(neg:Bool):=0
example Ä0(h:xx f t):=0
example Ä1:=(.bl (cond neg (!eqT t u) (eqT t u)))
example Ä2(hu:X.A.units+64<Ŝ):=0
example Ä3{v:V}(r:zj K H d v):=0
example Ä4:=by have q:=h2.flat r2;cases q;rfl
example Ä6{neg:Bool}:=0
example Ä8{p:Ý}{m:Nat}(hp:vd n p) (h1:1<=m):=0
example Ä9:=by by_cases e:p.1=k
example Å2:=h.objs.size
example Å6:=by ext ņ;let#[a,xs,rfl,g1,_]:=r;cases h
example Å7:=by have:l=r:=⋯;subst this;show#[h2,ha,hb]
example Å9:=zq ı ts ds
example Æ0:=by simp![bne_self_eq_false,BM,if_false]
example Æ3:=(∀ c S',ĸ->R S S' Z z c->Q c S')
example Æ4 _:=x S' Z y d
example Æ5:=È i 0
example Æ8:=by cases e2;show hq _ S1 s1 Ĳ
example Æ9:=.builtin
example Ç1:=ps.map (·.1)
example Ç2:=(wz ty T)
example Ç4:=H e=↑(oH e C dx)
example Ç7:=(r1.ext e1).ext e2
example Ç8:=δ[i]?=↑↑(À5)
example Ç9:=by simp![Sn]
example È0:=by rename_i e;cases h;let#[xs,g1,_]:=p Ä e
example È1 _:=x (.type ty) (.type T)
example È2:=by ext Ő;rw[e];show h
example È3:=by simp![Sn] at q ⊢
example È4{S S':SS}:=0
example È5{f:Ae}{t:zy}:=0
example È6{tg:Expr}(hm:X.mg "range"=none):=0
example È7 _:=x ô X.xe _ #[.bl _,H,I,rfl,q]
example È9:=Value.none
example É0:=backTo Ad (starEach [e,f] Ġ)
example É1:=Vw S Z y d
example É2:=h' S1 č y ř λ S2 s2=>hq S2 ĳ
example É5:=by ext ņ;let#[a,xs,rfl,g1,g2]:=r
example É6:=by subst this;rw[Y7 I p ts us g3 k3 g2 k2]
example É7 _:=x gV s1 σ H1 _ I1 q1
example É8:=absurd
example É9:=ą "tuple" q
example Ê0:=by simp[v7]
example Ê1{α β:Type}:=0
example Ê2:=by ext Ő;rw[Ï zaF]
example Ê3{y:V}{u:ā}:=0
example Ê4:=by have e:j=k:=⋯;subst e;by_cases hi:i=j
example Ê5:=by rename_i hb;ext Ő
example Ê6:=fun σ H Q hu=>?_
example Ê7:=is'.toArray.size
example Ê8:=.bool_tuple _ Á
example Ê9:=(.bl (cond neg (!(ī)) (ī)))
example Ë0:=Inv X gV σ H s'
example Ë1:=Sn (zK S' Z) y d
example Ë2:=hq _ Ò (Cl.of (n Ä) (h Ď))
example Ë3(hc:X.calm=true):=0
example Ë4 _:=x nX.mo (nX.fits λ _ _ _=>İ) ha.mo
example Ë5 _:=x A s (å l) (å l')
example Ë6:=.tuple_bool _ Á
example Ë7 _:=x _ H (İ) (.refl H)
example Ë8:=(apos.endLine == Ad.line)=true
example Ë9:=by simp[valueAt,zaU,e']
example Ì0:=(.dT Aa)
example Ì2:=by .rename_i h;rw[Ñ h] at e;show cw e
example Ì3(m:M2 X o "get" apos e f Ad):=0
example Ì4:=S p=↑ Ě
example Ì5:=xG.bind
example Ì6:=get?_update_seq
example Ì7:=(call (Æ9 "sorted") [À7])
example Ì8:=by cases e2;show Ŋ
example Ì9:=(qs.map ġ)
example Í0:=String
example Í1:=H a=↑ Ę
example Í2:=ą "bool" q
example Í3:=(í i)
example Í4:=t::ts
example Í5:=#[c,rfl,h1]
example Í6:=is.toArray.size
example Í7:=.bool_list _ Á
example Í8:=(I.tok _)
example Í9:=.new hp _
example Î0:=.list_bool _ Á
example Î1:=#[y,by simpa using e1,e2]
example Î3:=Decidable
example Î4{α:Type}:=0
example Î5{i j:Nat}:=0
example Î6(ts:Ú):=0
example Î7(h1:yJ ä a xs):=0
example Î8:=by let#[o',e',c']:=Ra I h2;ext Ĝ
example Î9{Aa:Ô}:=0
example Ï0(H:Hp) (a:Addr):=0
example Ï1 _:=x (k:=Sum.inl k) g1
example Ï2:=by ext Ã;split at e2
def uM ŭ {x:Str}(hN:X.N.Nodup) Â6 Ţ:nE X (ą x pos) (hName i):=
 Kt (LH hN hi hx hf)
def Xj É4{t:p7}{n:Nat}(h:gh X es t) Ë3 (hn:(assignEach es Ġ).length=n) (AB:(assignEach es Ġ).findIdx? (·.1)=none):nE X (.Tuple es k pos) (j7 n t):=
 Ks (LF hc h.pg hn AB) h.mo
def u5 ŭ {x:Str}{pos':Pos}(hN:X.N.Nodup) (he:PD X e te) Â6 (hs:swapsWith e ↑(ą x pos') pos.line Ġ=pure Ö)
  Ţ:yt X (.Assign [ą x pos'] e pos) (pW te (hName i)):=
 Ko (Tb hN hi hx he.pe hs hf) he.mo
def XG (te:zy):pz:=fun δ S R=>te δ S λ x S1=>match x with
 | ĥ ds=>R #[ds,λ _=>True] S1
 | .pP ds=>R #[ds,λ _=>True] S1
 | À5=>match S1 p with
  | some Ě=>R #[ds,λ S=>Ì4] S1
  | _=>Ŏ
 | _=>Ŏ
def uG {tg:Expr}(h:PD X e te):xW X tg e (XG te):=by
 exact#[fun δ S Q Q' hq z=>h.mo δ S Ä (λ x S1 z=>?_) z,?_]
 .cases x with
  | ref p=>
   dsimp only at z ⊢;split at z
   .show hq Ä z
   .show z.elim
  | pP ds=>show hq Ä z
  | tup ds=>show hq Ä z
  | _=>show z
 .exact PI.imp (L8 h.pe) fun σ H R hu=>?_
  ext ì;exact zY.go h.mo r1 r2 z λ x S1 v H1 h1 q1 e1 p1=>?_;cases x with
  | tup ds=>
   ext Â4;exact#[a,rfl,.inr #[#[xs,g1],h1 _ H1 e1 p1 λ i H2 S2 x1 x2 _=>#[λ d hd=>?_,λ hl=>#[xs,x1.aq g1,by rw[<- g2.length];show hl]]]];let#[y,hy,_]:=g2.get hd;exact#[#[xs,y,x1.aq g1,hy],λ x H' q=>?_];let#[rfl,q]:=q;show#[.refl _,x2,(zw.ext x1 ds g2).at hd (q xs (x1.aq g1))]
  | ref p=>
   dsimp only at h1;split at h1
   .rename_i ds e2;simp![zj] at q1;subst q1;let#[xs0,g1,_]:=p1 Ä e2;exact#[p,rfl,Ň #[#[xs0,yj.of g1],h1 _ H1 e1 p1 λ i H2 S2 x1 x2 hk=>?_]];let#[xs,g3,g4]:=x2 Ä hk;exact#[λ d hd=>?_,λ hl=>#[xs,yj.of g3,by rw[<- g4.length];show hl]];let#[y,hy,_]:=g4.get hd;exact#[#[xs,y,yj.of g3,hy],λ x H' q=>?_];let#[rfl,q]:=q;show#[.refl _,x2,g4.at hd (q xs (yj.of g3))]
   .show h1.elim
  | pP ds=>
   ext Â4;exact#[a,rfl,Ň #[#[xs,g1.sq],h1 _ H1 e1 p1 λ i H2 S2 x1 x2 _=>#[λ d hd=>?_,λ hl=>#[xs,(x1.au g1).sq,by rw[<- g2.length];show hl]]]];let#[y,hy,_]:=g2.get hd;exact#[#[xs,y,(x1.au g1).sq,hy],λ x H' q=>?_];let#[rfl,q]:=q;show#[.refl _,x2,(zw.ext x1 ds g2).at hd (q xs (x1.au g1).sq)]
  | _=>show h1.elim
end
end L3
namespace L4
open PySem PySem.W ň
def xG Î4(n:Nat) (lt:ó):KasT α->(α->Prop)->Prop
 | .ret a,Q=>Q a
 | .ask i j k,Q=>i<n/\j<n/\xG n lt (k (lt i j)) Q
theorem Ś Î4 Ã6{Q Q':α->Prop}(hq:∀ a,Q a->Q' a):∀ {t:KasT α},xG n lt t Q->xG n lt t Q'
 | .ret _,h=>hq _ h
 | .ask Ď,h=>#[h.1,h.2.1,Ś hq h.2.2]
theorem Ì5 Ê1 Ã6{f:α->KasT β}{Q:β->Prop}:∀ {t:KasT α},xG n lt t (λ a=>xG n lt (f a) Q)->xG n lt (t.bind f) Q
 | .ret _,h=>h
 | .ask Ď,h=>#[h.1,h.2.1,Ì5 h.2.2]
section
variable {Ã6}
def Le (lt:ó) (a b:Nat):Prop:=lt b a=Ö
structure Ord (lt:ó):Prop where
 tr:∀ a b c,Le lt a b->Le lt b c->Le lt a c
 as:∀ a b,lt a b=true->Le lt a b
def Ord.refl ă (a:Nat):Le lt a a:=by
 cases h:lt a a with
 | Ö=>show h
 | true=>show o.as a a h
def vd (n:Nat) (p:Ý):Prop:=p.Perm Á8
theorem vd.size {p:Ý}(h:vd n p):p.size=n:=by rw[Array.Perm.size_eq h];simp
theorem vd.below {p:Ý}(h:vd n p) {i:Nat}(hi:i<n):Æ5<n:=by
 have hs:=h.size;have hm:Æ5 ∈p:=by
  rw[zbP,BW ⋯];show Array.getElem_mem ⋯
 have:Æ5 ∈ Á8:=(Array.Perm.mem_iff h).mp hm;exists this
def cw {p q:Ý}Î5(h:p[i]?=q[j]?):Æ5=q.getD j 0:=by rw[zbP,zbP,h]
def nD (lt:ó) (p:Ý) (k:Nat):Prop:=∀ i j,i<=j->j<k->Le lt (Æ5) (È j 0)
def kq (lt:ó) (p:Ý) (k:Nat):Prop:=∀ i j,i<=j->j<k->Le lt (È j 0) (Æ5)
def nD.next ă {p:Ý}É4(h:nD lt p k) (hk:1<=k) (hl:Le lt (È (k-1) 0) Į):nD lt p (k+1):=λ i j A_ hj=>by
 by_cases hjk:j<k
 .show h i j A_ hjk
 .ext Ê4
  .subst hi;show Æ6
  .show o.tr Ď (h i (j-1) Ü) hl
def kq.next ă {p:Ý}É4(h:kq lt p k) (hk:1<=k) (hl:Le lt Į (È (k-1) 0)):kq lt p (k+1):=λ i j A_ hj=>by
 by_cases hjk:j<k
 .show h i j A_ hjk
 .ext Ê4
  .subst hi;show Æ6
  .show o.tr Ď hl (h i (j-1) Ü)
theorem Va ă ľ:∀ (f a:Nat),1<=a->a+f<=n->nD lt p a->
  xG n lt (kas_asc p f a) λ m=>a<=m/\m<=a+f/\nD lt p m/\(m=a+f\/į=true)
 | 0,a,_,_,hs=>#[Ap _,Ap _,hs,Ň rfl]
 | f+1,a,h1,h2,hs=>by
  exact þ;cases c:lt (È a 0) (È (a-1) 0) with
  | true=>show#[Ap _,⋯,hs,.inr c]
  | Ö=>
   exact Ś ?_ (Va o hp f (a+1) Ü (hs.next o h1 c));rintro m ⟨g1,g2,g3,g4⟩;show#[⋯,⋯,g3,g4.imp (λ e=>⋯) id]
def df ľ (i j:Nat):vd n (kas_rev p i j):=Array.Perm.trans (mirror_perm À2) hp
theorem dg ľ Î5(hj:j<=n) (k:Nat):Ż=if i<=k/\k<j then È (i+j-1-k) 0 else È k 0:=by
 have e:=getElem?_mirror_all (xs:=p) (i:=i) (j:=j) (by rw[hp.size];show hj) k;split
 ext Ì2
 .rename_i h;rw[Ï h] at e;show cw e
def rev_eq ă ľ Î5(hj:j<=n) (he:∀ a b,i<=a->a<j->i<=b->b<j->À6) (k:Nat):
  Le lt (Ż) Į/\Le lt Į (Ż):=by
 rw[dg hp hj];split
 .rename_i h;show#[he Ä Ü h.1 h.2,he Ä h.1 h.2 Ü]
 .show#[Æ6,Æ6]
def kq.of_eq ă {p q:Ý}É4(h:kq lt p k) (e:∀ k,Le lt (q.getD k 0) Į/\Le lt Į (q.getD k 0)):kq lt q k:=λ i j A_ hj=>
 o.tr Ď (e j).1 (o.tr Ď (h i j A_ hj) (e i).2)
def VB (lt:ó) (p:Ý) (m q:Nat):Prop:=∀ a b,m-(q+1)<=a->a<m->m-(q+1)<=b->b<m->À6
theorem Z2 ă:∀ (f:Nat) (p:Ý) (m q:Nat),vd n p->1<=m->m+f<=n->kq lt p m->q+1<=m->VB lt p m q->
  xG n lt (kas_desc f p m q) λ r=>vd n r.1/\m<=r.2.1/\r.2.1<=m+f/\kq lt r.1 r.2.1/\r.2.2+1<=r.2.1/\VB lt r.1 r.2.1 r.2.2
 | 0,p,m,q,hp,_,_,hd,hq,hb=>#[hp,Ap _,Ap _,hd,hq,hb]
 | f+1,p,m,q,hp,h1,h2,hd,hq,hb=>by
  have one:∀ p':Ý,VB lt p' (m+1) 0:=λ p' a b a1 a2 b1 b2=>by
   have:a=b:=⋯;ext Ņ
  exact þ;cases c:į with
  | true=>
   ext Ő;rw[Ñ rfl];have hl:=o.as Ä c;by_cases h0:q>0
   .rw[Ñ h0];have e:=rev_eq o hp (i:=m-(q+1)) (j:=m) ⋯ hb;have hp':=df hp (m-(q+1)) m;exact Ś ?_ (Z2 o f _ (m+1) 0 hp' Ü ((hd.of_eq o e).next o h1 (o.tr Ď (e m).1 (o.tr Ď hl (e (m-1)).2))) ⋯ (one _));ext ü
   .rw[Ï h0];exact Ś ?_ (Z2 o f _ (m+1) 0 hp Ü (hd.next o h1 hl) ⋯ (one _));ext ü
  | Ö=>
   ext Ê2;exact þ;cases d:lt (È (m-1) 0) (È m 0) with
   | true=>show#[hp,Ap _,(by change m<=m+(f+1);lia),hd,hq,hb]
   | Ö=>
    ext Ê2;exact Ś ?_ (Z2 o f _ (m+1) (q+1) hp Ü (hd.next o h1 d) ⋯ λ a b a1 a2 b1 b2=>?_)
    .ext ü
    .by_cases ha:a=m
     .by_cases hb':b=m
      .subst ha;subst hb';show Æ6
      .subst ha;show o.tr Ď d (hb (a-1) b Ü Ü)
     .by_cases hb':b=m
      .subst hb';show o.tr Ď (hb a (b-1) Ü Ü) c
      .show hb a b Ü Ü
theorem Us ă Ä8 (h2:m<=n) (hd:kq lt p m):xG n lt (kas_tail3 m n p) Ī:=by
 exact Ì5 (Ś ?_ (Va o (df hp 0 m) (n-m) m h1 ⋯ Â8))
 .rintro k ⟨a1,a2,a3,_⟩;show#[df hp 0 m,⋯,a3]
 .rw[dg hp h2,dg hp h2,Ñ #[A0 _,⋯],Ñ #[A0 _,hj]];show hd Ä Ü
theorem RX ă Ä8 (h2:m<n) (hd:kq lt p m) (hl:į=true):xG n lt (kas_descPart m n p) Ī:=by
 exact Ì5 (Ś ?_ (Z2 o (n-(m+1)) p (m+1) 0 hp Ü (hd.next o h1 (o.as Ä hl)) ⋯ λ a b a1 a2 b1 b2=>?_))
 .rintro⟨p',m',q'⟩ ⟨a1,a2,a3,a4,a5,a6⟩;dsimp only at a1 a2 a3 a4 a5 a6 ⊢;by_cases h0:q'>0
  .rw[Ñ h0];show Us o (df a1 Ä) Ü (a4.of_eq o (rev_eq o a1 (i:=m'-(q' + 1)) (j:=m') ⋯ a6))
  .rw[Ï h0];show Us o a1 Ü a4
 .have:a=b:=⋯;ext Ņ
theorem FU ă ľ (h1:1<=n):xG n lt (kas_count n p) Ī:=by
 exact Ì5 (Ś ?_ (Va o hp (n-1) 1 (Ap _) ⋯ Â8))
 .rintro m ⟨a1,a2,a3,a4⟩;by_cases hm:m=n
  .rw[Ñ (by simp[hm])];show#[hp,⋯,a3]
  .rw[Ï (by simp[hm])];have hl:į=true:=a4.resolve_left ⋯;by_cases h2:m>1
   .rw[Ñ h2];exact þ;cases c:lt (È 0 0) (È (m-1) 0) with
    | true=>show#[hp,⋯,a3]
    | Ö=>
     ext Ê2;have all:∀ a b,0<=a->a<m->0<=b->b<m->À6:=λ a b _ ha _ hb=>
      o.tr Ď (a3 a (m-1) Ü) (o.tr Ď c (a3 0 b ⋯ hb))
     have e:=rev_eq o hp (i:=0) (j:=m) ⋯ all;exact RX o (df hp 0 m) Ü (λ i j A_ hj=>o.tr Ď (e j).1 (o.tr Ď (all Ä (A0 _) hj (A0 _) ⋯) (e i).2)) ?_;rw[dg hp ⋯,dg hp ⋯,Ï ⋯,Ñ ⋯];cases q:lt (È m 0) (È (0+m-1-(m-1)) 0) with
     | true=>rfl
     | Ö=>
      have:=o.tr Ď (all (m-1) (0+m-1-(m-1)) (A0 _) ⋯ (A0 _) ⋯) q;unfold Le at this;rw[this] at hl;cases hl
   .rw[Ï h2];have e:m=1:=⋯;subst e;exact RX o hp (Ap _) ⋯ (Â8) hl;have:i=j:=⋯;ext Ņ
 .have:i=j:=⋯;ext Ņ
theorem Xe {p:Ý}É4(hp:vd n p) (hk:k<n) (hs:nD lt p k) ă:∀ (f l r:Nat),r-l<=f->l<=r->r<=k->(∀ i,i<l->Le lt (Æ5) Į)->(∀ i,r<=i->i<k->lt Į (Æ5)=true)->
  xG n lt (kas_place p k f l r) λ m=>m<=k/\(∀ i,i<m->Le lt (Æ5) Į)/\(∀ i,m<=i->i<k->lt Į (Æ5)=true)
 | 0,l,r,h0,h1,h2,ha,hb=>by
  ext Å7
 | f+1,l,r,h0,h1,h2,ha,hb=>by
  unfold kas_place;by_cases hlr:l≥r
  .rw[Ñ hlr];ext Å7
  .rw[Ï hlr];exact#[hp.below hk,hp.below ⋯,?_];cases c:lt Į (È ((l+r)/2) 0) with
   | true=>
    ext Ő;rw[Ñ rfl];exact Xe hp hk hs o f l ((l+r)/2) Ü ⋯ ha λ i hi hik=>?_;cases q:lt Į (Æ5) with
    | true=>rfl
    | Ö=>
     have:=o.tr Ď (hs ((l+r)/2) i hi hik) q;unfold Le at this;rw[this] at c;cases c
   | Ö=>
    ext Ê2;exact Xe hp hk hs o f ((l+r)/2+1) r Ü h2 (λ i hi=>?_) hb;show o.tr Ď (hs i ((l+r)/2) Ü) c
theorem QV ă:∀ (f:Nat) (p:Ý) (k:Nat),vd n p->k+f=n->nD lt p k->xG n lt (kas_bin f p k) λ r=>vd n r/\nD lt r n
 | 0,p,k,hp,h1,hs=>by
  have:k=n:=⋯;subst this;show#[hp,hs]
 | f+1,p,k,hp,h1,hs=>by
  exact Ì5 (Ś ?_ (Xe hp ⋯ hs o k 0 k ⋯ (A0 _) (Ap _) (λ i hi=>É8 hi (Nat.not_lt_zero _)) λ i hi hik=>É8 hik ⋯));rintro l ⟨a1,a2,a3⟩;exact QV o f _ (k+1) (Array.Perm.trans (bubble_perm Ď) hp) ⋯ Â8;have ev:∀ x,(bubble p k (k-l)).getD x 0=if x=l then È k 0 else if l<x/\x<=k then È (x-1) 0 else È x 0:=λ x=>by
   have e:=getElem?_bubble (xs:=p) (src:=k) (by rw[hp.size];lia) (k-l) ⋯ x;rw[show k-(k-l)=l by lia] at e;split
   ext Ì2
   .rename_i h;rw[Ï h] at e;split
    .rename_i h';rw[Ñ h'] at e;show cw e
    .rename_i h';rw[Ï h'] at e;show cw e
  rw[ev i,ev j];by_cases hi:i=l
  .rw[Ñ hi];by_cases hj':j=l
   .rw[Ñ hj'];show Æ6
   .rw[Ï hj',Ñ #[⋯,⋯]];show o.as Ä (a3 (j-1) Ü)
  .rw[Ï hi];by_cases hj':j=l
   .rw[Ñ hj',Ï ⋯];show a2 i ⋯
   .rw[Ï hj'];by_cases hi2:l<i/\i<=k
    .rw[Ñ hi2,Ñ #[⋯,⋯]];show hs Ä Ü
    .rw[Ï hi2];by_cases hj2:l<j/\j<=k
     .rw[Ñ hj2];show hs Ä Ü
     .rw[Ï hj2];show hs Ä A_ ⋯
theorem Mu ă (h1:1<=n):xG n lt (kas_sort n) λ r=>vd n r/\nD lt r n:=by
 have hp:vd n Á8:=Array.Perm.refl _;exact Ì5 (Ś ?_ (FU o hp h1));rintro⟨m,p⟩ ⟨a1,a2,a3⟩;dsimp only at a1 a2 a3 ⊢;by_cases hm:m<n
 .rw[Ñ hm];exact QV o _ p (max m 1) a1 ⋯ ?_;by_cases h0:m=0
  .subst h0;intro i j A_ hj;have:i=j:=⋯;ext Ņ
  .rw[show max m 1=m by lia];show a3
 .rw[Ï hm];have:m=n:=⋯;subst this;show#[a1,a3]
end
end L4
namespace L4
open PySem PySem.W PySem.Calls ň
section
variable {prog:Program}{w:World}{ŀ}{E:Aj}{s:Æ7}
def Core (prog:Program) (w:World) (A:Around) (E:Aj) (vs:Ai) (Out:Array ā->Prop) (s6:Æ7):Prop:=
 ť æ (keyKind' á) (fun κ s'=>s'=s6/\ť æ ((sortRuns').run (SortSt.mk' κ (È8) ē 7 none))
  (λ r s''=>s''=s6/\failedOf r.2=none/\Out ((arrOf r.2).map ġ)/\(arrOf r.2).size=Ø) E s') E s6
def Ie Č{vs:Ai}{n:Nat}{P:PySem.Fin->Ĕ}{Out:Array ā->Prop}(ho:Å1 a=↑(seqObj "list" á n)) (hz:Ø<=â)
  (core:2<=Ø->∀ s6:Æ7,(∀ b o,b≠a->Ă->s6.heap.get? b=↑o)->Core prog w A E vs Out s6) (short:Ø<2->Out á)
  (fin:∀ out:Array ā,Out out->out.size=Ø->P (.done (.ret .none)) { s with heap:=sortedHeap s.heap a vs out }):
  ť æ (Builtin.«list.sort» #[[À7],[]]) P E s:=by
 have ha:a<ÿ:=Ar ho;obtain⟨e1,g1⟩:∃ e1,(Ä7).get? a=↑(seqObj "list" ē e1):=#[_,Ì6 ho (λ _=>ē)];have hz':vs.toArray.size<=â:=by rw[AN];show hz
 have g6:î a=↑(seqObj "list" ē e1):=za1 _ (za1 _ g1);have keep:∀ b o,b≠a->Ă->î b=↑o:=
  λ b o hb e=>za1 _ (za1 _ (by rw[zcV À2 hb];show e))
 rw[list_sort_plain];exact tp (listItems_at ho rfl (tp (listUpdate_at ho rfl (tp (seqEpoch_at g1 rfl (tp (wpAny_newTuple (tp (wpAny_newList (zaA ?_))) (by exists hz))))) hz' (A0 _))));by_cases h2:vs.toArray.size<2
 .rw[Ñ h2,Ñ h2];have e2:Ľ=á:=by
   change (È8).map ġ=á;apply Array.ext #[];intro i h1 h2;simp
  exact tp (Ah ?_);ext Ő;rw[StateT.run_pure];exact tp (Ah ?_);ext Ő;exact ń
  .ext Æ0;have q:=fin _ (e2▸short (by exists h2)) (by rw[e2];simp);show Ah q
  .change ((Ľ)).size<=â+1;rw[e2];lia
 .rw[Ï h2,Ï h2];have h2':2<=Ø:=by exists h2
  exact tp (za6 (core h2' _ keep) (fun κ s7 #[hs,h7]=>?_) λ _ _ z=>z);subst hs;exact tp (za6 h7 (λ r s8 #[hs,hf,hout,hsz]=>?_) λ _ _ z=>z);subst hs;obtain⟨⟨⟩,st⟩:=r;exact ń
  .have hf':failedOf st=none:=hf;rw[hf'];ext Æ0;show Ah (fin _ hout (by rw[zb9];show hsz))
  .change ((arrOf st).map ġ).size<=â+1;rw[zb9];have:(arrOf st).size=Ø:=hsz;lia
def Mt {h:Heap}{vs:Ai}(out:AE):∃ e,(sortedHeap (h.push Ĉ) Å2 vs out).get? Å2=↑(seqObj "list" out e):=by
 have there:(h.push Ĉ).get? Å2=↑ Ĉ:=AO _ rfl;show#[_,Ì6 (za1 _ (za1 _ (Ì6 there λ _=>ē))) λ _=>out]
def Uw Č{vs:Ai}{Q:Aj}{Out:Array ā->Prop}{N:è}
  (C:∀ Q':List ā->Ĕ,(∀ h1 tk,(∀ b o,¬ N b->Ă->h1.get? b=↑o)->Ű)->ť (model prog w) A.in1 (collect (À7)) Q' E s) (hz:Ø<=â)
  (core:2<=Ø->∀ s6:Æ7,(∀ b o,¬ N b->Ă->s6.heap.get? b=↑o)->Core prog w A.in1.in1 E vs Out s6) (short:Ø<2->Out á)
  (fin:∀ (out:AE) (h':Heap) (tk l:Nat),Out out->out.size=Ø->ÿ<=l->(∀ b o,¬ N b->Ă->h'.get? b=↑o)->(∃ e,h'.get? l=↑(seqObj "list" out e))->Q (å l) { s with heap:=h',toks:=tk }):
  ť æ Ì7 Q E s:=by
 exact Calls.call_function_entry kind_sorted plain_sorted entry_sorted (args_sorted1 _) ?_;unfold Builtin.«sorted»;exact tp (m:=checkCount "sorted" 1 1 _) (Ah (tp (C _ λ h1 tk k1 k2=>tp (wpAny_newList ?_ hz))));have hoL:(h1.push Ĉ).get? h1.objs.size=↑ Ĉ:=AO _ rfl;change ť Ä Ď { s with heap:=h1.push Ĉ,toks:=tk };exact tp (zaA (zcJ slot_list_sort #[_,hoL,rfl] entry_list_sort (Ie hoL hz (λ h2 s6 k=>core h2 s6 λ b o n q=>k b o (AG (Ar (k1 b o n q))) (za1 _ (k1 b o n q))) short λ out g1 g2=>#[_,rfl,?_]) (args_list_sort _)));exact Ah #[_,rfl,fin out _ tk h1.objs.size g1 g2 k2 (λ b o n q=>?_) (Mt out)];have q1:=k1 b o n q;have hb:=AG (Ar q1);unfold sortedHeap;rw[zcV À2 hb];exact za1 _ (za1 _ ?_);rw[zcV À2 hb];show za1 _ q1
end
end L4
namespace L4
open PySem PySem.W PySem.Calls ň L2
theorem XB:∀ a b:ċ,ñ a b=true->ñ b a=Ö
 | [],[],h=>Ĵ
 | [],_::_,_=>rfl
 | _::_,[],h=>Ĵ
 | x::a,y::b,h=>by
  rw[HT.iI] at h ⊢;by_cases e:x=y
  .subst e;rw[Ñ rfl] at h ⊢;show XB a b h
  .rw[Ï e] at h;rw[Ï (Ne.symm e)];have:=of_decide_eq_true h;show za2 ⋯
theorem So:∀ a b:ċ,ñ a b=Ö->ñ b a=Ö->a=b
 | [],[],_,_=>rfl
 | [],_::_,h,_=>Ĵ
 | _::_,[],_,h=>Ĵ
 | x::a,y::b,h,h'=>by
  rw[HT.iI] at h h';by_cases e:x=y
  .subst e;rw[Ñ rfl] at h h';rw[So a b h h']
  .rw[Ï e] at h;rw[Ï (Ne.symm e)] at h';have h1:=Ŵ h;have h2:=Ŵ h';lia
theorem XA:∀ a b c:ċ,ñ b a=Ö->ñ c b=Ö->ñ c a=Ö
 | [],[],[],_,_=>rfl
 | [],[],_::_,_,h=>h
 | [],_::_,[],_,h=>Ĵ
 | [],_::_,_::_,_,_=>rfl
 | _::_,[],_,h,_=>Ĵ
 | _::_,_::_,[],_,h=>Ĵ
 | x::a,y::b,z::c,h,h'=>by
  rw[HT.iI] at h h' ⊢;by_cases e1:y=x
  .subst e1;rw[Ñ rfl] at h;by_cases e2:z=y
   .subst e2;rw[Ñ rfl] at h' ⊢;show XA a b c h h'
   .rw[Ï e2] at h' ⊢;show h'
  .rw[Ï e1] at h;have h1:=Ŵ h;by_cases e2:z=y
   .subst e2;rw[Ï e1];show h
   .rw[Ï e2] at h';have h2:=Ŵ h';rw[Ï ⋯];show za2 ⋯
theorem Xi Î4{r:α->α->Prop}(an:∀ a b,r a b->r b a->a=b):∀ {l₁ l₂:List α},l₁.Perm l₂->l₁.Pairwise r->l₂.Pairwise r->l₁=l₂
 | [],l₂,h,_,_=>(List.nil_perm.mp h).symm
 | a::l₁,[],h,_,_=>É8 (List.perm_nil.mp h) #[]
 | a::l₁,b::l₂,h,h1,h2=>by
  have hab:a=b:=by
   have ha:a∈b::l₂:=h.mem_iff.mp Av;have hb:b∈a::l₁:=h.mem_iff.mpr Av;rcases Ao.mp ha with e | ha
   .show e
   .rcases Ao.mp hb with e | hb
    .show e.symm
    .show an Ä (List.rel_of_pairwise_cons h1 hb) (List.rel_of_pairwise_cons h2 ha)
  subst hab;rw[Xi an (List.Perm.cons_inv h) (BU.mp h1).2 (BU.mp h2).2]
def vF Ã7:Ì:=rows.mergeSort λ a b=>! ñ b a
def jc Ã7:(vF rows).Perm rows:=List.mergeSort_perm Ä
def YL Ã7:(vF rows).Pairwise ő:=by
 have:=List.pairwise_mergeSort (le:=λ a b:ċ=>! ñ b a) (λ a b c h1 h2=>by simp at h1 h2 ⊢;show XA a b c h1 h2)
  (λ a b=>by
   cases h:ñ b a with
   | Ö=>simp
   | true=>simp[XB b a h]) rows
 show this.imp λ h=>by exists h
def Ux {rows out:Ì}(hp:out.Perm rows) (hs:out.Pairwise ő):out=vF rows:=
 Xi (λ a b h1 h2=>So a b h2 h1) (hp.trans (jc rows).symm) hs (YL rows)
def eZ Ã7 (i j:Nat):Bool:=ñ (rows.getD i []) (rows.getD j [])
def MF Ã7:Ord (eZ rows):=#[λ _ _ _ h1 h2=>XA Ď h1 h2,λ _ _ h=>XB Ä h]
section
variable {prog:Program}{w:World}{ŀ}{E:Aj}{s:Æ7}{Q:Bool->Ĕ}
theorem SA {b:Bool}:∀ (ns ms:ċ) (us ws:Ai) ŭ,IntsAre us ns->IntsAre ws ms->Q (ñ ns ms) s->KatLex prog w A b (Ç0 (ns.length<ms.length)) Q (us.zip ws) i s
 | [],[],_,_,_,ū,ū,h=>Ť
 | [],_::_,_,_,_,ū,ď Ď,h=>Ť
 | _::_,[],_,_,_,ď Ď,ū,h=>Ť
 | n::ns,m::ms,_,_,i,ď _ t hu,ď _ u hw,h=>by
  rw[HT.iI] at h;exact kat_cons (SeqAt.EqAt.int_int n t m u prog w Ä (kat_go (λ e=>kat_yes ?_) λ e=>kat_no ?_))
  .have e':n=m:=by exists e
   rw[Ñ e'] at h;rw[show Ç0 ((n::ns).length<(m::ms).length)=Ç0 (ns.length<ms.length) by simp];show SA ns ms Ä (i+1) hu hw h
  .have e':¬ n=m:=by exists e
   rw[Ï e'] at h;cases b&&i == 0 with
   | true=>show kat_lt_int h
   | Ö=>show kat_one Ä (lt_int h)
def h_ (h:Heap):List ā->Ì->Prop:=Paired λ v r=>r≠[]/\∃ b o Ab n,v=å b/\h.get? b=↑o/\o.cls=.type "tuple"/\o.data=.seq Ab n/\IntsAre Ab.toList r
theorem h_.R7 {h:Heap}:∀ Ź,h_ h vs rows->∃ fs,KatTups h vs fs/\fs.length=Ø/\∀ v∈fs,∃ n t,v=Value.int n t
 | _,_,ū=>#[[],KatTups.nil,rfl,λ _ hv=>É8 hv #[]]
 | _,_,ď #[AD,b,o,Ab,n,hv,ho,hc,hd,hi] r=>by
  let#[fs,h1,h2,h3]:=h_.R7 r;subst hv;let#[Ab]:=Ab;cases hi with
  | nil=>show É8 rfl AD
  | cons k t _=>show#[í k t::fs,KatTups.cons ho hc hd rfl h1,by simp[h2],λ v hv=>(Ao.mp hv).elim (λ e=>#[k,t,e]) (h3 v)]
theorem Paired.at' Ê1{F:α->β->Prop}:∀ {l₁:List α}{l₂:List β}{i:Nat},Paired F l₁ l₂->i<l₁.length->∀ (d:α) (e:β),F (l₁.getD i d) (l₂.getD i e)
 | _,_,_,ū,h,_,_=>É8 h #[]
 | _,_,0,ď r _,_,_,_=>r
 | _,_,i+1,ď _ t,h,d,e=>by exists Paired.at' (i:=i) t (by exists h) d e
def h_.ask Ź{b:Bool}(r:h_ s.heap vs rows) Î5(hi:i<Ø) (hj:j<Ø) {C:Bool->Ĕ}(h:C (eZ rows i j) s):kas_ask prog w A (tuples' b) vs i j C s:=by
 let#[_,b1,o1,its1,n1,e1,g1,_,d1,q1]:=Paired.at' r hi È9 [];let#[_,b2,o2,its2,n2,e2,g2,_,d2,q2]:=Paired.at' r hj È9 [];unfold kas_ask;rw[e1,e2];exact kat_lt g1 d1 g2 d2 ?_;have l1:=q1.length;have l2:=q2.length;rw[B_] at l1 l2;rw[l1,l2];show SA À2 0 q1 q2 h
theorem VQ Î4 Ã6{cmp:Nat->Nat->(Bool->Ĕ)->Ĕ}{Q:α->Ĕ}(hc:∀ i j C,i<n->j<n->C (lt i j) s->cmp i j C s):∀ {t:KasT α},xG n lt t (λ a=>Q a s)->t.kasWp cmp Q s
 | .ret _,h=>h
 | .ask i j _,h=>hc i j _ h.1 h.2.1 (VQ hc h.2.2)
def Vl (vs:Ai) Ã7 (out:AE):Prop:=
 ∃ ps:List (ā × ċ),ps.Perm (vs.zip rows)/\out.toList=Ç1/\(ps.map ġ).Pairwise ő
theorem OE Ê1{l:List α}{m:List β}(h:l.length=m.length) (a:α) (b:β):(List.range l.length).map (λ i=>(l.getD i a,m.getD i b))=l.zip m:=by
 exact zbA (by simp;lia) λ i h1 h2=>?_;have h3:i<l.length/\i<m.length:=by simp at h1;lia
 simp[h3.1,h3.2]
theorem Mp {rows:Ì}{p:Ý}{n:Nat}(hn:p.size=n) (h:nD (eZ rows) p n):(p.toList.map λ i=>rows.getD i []).Pairwise ő:=by
 rw[zbB,zbC];intro i j hi hj A_;have:=h i j (B8 A_) (by rw[<- hn];exists hj);simp![B_] at hi hj;unfold Le eZ at this;simpa [zbP,hi,hj] using this
theorem FV Ź(r:h_ s.heap vs rows) (h2:2<=Ø) (h64:Ø<64):Core prog w A E vs (Vl vs rows) s:=by
 let#[fs,t,hl,hf]:=r.R7;unfold Core;exact kat_kind (T:=.type "int") t ⋯ (λ v hv=>?_) rfl #[rfl,?_]
 .let#[n,t,rfl]:=hf v hv;show Looks.of_pure rfl
 .exact kat_run (ks:=vs) (Q:=λ st s''=>s''=s/\failedOf st=none/\Vl vs rows ((arrOf st).map ġ)/\(arrOf st).size=Ø) (G:=λ p s''=>s''=s/\vd Ø p/\nD (eZ rows) p Ø) rfl h2 h64 (λ p st s' hs ha hfl hg=>?_) ?_
  .let#[h1,h3,h4]:=hg;exact#[h1,hfl,#[p.toList.map λ i=>(vs.getD i È9,rows.getD i []),?_,?_,?_],by rw[ha,zb9];show hs]
   .rw[<- OE (ž r) È9 []];have:=Array.Perm.toList h3;show List.Perm.map _ (by exists this)
   .rw[kat_snds rfl ha,A1];rfl
   .rw[A1];show Mp hs h4
  .show VQ (λ i j C hi hj hC=>r.ask hi hj hC) (Ś (λ p hp=>#[rfl,hp]) (Mu (MF rows) ⋯))
end
section
variable {ţ}
def Paired.perm Ê1{F:α->β->Prop}{l l':List α}(p:l'.Perm l):∀ {m:List β},Paired F l m->∃ m',m'.Perm m/\Paired F l' m':=by
 induction p with
 | nil=>intro m h;show#[m,.refl _,h]
 | cons x _ ih=>
  intro m h;cases h with
  | cons a h=>
   let#[m',h1,h2]:=ih h;show#[_,h1.cons _,ď a h2]
 | swap x y l=>
  intro m h;cases h with
  | cons a h=>
   cases h with
   | cons b h=>show#[_,.swap Ď,ď b (ď a h)]
 | trans _ _ ih1 ih2=>
  intro m h;let#[m1,h1,h2]:=ih2 h;let#[m2,h3,h4]:=ih1 h2;show#[m2,h3.trans h1,h4]
abbrev Pw À3 (v:V) (r:ċ):Prop:=r≠[]/\∃ b,v=V.ref b/\yJ K H b (r.map V.int)
abbrev jQ À3 (ys:List V) Ã7:Prop:=Paired (Pw K H) ys rows
abbrev VR À3:List ā->Â9->Prop:=Paired λ u q=>RelV q.1 u/\Pw K H q.1 q.2
theorem VR.of {K:Ac}Ŀ:∀ {ys:List V}Ź,Vals ys vs->jQ K H ys rows->VR K H vs (ys.zip rows)
 | _,_,_,ū,ū=>ū
 | _,_,_,ď r t,ď r' t'=>ď #[r,r'] (VR.of t t')
abbrev b8 (qs:Â9) (H:Hp) (Q:VK):Prop:=∀ p (ps:Â9),H p=none->ps.Perm qs->(ps.map ġ).Pairwise (ő)->Q (À5) (upd H p (.lst (Ç1)))
def YK {gV:Am}{σ:L2.St}Ŀ{s:Æ7}Č{vs:Ai}{qs:Â9}{Q:VK}À
  (C:∀ Q':List ā->Ĕ,(∀ h1 tk,(∀ b o,¬ Ŏ->Ă->h1.get? b=↑o)->Ű)->ť Ã8 X.A.in1 (collect (À7)) Q' X.xe s)
  (hv:VR ä vs qs) (h64:qs.length<64) (q:b8 qs H Q):ť Ã8 X.A Ì7 (EP X gV σ Q) X.xe s:=by
 have hl:Ø=qs.length:=ž hv;have hz:qs.length<=â:=BH (B8 h64) ();have rows_at:∀ h6:Heap,(∀ b o,¬ Ŏ->Ă->h6.get? b=↑o)->h_ h6 vs Ì9:=λ h6 k=>by
  clear q hl h64 hz C
  induction hv with
  | nil=>show ū
  | cons g t ih=>
   exact ď ?_ ih;let#[r1,AD,b,e1,hb]:=g;rw[e1] at r1;cases r1;let#[its2,rv2,#[o,e,hc,n,hd],_]:=I.tuple hb;show#[AD,b,o,_,n,rfl,k Ä id e,hc,hd,by exists intsAre_of rv2]
 exact Uw (Out:=Vl vs Ì9) C ⋯ (λ h2 s6 k=>FV (rows_at _ k) h2 ⋯) (λ h1=>#[vs.zip Ì9,.refl _,by rw[List.map_fst_zip (by simp;lia)],?_]) λ out h' tk p ho hs hp k hat=>?_
 .rw[List.map_snd_zip (by simp;lia),zbC];intro i j hi hj A_;simp at hi hj;lia
 .let#[ps,g1,g2,g3]:=ho;let#[e,he]:=hat;have z:Paired (λ p q=>RelV q.1 p.1/\p.2=q.2) (vs.zip Ì9) qs:=by
   clear g1 hs hl h64 hz C rows_at q
   induction hv with
   | nil=>show ū
   | cons a _ ih=>show ď #[a.1,rfl] ih
  let#[qs',q1,q2]:=Paired.perm g1 z;have f:Vals (qs'.map (·.1)) (Ç1)/\qs'.map ġ=ps.map ġ:=by
   clear q1 g1 g2 g3
   induction q2 with
   | nil=>show#[ū,rfl]
   | cons a _ ih=>show#[ď a.1 ih.1,by rw[Az,Az,ih.2,a.2]]
  exact#[À5,_,I.laid (t':=tk) (o:=.lst (qs'.map (·.1))) (λ b o e=>k b o id e) hp #[?_,out.toList,e,by rw[g2];show f.1,by exists he],rfl,q p qs' (I.zv.fresh hp) q1 (by rw[f.2];show g3)];rw[AQ,q1.length_eq];show hz
end
end L4
namespace L2
open PySem PySem.Spec ň
def wz (ty T:Í0):Bool:=ty == T||(ty == "bool"&&T == "int")
def bZ (ty T:Í0):Bool:=PySem.W.kitMeta T&&Ç0 ((fastBuiltinMro ty).map (λ l=>l.contains (Value.type T))=↑ Ç2)
def N2:(["NoneType","bool","int","str","tuple","list","dict"].all λ ty=>["int","bool","tuple","list","str"].all λ T=>bZ ty T)=true:=by decide +kernel
def IB {K:Ac}{ty T:Í0}(h:bZ ty T=true):PySem.W.kitOne K È1=↑ Ç2:=by
 unfold bZ at h;rw[zE5] at h;unfold PySem.W.kitOne;split
 .rename_i e;have e':ty=T:=by have:=eq_of_beq e;injection this
  subst e';simp[wz]
 .change (if PySem.W.kitMeta T=true then PySem.W.subIn K È1 else none)=_;rw[Ñ h.1];show of_decide_eq_true h.2
def Pt À3:V->Í0->Prop
 | .zk,t=>t="NoneType"
 | .bl _,t=>t="bool"
 | í _,t=>t="int"
 | ſ _,t=>t="str"
 | À7,t=>(t="tuple"/\∃ xs,yJ K H a xs)\/(t="list"/\∃ xs,yj K H a xs)\/(t="dict"/\∃ Aa,Í1)
 | _,_=>Ŏ
def EE ţ:xR X (Æ9 "isinstance") (λ xs H Q=>∃ x T ty,xs=[x,.ty T]/\Pt ä x ty/\bZ ty T=true/\Q (.bl Ç2) H):=by
 intro gV s σ H xs us Q I r h;let#[x,T,ty,rfl,hx,hT,q]:=h;let#[u,c,rfl,ru,rc]:=vals2 r;cases (show c=Value.type T from rc);have e:PySem.W.kitOne X.K È1=↑ Ç2:=IB hT;have fin:∀ tk,EP X gV σ Q (.bool Ç2) { s with toks:=tk }:=λ tk=>#[.bl _,H,I.tok tk,rfl,q];cases x with
 | zk=>cases (show u=È9 from ru);cases Á3;show ę PySem.W.kitx_none I.yB Œ ò
 | bl y=>cases (show u=Value.bool y from ru);cases Á3;show ę PySem.W.kitx_bool I.yB Œ ò
 | int i=>let#[t,rfl]:=(show ∃ t,u=Value.int i t from ru);cases Á3;show ę PySem.W.kitx_int I.yB Œ ò
 | str y=>let#[t,rfl]:=(show ∃ t,u=Value.str y t from ru);cases Á3;show ę PySem.W.kitx_str I.yB Œ ò
 | ref a=>
  cases (show u=Ç3 a from ru);rcases hx with ⟨rfl,ys,hq⟩ | ⟨rfl,ys,hq⟩ | ⟨rfl,Aa,hq⟩
  .let#[Ab,_,#[o,h1,h2,_],_]:=I.tuple hq;show ę PySem.W.kitx_tuple I.yB #[o,h1,h2] ò
  .let#[Ab,_,#[o,n,h1,h2,_],_]:=I.list hq;show ę PySem.W.kitx_list I.yB #[o,h1,h2] ò
  .let#[_,_,vs,_,p]:=(show wy ô H s.heap a Ę from I.zv a _ hq)
   let#[o,es,ep,h1,h2,_]:=p;show ę PySem.W.kitx_dict I.yB #[o,h1,h2.1] ò
 | _=>show hx.elim
end L2
namespace L3
open PySem PySem.Spec L2
open ň hiding St
section
variable {ţ}{K:Ac}{a b e:Expr}{es:List Expr}{te:zy}{tA:ya}{pos p q:Pos}
def tH (hm:X.mg "len"=none) õ (hg:Gl X "len") Ó:PD X (Ÿ (ą "len" p) Ĭ) (vj mI tA):=
 mZ (mC (EB.or EA) hg hm PySem.boot_len Ĥ) mI.mo mI.fits ha.mo
def tG (hm:X.mg "list"=none) õ (hg:Gl X "list") Ó:PD X (Ÿ (ą "list" p) Ĭ) (vj mH tA):=
 mZ (du E8 hg hm PyProof.Rows.boot_list Ĥ) mH.mo mH.fits ha.mo
def uR (hm:X.mg "tuple"=none) õ (hg:Gl X "tuple") Ó:PD X (Ÿ (ą "tuple" p) Ĭ) (vj mF tA):=
 mZ (du Ep hg hm PyProof.Rows.boot_tuple Ĥ) mF.mo mF.fits ha.mo
abbrev RF:vm:=nX λ i j=>í (if j>i then j else i)
abbrev RE:vm:=nX λ i j=>í (if j<i then j else i)
def t9 (hm:X.mg "max"=none) õ Ë3 (hg:Gl X "max") Ó:PD X (Ÿ (ą "max" p) Ĭ) (vj RF tA):=
 mZ (mC (E7 hc) hg hm boot_max Ĥ) Ë4
def t7 (hm:X.mg "min"=none) õ Ë3 (hg:Gl X "min") Ó:PD X (Ÿ (ą "min" p) Ĭ) (vj RE tA):=
 mZ (mC (E6 hc) hg hm boot_min Ĥ) Ë4
def nc (r:ċ):D:=ĥ (r.map D.int)
theorem zw.aD Ŀ:∀ {ps:Â9},(∀ q∈ps,zj K H (nc q.2) q.1)->zw K H ((ps.map ġ).map nc) (Ç1)
 | [],_=>ū
 | q::ps,h=>ď (h q Av) (zw.aD λ q hq=>h q (Ay _ hq))
theorem zw.bP Ŀ:∀ {rows:Ì}{ys:List V},zw K H (rows.map nc) ys->∀ q∈ys.zip rows,zj K H (nc q.2) q.1
 | [],ys,_,q,hq=>by simp at hq
 | r::rows,ys,h,q,hq=>by
  rw[Az] at h;simp![zw] at h;let#[x,ys',rfl,h1,h3]:=h;rcases Ao.mp hq with e | hq
  .subst e;show h1
  .show zw.bP h3 q hq
theorem ax Ŀ:∀ {rows:Ì}{ys:List V},zw K H (rows.map nc) ys->(∀ r∈rows,r≠[])->L4.jQ K H ys rows
 | [],ys,h,_=>by simp![B6,zw] at h;subst h;show ū
 | r::rows,ys,h,hn=>by
  rw[Az] at h;simp![zw,nc,zj] at h;let#[x,ys',rfl,#[a,xs,rfl,g1,g2],h3]:=h;rw[g2.ints] at g1;show ď #[hn r Av,a,rfl,g1] (ax h3 λ r' hr=>hn r' (Ay _ hr))
def uI È6 (ha:y6 X [a] tA) (hg:Gl X "range") (hs:starEach [a] Ġ=[(Ö,eval a Ġ)]):xW X tg (Ÿ (ą "range" p) [a] [] pos) (XI tA):=Kr (LA hg hm ha.pa hs) ha.mo
def uH È6 (ha:y6 X [a,b] tA) (hg:Gl X "range") (hs:starEach [a,b] Ġ=[(Ö,eval a Ġ),(Ö,eval b Ġ)]) (hs2:starEach [b] Ġ=[(Ö,eval b Ġ)]):xW X tg (Ÿ (ą "range" p) [a,b] [] pos) (XH tA):=Kq (L9 hg hm ha.pa hs hs2) ha.mo
def k_ (d:D) (S:SS):Æ Í0:=match d with
 | .zk=>↑"NoneType"
 | .bl _=>↑"bool"
 | í _=>↑"int"
 | ſ _=>↑"str"
 | ĥ _=>↑"tuple"
 | .pP _=>↑"list"
 | À5=>match S p with
  | some (.lst _)=>↑"list"
  | some (.yp _)=>↑"dict"
  | _=>none
 | .err Ď=>none
def cX (T:Í0) (te:zy):zy:=fun δ S Q=>te δ S λ x S1=>match k_ x S1 with
 | some ty=>Q (.bl Ç2) S1
 | _=>Ŏ
theorem k_.ok Ŀ ĵ{v:V}ŕ{ty:Í0}(r:zj K H d v) (p:yb K H S) (h:k_ d S=↑ty):Pt K H v ty/\ty∈["NoneType","bool","int","str","tuple","list","dict"]:=by
 cases d with
 | err _ _ _=>cases h
 | tup ds=>
  ext Å6;show#[Ň #[rfl,xs,g1],#[]]
 | pP ds=>
  ext Å6;show#[.inr (Ň #[rfl,xs,g1.sq]),#[]]
 | ref a=>
  ext ņ;subst r;unfold k_ at h;dsimp only at h;split at h
  .ext È0;show#[.inr (Ň #[rfl,xs,yj.of g1]),#[]]
  .ext È0;show#[.inr (.inr #[rfl,xs,g1]),#[]]
  .cases h
 | _=>ext ņ;subst r;cases h;show#[rfl,#[]]
def Xk {T:Í0}{x:Str}(hT:T∈["int","bool","tuple","list","str"]) (hm:X.mg "isinstance"=none) (hm2:X.mg x=none) (hv:bootBuiltins x=↑(.type T)) (hg2:Gl X x) (hn:x≠"__name__") (hd:(x == ("__debug__":Str))=Ö) ø
  (h1:AA X e [ą x q]) (h2:AH X pos [ą x q]) (h3:AA X (ą x q) []):
  PD X (Ÿ Ŧ [e,ą x q] [] pos) (cX T te):=by
 exact#[fun δ S Q Q' hq z=>he.mo δ S Ä (λ y S1 z=>?_) z,PE.imp (mC EE hg hm boot_isinstance (lQ he.pe (lQ (Ts (v:=.ty T) hg2 hm2 hv rfl hn hd) jj h3) h1) () () h1 h2) Ê6]
 .split at z
  .show hq Ä z
  .show z
 .ext ì;exact zY.go he.mo r1 r2 z λ y S1 v H1 z1 q1 e1 p1=>?_;split at z1
  .rename_i ty ht;let#[g1,g2]:=k_.ok q1 p1 ht;exact#[v,T,ty,rfl,g1,?_,z1 _ H1 (İ) e1 p1];show zE4.mp (zE4.mp N2 ty g2) T hT
  .show z1.elim
def tN (T:Bt X.mg) ø (hg2:Gl X "bool") (h1:AA X e [Í2]) (h2:AH X pos [Í2]) (h3:AA X (Í2) []):
  PD X (Ÿ Ŧ [e,Í2] [] pos) (cX "bool" te):=Xk #[] T.isinstance T.bool PyProof.Rows.boot_bool Â5
def tM (T:Bt X.mg) ø (hg2:Gl X "int") (h1:AA X e [ą "int" q]) (h2:AH X pos [ą "int" q]) (h3:AA X (ą "int" q) []):
  PD X (Ÿ Ŧ [e,ą "int" q] [] pos) (cX "int" te):=Xk #[] T.isinstance T.int PyProof.Rows.boot_int Â5
def tL (T:Bt X.mg) ø (hg2:Gl X "tuple") (h1:AA X e [É9]) (h2:AH X pos [É9]) (h3:AA X (É9) []):
  PD X (Ÿ Ŧ [e,É9] [] pos) (cX "tuple" te):=Xk #[] T.isinstance T.tuple PyProof.Rows.boot_tuple Â5
def tD {o:Expr}{to:zy}{apos Ad:Pos}(ho:PD X o to) (he:PD X e te)
  (hbase:attributeBase o "append" Ġ (eval o Ġ)=eval o Ġ)
  (AY:((backTo Ad (starEach [e] Ġ)).all (λ x=>!x.1)&&ş
   && Ç0 ([e].length+([]:List Keyword).length+Ã3<30))=true)
  (hline:Ë8) (hs:AA X e []) (hplain:AH X Ad []):
  PD X (Ÿ (.Attribute o "append" apos) [e] [] Ad) (jI to te):=
 K0 (o:=o) (e:=e) (Tr PySem.F.plainAttrs_list PySem.F.slot_list_append PySem.F.type_list_append TX ho.pe (lQ he.pe jj hs) hbase AY hline hs hplain) ho.mo he.mo
structure FD (P:Program) (w:World) (K:Ac) (mg:Aq) (base:Heap) (x:Str) (k:Nat) (ps:List Str) (sp:xE):Prop where
 ex:∃ (f:Addr) (fd:FuncData),wg P w K mg base xP k f fd ps (mv K sp)/\mg x=↑(å f)/\PySem.W.keepIn K (å f)=true/\Binds K fd ps []
 mo:mQ sp
def Ky {x:Str}É4{ps:List Str}{sp:xE}(F:FD ô X.K X.mg X.base x k ps sp) (hr:yg k X.A) õ (hg:Gl X x) (AV:(x == ("__debug__":Str))=Ö)
  Ó:PD X (Ÿ (ą x p) Ĭ) (ba sp tA):=by
 let#[#[f,fd,h1,h2,h3,h4],hm]:=F;show Kz (E:=E0) (Ki h1 hr hg h2 h3 h4 ū Tu ha.pa AV he An) hm ha.mo
end
def Fd ŕ{p:Addr}ù{Q:DK}(e:Ì4) (h:Q (ĥ ds) S):mF [À5] S Q:=by
 unfold mF;ext È2
def Fe ŕ ĵ ù{Q:DK}(e:yu d S=↑ds) (h:∀ p,S p=none->Q (À5) (ups S p Ě)):mH [d] S Q:=by
 unfold mH;ext È2
def Ff ŕ ĵ ù{Q:DK}(e:yu d S=↑ds) (h:Q (í ds.length) S):mI [d] S Q:=by
 unfold mI;ext È2
def N8 ŕ{p:Addr}ù{Q:Bool->SS->Prop}(e:Ì4) (h:Q (!ds.isEmpty) S):nJ (À5) S Q:=by
 unfold nJ;ext È2
def Fi ŕ{p:Addr}ù{i:Int}ĵ{Q:DK}(e:Ì4) Ŗ:pG (À5) Í3 S Q:=by
 unfold pG;ext Ő;rw[e];ext Ő;rw[e2];show h
def Fg ŕ ù{i:Int}ĵ{Q:DK}Ŗ:pG (ĥ ds) Í3 S Q:=by
 unfold pG;ext Ő;rw[e2];show h
def Fh ŕ ù{i:Int}ĵ{Q:DK}Ŗ:pG (.pP ds) Í3 S Q:=by
 unfold pG;ext Ő;rw[e2];show h
inductive T where
 | zk | bl (b:Bool) | int (i:Int) | str (x:Str) | tup Î6 | lst Î6 | wN | err (c f:Str) (t:T)
mutual
def eqT:T->T->Bool
 | .zk,.zk=>true
 | .bl a,ŧ=>a == b
 | .bl a,í b=>(if a then 1 else 0) == b
 | í a,ŧ=>a == (if b then 1 else 0)
 | í a,í b=>a == b
 | ſ a,ſ b=>a == b
 | ĥ a,ĥ b=>v7 a b
 | .lst a,.lst b=>v7 a b
 | .wN,.wN=>true
 | .err a b t,.err c d u=>a == c&&(b == d&&eqT t u)
 | _,_=>Ö
def v7:Ú->Ú->Bool
 | [],[]=>true
 | a::as,b::bs=>eqT a b&&v7 as bs
 | _,_=>Ö
end
mutual
def dep:T->Nat
 | ĥ ts=>1+wA ts
 | ö=>1+wA ts
 | .wN=>Ŝ
 | .err Ď=>Ŝ
 | _=>0
def wA:Ú->Nat
 | []=>0
 | Í4=>max (dep t) (wA ts)
end
def Xo:Ú->Bool
 | []=>true
 | í _::ts=>Xo ts
 | _=>Ö
def KP (ns:ċ):Xo (ns.map T.int)=true:=by
 induction ns with
 | nil=>rfl
 | cons n ns ih=>show ih
mutual
def Sn (S:SS):T->D->Prop
 | .zk,d=>d=.zk
 | ŧ,d=>d=ŧ
 | í i,d=>d=í i
 | ſ x,d=>d=ſ x
 | ĥ ts,d=>∃ ds,d=ĥ ds/\Ê
 | ö,d=>∃ ds,((d=.pP ds/\Xo ts=true)\/∃ a,d=À7/\S a=↑ Ě)/\Ê
 | .wN,d=>Ã0
 | .err c f t,d=>∃ x,d=.err c f x/\Sn S t x
def zq (S:SS):Ú->List D->Prop
 | [],ds=>ds=[]
 | Í4,ds=>∃ c cs,ds=c::cs/\Sn S t c/\zq S ts cs
end
mutual
theorem cG:∀ t:T,eqT t t=true
 | .zk=>À0
 | ŧ=>À0
 | í i=>À0
 | ſ x=>À0
 | ĥ ts=>by simp![eqT];show Zv ts
 | ö=>by simp![eqT];show Zv ts
 | .wN=>À0
 | .err Ä t=>by simp[eqT,cG t]
theorem Zv:∀ ts:Ú,v7 ts ts=true
 | []=>Ê0
 | Í4=>by simp![v7,cG t,Zv ts,zbQ]
end
theorem Ws:∀ ts us:Ú,v7 ts us=((List.range (min ë ű)).all (λ j=>eqT Š (us.getD j .zk))&&ë == ű)
 | [],[]=>Ê0
 | [],_::_=>Ê0
 | _::_,[]=>Ê0
 | Í4,u::us=>by
  simp![v7,Ws ts us,A7];rw[show min (ë+1) (ű+1)=min ë ű+1 by lia,List.range_succ_eq_map,List.all_cons,List.all_map];have:(ë+1 == ű+1)=(ë == ű):=by rw[BK];simp
  rw[this,Bool.and_assoc];rfl
theorem zq.length ŕ:∀ Â,Ê->ë=ds.length
 | [],ds,h=>by ext Á5;rfl
 | Í4,ds,h=>by
  simp![zq] at h;let#[c,cs,rfl,_,h2]:=h;simp[zq.length h2]
section
variable {ţ}{Å}{ŕ}
theorem SR À Č{xs ys:List V}Î7 (h2:yj ä a ys):Ŏ:=by
 ext ě;let#[_,_,#[o',n,e',c',_],_]:=I.list h2;ext Ĝ
 injection c' with q
 show É8 q ()
def Sn.lT Ē Æ1 ĵ{x:V}(h:Sn S (ö) d) (r:Ł):∃ a xs ds,x=À7/\yj ä a xs/\Å3/\Ê:=by
 ext ź;obtain⟨ds,⟨h,_⟩ | ⟨a,h,e⟩,h2⟩:=h
 .subst h;ext É5;show#[a,xs,ds,rfl,g1.sq,g2,h2]
 .subst h;ext ņ;let#[xs,g1,g2]:=p Ä e;show#[a,xs,ds,r,yj.of g1,g2,h2]
def Sn.lM Æ1 ĵ{x:V}(h:Sn S (ĥ ts) d) (r:Ł):∃ a xs ds,x=À7/\yJ ä a xs/\Å3/\Ê:=by
 ext ź;let#[ds,rfl,h2]:=h;ext É5;show#[a,xs,ds,rfl,g1,g2,h2]
def Sn.jF Ē ĵ{x:V}(h:Sn S .wN d) (r:Ł):∃ a vs,x=À7/\š:=by
 ext ź;let#[a,Aa,#[rfl,_],e]:=h;ext ņ;let#[xs,g1,g2]:=p Ä e;show#[a,xs,r,g1]
def Ra À Č{vs:Ô}(h:š):∃ o,Å1 a=↑o/\o.cls=.type "dict":=by
 let#[_,_,_,_,o,_,_,e,c]:=(show wy ô H s.heap a (.dK vs) from I.zv a _ h)
 show#[o,e,c.1.1]
theorem SV À Č Ş{vs:Ô}Î7 (h2:š):Ŏ:=by
 ext ě;ext Î8
 injection c' with q
 show É8 q ()
theorem S_ À Č Ş{vs:Ô}(h1:yj ä a xs) (h2:š):Ŏ:=by
 ext Á6;ext Î8
 injection c' with q
 show É8 q ()
theorem Sn.flat {t:T}ĵ{x:V}(h:Ģ) (r:Ł):match t with
  | .zk=>x=.zk
  | ŧ=>x=ŧ
  | í i=>x=í i
  | ſ y=>x=ſ y
  | _=>True:=by
 cases t <;> first
  | trivial
  | (ext ź;subst h;simpa only [zj] using r)
def Sn.kL {c f:Str}{t:T}ĵ{x:V}(h:Sn S (.err c f t) d) (r:Ł):∃ e C dx w y,x=å e/\(lI X.K c C/\Ç4/\Xd H f w dx)/\Sn S t y/\zj ä y w:=by
 ext ź;let#[y,rfl,h]:=h;ext ņ;let#[e,C,dx,w,r1,r2,r3]:=r;show#[e,C,dx,w,y,r1,r2,h,r3]
def Zf À {e C:Addr}{dx:Æ Addr}(h:Ç4):∃ oe vs,Å1 e=↑oe/\oe.cls=å C/\oe.dict=dx/\oe.data=.fields vs:=(show wy ô H s.heap e (oH e C dx) from I.zv e _ h).1
def SU À Á1 Ş Î7 Á2:Ŏ:=by
 ext ě;ext Ã2
def SY À Á1 Ş(h1:yj ä a xs) Á2:Ŏ:=by
 ext Á6;ext Ã2
def Rb À Á1{vs:Ô}(h1:š) Á2:Ŏ:=by
 rw[h1] at h2;cases h2
def Hg À {e C C':Addr}{dx dx':Æ Addr}(h1:Ç4) (h2:H e=↑(oH e C' dx')):C=C'/\dx=dx':=by
 let#[o,_,e1,c1,d1,_]:=Zf I h1;let#[o',_,e2,c2,d2,_]:=Zf I h2;rw[e1] at e2;cases e2;rw[c1] at c2;rw[d1] at d2;cases c2;cases d2;show#[rfl,rfl]
def Xd.inj Ŀ{f f':Str}{w w':V}{dx:Æ Addr}(h1:Xd H f w dx) (h2:Xd H f' w' dx):f=f'/\w=w':=by
 cases dx with
 | none=>show#[h1.1.trans h2.1.symm,h1.2.trans h2.2.symm]
 | some x=>have:=À1 h2;cases this;show#[rfl,rfl]
def lI.inj {K:Ac}{c c':Str}{C:Addr}(h1:lI K c C) (h2:lI K c' C):c=c':=by
 let#[_,_,_,#[#[#[_,_,_,_,_,_,_,_,_,_,_,_,a],_],_,_,_,_]]:=h1;let#[_,_,_,#[#[#[_,_,_,_,_,_,_,_,_,_,_,_,b],_],_,_,_,_]]:=h2;rw[a] at b;cases b;rfl
mutual
theorem bX À Ē:∀ (t u:T) {d e:D}{x:V},Ģ->Sn S u e->Ł->zj ä e x->t=u
 | ĥ ts,u,d,e,x,h1,h2,r1,r2=>by
  let#[a,xs,ds,rfl,g1,g2,g3]:=h1.lM r1;cases u with
  | wN=>ext Î;show (SV I g1 g).elim
  | err _ _ _=>ext À8;show (SU I g1 g.2.1).elim
  | tup us=>
   ext ż;have:=I.Y8 g1 k1;ext É6
  | lst us=>
   ext ų;show (SR I g1 k1).elim
  | _=>show ú
 | ö,u,d,e,x,h1,h2,r1,r2=>by
  let#[a,xs,ds,rfl,g1,g2,g3]:=h1.lT p r1;cases u with
  | wN=>ext Î;show (S_ I g1 g).elim
  | err _ _ _=>ext À8;show (SY I g1 g.2.1).elim
  | lst us=>
   ext ų;have:=I.X8 g1 k1;ext É6
  | tup us=>
   ext ż;show (SR I k1 g1).elim
  | _=>show ú
 | .zk,u,d,e,x,h1,h2,r1,r2=>by
  ext Ū;cases u with
  | wN=>ext Î
  | err _ _ _=>ext ç
  | zk=>rfl
  | tup us=>ext Ą
  | lst us=>ext û
  | _=>show ú
 | ŧ,u,d,e,x,h1,h2,r1,r2=>by
  ext Ū;cases u with
  | wN=>ext Î
  | err _ _ _=>ext ç
  | bl _=>ext Ä4
  | tup us=>ext Ą
  | lst us=>ext û
  | _=>show ú
 | í b,u,d,e,x,h1,h2,r1,r2=>by
  ext Ū;cases u with
  | wN=>ext Î
  | err _ _ _=>ext ç
  | int _=>ext Ä4
  | tup us=>ext Ą
  | lst us=>ext û
  | _=>show ú
 | ſ b,u,d,e,x,h1,h2,r1,r2=>by
  ext Ū;cases u with
  | wN=>ext Î
  | err _ _ _=>ext ç
  | str _=>ext Ä4
  | tup us=>ext Ą
  | lst us=>ext û
  | _=>show ú
 | .err c f t,u,d,e,x,h1,h2,r1,r2=>by
  let#[a,C,dx,w,y,rfl,#[g1,g2,g3],g4,g5]:=h1.kL r1;cases u with
  | err c' f' t'=>
   let#[a',C',dx',w',y',q,#[k1,k2,k3],k4,k5]:=h2.kL r2;cases q;let#[rfl,rfl]:=Hg I g2 k2;let#[rfl,rfl]:=g3.inj k3;cases g1.inj k1;rw[bX I p t t' g4 k4 g5 k5]
  | wN=>ext Î;show (Rb I g g2).elim
  | tup us=>let#[_,_,_,q,k1,_]:=h2.lM r2;cases q;show (SU I k1 g2).elim
  | lst us=>let#[_,_,_,q,k1,_]:=h2.lT p r2;cases q;show (SY I k1 g2).elim
  | _=>show ú
 | .wN,u,d,e,x,h1,h2,r1,r2=>by
  let#[a,vs,rfl,g]:=h1.jF p r1;cases u with
  | wN=>rfl
  | err _ _ _=>let#[_,_,_,_,_,q,g',_]:=h2.kL r2;cases q;show (Rb I g g'.2.1).elim
  | tup us=>let#[_,_,_,q,g1,_]:=h2.lM r2;cases q;show (SV I g1 g).elim
  | lst us=>let#[_,_,_,q,g1,_]:=h2.lT p r2;cases q;show (S_ I g1 g).elim
  | _=>show ú
theorem Y7 À Ē:∀ (ts us:Ú) {ds es:List D}Ş,Ê->zq S us es->Å3->zw ä es xs->ts=us
 | [],us,ds,es,xs,h1,h2,r1,r2=>by
  have e:=ħ;cases us with
  | nil=>rfl
  | cons _ _=>simp at e
 | Í4,[],ds,es,xs,h1,h2,r1,r2=>by
  have e:=ħ;simp at e
 | Í4,u::us,ds,es,xs,h1,h2,r1,r2=>by
  simp![zq] at h1 h2;let#[c,cs,rfl,a1,a2]:=h1;let#[c',cs',rfl,b1,b2]:=h2;simp![zw] at r1 r2;let#[y,ys,rfl,g1,g2]:=r1;let#[y',ys',q,k1,k2]:=r2;cases q;rw[bX I p t u a1 b1 g1 k1,Y7 I p ts us a2 b2 g2 k2]
end
theorem zq.get Â(h:Ê):∀ {j:Nat},j<ë->∃ c,ds[j]?=↑c/\Sn S Š c:=by
 induction ts generalizing ds with
 | nil=>intro j hj;simp at hj
 | cons t ts ih=>
  intro j hj;ext Ë;cases j with
  | zero=>show Í5
  | succ j=>
   let#[c',e,h3]:=ih h2 (j:=j) (by exists hj);show#[c',by simpa using e,by exists h3]
theorem Z4:∀ Æ1{j:Nat},j<ë->dep Š<=wA ts
 | [],j,h=>by simp at h
 | Í4,0,_=>by simp![wA,List.getD_cons_zero];lia
 | Í4,j+1,h=>by
  have:=Z4 (ts:=ts) (j:=j) (by exists h);simp![wA,List.getD_cons_succ];lia
inductive hV À3 (S:SS) (s:Æ7):T->ā->Prop
 | zk:hV K H S s .zk .none
 | bl {b:Bool}:hV K H S s (ŧ) (.bool b)
 | int {i:Int}{k:Tok}:hV K H S s Í3 (í i k)
 | str {i:Str}{k:Tok}:hV K H S s (ſ i) (ſ i k)
 | tup Â Ĺ (h:s.heap.IsTuple l us.toArray):hV K H S s (ĥ ts) (å l)
 | lst Â Ĺ (h:s.heap.IsList l us.toArray):hV K H S s (ö) (å l)
def U6 À Ē {t:T}ĵ{x:V}{a:ā}(h:Ģ) (r:Ł) (v:RelV x a) (z:dep t<Ŝ):hV ä S s t a:=by
 cases t with
 | zk=>ext Ž;cases v;show .zk
 | bl _=>ext Ž;cases v;show .bl
 | int _=>ext Ž;let#[_,rfl]:=v;show í
 | str _=>ext Ž;let#[_,rfl]:=v;show ſ
 | tup _=>let#[l,xs,ds,rfl,g,r,q]:=h.lM r;cases v;let#[_,w,i,_]:=I.tuple g;show ĥ q r w i
 | lst _=>let#[l,xs,ds,rfl,g,r,q]:=h.lT p r;cases v;let#[_,w,i,_]:=I.list g;show .lst q r w i.isList
 | _=>simp![dep] at z;lia
abbrev J3 (A:Around) (s:Æ7) (a b:ā) (k:Bool):Prop:=SeqAt.EqAt A s a b k/\SeqAt.RcAt A s a b k/\SeqAt.RcNeAt A s a b (!k)
theorem Ds À Ē:∀ (n:Nat) (t u:T) ŀ{d e:D}{x y:V}{a b:ā},dep t<n->ķ+dep t<Ŝ->ķ+dep u<Ŝ->Ģ->Sn S u e->Ł->zj ä e y->RelV x a->RelV y b->J3 A s a b (eqT t u):=by
 intro n
 induction n with
 | zero=>intros;lia
 | succ n ih=>
  intro t u A d e x y a b hn hu hu' h1 h2 r1 r2 v1 v2;have hq:a=b->t=u:=λ z=>by subst z;have:=v1.inj v2;subst this;show bX I p t u h1 h2 r1 r2
  have c1:=U6 I p h1 r1 v1 ⋯;have c2:=U6 I p h2 r2 v2 ⋯;clear h1 h2 r1 r2 v1 v2;have hA:ķ<Ŝ:=⋯;have el:∀ {ts us:Ú}{ds ds':List D}{xs xs':List V}{is is':Ai},1+wA ts<n+1->ķ+(1+wA ts)<Ŝ->ķ+(1+wA us)<Ŝ->Ê->zq S us ds'->Å3->zw ä ds' xs'->Vals xs is->Vals xs' is'->Í6=ë/\Ê7=ű/\
    ∀ (j:Nat) (h1:j<Í6) (h2:j<Ê7),SeqAt.EqAt A.in1 s is.toArray[j] is'.toArray[j] (eqT Š (us.getD j .zk)):=by
   intro ts us ds ds' xs xs' is is' a1 a2 a3 g1 g2 r1 r2 v1 v2;have e1:Í6=ë:=by rw[AN,<- v1.length,<- r1.length,<- g1.length]
   have e2:Ê7=ű:=by rw[AN,<- v2.length,<- r2.length,<- g2.length]
   exact#[e1,e2,λ j h1 h2=>?_];let#[_,k1,s1]:=g1.get (e1▸h1);let#[_,k2,s2]:=g2.get (e2▸h2);let#[_,f1,q1]:=r1.get k1;let#[_,f2,q2]:=r2.get k2;let#[w1,o1,m1]:=v1.get f1;let#[w2,o2,m2]:=v2.get f2;have y1:=Z4 (e1▸h1);have y2:=Z4 (e2▸h2);let#[_,z1]:=AM.mp o1;let#[_,z2]:=AM.mp o2;rw[List.getElem_toArray,List.getElem_toArray,z1,z2];show (ih Ä (A:=A.in1) ⋯ (by change ķ+1+_<_;lia) (by change ķ+1+_<_;lia) s1 s2 q1 q2 m1 m2).1
  have en:∀ {l l':Addr}{ts us:Ú},(Ç3 l=å l'->ts=us)->SeqAt.RcAt Ë5 (v7 ts us)/\SeqAt.RcNeAt Ë5 (!v7 ts us)->J3 Ë5 (v7 ts us):=λ{l l' ts us} h q=>by
   exact#[?_,q];by_cases z:l=l'
   .subst z;rw[h rfl,Zv];show .same _
   .show .of_refs z q.1
  cases c1 <;> cases c2 <;> simp![eqT,zB5,zB2]
  .show#[.same _,.none_none,.none_none]
  .show#[.none_bool _,.none_bool _,.none_bool _]
  .show#[.none_int Ä,.none_int Ä,.none_int Ä]
  .show#[.none_str Ä,.none_str Ä,.none_str Ä]
  .show#[.none_tuple Á,.none_tuple Á,.none_tuple Á]
  .show#[.none_list Á,.none_list Á,.none_list Á]
  .show#[.bool_none _,.bool_none _,.bool_none _]
  .show#[.bool_bool Ä,.bool_bool Ä,.bool_bool Ä]
  .show#[.bool_int Ď,.bool_int Ď,.bool_int Ď]
  .show#[.bool_str Ď,.bool_str Ď,.bool_str Ď]
  .show#[Ê8,Ê8,Ê8]
  .show#[Í7,Í7,Í7]
  .show#[.int_none Ä,.int_none Ä,.int_none Ä]
  .show#[.int_bool Ď,.int_bool Ď,.int_bool Ď]
  .show#[.int_int À2,.int_int À2,.int_int À2]
  .show#[.int_str À2,.int_str À2,.int_str À2]
  .show#[.int_tuple ĺ,.int_tuple ĺ,.int_tuple ĺ]
  .show#[.int_list ĺ,.int_list ĺ,.int_list ĺ]
  .show#[.str_none Ä,.str_none Ä,.str_none Ä]
  .show#[.str_bool Ď,.str_bool Ď,.str_bool Ď]
  .show#[.str_int À2,.str_int À2,.str_int À2]
  .show#[.str_str À2,.str_str À2,.str_str À2]
  .show#[.str_tuple ĺ,.str_tuple ĺ,.str_tuple ĺ]
  .show#[.str_list ĺ,.str_list ĺ,.str_list ĺ]
  .show#[.tuple_none Á,.tuple_none Á,.tuple_none Á]
  .show#[Ë6,Ë6,Ë6]
  .show#[.tuple_int ĺ,.tuple_int ĺ,.tuple_int ĺ]
  .show#[.tuple_str ĺ,.tuple_str ĺ,.tuple_str ĺ]
  .rename_i g1 r1 v1 k1 _ _ _ _ _ g2 r2 v2 k2;ext ï;show#[.tuples k1 k2 hA q,.tuples k1 k2 hA q]
  .show#[Á9,Á9,Á9]
  .show#[.list_none Á,.list_none Á,.list_none Á]
  .show#[Î0,Î0,Î0]
  .show#[.list_int ĺ,.list_int ĺ,.list_int ĺ]
  .show#[.list_str ĺ,.list_str ĺ,.list_str ĺ]
  .show#[Â1,Â1,Â1]
  .rename_i i1 _ g1 r1 v1 k1 _ _ _ i2 _ g2 r2 v2 k2;ext ï;by_cases z:i1.toArray.size=i2.toArray.size
   .rw[<- z,Nat.min_self,beq_self_eq_true,Bool.and_true];show#[.lists k1 k2 z hA q,.lists k1 k2 z hA q]
   .rw[beq_eq_false_iff_ne.mpr z,zaP];have z':=bne_iff_ne.mpr z;show#[.lists_lengths k1 k2 z' hA,.lists_lengths k1 k2 z' hA]
def Vd À Ē (t u:T) ŀ{d e:D}{x y:V}{a b:ā}(hu:ķ+dep t<Ŝ) (hu':ķ+dep u<Ŝ) (h1:Ģ) (h2:Sn S u e) (r1:Ł) (r2:zj ä e y) (v1:RelV x a) (v2:RelV y b):J3 A s a b (eqT t u):=Ds I p _ t u (zE2 _) hu hu' h1 h2 r1 r2 v1 v2
end
def Xb (K:Ac) Ã9:R2:=λ x y H Q=>∃ S d e t u,zj K H d x/\zj K H e y/\yb K H S/\Ģ/\Sn S u e/\dep t<=60/\dep u<=60/\Q Ä1 H
def nu Ã9:wx:=λ x y S Q=>∃ t u,Sn S t x/\Sn S u y/\dep t<=60/\dep u<=60/\Q Ä1 S
def nu.mo Ä6:p_ (nu neg):=λ _ _ _ _ _ hq #[t,u,a,b,c,d,h]=>#[t,u,a,b,c,d,hq Ä h]
def nu.fits {K:Ac}Ä6:vB K (nu neg) (Xb K neg):=λ x y d e H S Q h1 h2 h3 #[t,u,a,b,c,c',h]=>#[S,d,e,t,u,h1,h2,h3,a,b,c,c',h Ë7 h3]
section
variable {ţ}{a b:Expr}{ta tb:zy}{pos:Pos}
theorem TB Ä2:xo X (compareOp .Eq) (Xb X.K Ö):=by
 ext Ć;show (Á4).2.1 È7
theorem K5 Ä2:xo X (compareOp .NotEq) (Xb X.K true):=by
 ext Ć;show (Á4).2.2 È7
def tY Þ:PD X (.Compare a [.Eq] [b] pos) (yT (nu Ö) ta tb):=aE (TB hr.units) À4
def ur Þ:yh X (.Compare a [.Eq] [b] pos) (n_ (yT (nu Ö) ta tb)):=jh (TB hr.units) À4
def uh Þ:yh X (.Compare a [.NotEq] [b] pos) (n_ (yT (nu true) ta tb)):=jh (K5 hr.units) À4
def UW (K:Ac) Ã9:R2:=λ x y H Q=>∃ S d e u ts ds,zj K H d x/\zj K H e y/\yb K H S/\Sn S u d/\yu e S=↑ds/\Ê/\dep u<=60/\wA ts<=60/\Q Ê9 H
def jB Ã9:wx:=λ x y S Q=>∃ u ts ds,Sn S u x/\yu y S=↑ds/\Ê/\dep u<=60/\wA ts<=60/\Q Ê9 S
def jB.mo Ä6:p_ (jB neg):=λ _ _ _ _ _ hq #[u,ts,ds,a,b,c,d,e,h]=>#[u,ts,ds,a,b,c,d,e,hq Ä h]
def jB.fits {K:Ac}Ä6:vB K (jB neg) (UW K neg):=λ x y d e H S Q h1 h2 h3 #[u,ts,ds,a,b,c,c',c2,h]=>#[S,d,e,u,ts,ds,h1,h2,h3,a,b,c,c',c2,h Ë7 h3]
open Classical in
def kf (Ab:Ai) Î6 (u:T) (v:ā):Bool:=if h:∃ j,Ab[j]?=↑v then eqT (ts.getD (Classical.choose h) .zk) u else Ö
def Vb Å ŕ À Ē Â ð (u:T) {j:Nat}{v:ā}(hj:Ab[j]?=↑v):
  kf Ab ts u v=eqT Š u:=by
 have h:∃ j,Ab[j]?=↑v:=#[j,hj];unfold kf;rw[dif_pos h];have hc:=Classical.choose_spec h;have lt:∀ i,Ab[i]?=↑v->i<ë:=λ i hi=>by
  ext ŋ;show (AM.mp hi).1
 let#[c1,e1,s1]:=h1.get (lt _ hc);let#[c2,e2,s2]:=h1.get (lt _ hj);let#[x1,f1,r1]:=h2.get e1;let#[x2,f2,r2]:=h2.get e2;let#[v1,g1,q1]:=h3.get f1;let#[v2,g2,q2]:=h3.get f2;rw[hc] at g1;cases g1;rw[hj] at g2;cases g2;have hx:=q1.inj q2;subst hx;rw[bX I p Ä s1 s2 r1 r2]
theorem Pn Å ŕ À Ē Â ð (u:T):Ab.any Ã1=ī:=by
 have hl:ë=Ab.length:=by ext ŋ
 rw[BK,BB,BB];constructor
 .rintro⟨v,hv,h⟩;let#[j,hj,rfl]:=zaI.mp hv;rw[Ã4] at h;have hj':j<ë:=⋯;show#[ts[j],B9 hj',by simpa [hj'] using h]
 .rintro⟨t,ht,h⟩;let#[j,hj,rfl]:=zaI.mp ht;have hj':j<Ab.length:=⋯;show#[Ab[j],B9 hj',by rw[Vb I p h1 h2 h3 u (j:=j) (by simp[hj'])];simpa [hj] using h]
def Po Å ŕ À Ē Â ð {u:T}ĵ{x:V}{v:ā}(hu:Sn S u d) (hd:Ł) (hx:RelV x v) ŀ(b1:ķ+wA ts<Ŝ) (b2:ķ+dep u<Ŝ) {y:ā}(hy:y∈Ab):
  SeqAt.EqAt A s y v (kf Ab ts u y):=by
 let#[j,hj,rfl]:=zaI.mp hy;have hjt:j<ë:=by ext ŋ;show hj
 rw[Ã4];let#[c1,e1,s1]:=h1.get hjt;let#[x1,f1,r1]:=h2.get e1;let#[v1,g1,q1]:=h3.get f1;have:Ab[j]=v1:=by
  have:=AM.mp g1;show this.2
 rw[this];have:=Z4 hjt;show (Vd I p _ u (A:=A) ⋯ b2 s1 hu r1 hd q1 hx).1
theorem KG Ä2:xo X (compareOp .In) (UW X.K Ö):=by
 intro gV s σ H x y v w Q I rx ry h;let#[S,d,e,u,ts,ds,a1,a2,a3,a4,a5,a6,a7,a8,q]:=h;let#[l,xs,rfl,g1,g2]:=yu.sq a2 a3 a5;cases ry;rcases g1 with g1 | g1
 .let#[Ab,w1,pl,_]:=I.list g1;exact SeqAt.in_listAt Ã1 pl.isList ß;ext ĝ
 .let#[Ab,w1,pt,_]:=I.tuple g1;exact SeqAt.in_tupleAt Ã1 pt ß;ext ĝ
def uo Þ (hm:behindInMarks .In b=Ö):yh X (.Compare a [.In] [b] pos) (n_ (yT (jB Ö) ta tb)):=jh (KG hr.units) jB.fits jB.mo ha hb hm
end
end L3
namespace L2
open PySem PySem.Spec ň
section
variable {κ:Type}[DecidableEq κ]
def pN (Aa:Ĩ) (k:κ):Æ V:=(Aa.find? Í).map ġ
def putK (Aa:Ĩ) (k:κ) (v:V):Ĩ:=
 ĕ
def Y4 {p:κ × V}{r:Ĩ}{k:κ}(e:p.1=k):pN (p::r) k=↑p.2:=by simp[pN,zaU,e]
def Y5 {p:κ × V}{r:Ĩ}{k:κ}(e:¬ p.1=k):pN (p::r) k=pN r k:=by simp[pN,zaU,e]
theorem VY (k:κ):∀ Aa:Ĩ,Å4=(pN Aa k).isSome
 | []=>rfl
 | p::r=>by
  rw[B5];ext Ä9
  .simp![Y4 e,za3 e,Bool.true_or,Option.isSome_some]
  .rw[Y5 e,za2 e,Bool.false_or];show VY k r
def Sq (Aa:Ĩ) (k:κ) (v:V):(Å5).length<=Ā+1:=by
 unfold putK;split
 .rw[AQ];lia
 .rw[zD7,A7,zbD];lia
def p8.IY {o:Æ V}{u:Æ ā}(r:p8 o u):o.isSome=u.isSome:=by
 cases o with
 | none=>cases u with
  | none=>rfl
  | some _=>show ŵ
 | some _=>cases u with
  | none=>show ŵ
  | some _=>rfl
theorem p8.getD {o:Æ V}{u:Æ ā}{d:V}{d':ā}(r:p8 o u) (rd:RelV d d'):RelV (o.getD d) (u.getD d'):=by
 cases o with
 | none=>cases u with
  | none=>show rd
  | some _=>show ŵ
 | some _=>cases u with
  | none=>show ŵ
  | some _=>show r
def KV.val Ð (k:κ):p8 (pN Aa k) (valueAt vs k):=by
 unfold KV at r
 induction r with
 | nil=>show Œ
 | @cons p q ps qs h t ih=>
  let#[h1,h2]:=h;ext Ä9
  .have e':q.1=k:=À1 e;have b:valueAt (q::qs) k=↑q.2:=Ë9
   rw[Y4 e,b];show h2
  .have e':¬ q.1=k:=Ũ;have b:valueAt (q::qs) k=valueAt qs k:=Ë9
   rw[Y5 e,b];show ih
theorem KV.any Ð (k:κ):Å4=vs.any Í:=by
 unfold KV at r
 induction r with
 | nil=>rfl
 | cons h t ih=>rw[B5,B5,ih,h.1]
def KV.lO Ð (k:κ) Ê3 Ķ:
  KV Á0 (vs.map λ kv=>if kv.1=k then (kv.1,u) else kv):=by
 unfold KV at r ⊢
 induction r with
 | nil=>show ū
 | @cons p q ps qs h t ih=>
  rw[Az,Az];exact ď ?_ ih;let#[h1,h2]:=h;ext Ä9
  .rw[Ñ e,Ñ (À1 e)];show#[h1,ry]
  .rw[Ï e,Ï (Ũ)];show#[h1,h2]
def KV.put Ð (k:κ) Ê3 Ķ:KV (putK Aa k y) (stored vs k u):=by
 unfold putK stored;rw[r.any k];by_cases e:(vs.any Í)=true
 .rw[Ñ e,Ñ e];show r.lO k ry
 .rw[Ï e,Ï e];show Paired.snoc r #[rfl,ry]
theorem KV.length Ð:Ā=Ø:=ž r
end
def Zd ğ{k:Key}{u:ā}(r:RelV (kV k) u):(ox P w).is k u=true:=by
 cases k with
 | inl i=>let#[t,e]:=(show ∃ t,u=Value.int i t from r);subst e;show JN P w i t
 | inr x=>let#[t,e]:=(show ∃ t,u=Value.str x t from r);subst e;show JM P w x t
theorem SJ ğ:∀ {ks:ģ}{us:Ai},Vals (ks.map kV) us->ItemsAre (ox P w) ks us
 | [],_,r=>by rw[B6] at r;cases r;show ū
 | k::ks,_,r=>by
  rw[Az] at r;cases r with
  | cons h t=>show ď (Zd h) (SJ t)
abbrev KT (H:Hp):Ä5->Å8->Prop:=Paired λ p q=>p.1=q.1/\H q.2.1=↑(ĥ (p.1.map kV))/\RelV p.2 q.2.2
def KT.val Ŀ É (k:ģ):p8 (pN Aa k) ((atKey xs k).map ġ):=by
 induction r with
 | nil=>show Œ
 | @cons p q ps qs h t ih=>
  let#[h1,_,h2]:=h;ext Ä9
  .have e':q.1=k:=À1 e;have b:atKey (q::qs) k=↑q.2:=by simp[atKey,zaU,e']
   rw[Y4 e,b];show h2
  .have e':¬ q.1=k:=Ũ;have b:atKey (q::qs) k=atKey qs k:=by simp[atKey,zaU,e']
   rw[Y5 e,b];show ih
def KT.lO Ŀ É (k:ģ) Ê3 Ķ:
  KT H Á0 (xs.map (putAt k u)):=by
 induction r with
 | nil=>show ū
 | @cons p q ps qs h t ih=>
  rw[Az,Az];exact ď ?_ ih;let#[h1,h2,h3]:=h;unfold putAt;ext Ä9
  .rw[Ñ e,Ñ (À1 e)];show#[h1,h2,ry]
  .rw[Ï e,Ï (Ũ)];show#[h1,h2,h3]
def KT.put Ŀ É (k:ģ) {b:Addr}Ê3(hb:Â2) Ķ:
  KT H (putK Aa k y) (storedH xs k b u):=by
 have e:Å4=(atKey xs k).isSome:=by
  rw[VY,(r.val k).IY,Option.isSome_map]
 unfold putK storedH;rw[e];by_cases q:(atKey xs k).isSome=true
 .rw[Ñ q,Ñ q];show r.lO k ry
 .rw[Ï q,Ï q];show Paired.snoc r #[rfl,hb,ry]
def KT.keeps {H H':Hp}É (ht:∀ b ys,H b=↑(ĥ ys)->H' b=↑(ĥ ys)):KT H' Aa xs:=
 Paired.dQ r λ _ _ z=>#[z.1,ht Ä z.2.1,z.2.2]
section
variable {ğ}{Ŀ}{h:Heap}{Č}
def UO {u:HO}Ļ (e:Rd H a u):wy P w H h a u:=e.ok ok
def fO Î9 Ļ (e:Rd H a Ę):Ŷ:=
 show wy P w H h a Ę from UO ok e
def F9 Î9 Ļ (e:Í1):Ŷ:=fO ok (Ň e)
def Zb {ks:ģ}Ļ (e:H a=↑(ĥ (ks.map kV))):(Ç5).is h ks a:=by
 let#[_,Ab,r,o,h1,h2,n,h3]:=(show wy P w H h a (ĥ (ks.map kV)) from ok a _ e)
 show#[o,Ab.toArray,n,h1,h2,h3,by exists SJ r]
def cN {Aa:Ä5}Ļ (e:Rd H a Ì0):ł:=by
 let#[z,y,xs,r,o,es,ep,h1,h2,h3,h4,h5]:=(show wy P w H h a Ì0 from UO ok e)
 exact#[z,y,xs,r,o,es,ep,h1,h2,h3,h4,λ x hx=>?_,h5];have all:∀ {l:Ä5}{m:Å8},KT H l m->∀ x∈m,(Ç5).is h x.1 x.2.1:=by
  intro l m q
  induction q with
  | nil=>intro x hx;show nomatch hx
  | @cons p q ps qs hq t ih=>
   intro x hx;rcases Ao.mp hx with e | hx
   .subst e;show Zb ok (by rw[<- hq.1];show hq.2.1)
   .show ih x hx
 show all r x hx
def F0 {Aa:Ä5}Ļ (e:H a=↑ Ì0):ł:=cN ok (Ň e)
end
def kU Ï0 (y:V) (r:Æ V):Prop:=
 (∃ Aa k,Rd H a Ę/\y=kV k/\r=pN Aa k)\/∃ Aa k b,Rd H a Ì0/\y=å b/\Â2/\r=pN Aa k
def bN Ï0 (y v:V) (H':Hp):Prop:=
 (∃ Aa k,Í1/\y=kV k/\Ā<â/\H'=upd H a (.dK (Å5)))\/
 ∃ Aa k b,H a=↑ Ì0/\y=å b/\Â2/\Ā<â/\H'=upd H a (.dT (Å5))
theorem kU.k Ŀ Č Î9{k:Key}(e:Í1):kU H a (kV k) (pN Aa k):=Ň #[Aa,k,Ň e,rfl,rfl]
theorem bN.k Ŀ Č Î9{k:Key}{v:V}(e:Í1) (hl:Ā<â):bN H a (kV k) v (upd H a (.dK (Å5))):=Ň #[Aa,k,e,rfl,hl,rfl]
section
variable {ţ}{Å}{Č}{y v:V}{u r:ā}{o:Æ V}{ŀ}{E:Aj}
theorem Inv.big À:sysModules<ÿ:=by
 have h:mainGlobals<ÿ:=(I.mod.glob.keeps I.bk).lt;show zaH () h
def FL {Q:Aj}(hu:ķ+1<Ŝ) À (g:kU H a y ↑v) Ķ (h:∀ w' s',Ë0->RelV v w'->Q w' s'):
  ť Ã8 A (getItem (À7) u) Q E s:=by
 ext ļ
 .subst ey;ext Ń;let#[w',hw,rw']:=p8.some_of (v:=v) (o:=valueAt vs k) (by rw[l];show rel.val k);show wpAny_getItem_of (Zd ry) dd.mapOf hw (h w' _ Í8 rw')
 .ext ĩ;let#[w',hw,rw']:=p8.some_of (v:=v) (o:=(atKey xs k).map ġ) (by rw[l];show rel.val k);let#[p,hp,fD]:=Aw.mp hw;exact wpAny_getItem_heap (Ã5) (Zb I.zv eb) dd hp ?_;rw[fD];show h w' _ Í8 rw'
def Qb {h':Heap}{t':Nat}{ob:HO}À (mu:b9 (H a)) (hs:Heap.SameBut a s.heap h') (he:∃ q,h'.get? a=↑q) (new:wy ô (upd H a ob) h' a ob):
  Inv X gV σ (upd H a ob) { s with heap:=h',toks:=t' }:=
 I.write (x:=a) (e:=a) mu (Ň rfl) (λ b q hb z=>(hs.2 b hb).trans z) he new
def FA ğ{H':Hp}{h':Heap}Î9{vs:List (Key× ā)}(z:Ā<=â) (hd:Ė) (rel:KV Aa vs) (dd:h'.DictOf (ox P w) a vs):
  wy P w H' h' a Ę:=#[z,hd,vs,rel,dd]
def FJ {H':Hp}{Q:Unit->Ĕ}(hu:ķ+1<Ŝ) À (g:bN H a y v H') Ķ (rv:RelV v r) (h:∀ s',Inv X gV σ H' s'->Q Unit.unit s'):
  ť Ã8 A (setItem (À7) u r) Q E s:=by
 rcases g with ⟨Aa,k,e,ey,l,eH⟩ | ⟨Aa,k,b,e,ey,eb,l,eH⟩
 .subst ey eH;let#[z,hd,vs,rel,dd]:=F9 I.zv e;have hz:Ø<=â:=by rw[<- rel.length];show z
  ext ŷ
  exact wpAny_setItem_pairs (hsz:=hz) (Zd ry) dd λ h' dd' hs=>h _ ?_;have he:∃ q,h'.get? a=↑q:=let #[q,_,_,hq,_]:=dd';#[q,hq]
  show Qb I (by rw[e];show Œ) hs he (FA hl hd (rel.put k rv) dd')
 .subst ey eH;cases (show u=Ç3 b from ry);let#[z,hd,xs,rel,dd]:=F0 I.zv e;have hz:xs.length<=â:=by rw[<- ž rel];show z
  ext ŷ
  exact wpAny_setItem_heap (hsz:=hz) (Ã5) (Zb I.zv eb) dd λ h' dd' hs=>h _ ?_;let#[q,es,ep,hq,h2,h3,h4,_,h5]:=dd';exact Qb I (by rw[e];show Œ) hs #[q,hq] #[hl,hd,_,(rel.put k eb rv).keeps λ c ys ec=>?_,q,es,ep,hq,h2,h3,h4,h5];rw[zX (ou ec e (λ z=>nomatch z))];show ec
end
section
variable {ţ}{Å}{Č}{Î9}{ŀ}{E:Aj}
theorem FK {Q:Aj}À (e:Rd H a Ę) (h:∀ t s',Ë0->Q (í Ā t) s'):ť Ã8 A (call (Æ9 "len") [À7]) Q E s:=by
 ext Ń;exact call_len_dict hd dd (by rw[<- rel.length];rw[sizeLine_eq] at z;lia) ?_;rw[<- rel.length];show h Ä Í8
end
def Vn (i:Expr):Prop:=∀ ov iv,subscripted i Ö ov iv=operate [ov,iv] (getItem ov iv)
def Mm {prog:Program}{w:World}ŀ{E:Aj}{s:Æ7}{env:Env}{value slice:Expr}{pos:Pos}{T id:Í0}{Q:Aj}
  (hl:typeLookup (.type T) "__getitem__"=pure ↑(Æ9 id)) (hs:Vn slice)
  (h:ť æ (eval value env) (λ o s₁=>ť æ (eval slice env) (λ i s₂=>s₂.TypeIs o T/\ť æ (getItem o i) Q E s₂) E s₁) E s):
  ť æ (eval (.Subscript value slice pos) env) Q E s:=by
 exact Subscript_ (za6 h (λ o s₁ h₁=>za6 h₁ (λ i s₂ h₂=>?_) λ _ _ x=>x) λ _ _ x=>x);let#[hT,h₂]:=h₂;unfold subscriptTail;exact tp ?_;rw[getitemInPython_of_ne hT.not_modules];exact tp (wpAny_specialOf hT hl ?_);have fin:ť æ (subscripted slice Ö o i) (λ r s₃=>ť æ (letTemporaryGo value o r >>= λ _=>pure r) Q E s₃) E s₂:=by
  rw[hs o i];show wpAny_operating (za6 h₂ (λ r s₃ h₃=>tp (wpAny_letTemporaryGo (Ah h₃))) λ _ _ x=>x)
 first
  | show Ah (tp fin)
  | show tp (Ah (tp fin))
  | show tp fin
def FE ţ Å Č{y:V}{o:Æ V}À (g:kU H a y o):s.TypeIs (À7) "dict":=by
 rcases g with ⟨Aa,k,e,_,_⟩ | ⟨Aa,k,b,e,_,_,_⟩
 .let#[_,_,vs,_,dd]:=fO I.zv e;show dd.typeIs
 .let#[_,_,xs,_,dd]:=cN I.zv e;show dd.typeIs
def Mi (td ty:TE):TE:=fun σ H Q=>td σ H λ x H1=>ty σ H1 λ y H2=>∃ a v,x=À7/\kU H2 a y ↑v/\Q v H2
def MB (td ty tv:TE):TS:=λ D σ H=>tv σ H λ v H1=>td σ H1 λ x H2=>ty σ H2 λ y H3=>∃ a H4,x=À7/\bN H3 a y v H4/\D.nx σ H4
section
variable {ţ}{o i value:Expr}{pos pos':Pos}{td ty tv:TE}
def Kf Ħ (hi:PE X i ty) (hs:Vn i):PE X (.Subscript o i pos) (Mi td ty):=by
 intro gV s σ H Q I h;exact Mm PySem.F.slot_dict_getitem.lookup hs (zM (ho gV s σ H _ I h) λ u s1 #[x,H1,I1,rx,q1]=>zM (hi É7) λ iv s2 #[y,H2,I2,ry,a,v,ex,g,q2]=>?_);ext Ō;show#[FE I2 g,FL hu I2 g ry λ w' s3 I3 rw'=>#[v,H2,I3,rw',q2]]
def Lm Ħ (hi:PE X i ty) (hv:PE X value tv) (hs:swapsWith value ↑(ũ) pos.line Ġ=pure Ö):
  PS X (.Assign [ũ] value pos) (MB td ty tv):=by
 intro gV s σ H D I h;exact wpAny_Assign_Subscript (zM (hv gV s σ H _ I h) λ r s1 #[v,H1,I1,rv,q1]=>zM (ho É7) λ u s2 #[x,H2,I2,rx,q2]=>zM (hi gV s2 σ H2 _ I2 q2) λ iv s3 #[y,H3,I3,ry,a,H4,ex,g,q3]=>?_) hs;ext Ō;show FJ hu I3 g ry rv λ s4 I4=>#[σ,H4,I4,q3]
end
def FC ğ Ŀ(h:Heap) (hb:sysModules<Å2):wy P w H (h.push { cls:=.type "dict",data:=.dict ē }) Å2 (.dK []):=
 #[A0 _,beq_eq_false_iff_ne.mpr (Ne.symm (AG hb)),[],ū,Heap.DictOf.new h]
def Mg:TE:=λ _ H Q=>∀ p,H p=none->Q (À5) (upd H p (.dK []))
section
variable {ţ}{pos:Pos}
def Kc:PE X (.Dict [] [] pos) Mg:=λ gV s σ H Q I h=>
 wpAny_Dict_empty #[å ÿ,_,I.laid (a:=ÿ) (o:=.dK []) (t':=s.toks) (λ _ _ q=>za1 _ q) (Ap _) (FC s.heap I.big),rfl,h _ (I.zv.fresh (Ap _))]
end
structure M2 (X:Cx) (o:Expr) (m:Str) (apos:Pos) (e f:Expr) (Ad:Pos):Prop where
 base:attributeBase o m Ġ (eval o Ġ)=eval o Ġ
 cz:((É0).all (λ x=>!x.1)&&ş
  && Ç0 (([e,f]:List Expr).length+([]:List Keyword).length+Ã3<30))=true
 line:Ë8
 trees:É0=[(Ö,eval e Ġ),(Ö,eval f Ġ)]
def PR Ï0:Prop:=(∃ Aa,Rd H a Ę)\/∃ Aa,Rd H a Ì0
def Hb ţ Å Č À (d:PR H a):
  s.TypeIs (À7) "dict"/\(∀ b,Ç3 a=å b->∃ ob,Å1 b=↑ob/\ob.dict=none)/\Ė:=by
 rcases d with ⟨Aa,e⟩ | ⟨Aa,e⟩
 .let#[_,hd,vs,_,dd]:=fO I.zv e;ext Đ
 .let#[_,hd,xs,_,dd]:=cN I.zv e;ext Đ
section
variable {ţ}{Å}{Č}{y d:V}{u r:ā}{o:Æ V}{ŀ}{E:Aj}
def FN {Q:Aj}(hu:ķ+1<Ŝ) À (g:kU H a y o) Ķ (rd:RelV d r) (h:∀ w' s',Ë0->RelV (o.getD d) w'->Q w' s'):
  ť Ã8 A (call (Æ9 "dict.get") [À7,u,r]) Q E s:=by
 ext ļ
 .subst ey;ext Ń;exact call_meetsIn Ğ (meets_dict_get_default (ox ô) a (Zd ry) hd r) #[_,dd.mapOf,h Ä Í8 ?_];rw[l];show (rel.val k).getD rd
 .ext ĩ;exact call_meetsIn Ğ (meetsH_dict_get_default (tupleKind (ox ô)) a b hd r) #[Ã5,k,xs,Zb I.zv eb,dd,h Ä Í8 ?_];rw[l];show (rel.val k).getD rd
end
def Mh (td ty tx:TE):TE:=fun σ H Q=>td σ H λ x H1=>∃ a,x=À7/\PR H1 a/\ty σ H1 λ y H2=>tx σ H2 λ z H3=>∃ o,kU H3 a y o/\Q (o.getD z) H3
section
variable {ţ}{o e f:Expr}{apos Ad:Pos}{td ty tx:TE}
def Ke Ħ (he:PE X e ty) (hf:PE X f tx) Ì3:PE X À9 (Mh td ty tx):=by
 intro gV s σ H Q I h;exact wpAny_Call_method m.base m.cz m.line PySem.F.plainAttrs_dict PySem.F.slot_dict_get PySem.F.type_dict_get (zM (ho gV s σ H _ I h) λ u s1 #[x,H1,I1,rx,a,ex,d,q1]=>?_);ext Ō;let#[t1,t2,_]:=Hb I1 d;exact#[t1,t2,?_];rw[m.trees];exact Calls.callWith_builtin rfl (Calls.evalArgs_plain (Calls.spliced_cons (zM (he É7) λ iv s2 #[y,H2,I2,ry,q2]=>
  Calls.spliced_cons (zM (hf gV s2 σ H2 _ I2 q2) λ fv s3 #[z,H3,I3,rz,ov,g,q3]=>Calls.spliced_nil ?_))))
 show FN hu I3 g ry rz λ w' s4 I4 rw'=>#[_,H3,I4,rw',q3]
end
end L2
namespace L3
open PySem PySem.Spec L2
open ň hiding St
def mr (Aa:Ç6) (k:Key):Æ D:=(Aa.find? Í).map ġ
def putD (Aa:Ç6) (k:Key) (v:D):Ç6:=
 ĕ
section
variable {K:Ac}{Ŀ}
theorem wD.val:∀ ê,Ŭ->∀ k,(mr Aa k=none/\pN vs k=none)\/∃ d v,mr Aa k=↑d/\pN vs k=↑v/\zj K H d v
 | _,_,ū,k=>Ň #[rfl,rfl]
 | (a,d)::Aa,(b,v)::vs,ď #[e,r] t,k=>by
  have e':a=b:=e;subst e';by_cases h:a=k
  .subst h;show .inr #[d,v,by simp[mr],by simp[pN],r]
  .rcases wD.val t k with ⟨h1,h2⟩ | ⟨d',v',h1,h2,h3⟩
   .show Ň #[by simpa [mr,h] using h1,by simpa [pN,h] using h2]
   .show .inr #[d',v',by simpa [mr,h] using h1,by simpa [pN,h] using h2,h3]
theorem wD.any ê(h:Ŭ) (k:Key):Å4=vs.any Í:=by
 induction h with
 | nil=>rfl
 | cons r _ ih=>rw[B5,B5,ih,r.1]
def wD.len ê(h:Ŭ):Ā=Ø:=ž h
theorem wD.lO {k:Key}ĵ Ä3:∀ ê,Ŭ->wD K H (Aa.map λ kv=>if kv.1=k then (kv.1,d) else kv) (vs.map Æ2)
 | _,_,ū=>ū
 | (a1,a2)::_,(b1,b2)::_,ď #[e,q] t=>by
  have e':a1=b1:=e;subst e';exact ď ?_ (wD.lO r t);by_cases hk:a1=k
  .simp[hk,r]
  .simpa [hk] using q
theorem wD.snoc {k:Key}ĵ Ä3:∀ ê,Ŭ->wD K H (Aa++[(k,d)]) (vs++[(k,v)])
 | _,_,ū=>ď #[rfl,r] ū
 | _,_,ď q t=>ď q (wD.snoc r t)
def wD.put ê(h:Ŭ) (k:Key) ĵ Ä3:wD K H (putD Aa k d) (putK vs k v):=by
 unfold putD putK;rw[h.any k];split
 .show wD.lO r h
 .show wD.snoc r h
end
section
variable {ţ}{o i e f v:Expr}{td ty tx tv:zy}{pos pos' apos Ad:Pos}
def Qn:zy:=λ _ S Q=>∀ p,S p=none->Q (À5) (ups S p (.yp []))
theorem sd:PD X (.Dict [] [] pos) Qn:=by
 exact#[λ _ _ _ _ hq z p hp=>hq Ä (z p hp),PE.imp Kc fun σ H Q hu p hp=>?_];ext ì;show z p (r2.none hp) Ä (İ) (Í9) (r2.ups (Í9) #[[],yD,ū])
def Qq (td ty:zy):zy:=fun δ S Q=>td δ S λ x S1=>ty δ S1 λ y S2=>∃ p Aa k d,x=À5/\y=í k/\S2 p=↑ Ì1/\mr Aa (Ň k)=↑d/\Q d S2
def t_ ĭ (hi:PD X i ty) (hs:Vn i):PD X (.Subscript o i pos) (Qq td ty):=by
 exact#[fun δ S Q Q' hq z=>ho.mo δ S Ä (λ x S1 z=>hi.mo δ S1 Ä (λ y S2 #[p,Aa,k,d,a,b,c,e,h]=>#[p,Aa,k,d,a,b,c,e,hq Ä h]) z) z,PE.imp (Kf (XR hr) ho.pe hi.pe hs) Ê6];ext Ů;exact zY.go hi.mo Á7;let#[p,Aa,k,d,rfl,rfl,c1,c2,h]:=h2;simp![zj] at q1 q2;subst q1 q2;let#[vs,g1,g2]:=p2 Ä c1;rcases wD.val g2 (Ň k) with ⟨n1,_⟩ | ⟨d',v',n1,n2,n3⟩
 .rw[c2] at n1;cases n1
 .rw[c2] at n1;cases n1;show#[p,v',rfl,n2▸kU.k Ï1,h v' H2 n3 (e1.trans e2) p2]
def Qp (td ty tx:zy):zy:=fun δ S Q=>td δ S λ x S1=>∃ p,x=À5/\(∃ Aa,S1 p=↑ Ì1)/\ty δ S1 λ y S2=>tx δ S2 λ z S3=>∃ k Aa,y=í k/\S3 p=↑ Ì1/\Q ((mr Aa (Ň k)).getD z) S3
def se ĭ (he:PD X e ty) (hf:PD X f tx) Ì3:PD X À9 (Qp td ty tx):=by
 exact#[fun δ S Q Q' hq z=>ho.mo δ S Ä (λ x S1 #[p,a,b,z]=>#[p,a,b,he.mo δ S1 Ä (λ y S2 z=>hf.mo δ S2 Ä (λ w S3 #[k,Aa,a,b,h]=>#[k,Aa,a,b,hq Ä h]) z) z]) z,PE.imp (Ke (XR hr) ho.pe he.pe hf.pe m) Ê6];ext Ů;let#[p,rfl,#[kvs0,c0],h1]:=h1;simp![zj] at q1;subst q1;let#[vs0,g0,_]:=p1 Ä c0;exact#[p,rfl,Ň #[vs0,Ň g0],?_];exact zY.go he.mo Á7;exact zY.go hf.mo (Ç7) p2 h2 λ y3 S3 w3 H3 h3 q3 e3 p3=>?_;let#[k,Aa,rfl,c1,h]:=h3;simp![zj] at q2;subst q2;let#[vs,g1,g2]:=p3 Ä c1;exact#[pN vs (Ň k),kU.k Ï1,?_];rcases wD.val g2 (Ň k) with ⟨n1,n2⟩ | ⟨d',v',n1,n2,n3⟩
 .rw[n1] at h;rw[n2];show h _ H3 q3 (Â3) p3
 .rw[n1] at h;rw[n2];show h _ H3 n3 (Â3) p3
def Qo (td ty tv:zy):yw:=λ E δ S=>tv δ S λ v S1=>td δ S1 λ x S2=>ty δ S2 λ y S3=>∃ p Aa k,x=À5/\y=í k/\S3 p=↑ Ì1/\Ā<â/\E.nx δ (ups S3 p (.yp (putD Aa (Ň k) v)))
theorem Ext.dK Ŀ{p:Addr}Î9(h:H p=↑ Ę) (o:HO):Ext H (upd H p o):=
 #[λ b ys q=>ã,λ b ob u q=>ã,λ b u q=>ã,λ b u q=>ã]
theorem uD ĭ (hi:PD X i ty) (hv:PD X v tv) (hs:swapsWith v ↑(ũ) pos.line Ġ=pure Ö):yt X (.Assign [ũ] v pos) (Qo td ty tv):=by
 exact#[λ E E' δ S hE z=>hv.mo δ S Ä (λ w S1 z=>ho.mo δ S1 Ä (λ x S2 z=>hi.mo δ S2 Ä (λ y S3 #[p,Aa,k,a,b,c,d,h]=>#[p,Aa,k,a,b,c,d,hE.nx Ä h]) z) z) z,PS.imp (Lm (XR hr) ho.pe hi.pe hv.pe hs) λ D σ H hu=>?_];ext ì;exact zY.go hv.mo r1 r2 z λ w S1 w1 H1 h1 q1 e1 p1=>?_;exact zY.go ho.mo (r1.ext e1) p1 h1 λ x S2 w2 H2 h2 q2 e2 p2=>?_;exact zY.go hi.mo (Ç7) p2 h2 λ y S3 w3 H3 h3 q3 e3 p3=>?_;let#[p,Aa,k,rfl,rfl,c1,c2,h]:=h3;simp![zj] at q2 q3;subst q2 q3;let#[vs,g1,g2]:=p3 Ä c1;have e4:Ext H3 (upd H3 p (.dK (putK vs (Ň k) w1))):=.dK g1 _;exact#[p,_,rfl,bN.k Ï1 (by rw[<- g2.len];show c2),?_];show h σ _ (((Ç7).ext e3).ext e4) ((Â3).trans e4) (p3.ups e4 #[_,yD,(wD.put g2 _ (zj.ext (e2.trans e3) w q1)).ext e4])
def EC:xR X (Æ9 "len") (λ xs H Q=>∃ p Aa,xs=[À5]/\H p=↑ Ę/\Q (í Ā) H):=by
 intro gV s σ H xs us Q I r h;let#[p,Aa,rfl,e,q]:=h;let#[u,rfl,ru]:=vals1 r;cases ru;show FK I (Ň e) λ t s' I'=>#[í _,H,I',#[_,rfl],q]
def RG:vm:=λ ds S Q=>∃ p Aa,ds=[À5]/\S p=↑ Ì1/\Q (í Ā) S
def tZ {es:List Expr}{tA:ya}{p:Pos}(hm:X.mg "len"=none) õ (hg:Gl X "len") Ó:PD X (Ÿ (ą "len" p) Ĭ) (vj RG tA):=
 mZ (mC EC hg hm PySem.boot_len Ĥ) (λ _ _ _ _ hq #[p,Aa,a,b,h]=>#[p,Aa,a,b,hq Ä h]) (λ xs ds H S Q h0 h2 #[p,Aa,a,b,h]=>by
  subst a;let#[x,rfl,h1]:=h0.one;simp![zj] at h1;subst h1;let#[vs,g1,g2]:=h2 Ä b;exact#[p,vs,rfl,g1,?_];rw[<- g2.len];show h Ë7 h2) ha.mo
end
end L3
namespace L3
open PySem L2
section
variable {È4}
mutual
theorem Sn.sx (h:ĸ):∀ (t:T) ĵ,Ģ->Sn S' t d
 | .zk,d,q=>ŉ
 | ŧ,d,q=>ŉ
 | í i,d,q=>ŉ
 | ſ x,d,q=>ŉ
 | ĥ ts,d,q=>by
  ext È3;let#[ds,q1,q2]:=q;show#[ds,q1,zq.sx h ts q2]
 | ö,d,q=>by
  ext È3;let#[ds,q1,q2]:=q;exact#[ds,?_,zq.sx h ts q2];rcases q1 with q1 | ⟨a,q1,q3⟩
  .show Ň q1
  .show .inr #[a,q1,h Ä q3]
 | .err Ä t,d,q=>by
  ext È3;let#[x,q1,q2]:=q;show#[x,q1,Sn.sx h t q2]
 | .wN,d,q=>by
  ext È3;let#[a,Aa,q1,q2]:=q;show#[a,Aa,q1,h Ä q2]
theorem zq.sx (h:ĸ):∀ Î6 ù,Ê->zq S' ts ds
 | [],ds,q=>by simpa only [zq] using q
 | Í4,ds,q=>by
  simp![zq] at q ⊢;let#[c,cs,q1,q2,q3]:=q;show#[c,cs,q1,Sn.sx h t q2,zq.sx h ts q3]
end
def zq.nil:zq S [] []:=by simp![zq]
def zq.cons {t:T}Æ1 ĵ ù(h:Ģ) (h':Ê):zq S (Í4) (d::ds):=by
 simp![zq];show#[d,ds,rfl,h,h']
theorem zq.append:∀ {ts us:Ú}{ds es:List D},Ê->zq S us es->zq S (ts++us) (ds++es)
 | [],us,ds,es,h,h'=>by ext Á5;exists h'
 | Í4,us,ds,es,h,h'=>by
  ext Ë;show zq.cons h1 (zq.append h2 h')
theorem zq.XZ:∀ Â{i:Nat}{t:T},Ê->ts[i]?=↑t->∃ d,ds[i]?=↑d/\Ģ
 | [],_,i,t,_,e=>by simp at e
 | u::ts,ds,i,t,h,e=>by
  ext Ë;cases i with
  | zero=>simp at e;subst e;show Í5
  | succ i=>
   let#[y,e1,e2]:=zq.XZ (i:=i) h2 (by exists e);show Î1
theorem zq.Wa:∀ Â{i:Nat}ĵ,Ê->ds[i]?=↑d->∃ t,ts[i]?=↑t/\Ģ
 | [],ds,i,t,h,e=>by ext Á5;simp at e
 | u::ts,ds,i,t,h,e=>by
  ext Ë;cases i with
  | zero=>simp at e;subst e;show#[u,rfl,h1]
  | succ i=>
   let#[y,e1,e2]:=zq.Wa (i:=i) h2 (by exists e);show Î1
def zq.len Â(h:Ê):ds.length=ë:=(L3.zq.length h).symm
theorem zq.at Â{i:Int}{t:T}(h:Ê) (e:L2.yc ts i=↑t):∃ d,L2.yc ds i=↑d/\Ģ:=by
 unfold L2.yc at e ⊢;rw[h.len];cases q:L2.o6 ë i with
 | none=>rw[q] at e;cases e
 | some j=>
  rw[q] at e;show h.XZ e
theorem zq.U8:∀ Â{t:T}ĵ ŭ,Ê->Ģ->zq S (ts.set i t) (ds.set i d)
 | [],ds,t,d,i,h,_=>by ext Á5;exists zq.nil
 | u::ts,ds,t,d,0,h,hd=>by
  ext Ë;show zq.cons hd h2
 | u::ts,ds,t,d,i+1,h,hd=>by
  ext Ë;show zq.cons h1 (zq.U8 i h2 hd)
def zq.empty Â(h:Ê):ds.isEmpty=ts.isEmpty:=by
 have:=h.len;cases ds <;> cases ts <;> simp_all
theorem zq.QP:∀ {bs:œ}ù,zq S (bs.map T.bl) ds->ds=bs.map D.bl
 | [],ds,h=>by simpa only [B6,zq] using h
 | b::bs,ds,h=>by
  rw[Az] at h;simp![zq,Sn] at h;let#[c,cs,rfl,rfl,h3]:=h;rw[zq.QP h3];rfl
end
end L3
namespace L5
open PySem L2 L3
def zK ś:SS:=open Classical in λ a=>if Z a then none else S a
section
variable {È4}{Z Z':è}{a p:Addr}
def o7 (h:¬ Z a):zK S Z a=S a:=Ï h
def cj (h:Z a):zK S Z a=none:=Ñ h
def lj {o:O}(h:zK S Z a=↑o):¬ Z a/\S a=↑o:=by
 by_cases z:Z a
 .rw[cj z] at h;cases h
 .rw[o7 z] at h;show#[z,h]
def fE ś:Sx ı S:=λ _ _ h=>(lj h).2
def vy (h:ĸ):Sx ı (zK S' Z):=λ b o q=>by
 let#[q1,q2]:=lj q;rw[o7 q1];show h Ä q2
def wM (h:∀ a,Z' a->Z a):Sx ı (zK S Z'):=λ b o q=>by
 let#[q1,q2]:=lj q;rw[o7 (λ z=>q1 (h _ z))];show q2
def iO (h:ĸ) (hp:S p=none):Sx ı (zK S' λ a=>Z a\/a=p):=λ b o q=>by
 let#[q1,q2]:=lj q;rw[o7]
 .show h Ä q2
 .rintro (z | z)
  .show q1 z
  .subst z;rw[hp] at q2;cases q2
theorem HA {o:O}(h:Z p):zK (ups S p o) Z=zK S Z:=by
 funext b;by_cases z:Z b
 .rw[cj z,cj z]
 .rw[o7 z,o7 z,ky (λ e=>z (by rw[e];show h))]
end
inductive C where
 | lst Î6 | yp (Aa:List (Key×T)) | obj (a:Æ Addr) (c:Str) (fs:List (Str×T))
def yC {κ:Type}(S:SS):List (κ × T)->List (κ × D)->Prop
 | [],l=>l=[]
 | (k,t)::r,l=>∃ d m,l=(k,d)::m/\Ģ/\yC S r m
theorem yC.sx {κ:Type}È4(h:ĸ):∀ {a:List (κ × T)}{b:List (κ × D)},yC S a b->yC S' a b
 | [],_,q=>q
 | (k,t)::r,_,q=>by
  let#[d,m,q1,q2,q3]:=q;show#[d,m,q1,Sn.sx h t q2,yC.sx h q3]
def wQ (S:SS):C->O->Prop
 | ö,.lst ds=>Ê
 | .yp a,.yp b=>yC S a b
 | .obj _ c a,.obj c' b=>c=c'/\yC S a b
 | _,_=>Ŏ
theorem wQ.sx È4(h:ĸ):∀ {c:C}{o:O},wQ S c o->wQ S' c o
 | ö,.lst ds,q=>zq.sx h ts q
 | .yp a,.yp b,q=>yC.sx h q
 | .obj Ď,.obj Ä,q=>#[q.1,yC.sx h q.2]
def adr:C->è
 | .obj ↑q Ä,p=>q=p
 | _,_=>True
inductive W where
 | im (t:T) | own (c:C)
abbrev Ev:=List (Æ W)
abbrev Ae:=Ev->Æ T
abbrev Al:=Ú->Æ T
structure ER ś (δ:yz) (Y:Ev):Prop where
 zd:ŝ
 im:∀ ŭ t,Y[i]?=↑↑(.im t)->∃ d,δ[i]?=↑↑d/\Sn ı t d
 ow:∀ ŭ c,Y[i]?=↑↑(.own c)->∃ p o,Ç8/\S p=↑o/\wQ ı c o/\Z p
def Vw ś (y:T) (d:D):Prop:=Sn ı y d\/∃ ts p ds,y=ö/\d=À5/\Ì4/\Å9/\Z p
abbrev Rk:=SS->SS->(è)->T->D->Prop
def Px:Rk:=λ _ S' Z y d=>Vw Æ4
def zL:Rk:=λ _ S' Z y d=>Ë1
def zC:Rk:=λ S S' Z y d=>Ë1/\∀ ts,y=ö->∃ p ds,d=À5/\S p=none/\S' p=↑ Ě/\zq (zK S' λ a=>Z a\/a=p) ts ds
class Cl (R:Rk):Prop where
 cl:∀ {S S1 S':SS}{Z:è}{y:T}ĵ,Sx S S1->R S1 Æ4->R S Æ4
 of:∀ È4{Z:è}{y:T}ĵ,(∀ ts,y≠ ö)->Ë1->R S Æ4
instance:Cl Px:=#[λ _ h=>h,λ _ h=>Ň h]
instance:Cl zL:=#[λ _ h=>h,λ _ h=>h]
instance:Cl zC:=#[λ s h=>#[h.1,λ ts e=>by
 let#[p,ds,h1,h2,h3]:=h.2 ts e;show#[p,ds,h1,s.none h2,h3]],λ n h=>#[h,λ ts e=>É8 e (n ts)]]
section
variable {È4}{Z:è}{δ:yz}{Y:Ev}{y:T}{ĵ}
def ER.grow (h:ER ć) (s:ĸ):ER S' č:=
 #[λ a z q=>h.zd a z (s.none q),λ i t e=>by
  let#[d,h1,h2]:=h.im i t e;show#[d,h1,Sn.sx (vy s) t h2],λ i ts e=>by
  let#[p,ds,h1,h2,h3,h4]:=h.ow i ts e;show#[p,ds,h1,s Ä h2,wQ.sx (vy s) h3,h4]]
def Vw.grow (h:É1) (s:ĸ):Vw Æ4:=by
 rcases h with h | ⟨ts,p,ds,h1,h2,h3,h4,h5⟩
 .show Ň (Sn.sx (vy s) y h)
 .show .inr #[ts,p,ds,h1,h2,s Ä h3,zq.sx (vy s) ts h4,h5]
def Vw.sn (h:É1):Sn S y d:=by
 rcases h with h | ⟨ts,p,ds,rfl,rfl,h3,h4,_⟩
 .show Sn.sx (fE S Z) y h
 .simp![Sn];show#[ds,.inr #[p,rfl,h3],zq.sx (fE S Z) ts h4]
theorem Vw.zk (h:Vw S Z .zk d):d=.zk:=by
 ext Õ
 ext Ř
 .cases h
theorem Vw.bl {b:Bool}(h:Vw S Z (ŧ) d):d=ŧ:=by
 ext Õ
 ext Ř
 .cases h
theorem Vw.int {b:Int}(h:Vw S Z (í b) d):d=í b:=by
 ext Õ
 ext Ř
 .cases h
theorem Vw.str {b:Str}(h:Vw S Z (ſ b) d):d=ſ b:=by
 ext Õ
 ext Ř
 .cases h
theorem Vw.tup Æ1(h:Vw S Z (ĥ ts) d):∃ ds,d=ĥ ds/\Å9:=by
 ext Õ
 ext Ř
 .cases h
theorem Vw.lst Æ1(h:Vw S Z (ö) d):∃ ds,(d=.pP ds\/∃ a,d=À7/\S a=↑ Ě)/\Å9:=by
 rcases h with h | ⟨us,p,ds,h1,h2,h3,h4,_⟩
 .ext ź;let#[ds,h1,h2]:=h;exact#[ds,?_,h2];rcases h1 with h1 | ⟨a,h1,h3⟩
  .show Ň h1.1
  .show .inr #[a,h1,(lj h3).2]
 .cases h1;show#[ds,.inr #[p,h2,h3],h4]
def oM:T->Æ (Ú)
 | ĥ ts=>↑ts
 | ö=>↑ts
 | _=>none
@[simp] theorem zac Î6:oM (ĥ ts)=↑ts:=rfl
@[simp] theorem zad Î6:oM (ö)=↑ts:=rfl
def Vw.seq Æ1(h:É1) (e:oM y=↑ts):∃ ds,yu d S=↑ds/\Å9:=by
 cases y with
 | tup us=>cases e;let#[ds,rfl,h2]:=h.tup;show#[ds,rfl,h2]
 | lst us=>
  cases e;obtain⟨ds,h1 | ⟨a,rfl,h1⟩,h2⟩:=h.lst
  .subst h1;show#[ds,rfl,h2]
  .show#[ds,by unfold yu;ext Ő;rw[h1],h2]
 | _=>cases e
theorem Vw.wN (h:Vw S Z .wN d):Ã0:=by
 ext Õ
 .ext ź;let#[a,Aa,h1,h2]:=h;show#[a,Aa,h1,(lj h2).2]
 .cases h
def YQ:Sn S .zk .zk:=Ç9
def oh {b:Bool}:Sn S (ŧ) (ŧ):=Ç9
def pO {i:Int}:Sn S Í3 Í3:=Ç9
def Mx {x:Str}:Sn S (ſ x) (ſ x):=Ç9
def gQ Â(h:Ê):Sn S (ĥ ts) (ĥ ds):=by simp![Sn];show#[ds,rfl,h]
def jf Â{p:Addr}(hz:ŝ) (hp:S p=none) (h:Å9):zC S (ups S p Ě) Z (ö) (À5):=by
 have nz:¬ Z p:=λ z=>hz p z hp;have s:Sx S (ups S p Ě):=Í9;exact#[?_,λ us e=>?_]
 .simp![Sn];show#[ds,.inr #[p,rfl,by rw[o7 nz,lK]],zq.sx (vy s) ts h]
 .cases e;show#[p,ds,rfl,hp,lK,zq.sx (iO s hp) ts h]
end
def zP (R:Rk) (f:Ae) (t:zy):Prop:=∀ S Z δ Y y Q,ER ć->f Y=↑y->(∀ d S',ĸ->R S Æ4->Q d S')->t δ S Q
abbrev wY:=zP zL
abbrev xx:=zP Px
abbrev vf:=zP zC
def zP.imp {R R':Rk}È5(h:zP R f t) (i:∀ S S' Z y d,R S Æ4->R' S Æ4):zP R' f t:=λ S Z δ Y y Q hE e hq=>h ć y Q hE e λ d S' s r=>hq d S' s (i Ä Ď r)
def zP.er È5(h:wY f t):xx f t:=h.imp λ _ _ _ _ _ r=>Ň r
def zP.fe È5(h:vf f t):wY f t:=h.imp λ _ _ _ _ _ r=>r.1
def zP.fr È5(h:vf f t):xx f t:=h.fe.er
@[simp] def zi ŭ:Ae:=fun Y=>match Y[i]? with
 | some ↑(.im t)=>↑t
 | _=>none
@[simp] def ze ŭ:Ae:=fun Y=>match Y[i]? with
 | some ↑(.im t)=>↑t
 | some ↑(.own (ö))=>↑(ö)
 | _=>none
@[simp] def cS (t:T):Ae:=λ _=>↑t
@[simp] abbrev cI (i:Int):Ae:=cS Í3
def xc ŭ:wY (zi i) (yq i):=λ S Z δ Y y Q hE e hq=>by
 unfold zi at e;split at e
 .ext ŗ;show hq d Ò h2
 .cases e
def qa ŭ:xx (ze i) (yq i):=λ S Z δ Y y Q hE e hq=>by
 unfold ze at e;split at e
 .ext ŗ;show hq d Ò (Ň h2)
 .rename_i ts h;cases e;let#[p,o,h1,h2,h3,h4]:=hE.ow i _ h;unfold yq;rw[h1];cases o with
  | lst ds=>show hq _ Ò (.inr #[ts,p,ds,rfl,rfl,h2,h3,h4])
  | _=>show h3.elim
 .cases e
def qw (i:Int):vf (cS Í3) (dC Í3):=λ S Z δ Y y Q hE e hq=>by cases e;show ŏ
def qG (i:Bool):vf (cS (.bl i)) (dC (.bl i)):=λ S Z δ Y y Q hE e hq=>by cases e;show hq _ Ò Ĳ
def qg (i:Str):vf (cS (ſ i)) (dC (ſ i)):=λ S Z δ Y y Q hE e hq=>by cases e;show hq _ Ò (Cl.of à Mx)
def qm:vf (cS .zk) (dC .zk):=λ S Z δ Y y Q hE e hq=>by cases e;show hq _ Ò (Cl.of à YQ)
@[simp] def zb (f:é) (fa fb:Ae):Ae:=fun Y=>(fa Y).bind λ x=>(fb Y).bind λ y=>f x y
def Good2 (R:Rk) (f:é) (g:wx):Prop:=∀ S Z x y z d e Q,(ŝ)->Vw S Z x d->Vw S Z y e->f x y=↑z->Æ3->g d e S Q
def yf {R:Rk} [Cl R] {f:é}{g:wx}{fa fb:Ae}{ta tb:zy}(hg:Good2 R f g) ý:zP R (zb f fa fb) (yT g ta tb):=λ S Z δ Y y Q hE e hq=>by
 unfold zb at e;let#[x,e1,e]:=Î2;let#[z,e2,e]:=Î2;exact ha ů;exact hb S1 č z ř λ d2 S2 s2 r2=>?_;show hg S2 Z x z y d d2 Q ((hE.grow ĳ).zd) (Vw.grow r1 s2) r2 e λ c S' s r=>hq c S' ((s1.trans s2).trans s) (Cl.cl ĳ r)
@[simp] def i2 (g:Int->Int->T):é
 | í i,í j=>↑(g i j)
 | _,_=>none
instance {i j:Int}:Î3 (mU i j):=by unfold mU;infer_instance
instance {i j:Int}:Î3 (gE i j):=by unfold gE;infer_instance
instance {i j:Int}:Î3 (ia i j):=by unfold ia;infer_instance
@[simp] def j0 (C:Int->Int->Prop) [∀ i j,Î3 (C i j)] (g:Int->Int->T):é
 | í i,í j=>if C i j then ↑(g i j) else none
 | _,_=>none
def cq Ċ:Good2 zC (i2 g) (ye g'):=λ S Z x y z d e Q hz hx hy ef hq=>by
 unfold i2 at ef;split at ef
 .cases ef;cases hx.int;cases hy.int;show Ë2
 .cases ef
def fG {C:Int->Int->Prop} [∀ i j,Î3 (C i j)] Ċ:Good2 zC (j0 C g) (fI C g'):=λ S Z x y z d e Q hz hx hy ef hq=>by
 unfold j0 at ef;split at ef
 .split at ef
  .rename_i hh;cases ef;cases hx.int;cases hy.int;show#[hh,Ë2]
  .cases ef
 .cases ef
@[simp] def xS:é:=i2 λ i j=>í (i-j)
@[simp] def yv:é:=j0 (λ _ j=>0<j) λ i j=>í (i%j)
@[simp] def pk:é:=j0 gE λ i j=>í (i/j)
@[simp] def pR:é:=j0 ia λ i j=>í (i ^ j.toNat)
@[simp] def ltI:é:=i2 λ i j=>.bl (Ç0 (i<j))
@[simp] def jt:é:=i2 λ i j=>.bl (Ç0 (i<=j))
@[simp] def fF:é:=i2 λ i j=>.bl (Ç0 (j<i))
@[simp] def Zo:é:=i2 λ i j=>.bl (Ç0 (j<=i))
section
variable {fa fb:Ae}{ta tb:zy}
def qf ý:vf (zb xS fa fb) (yT (ye λ i j=>í (i-j)) ta tb):=yf (cq (λ _ _ _=>pO) λ _ _ _=>nofun) ha hb
def qq ý:vf (zb yv fa fb) (yT (fI (λ _ j=>0<j) λ i j=>í (i%j)) ta tb):=ė
def q8 ý:vf (zb pk fa fb) (yT (fI gE λ i j=>í (i/j)) ta tb):=ė
def qj ý:vf (zb pR fa fb) (yT (fI ia λ i j=>í (i ^ j.toNat)) ta tb):=ė
end
def zD Ã9:é:=λ x y=>if dep x<=60/\dep y<=60 then ↑(.bl (cond neg (!eqT x y) (eqT x y))) else none
def cb Ã9:é:=λ x y=>match oM y with
 | some ts=>if dep x<=60/\wA ts<=60 then ↑(.bl (cond neg (!(ts.any λ t=>eqT t x)) (ts.any λ t=>eqT t x))) else none
 | none=>none
def qX Ä6:Good2 zC (zD neg) (nu neg):=λ S Z x y z d e Q hz hx hy ef hq=>by
 unfold zD at ef;split at ef
 .rename_i h;cases ef;show#[x,y,hx.sn,hy.sn,h.1,h.2,hq _ Ò Ĳ]
 .cases ef
def qW Ä6:Good2 zC (cb neg) (jB neg):=λ S Z x y z d e Q hz hx hy ef hq=>by
 unfold cb at ef;split at ef
 .rename_i ts ht;split at ef
  .rename_i h;cases ef;let#[ds,h1,h2]:=hy.seq ht;show#[x,ts,ds,hx.sn,h1,zq.sx (fE S Z) ts h2,h.1,h.2,hq _ Ò Ĳ]
  .cases ef
 .cases ef
@[simp] def zh:é:=λ x y=>match oM x,y with
 | some ts,í i=>L2.yc ts i
 | _,_=>none
def xm:Good2 zL zh pG:=λ S Z x y z d e Q hz hx hy ef hq=>by
 unfold zh at ef;split at ef
 .rename_i ts i ht;cases hy.int;let#[ds,h1,h2]:=hx.seq ht;let#[c,h3,h4]:=h2.at ef;unfold yu at h1;split at h1
  .cases h1;show Fg h3 (hq c Ò h4)
  .cases h1;show Fh h3 (hq c Ò h4)
  .split at h1
   .rename_i q;cases h1;show Fi q h3 (hq c Ò h4)
   .cases h1
  .cases h1
 .cases ef
def oB (f:ĉ) (t:xn):Prop:=∀ S Z δ Y y Q,ER ć->f Y=↑y->(∀ S',ĸ->Q y S')->t δ S Q
@[simp] def zE (f:Ae):ĉ:=fun Y=>Ŕ λ x=>match x with
 | ŧ=>↑b
 | _=>none
@[simp] def YA:T->Æ Bool
 | .zk=>↑ Ö
 | ŧ=>↑b
 | í i=>↑(i != 0)
 | ſ x=>if x.length<=â then ↑((x.length:Int) != 0) else none
 | ĥ ts=>↑(!ts.isEmpty)
 | ö=>↑(!ts.isEmpty)
 | .wN=>none
 | .err Ď=>none
@[simp] def xr (f:Ae):ĉ:=fun Y=>Ŕ YA
@[simp] def nv (f g:ĉ):ĉ:=fun Y=>Ŕ λ b=>if b=true then g Y else ↑ Ö
@[simp] def xN (f g:ĉ):ĉ:=fun Y=>Ŕ λ b=>if b=true then ↑true else g Y
@[simp] def w9 (f:ĉ):ĉ:=fun Y=>(f Y).map (!·)
section
variable {f g:Ae}{t u:zy}{fb gb:ĉ}{tb ub:xn}{R:Rk}
def qc Ä0:oB (zE f) (n_ t):=λ S Z δ Y y Q hE e hq=>by
 ext Ï2
 .cases e2;cases Vw.bl r1;show Ŋ
 .cases e2
def qe Ä0:oB (xr f) (Ww t):=λ S Z δ Y y Q hE e hq=>by
 ext Ã;cases x with
 | zk=>cases Vw.zk r1;ext Ì8
 | bl b=>cases Vw.bl r1;ext Ì8
 | int b=>cases Vw.int r1;ext Ì8
 | str b=>
  cases Vw.str r1;simp![YA] at e2;split at e2
  .rename_i hh;cases e2;show#[hh,Ŋ]
  .cases e2
 | tup ts=>
  let#[ds,rfl,h2]:=Vw.tup r1;ext Â0
 | lst ts=>
  obtain⟨ds,rfl | ⟨a,rfl,h1⟩,h2⟩:=Vw.lst r1
  .ext Â0
  .cases e2;exact N8 h1 ?_;rw[h2.empty];show Ŋ
 | _=>cases e2
def qC (h:oB fb tb) (h':oB gb ub):oB (nv fb gb) (cL tb ub):=λ S Z δ Y y Q hE e hq=>by
 ext ō
 .rename_i hb;rw[Ñ hb];show É2
 .rename_i hb;rw[Ï hb];ext Ì8
def qA (h:oB fb tb) (h':oB gb ub):oB (xN fb gb) (cK tb ub):=λ S Z δ Y y Q hE e hq=>by
 ext ō
 .rename_i hb;rw[Ñ hb];ext Ì8
 .rename_i hb;rw[Ï hb];show É2
def qB (h:oB fb tb):oB (w9 fb) (fN tb):=λ S Z δ Y y Q hE e hq=>by
 unfold w9 at e;let#[b,e1,rfl]:=Aw.mp e;show h ć b _ hE e1 λ S1 s1=>Ŋ
@[simp] def lB (f g:Ae):Ae:=fun Y=>Ŕ λ x=>match x with
 | .bl k=>if k=true then g Y else ↑(.bl Ö)
 | _=>none
@[simp] def kC (f g:Ae):Ae:=fun Y=>Ŕ λ x=>match x with
 | .bl k=>if k=true then ↑(.bl true) else g Y
 | _=>none
@[simp] def dH (f:Ae):Ae:=fun Y=>Ŕ λ x=>match x with
 | .bl k=>↑(.bl (!k))
 | _=>none
@[simp] def XO (c:ĉ) (f g:Ae):Ae:=fun Y=>(c Y).bind λ b=>if b=true then f Y else g Y
def qH [Cl R] Ä0 (h':zP R g u):zP R (lB f g) (bc t u):=λ S Z δ Y y Q hE e hq=>by
 ext Ï2
 .cases Vw.bl r1;split at e2
  .ext Ê5;rw[Ñ hb];show h' Ç
  .ext Ê5;rw[Ï hb];ext Æ8
 .cases e2
def qk [Cl R] Ä0 (h':zP R g u):zP R (kC f g) (cV t u):=λ S Z δ Y y Q hE e hq=>by
 ext Ï2
 .cases Vw.bl r1;split at e2
  .ext Ê5;rw[Ñ hb];ext Æ8
  .ext Ê5;rw[Ï hb];show h' Ç
 .cases e2
def ql [Cl R] Ä0:zP R (dH f) (cW t):=λ S Z δ Y y Q hE e hq=>by
 ext Ï2
 .cases Vw.bl r1;ext Æ8
 .cases e2
def qy [Cl R] (hc:oB fb tb) (h:zP R f t) (h':zP R g u):zP R (XO fb f g) (cZ tb t u):=λ S Z δ Y y Q hE e hq=>by
 let#[b,e1,e2]:=Î2;exact hc ć b _ hE e1 λ S1 s1=>?_;split at e2
 .rename_i hb;rw[Ñ hb];show h Ç
 .rename_i hb;rw[Ï hb];show h' Ç
end
def b6 ś:Ú->List D->Prop
 | [],ds=>ds=[]
 | Í4,ds=>∃ c cs,ds=c::cs/\Vw S Z t c/\b6 S Z ts cs
def jS (f:đ) (t:ya):Prop:=∀ S Z δ Y ys Q,ER ć->f Y=↑ys->(∀ ds S',ĸ->b6 S' Z ys ds->Q ds S')->t δ S Q
def oE (f:đ) (t:ya):Prop:=∀ S Z δ Y ys Q,ER ć->f Y=↑ys->(∀ ds S',ĸ->zq (zK S' Z) ys ds->Q ds S')->t δ S Q
@[simp] def zf:đ:=λ _=>↑[]
@[simp] def za (f:Ae) (g:đ):đ:=fun Y=>Ŕ λ x=>(g Y).bind λ xs=>↑(x::xs)
section
variable {f:Ae}{g:đ}{t:zy}{u:ya}
def rZ:jS zf ly:=λ S Z δ Y y Q hE e hq=>by cases e;show hq [] Ò rfl
def rS:oE zf ly:=λ S Z δ Y y Q hE e hq=>by cases e;show hq [] Ò ū
def r_ Ä0 (h':jS g u):jS (za f g) (ma t u):=λ S Z δ Y y Q hE e hq=>by
 ext Ù;show hq _ S2 ĳ #[d,ds,rfl,Vw.grow r1 s2,r2]
def rV (h:wY f t) (h':oE g u):oE (za f g) (ma t u):=λ S Z δ Y y Q hE e hq=>by
 ext Ù;show hq _ S2 ĳ (ď (Sn.sx (vy s2) x r1) r2)
@[simp] def tupS (g:đ):Ae:=fun Y=>(g Y).bind λ xs=>if xs.length<=â then ↑(ĥ xs) else none
@[simp] def xQ (g:đ):Ae:=fun Y=>(g Y).bind λ xs=>if xs.length<=â then ↑(.lst xs) else none
def qb (h:oE g u):vf (tupS g) (cT u):=λ S Z δ Y y Q hE e hq=>by
 ext Â7;split at e2
 .rename_i hl;cases e2;exact h ć xs _ hE e1 λ ds S1 s1 r1=>#[by rw[r1.len];show hl,hq _ S1 s1 (Cl.of à (gQ r1))]
 .cases e2
def qt (h:oE g u):vf (xQ g) (Qj u):=λ S Z δ Y y Q hE e hq=>by
 ext Â7;split at e2
 .rename_i hl;cases e2;exact h ć xs _ hE e1 λ ds S1 s1 r1=>#[by rw[r1.len];show hl,λ p hp=>hq Ä (s1.trans (Í9)) (Cl.cl s1 (jf (hE.grow s1).zd hp r1))]
 .cases e2
end
@[simp] def zu (F:Al) (g:đ):Ae:=fun Y=>(g Y).bind F
def nH (R:Rk) (F:Al) (f:vm):Prop:=∀ S Z ys z ds Q,(ŝ)->b6 S Z ys ds->F ys=↑z->Æ3->f ds S Q
def qF {R:Rk} [Cl R] {F:Al}{f:vm}{g:đ}{u:ya}(hf:nH R F f) (h:jS g u):zP R (zu F g) (vj f u):=λ S Z δ Y y Q hE e hq=>by
 ext Â7;exact h ć xs _ hE e1 λ ds S1 s1 r1=>?_;show hf S1 Z xs y ds Q (hE.grow s1).zd r1 e2 λ c S' s r=>hq c S' (s1.trans s) (Cl.cl s1 r)
@[simp] def xV:Al
 | [ſ z]=>if z.length<=â then ↑(í z.length) else none
 | [y]=>(oM y).map λ ts=>í ë
 | _=>none
def nI ŕ{Z:è}{y:T}ù(h:b6 S Z [y] ds):∃ d,ds=[d]/\É1:=by
 let#[c,cs,rfl,h1,h2]:=h;cases h2;show Í5
def Y3 ŕ{Z:è}{y z:T}ù(h:b6 S Z [y,z] ds):∃ d e,ds=[d,e]/\É1/\Vw S Z z e:=by
 let#[c,cs,rfl,h1,c2,cs2,rfl,h2,h3]:=h;cases h3;show#[c,c2,rfl,h1,h2]
def qU:nH zC xV mI:=λ S Z ys z ds Q hz hv e hq=>by
 unfold xV at e;split at e
 .ext Å0;split at e
  .rename_i hl;cases e;cases h1.str;show#[hl,ŏ]
  .cases e
 .ext Û;exact Ff h2 ?_;rw[h3.len];show ŏ
 .cases e
@[simp] def listS:Al
 | [y]=>(oM y).map .lst
 | _=>none
def qT:nH zC listS mH:=λ S Z ys z ds Q hz hv e hq=>by
 unfold listS at e;split at e
 .ext Û;show Fe h2 λ p hp=>hq Ä (Í9) (jf hz hp h3)
 .cases e
@[simp] def ip:Al
 | [y]=>(oM y).map ĥ
 | _=>none
def qL:nH zC ip mF:=λ S Z ys z ds Q hz hv e hq=>by
 unfold ip at e;split at e
 .rename_i y;ext Û;have k:Q (ĥ es) S:=hq _ Ò (Cl.of à (gQ h3));unfold yu at h2;split at h2
  .cases h2;show k
  .cases h2;show k
  .split at h2
   .rename_i q;cases h2;show Fd q k
   .cases h2
  .cases h2
 .cases e
@[simp] def cg (g:Int->Int->Int):Al
 | [í i,í j]=>↑(í (g i j))
 | _=>none
def Rq {g:Int->Int->Int}:nH zC (cg g) (nX λ i j=>í (g i j)):=λ S Z ys z ds Q hz hv e hq=>by
 unfold cg at e;split at e
 .let#[d,d',rfl,h1,h2]:=Y3 hv;cases e;cases h1.int;cases h2.int;show ŏ
 .cases e
@[simp] def fj:Al:=cg λ i j=>if j>i then j else i
@[simp] def oy:Al:=cg λ i j=>if j<i then j else i
def kd:Ú->Æ (œ)
 | []=>↑[]
 | ŧ::ts=>(kd ts).map (b::·)
 | _::_=>none
theorem QN:∀ Æ1{bs:œ},kd ts=↑bs->ts=bs.map T.bl
 | [],bs,h=>by cases h;rfl
 | ŧ::ts,bs,h=>by
  unfold kd at h;let#[cs,h1,rfl]:=Aw.mp h;rw[Az,<- QN h1]
 | .zk::ts,bs,h=>Ĵ
 | í _::ts,bs,h=>Ĵ
 | ſ _::ts,bs,h=>Ĵ
 | ĥ _::ts,bs,h=>Ĵ
 | .lst _::ts,bs,h=>Ĵ
def QO (bs:œ):kd (bs.map T.bl)=↑bs:=by
 induction bs with
 | nil=>rfl
 | cons b bs ih=>rw[Az];unfold kd;rw[ih];rfl
@[simp] def i_ (g:œ->Bool):Al
 | [ö]=>(kd ts).map λ bs=>.bl (g bs)
 | _=>none
def nY (g:œ->Bool):vm:=λ ds S Q=>match ds with
 | [ĥ _]=>Ŏ
 | [d]=>Ų
 | _=>Ŏ
def qY {g:œ->Bool}:nH zC (i_ g) (nY g):=λ S Z ys z ds Q hz hv e hq=>by
 unfold i_ at e;split at e
 .ext Å0;let#[bs,e1,rfl]:=Aw.mp e;cases QN e1;let#[es,h2,h3]:=h1.seq rfl;cases h3.QP;have key:Ų:=#[bs,h2,hq _ Ò Ĳ];obtain⟨_,q | ⟨a,q,_⟩,_⟩:=h1.lst
  .subst q;show key
  .subst q;show key
 .cases e
structure FR (S0:SS) (Z0:è) ś (δ:yz) (Y:Ev):Prop where
 er:ER ć
 len:δ.length=Y.length
 sx:Sx S0 S
 z0:∀ a,Z0 a->S0 a≠none
 zz:∀ a,Z0 a->Z a
 zn:∀ a,Z a->Z0 a\/S0 a=none
 fr:∀ ŭ ts p,Y[i]?=↑↑(.own ts)->Ç8->S0 p=none/\adr ts p
 dj:∀ (i j:Nat) ts us p,i≠j->Y[i]?=↑↑(.own ts)->Y[j]?=↑↑(.own us)->Ç8->δ[j]?=↑↑(À5)->Ŏ
def xC Î4{l:List α}Î5{a b:α}(h:(l.set i a)[j]?=↑b):(i=j/\i<l.length/\b=a)\/(i≠j/\l[j]?=↑b):=by
 rw[zb4] at h;by_cases e:i=j
 .subst e;rw[Ñ rfl] at h;by_cases hl:i<l.length
  .rw[Ñ hl] at h;cases h;show Ň #[rfl,hl,rfl]
  .rw[Ï hl] at h;cases h
 .rw[Ï e] at h;show .inr #[e,h]
)
local macro_rules|`(tactic|cases $e:ident)=>`(tactic|first|(injection $e:ident with z;subst z)|cases ($e))
example:=`(
example ĕ _:=x prog w
example À:=(rk ĕ).hash
example Á:=Option
example Â:=by rcases xC e with ⟨rfl,hl,e⟩ | ⟨n,e⟩
example Ã _:=x S Z δ Y
example Ĥ:=Int×Int
example Ä:=List (Ĥ)
example Å:=yA M h n
example Æ:=List Int
example ł:=t.place
example ð:=below ł j
example Ç:=insertAt ł (ð) j
example ő:=(xD X N' scope cl C s H fp)
example È(Sc:kW X N' pick scope) (hc:X.calm=true) (hi:xW X tg iter ti) (hg:∀ cl C s H fp,nE ő tg g) (hf:∀ cl C s H fp,fX ő ifs tcc) (he:∀ cl C s H fp,PD ő elt te):=0
example É:=s.heap.objs.size
example Ê:=t.place.toList
example Ë:=insertAt es p (À key,Value.ref b)
example Ŗ:=Value
example Ì(hbody:∀ (Af:Ŗ) (A:Around) (outer:List Env) (s:Shared) (H:Hp) (E:XK),yg k (A.deeper (envOfC x (zW st) É f Af))-> ∃ t,xw (wB xP P w K mg base N x (zW st) f Af A outer s H E).vb (xA st) t/\zJ R g t):=0
example Í:=owner
example Î:=Ev->Á Ev
example Ï:=t.mask
example Ð(i:Nat):=0
example ŋ:=wpAny
example Ā _:=x _ _
example Ũ:=.int
example Ñ:=by exact tp ?_;change ŋ Ā (forIn items Ā) Ā s;rw[<- Array.forIn_toList];exact wpAny_forIn_list _ (λ rest r s'=>r.1=none/\s'=s/\∀ v∈rest,∃ n t,v=Ũ n t) _ ?_ ?_ Ā #[rfl,rfl,items_int hi]
example Ò:=(intKind ĕ)
example Ó:=xs.length
example Ô:=by rcases xC e' with ⟨rfl,hl,e'⟩ | ⟨n,e'⟩
example Õ:=List (Key×T)
example Ö _:=x (g:=eP X.K g) (tc:=pB X.K tcc) (te:=zY X.K te) Sc hc hi.pi (λ cl C s H fp=>(hg cl C s H fp).pg) (λ cl C s H fp=>(hf cl C s H fp).pf) (λ cl C s H fp=>(he cl C s H fp).pe)
example ŗ:=SetTable
example Ø{t:ŗ}{hs:Æ}(T:Tab t hs):=0
example ŀ _:=x S0 Z0
example Ù:=FR ŀ Ã
example Ú:=List T
example Ţ:=xs.map
example Ŀ:=(·.1)
example Û:=Ţ Ŀ
example Ü:=by .rintro⟨r1,r2⟩ s' ⟨hr,rfl,_⟩;simp only at hr;subst hr;show Ah h
example É1:=codeAny_builtin
example ÿ:=.ref
example Ý:=by exact É1 F.entry_set_update_loop ?_;rw[Around.under_plainId F.plain_set_update_loop _];change ŋ _ A.in1 (pyNext (ÿ I) >>= _) Ā s
example Þ _:=x (model ĕ) A
example Ŝ:=Array
example ß:=Ŝ (Á Nat)
example ż:=by simp[h.len]
example à:=#[#[h.er.zd,λ j t e=>?_,λ j ts e=>?_],ż,h.sx,h.z0,h.zz,h.zn,λ j ts p e e'=>?_,λ j k ts us p n e1 e2 e3 e4=>?_]
example Ã6:=List (Á Nat)
example ĉ:=List α
example ö:=Ev->Á (Ú)
example Ń:=Ev->Á Bool
example ŭ{g:T->Î}:=0
example á{pick:Ã6}{it:ö}ŭ{c:Ń}{f:Ae}{Y:Ev}(xs:ĉ) (hi:it Y=↑(Ţ enc)) (hl:Ó<=16777216):=0
example â(M:Nat):=0
example ã:=by rcases xC e1 with ⟨rfl,hl,e⟩ | ⟨n1,e1⟩
example ä:=s.heap.push (oj w)
example å{prog:Program}{w:World}{A:Around}:=0
example æ:=way M h k
example ç:=if_neg
example è:=by let#[p,b,h1,h2,h3]:=aF hE h;change yq i δ S _;unfold yq;rw[h1]
example é _:=x e1 λ d S1 s1 r1=>?_
example ê:=List.range
example ë:=(lives M Í).map
example ì{a:Õ}{b:List (Key×D)}:=0
example í:=if_pos
example î:=I.items.length
example ï:=Array.getElem?_eq_some_iff.mp
example ñ:=(À key)
example ĩ _:=x (prog:=prog) (w:=w)
example Ĵ:=List (Æ ×Addr)
example Æ0:=Ŝ (Int× Ŗ)
example ò{h:Heap}{es:Æ0}{t:ŗ}{xs:Ĵ}(X:j_ ĩ h es t xs):=0
example ó _:=x _ [] ⋯ (A0 _) #[#[_,AO _ rfl,rfl,rfl],hl1.push _] ?_ ?_ #[λ e he=>(by cases he),λ j r hj=>⋯] ?_
example ô:=Ak.mp e
example ľ:=bits h
example č:=(M+1)
example õ:=layClean.free M Í (turns M) (ľ%č) (ľ)
example ø:=.type "set"
example ù{α:Type}:=0
example ú:=(.ListComp elt [#[tg,iter,ifs,0]] scope pos)
example û:=(Å).1
example ü:=Ţ λ e=>À e.1
example ý:=fH (by rw[h.len];show hl)
example þ:=order.filterMap (es[·]?)
example ā(pick:Ã6):=0
example Ă(h:Int):=0
example ă:=Addr->Prop
example Ą:=IsTupleKey
example ą:=by have:=congrArg List.length X.es;exists this
example Ć:=by dsimp only
example ć:=g y Y=↑Y'-> (∀ δ',ER S Z δ' Y'->hJ B δ'->δ'.length=Y'.length->Q δ' S)->t d δ S Q
example Ĉ{es:Æ0}{ep:Nat}{t:ŗ}:=0
example Ċ:=by rcases xC e2 with ⟨rfl,hl,e⟩ | ⟨n2,e2⟩
example ċ:=by simp![zB5,BM,if_false]
example Č:=(zK S Z)
example Ď:=Shared->Prop
example È1:=trivial
example ď:=hq _ S1 s1 h2 λ _ _=>È1
example Đ:=by rcases xC e2 with ⟨rfl,hl,_⟩ | ⟨n2,e2⟩
example É6{R:Rk}:=0
example ũ:=List Str
example đ É6 [Lo R] {x:Str}{st:Stmt}{N ps:ũ}{k n:Nat}{g:Sm}(F:pM K x x st f fd):=0
example Ē:=λ kv=>decide (kv.1=k)
example ē:=s.heap
example Ĕ:=∃ (i:Nat) (e:Æ ×Addr),ł[i]?=↑(way Ï ñ m).j/\xs[i]?=↑e/\e.1≠key
example Ė:=by let#[y',h1,h2]:=ak e;cases h2
example ė:=by repeat (any_goals (first | assumption | wp_step))
example Ę:=(Y.set i ↑(.im y))
example ę:=(f Y).bind
example Ě:=Í[j]?=↑↑k
example ě:=owner.setIfInBounds j ↑m
example Ĝ{f:Ae}{te:zy}:=0
example ĝ:=.lst
example Ğ:=xs.size
example ğ:=hs.length
example Ġ(hM:nF M):=0
example ġ:=∀ Y,I p Y->∃ Y',turn g b (enc x) Y=↑(.nx Y')/\I (p++[x]) (xy is Y')
example Ģ:=runEnd
example ģ:=List Nat
example ĥ:=(À e.1,Value.ref e.2)
example Ħ(prog:Program) (w:World):=0
example ħ:=below xs j
example Ĩ:=List (κ × β)
example Ī:=some ↑(.own (.yp Aa))
example ī:=by simp![BM,if_false]
example Ĭ:=sizeLine
example ĭ:=by cases h
example Į:=(Å).2
example į:=t.put j
example İ{δ:yz}{Y:Ev}:=0
example ı(ps:Ä):=0
example Ĳ _:=x hi.mo (hg [] 0 s H []).mo (hf [] 0 s H []).mo (he [] 0 s H []).mo
example ĳ:=by rintro v rest r s' ⟨hr,rfl,AX⟩
example ĵ:=by simp![zq] at r;let#[c,cs,rfl,r1,r2]:=r;let#[Y1,e1,e2]:=ô
example Ä7:=h.er.ow
example Ķ:=by let#[p',ds,h1,h2,h3,h4]:=Ä7 i ts e;rw[ed] at h1;cases h1
example ķ _:=x val Ab ks
example ĸ:=false
example Ĺ:=(l4 pick ti g tcc te)
example ĺ:=by let#[y,e1,e2]:=ô
example Ļ:=.inl
example ļ:=h.fr i ts p e ed
example Ľ:=F.grow s1
example Ł(g:T->Î):=0
example ń:=(ps.map nL)
example Ņ:=Option.none
example ņ:=h.get? b=↑o->h'.get? b=↑o
example Ň{a:Addr}:=0
example ň:=key∈ Û/\xs'=xs\/key∉ Û/\xs'.Perm (xs++[(key,b)])
example ŉ:=by let#[ys,e1,e2]:=ô;exact h Ã ys _ hE e1 λ ds S1 s1 r1=>?_
example Ŋ:=by unfold SetTable.tooFull at this;rw[hfill,hmt] at this;exists this
example ŵ:=.set es ep t
example Ō:=h.get? a=↑{ cls:=ø,dict:=none,data:=ŵ }
example ō:=by simp![Sn] at r;let#[ds,rfl,r]:=r;simp![vE] at e;split at e
example Â5{ds:List D}:=0
example Ŏ Â5{S:SS}{Q:DK}(hs:zR R (yd N n g) ds S Q):=0
example ŏ:=by have hT:=hk.typeIs;let#[o,items,n,ho,_,hd,hi]:=hk
example Ő:=(mz pick δ)
example Œ:=∃ k,(way Ï h k).j=j/\∀ k'<k,(way Ï h k').j∈ Ê
example œ:=by obtain⟨ds,rfl | ⟨a,rfl,h1⟩,h2⟩:=Vw.lst r1
example Ŕ:=(.own (ĝ ts))
example ŕ:=by cases h;rfl
example Ř:=by let#[Z,ys,y,hz,r,e,hq]:=hs;unfold yd at e;split at e
example ř:=(r.getD 0 0,r.getD 1 0)
example Ś:=tp (zaC ho rfl X.fits ?_)
example ś:=Aw.mp
example È9:=s.heap.get?
example ŝ:=∀ b o,b<É->È9 b=↑o->h'.get? b=↑o
example Ş(enc:α->T):=0
example ş(hs:∀ x,foldedSetIterable iter X.env x=pure x):=0
example Š(hr:lC xs.toList):=0
example š:=(s1.trans s2)
example ţ(f:Ae):=0
example Ť{t:T}{d:D}(r:Sn S t d):=0
example ť:=.inr
example Ŧ:=(xy is Y)
example ŧ:=ys.length
example Ū:=#[p,Av,BC _,BC _]
example ū:=(show 0<M+1 by lia)
example Ŭ:=xs.take p
example Ů _:=x Ã y _ F.er
example ů:=(∀ i:Nat,pick[i]?=↑none->B[i]?=↑none)
example Ű:=(į).1={ t with place:=insertAt ł (į).2 j }
example ű:=owner.size
example Ų:=L.size
example ų:=(ë Ŀ).toArray.toList
example Ŵ:=λ u hu=>AX u (Ay _ hu)
example Ŷ:=Obj.putSet
example ŷ{i:Nat}:=0
example Ÿ _:=x n e1 e2 e3 e4
example Ź(Y:Ev):=0
example ź(hf:wY f te):=0
example Ż{Q:Bool->Ď}:=0
example Ž:=vw is g b ys Y2
example ž:=(way Ï h k1).j
example ſ:=hperm.length_eq
example À0:=by rcases xC e with ⟨rfl,hl',e⟩ | ⟨n,e⟩
example À1(Aa:Õ) (k:Key):=0
example À2:=by unfold Ģ;split <;> lia
example À3:=Sn (zK S λ a=>Z a/\a≠p) (ĝ ts) (ÿ p)
example À4:=below.go xs j f lo hi
example À5:=#[es,ep,t,ho,X,hled,An,AY]
example À6:=by let#[p,ob,h1,h2,h3,h4]:=F.er.ow i _ h
example À7:=by simp![zj] at r
example À8 _:=x (A:=A.in1.in1.in1) (by simp[hh]) _ l hneI Ab
example À9:=hq #[ds,_] S1 s1 h2 λ S'' s=>s Ā h1
example Á0:=by rcases X.tab.mask with e | e | e <;> lia
example Á1:=by have:lo=hi:=⋯;subst this;show#[h3,h4,h5]
example Á2(ha:y6 X (e::es) tA) (hc:X.calm=true):=0
example Á3(Sc:vn N ps (zW st)) (hn:n=ps.length):=0
example Á4(hashes:Ŝ Int) (hl:hashes.size<=M+1):=0
example Á5(val:κ->β->Ŗ) (Ab:AE) (ks:List κ):=0
example Á6:=λ S3 Z3 δ3 F3=>#[Z3,Y2,F3,e']
example Á7:=(ä).objs.size
example Á8:=by replace h3:zq Č ts ds:=h3
example Á9:=δ[i]?=↑↑(ÿ p)
example Â0:=by unfold SetTable.fill;rw[p3.jE,p3.len];simp;lia
example Â1:=(Ç).toList
example Â2:=Ab[i]?=↑v
example Â3:=(sb.2 c (λ z=>hc (z▸Av))).trans e
example Â4{b:Bool}{g:ö}{tA:ya}(h:jS g tA):=0
example Â6 _:=x a (ÿ b) ñ true fuel
example Â7:=(∀ δ',FR ŀ S Z δ' Y'->Q δ' S)
example Â8:=λ kv=>if kv.1=k then (kv.1,d) else kv
example Ç5:=probe.go
example Â9:=Ç5 t hashAt h f (way Ï h k)
example Ã0:=order.toList.filterMap λ k=>xs[k]?
example Ã1:=by let#[y,e1,rfl]:=ś e
example Ã2:=λ a=>Z a\/a=p
example Ã3:=(hName i)
example Ã4:=hq _ S1 s1 (YN Ā) λ _ _=>È1
example Ã5:=δ.length=Y.length
example Ã7:=(λ b o hb q=>by rw[ky hb];show q)
example Ã8:=((x2.trans x3).trans a2).trans x5
example Ã9:=xs.drop p
example Ä0:=setSearchFrom
example Ä1{S:SS}{Z:ă}:=0
example Ä2(hu:A.units<cLine):=0
example Ä3:=#[d,h1,Sn.sx (iO s hp) t h2]
example Ä4:=List (Æ)
example Ä5:=vw is g b (Ţ enc) Y=↑(.nx Y')
example Ä6:=#[λ e he=>?_,λ j r hj hrj=>?_]
example Ä8:=λ j k us vs q n e1 e2 e3 e4=>?_
example Ä9:=by exists hi
example Å0:=owner.getD
example Å1:=wpAny_storeSet_of ho rfl ?_ hsl
example Å2(he:AA X e es) (An:AH X pos es):=0
example Å3:=Ú->Î
example Å4:=(λ _=>nofun)
example Å5:=by simp;lia
example Å6:=xF.mpr #[q,Av,BC _,BC _]
example Å7:=#[v,hv,by simp[oS];lia]
example Å8:=Classical.em
example Å9:=(ë (·.2)).toArray.toList.map
example Æ1:=Heap.SameBut
example Æ2:=by rintro⟨v,hv,hg⟩;have:=hl v hv
example Æ3:=by ext À7;let#[a,xs,rfl,_]:=r;rfl
example Æ4:=∃ (e:Nat),e<=M/\Í[e]?=↑ Ņ
example Æ5:=#[[ø,a],[]]
example Æ6(h:T->Á (Á T)):=0
example Æ7{E:Aj}{s:Shared}:=0
example Æ8:=ç (by rw[T.jE];simp[has])
example Æ9:=by exact tp (zaC ho hd X.fits ?_);ext Ć
example Ç0 _:=x D ?_ (λ _ _ q=>q) hn Ab.size 0 ó
example Ç1:=List.drop_eq_getElem_cons Au
example Ç2:=yC S a b
example Ç3:=Ģ M i-i
example Ç4:=((æ).i*5+1+(æ).perturb/32)
example Ç6:=∀ q'<q,jT Í (way M h q').j
example Ç7:=by let#[x,e1,e2]:=ô
example Ç8:=by constructor
example Ç9(h:i<Ğ):=0
example È0:=by rw[AF] at hg;let#[e,e1,e2]:=ś hg
example È2:=(wM λ a z=>z.1)
example È3:=λ b o q=>?_
example È4:=Ú->Á (Ú)
example È5:=Ao.mp
example È6:=(by simp![zj])
example È7:=λ k=>hashes.toList.getD k 0
example È8:=∃ k c,v=ÿ c/\Ą Ò ē k c
example É0:=(hperm.map _).nodup_iff.mpr
example É2{p:Addr}(h:Ù):=0
example É3{y:T}{d:D}:=0
example É4(hg:zJ R g t) (hh:zJ R h u):=0
example É5(n:Nat):=0
example É7{xs:ĉ}:=0
example É8(k j:Key) (d:T):=0
example É9{xs:Ŝ Nat}:=0
example Ê0(L:Lay M hs Í m) (hm:m<=M):=0
example Ê1{j:Nat}:=0
example Ê2{M:Nat}:=0
def vz ù{l:ĉ}{i j:Nat}{a:α}(h:i≠j):(l.set i a)[j]?=l[j]?:=by rw[zb4,ç h]
def fH ù{l:ĉ}ŷ{a:α}(h:i<l.length):(l.set i a)[i]?=↑a:=by rw[zb4,í rfl,í h]
section
variable {S0 S S':SS}{Z0 Z:ă}{İ}{É3}
theorem FR.grow (h:Ù) (s:Sx S S'):FR ŀ S' Z δ Y:=#[h.er.grow s,h.len,h.sx.trans s,h.z0,h.zz,h.zn,h.fr,h.dj]
theorem FR.mX (h:Ù) Ð (r:Sn Č y d):FR ŀ S Z (δ.set i ↑d) Ę:=by
 exact à
 .ext Â
  .cases e;show#[d,ý,r]
  .rw[vz n];show h.er.im j t e
 .ext Â
  .cases e
  .rw[vz n];show Ä7 j ts e
 .ext Â
  .cases e
  .rw[vz n] at e';show h.fr j ts p e e'
 .ext ã
  .cases e
  ext Ċ
  .cases e
  rw[vz n1] at e3;rw[vz n2] at e4;show h.dj j k ts us p Ÿ
theorem FR.aw {ts:C}{ds:O}É2 (s:Sx S S') Ð (hp:S p=none) (hd:S' p=↑ds) (r:wQ (zK S' Ã2) ts ds) (ha:adr ts p:=by show È1):
  FR ŀ S' (Ã2) (δ.set i ↑(ÿ p)) (Y.set i ↑(.own ts)):=by
 have np:∀ (j:Nat) us q,Y[j]?=↑↑(.own us)->δ[j]?=↑↑(ÿ q)->q≠p:=λ j us q e e' z=>by
  subst z;let#[p',ds',h1,h2,_]:=Ä7 j us e;rw[e'] at h1;cases h1;rw[hp] at h2;cases h2
 exact#[#[λ a z=>?_,λ j t e=>?_,λ j us e=>?_],ż,h.sx.trans s,h.z0,λ a z=>Ļ (h.zz a z),λ a z=>z.elim (h.zn a) (λ q=>ť (by subst q;show h.sx.none hp)),λ j us q e e'=>?_,Ä8]
 .rcases z with z | rfl
  .show λ q=>h.er.zd a z (s.none q)
  .rw[hd];nofun
 .ext Â
  .cases e
  .rw[vz n];let#[d,h1,h2]:=h.er.im j t e;show Ä3
 .ext Â
  .cases e;show#[p,ds,ý,hd,r,ť rfl]
  .rw[vz n];let#[q,es,h1,h2,h3,h4]:=Ä7 j us e;show#[q,es,h1,s Ā h2,wQ.sx (iO s hp) h3,Ļ h4]
 .ext Â
  .rw[ý] at e';cases e';cases e;show#[h.sx.none hp,ha]
  .rw[vz n] at e';show h.fr j us q e e'
 .ext ã
  .rcases xC e2 with ⟨rfl,_,_⟩ | ⟨n2,e2⟩
   .show n rfl
   .rw[ý] at e3;cases e3;rw[vz n2] at e4;show np k vs p e2 e4 rfl
  .ext Đ
   .rw[ý] at e4;cases e4;rw[vz n1] at e3;show np j us p e1 e3 rfl
   .rw[vz n1] at e3;rw[vz n2] at e4;show h.dj j k us vs q Ÿ
def FR.forget (h:Ù) Ð:FR ŀ S Z δ (Y.set i none):=by
 exact à
 .ext Â
  .cases e
  .show h.er.im j t e
 .ext Â
  .cases e
  .show Ä7 j ts e
 .ext Â
  .cases e
  .show h.fr j ts p e e'
 .ext ã
  .cases e
  ext Ċ
  .cases e
  show h.dj j k ts us p Ÿ
@[simp] def xy (is:ģ) Ź:Ev:=is.foldl (fun Y i=>Y.set i none) Y
theorem FR.xy:∀ (is:ģ) {Y:Ev},Ù->FR ŀ S Z δ Ŧ
 | [],_,h=>h
 | i::is,_,h=>FR.xy is (h.forget i)
def FR.freeze {ts:Ú}É2 Ð (e:Y[i]?=↑↑ Ŕ) (ed:Á9):
  FR ŀ S (λ a=>Z a/\a≠p) δ (Y.set i ↑(.im (ĝ ts)))/\À3:=by
 let#[p',o,h1,h2,h3,h4]:=Ä7 i _ e;rw[ed] at h1;cases h1;obtain⟨ds,rfl⟩:∃ ds,o=ĝ ds:=by
  cases o with
  | lst ds=>show#[ds,rfl]
  | _=>show h3.elim
 ext Á8;have hS:À3:=by
  simp![Sn];show#[ds,ť #[p,rfl,by rw[o7 (λ z=>z.2 rfl)];show h2],zq.sx È2 ts h3]
 exact#[?_,hS];exact#[#[λ a z=>h.er.zd a z.1,λ j t e'=>?_,λ j us e'=>?_],ż,h.sx,h.z0,λ a z=>#[h.zz a z,λ q=>?_],λ a z=>h.zn a z.1,λ j us q e' ed'=>?_,Ä8]
 .ext Ô
  .cases e';show#[_,ed,hS]
  .let#[d,g1,g2]:=h.er.im j t e';show#[d,g1,Sn.sx È2 t g2]
 .ext Ô
  .cases e'
  .let#[q,es,g1,g2,g3,g4]:=Ä7 j us e';show#[q,es,g1,g2,wQ.sx È2 g3,g4,λ z=>by subst z;show h.dj i j _ us q n e e' ed g1]
 .subst q;show h.z0 a z (h.fr i _ a e ed).1
 .ext Ô
  .cases e'
  .show h.fr j us q e' ed'
 .ext ã
  .cases e
  ext Ċ
  .cases e
  show h.dj j k us vs q Ÿ
def FR.mut {ts us:C}{es:O}É2 Ð (e:Y[i]?=↑↑(.own ts)) (ed:Á9) (r:wQ Č us es) (ha:adr ts p->adr us p:=by show λ _=>È1):
  FR ŀ (ups S p es) Z δ (Y.set i ↑(.own us)):=by
 ext Ķ;have hh:zK (ups S p es) Z=zK S Z:=HA h4;let#[hpn,BX]:=ļ;exact#[#[λ a z=>?_,λ j t e'=>?_,λ j vs e'=>?_],ż,È3,h.z0,h.zz,h.zn,λ j vs q e' ed'=>?_,λ j k vs ws q n e1 e2 e3 e4=>?_]
 .by_cases hp:a=p
  .subst hp;rw[lK];nofun
  .rw[ky hp];show h.er.zd a z
 .rw[hh];ext Ô
  .cases e'
  .show h.er.im j t e'
 .rw[hh];ext Ô
  .cases e';show#[p,es,ed,lK,r,h4]
  .let#[q,es',g1,g2,g3,g4]:=Ä7 j vs e';exact#[q,es',g1,?_,g3,g4];rw[ky (λ z=>by subst z;show h.dj i j ts vs q n e e' ed g1)];show g2
 .rw[ky (λ z=>by subst z;rw[hpn] at q;cases q)];show h.sx b o q
 .rcases xC e' with ⟨rfl,hl,_⟩ | ⟨n,e'⟩
  .rw[ed] at ed';cases ed';rename_i e';cases e';show#[hpn,ha BX]
  .show h.fr j vs q e' ed'
 .rcases xC e1 with ⟨rfl,hl,_⟩ | ⟨n1,e1⟩
  .ext Đ
   .show n rfl
   .show h.dj _ k ts ws q n e e2 e3 e4
  .ext Đ
   .show h.dj j _ vs ts q n e1 e e3 e4
   .show h.dj j k vs ws q Ÿ
def Xa (S0 S:SS) (Z:ă):SS:=open Classical in λ a=>if S0 a=none/\Z a then none else S a
def aB Ň(h:¬ (S0 a=none/\Z a)):Xa S0 S Z a=S a:=ç h
def Y_ Ň(h:S0 a=none/\Z a):Xa S0 S Z a=none:=í h
def FR.rebase (h:Ù):∃ S1,Sx S0 S1/\FR S1 Z0 Ã/\Sx Č S1:=by
 exact#[Xa S0 S Z,È3,#[h.er,h.len,È3,λ a z=>?_,h.zz,λ a z=>?_,λ i ts p e ed=>?_,h.dj],È3]
 .rw[aB (λ z=>by rw[z.1] at q;cases q)];show h.sx Ā q
 .by_cases w:S0 b=none/\Z b
  .rw[Y_ w] at q;cases q
  .rw[aB w] at q;show q
 .rw[aB (λ q=>h.z0 a z q.1)];show h.er.zd a (h.zz a z)
 .rcases h.zn a z with w | w
  .show Ļ w
  .show ť (Y_ #[w,z])
 .ext Ķ;show#[Y_ #[(ļ).1,h4],(ļ).2]
 .let#[q1,q2]:=lj q;rw[aB (λ z=>q1 z.2)];show q2
def FR.back {S1:SS}(h:FR S1 Z0 Ã) (s:Sx S0 S1) (z0:∀ a,Z0 a->S0 a≠none):Ù:=#[h.er,h.len,s.trans h.sx,z0,h.zz,λ a z=>(h.zn a z).imp id s.none,λ i ts p e ed=>#[s.none (ļ).1,(ļ).2],h.dj]
def FR.M7 {S1:SS}{Z1:ă}(h:Ù) (b:Sx (zK S1 Z1) S0) (zz:∀ a,Z0 a->Z1 a):Sx (zK S1 Z1) Č:=λ a o q=>by
 have q0:=b Ā q;let#[q1,q2]:=lj q;rw[o7]
 .show h.sx Ā q0
 .intro z;rcases h.zn a z with w | w
  .show q1 (zz a w)
  .rw[w] at q0;cases q0
end
inductive Out where
 | nx Ź | rt (t:T) | bk Ź | ct Ź
abbrev Sm:=Ev->Á Out
def DT (R:Rk) (S0:SS) (Z0:ă) (o:Out) (E:ko):Prop:=match o with
 | .nx Y=>∀ S Z δ,Ù->E.nx δ S
 | .bk Y=>∀ S Z δ,Ù->E.bk δ S
 | .ct Y=>∀ S Z δ,Ù->E.ct δ S
 | .rt y=>∀ d S,Sx S0 S->R S0 S Z0 y d->E.rt d S
def zJ (R:Rk) (g:Sm) (t:yw):Prop:=∀ S0 Z0 S Z δ Y o E,Ù->g Y=↑o->DT R ŀ o E->t E δ S
class Lo (R:Rk):Prop extends Cl R where
 lo:∀ {S0 S S':SS}{Z0 Z:ă}É3,Sx S0 S->(∀ a,Z0 a->Z a)->R S S' Z y d->R S0 S' Z0 y d
instance:Lo zL:=#[λ _ z h=>Sn.sx (wM z) _ h]
instance:Lo zC:=#[λ s z h=>#[Sn.sx (wM z) _ h.1,λ ts e=>by
 let#[p,ds,h1,h2,h3,h4]:=h.2 ts e;show#[p,ds,h1,s.none h2,h3,zq.sx (wM λ a q=>q.imp (z a) id) ts h4]]]
@[simp] def zp (g h:Sm):Sm:=fun Y=>(g Y).bind λ o=>match o with
 | .nx Y'=>h Y'
 | o=>↑o
@[simp] def zS:Sm:=fun Y=>↑(.nx Y)
@[simp] def zI Ð ţ:Sm:=fun Y=>(f Y).map λ y=>.nx Ę
@[simp] def nC Ð ţ:Sm:=fun Y=>ę λ y=>match y with
 | ĝ ts=>↑(.nx (Y.set i ↑ Ŕ))
 | y=>↑(.nx Ę)
@[simp] def Zx ţ:Sm:=fun Y=>(f Y).map λ _=>.nx Y
@[simp] def retS ţ:Sm:=fun Y=>(f Y).map .rt
@[simp] def i8 Ð:Sm:=fun Y=>match Y[i]? with
 | some ↑ Ŕ=>↑(.rt (ĝ ts))
 | _=>none
@[simp] def zQ (c:Ń) (g h:Sm):Sm:=fun Y=>(c Y).bind λ b=>if b=true then g Y else h Y
@[simp] def Wc Ð Ź:Ev:=match Y[i]? with
 | some ↑ Ŕ=>Y.set i ↑(.im (ĝ ts))
 | _=>Y
@[simp] def Wb Ð (g:Sm):Sm:=fun Y=>g (Wc i Y)
section
variable {É6}{g h:Sm}{t u:yw}{Ĝ}
def sH É4:zJ R (zp g h) (iW t u):=λ S0 Z0 S Z δ Y o E F e P=>by
 let#[o1,e1,e2]:=ô;exact hg ŀ Ã o1 { E with nx:=u E } F e1 ?_;cases o1 with
 | nx Y1=>show λ S1 Z1 δ1 F1=>hh ŀ S1 Z1 δ1 Y1 o E F1 e2 P
 | rt y=>cases e2;show P
 | bk y=>cases e2;show P
 | ct y=>cases e2;show P
def sG:zJ R zS W6:=λ S0 Z0 S Z δ Y o E F e P=>by cases e;show P S Z δ F
def rj Ð ź:zJ R (zI i f) (pW te Ã3):=λ S0 Z0 S Z δ Y o E F e P=>by
 ext Ã1;show hf Ů e1 λ d S1 s1 r1=>P S1 Z _ ((Ľ).mX i r1)
def rh Ð (hf:vf f te):zJ R (nC i f) (pW te Ã3):=λ S0 Z0 S Z δ Y o E F e P=>by
 ext ĺ;exact hf Ů é;cases y with
 | lst ts=>
  cases e2;let#[p,ds,rfl,h1,h2,h3]:=r1.2 ts rfl;show P S1 Ā (F.aw (ts:=ĝ ts) (ds:=ĝ ds) s1 i h1 h2 h3)
 | _=>cases e2;show P S1 Z _ ((Ľ).mX i r1.1)
def sZ (hf:xx f te):zJ R (Zx f) (Z6 te):=λ S0 Z0 S Z δ Y o E F e P=>by
 ext Ã1;show hf Ů e1 λ d S1 s1 r1=>P S1 Z _ (Ľ)
def sP [Lo R] (hf:zP R f te):zJ R (retS f) (jG te):=λ S0 Z0 S Z δ Y o E F e P=>by
 ext Ã1;show hf Ů e1 λ d S1 s1 r1=>P d S1 (F.sx.trans s1) (Lo.lo F.sx F.zz r1)
def y_ Ð:zJ zC (i8 i) (jG (yq i)):=λ S0 Z0 S Z δ Y o E F e P=>by
 unfold i8 at e;split at e
 .rename_i ts h;cases e;ext À6;obtain⟨ds,rfl⟩:∃ ds,ob=ĝ ds:=by
   cases ob with
   | lst ds=>show#[ds,rfl]
   | _=>show h3.elim
  ext Á8;have hn:=(F.fr i _ p h h1).1;have nz:¬ Z0 p:=λ z=>F.z0 p z hn;change yq i δ S E.rt;unfold yq;rw[h1];exact P _ S F.sx #[?_,λ us e=>?_]
  .simp![Sn];show#[ds,ť #[p,rfl,by rw[o7 nz];show h2],zq.sx (wM F.zz) ts h3]
  .cases e;show#[p,ds,rfl,hn,h2,zq.sx (wM λ a q=>q.elim (F.zz a) λ q=>q▸h4) ts h3]
 .cases e
def sV {c:Ń}{tc:xn}(hc:oB c tc) É4:zJ R (zQ c g h) (cY tc t u):=λ S0 Z0 S Z δ Y o E F e P=>by
 let#[b,e1,e2]:=ô;exact hc Ã b _ F.er e1 λ S1 s1=>?_;split at e2
 .rename_i hb;rw[í hb];show hg ŀ S1 Z δ Y o E (Ľ) e2 P
 .rename_i hb;rw[ç hb];show hh ŀ S1 Z δ Y o E (Ľ) e2 P
def FR.fz {S0 S:SS}{Z0 Z:ă}İ(F:Ù) Ð:∃ Z',FR ŀ S Z' δ (Wc i Y):=by
 unfold Wc;split
 .rename_i ts h;let#[p,ds,h1,_]:=F.er.ow i _ h;show#[_,(F.freeze i h h1).1]
 .show#[Z,F]
def sW Ð (hg:zJ R g t):zJ R (Wb i g) t:=λ S0 Z0 S Z δ Y o E F e P=>by
 let#[Z',F']:=F.fz i;show hg ŀ S Z' δ _ o E F' e P
def fY Ł (t:wO):Prop:=∀ S0 Z0 S Z δ Y Y' y d Q,Ù->Sn Č y d->g y Y=↑Y'->Â7->t d δ S Q
def ZQ (g:Å3) (t:p7):Prop:=∀ S0 Z0 S Z δ Y Y' ys ds Q,Ù->zq Č ys ds->g ys Y=↑Y'->Â7->t ds δ S Q
@[simp] def zG Ð:T->Î:=λ y Y=>↑ Ę
@[simp] def pD:Å3
 | [],Y=>↑Y
 | _::_,_=>none
@[simp] def yE Ł (h:Å3):Å3
 | y::ys,Y=>(g y Y).bind fun Y'=>h ys Y'
 | [],_=>none
@[simp] def vE É5 (g:Å3):T->Î
 | .tup ys,Y=>if ŧ=n then g ys Y else none
 | _,_=>none
def rK Ð:fY (zG i) Ã3:=λ S0 Z0 S Z δ Y Y' y d Q F r e hq=>by cases e;show hq _ (F.mX i r)
def rG:ZQ pD Zn:=λ S0 Z0 S Z δ Y Y' ys ds Q F r e hq=>by
 cases ys with
 | nil=>simp![zq] at r;subst r;cases e;show#[rfl,hq _ F]
 | cons _ _=>cases e
def rH ŭ{h:Å3}{t:wO}{u:p7}(hg:fY g t) (hh:ZQ h u):ZQ (yE g h) (ck t u):=λ S0 Z0 S Z δ Y Y' ys ds Q F r e hq=>by
 cases ys with
 | nil=>cases e
 | cons y ys=>
  ext ĵ;show hg ŀ Ã Y1 y c _ F r1 e1 fun δ1 F1=>hh ŀ S Z δ1 Y1 Y' ys cs Q F1 r2 e2 hq
def rJ {n:Nat}{g:Å3}{t:p7}(hg:ZQ g t):fY (vE n g) (j7 n t):=λ S0 Z0 S Z δ Y Y' y d Q F r e hq=>by
 cases y with
 | tup ys=>
  ext ō
  .rename_i hl;show#[by rw[r.len];show hl,hg ŀ Ã Y' ys ds Q F r e hq]
  .cases e
 | _=>cases e
@[simp] def YD ţ Ł:Sm:=fun Y=>ę λ y=>(g y Y).map .nx
def sF ŭ{tg:wO}ź (hg:fY g tg):zJ R (YD f g) (pW te tg):=λ S0 Z0 S Z δ Y o E F e P=>by
 ext ĺ;let#[Y',e3,rfl]:=ś e2;show hf Ů e1 λ d S1 s1 r1=>hg ŀ S1 Z δ Y Y' y d _ (Ľ) r1 e3 fun δ' F'=>P S1 Z δ' F'
def kQ (free:Bool) (f:ö) (ti:pz):Prop:=∀ S Z δ Y ts Q,ER Ã->f Y=↑ts->(∀ I S',Sx S S'->zq (zK S' Z) ts I.items->(∀ S'',Sx (if free=true then zK S' Z else S') S''->I.keep S'')->Q I S')->ti δ S Q
@[simp] def wL ţ:ö:=fun Y=>ę oM
def rA Ĝ(hf:xx f te):kQ ĸ (wL f) (XG te):=λ S Z δ Y ts Q hE e hq=>by
 ext ĺ;exact hf Ã y _ hE é;cases y with
 | tup us=>
  cases e2;let#[ds,rfl,h2]:=Vw.tup r1;show ď
 | lst us=>
  cases e2;ext œ
  .show ď
  .ext Ć;rw[h1];show À9
 | _=>cases e2
def rB Ĝ ź:kQ true (wL f) (XG te):=λ S Z δ Y ts Q hE e hq=>by
 ext ĺ;exact hf Ã y _ hE é;cases y with
 | tup us=>
  cases e2;let#[ds,rfl,h2]:=Vw.tup (Ļ r1);show ď
 | lst us=>
  cases e2;have r2:=r1;unfold zL at r2;simp![Sn] at r2;obtain⟨ds,⟨rfl,_⟩ | ⟨a,rfl,h1⟩,h2⟩:=r2
  .show ď
  .ext Ć;rw[(lj h1).2];show À9
 | _=>cases e2
def rangeT (lo:Int) É5:Ú:=(ê n).map λ(k:Nat)=>T.int (lo+(k:Int))
def YN {S:SS}(lo:Int) É5:zq S (rangeT lo n) (ng lo n):=by
 unfold rangeT ng
 induction ê n with
 | nil=>show .nil
 | cons k l ih=>show .cons pO ih
def inR (j:Int):Bool:=decide (-100000000<=j)&&decide (j<=100000000)
def Rh {j:Int}:inR j=true↔-100000000<=j/\j<=100000000:=by simp[inR]
def Zk {j:Int}(h:inR j=true):-(2 ^ 62)<=j/\j<2 ^ 62:=by have:=Rh.mp h;lia
def oO:È4
 | [Ũ j]=>if inR j=true then ↑(rangeT 0 j.toNat) else none
 | _=>none
def da:È4
 | [Ũ i,Ũ j]=>if inR i=true/\inR j=true then ↑(rangeT i (j-i).toNat) else none
 | _=>none
@[simp] def vh (F:È4) (g:ö):ö:=fun Y=>(g Y).bind F
def rD Â4:kQ b (vh oO g) (XI tA):=λ S Z δ Y ts Q hE e hq=>by
 ext ŉ;unfold oO at e2;split at e2
 .split at e2
  .rename_i hc;cases e2;let#[d,rfl,h1]:=nI r1;cases h1.int;show#[Zk hc,Ã4]
  .cases e2
 .cases e2
def rC Â4:kQ b (vh da g) (XH tA):=λ S Z δ Y ts Q hE e hq=>by
 ext ŉ;unfold da at e2;split at e2
 .split at e2
  .rename_i hc;cases e2;let#[d,d',rfl,h1,h2]:=Y3 r1;cases h1.int;cases h2.int;show#[#[(Zk hc.1).1,(Zk hc.1).2,Zk hc.2],Ã4]
  .cases e2
 .cases e2
def vw (is:ģ) Ł (b:Sm):Ú->Ev->Á Out
 | [],Y=>↑(.nx Ŧ)
 | y::ys,Y=>(g y Ŧ).bind fun Y1=>(b Y1).bind λ o=>match o with
  | .nx Y2=>Ž
  | .ct Y2=>Ž
  | .bk Y2=>↑(.nx (xy is Y2))
  | .rt t=>↑(.rt t)
@[simp] def vG (is:ģ) (f:ö) Ł (b:Sm):Sm:=fun Y=>ę λ ts=>vw is g b ts Y
def sX {is:ģ}{fi:ö}{ti:pz}ŭ{tg:wO}{b:Sm}{tb:yw} [Lo R] (hi:kQ true fi ti) (hg:fY g tg) (hb:zJ R b tb):zJ R (vG is fi g b) (c_ ti tg tb):=λ S0 Z0 S Z δ Y o E F e P=>by
 let#[ts,e1,e2]:=ô;exact hi Ã ts _ F.er e1 λ I S1 s1 r1 hk=>?_;rw[í rfl] at hk;let#[SB,b1,FB,b2]:=(Ľ).rebase;have lo:∀ S' d y,R SB S' Z0 y d->R S0 S' Z0 y d:=λ S' d y r=>Lo.lo b1 (λ _ z=>z) r;have zz:=F.zz;exact#[λ i δ' S'=>∃ Z' Y',FR SB Z0 S' Z' δ' Y'/\vw is g b (ts.drop i) Y'=↑o,#[Z,Y,FB,e2],λ i δ' S' #[Z',Y',F',_]=>hk S' (b2.trans F'.sx),λ i d δ' S' hd #[Z',Y',F',e']=>?_,fun δ' S' #[Z',Y',F',e']=>?_]
 .let#[y,hy,r2]:=r1.Wa hd;have Au:=(AM.mp hy).1;have hdt:ts.drop i=y::ts.drop (i+1):=by
   rw[Ç1,(AM.mp hy).2]
  rw[hdt] at e';unfold vw at e';let#[Y1,g1,e']:=Ak.mp e';let#[o1,g2,e']:=Ak.mp e';exact hg SB Z0 S' Z' δ' _ Y1 y d _ (F'.xy is) (Sn.sx (F'.M7 b2 zz) y r2) g1 fun δ2 F2=>?_
  exact hb SB Z0 S' Z' δ2 Y1 o1 _ F2 g2 ?_;cases o1 with
  | nx Y2=>show Á6
  | ct Y2=>show Á6
  | bk Y2=>cases e';show λ S3 Z3 δ3 F3=>P S3 Z3 δ3 ((F3.xy is).back b1 F.z0)
  | rt y=>cases e';show λ d S3 s3 r3=>P d S3 (b1.trans s3) (lo Ā _ r3)
 .rw[show î=ts.length from r1.len,List.drop_length] at e';unfold vw at e';cases e';show P S' Z' δ' ((F'.xy is).back b1 F.z0)
end
@[simp] def oV Ð ţ:Sm:=fun Y=>match Y[i]? with
 | some ↑ Ŕ=>ę λ y=>if ts.length<Ĭ then ↑(.nx (Y.set i ↑(.own (ĝ (ts++[y]))))) else none
 | _=>none
section
variable {É6}{Ĝ}
def rl Ð ź:zJ R (oV i f) (Z6 (jI (yq i) te)):=λ S0 Z0 S Z δ Y o E F e P=>by
 unfold oV at e;split at e
 .rename_i ts h;ext ĺ;split at e2
  .rename_i hl;cases e2;ext À6;obtain⟨ds,rfl⟩:∃ ds,ob=ĝ ds:=by
    cases ob with
    | lst ds=>show#[ds,rfl]
    | _=>show h3.elim
   ext Á8;change jI (yq i) te δ S _;unfold jI yq;rw[h1];exact#[#[ds,h2],hf Ů é];ext Ć;rw[s1 Ā h2];have F1:=Ľ;exact#[by rw[h3.len];show hl,P _ Z δ (F1.mut (us:=ĝ (ts++[y])) (es:=ĝ (ds++[d])) i h h1 ((zq.sx (vy s1) ts h3).append (.cons r1 .nil)))]
  .cases e2
 .cases e
end
def l4 ā (ti:pz) (g:wO) (tc:xn) (te:zy):zy:=fun δ S Q=>ti δ S λ I S1=>î<=Ĭ/\(∀ S,Sx S1 S->I.keep S)/\∀ p,S1 p=none->∃ W:Nat->SS->List D->Prop,W 0 S1 []/\
 (∀ i S S' acc,(∀ b o,b≠p->S b=↑o->S' b=↑o)->W i S acc->W i S' acc)/\
 (∀ i d S acc,I.items[i]?=↑d->Sx S1 S->S p=↑(ĝ acc)->W i S acc->g d Ő S fun δ2 S2=>hJ Ő δ2/\tc δ2 S2 λ b S3=>if b=true then te δ2 S3 λ y S4=>Sx S S4/\W (i+1) S4 (acc++[y]) else Sx S S3/\W (i+1) S3 acc)/\
 ∀ S2 acc,Sx S1 S2->S2 p=↑(ĝ acc)->W î S2 acc->Q (ÿ p) S2
@[simp] def iC ā Ź:Ev:=pick.map λ o=>o.bind λ i=>(Y[i]?).join
def iX Æ6:È4
 | []=>↑[]
 | y::ys=>(h y).bind λ o=>(iX h ys).map λ zs=>match o with
  | some z=>z::zs
  | none=>zs
@[simp] def ju ā Ł (c:Ń) ţ Ź (y:T):Á (Á T):=
 (g y (iC pick Y)).bind fun Y2=>(c Y2).bind λ b=>if b=true then (f Y2).map some else ↑none
def vg ā (it:ö) Ł (c:Ń) ţ:Ae:=fun Y=>(it Y).bind λ ts=>if ts.length<=Ĭ then (iX (ju pick g c f Y) ts).map ĝ else none
@[simp] def o9:Ń:=λ _=>↑true
def qd:oB o9 RS:=λ S Z δ Y y Q hE e hq=>by cases e;show hq S (.refl S)
def ZS ā Ł (t:wO):Prop:=∀ B S Z δ Y Y' y d Q,ů->hJ B δ->Ã5->ER Ã->Sn Č y d->ć
def ZR ā (g:Å3) (t:p7):Prop:=∀ B S Z δ Y Y' y d Q,ů->hJ B δ->Ã5->ER Ã->zq Č y d->ć
theorem ER.mX Ä1 İ É3(h:ER Ã) (hl:Ã5) Ð (r:Sn Č y d):ER S Z (δ.set i ↑d) Ę:=by
 exact#[h.zd,λ j t e=>?_,λ j ts e=>?_]
 .ext À0
  .cases e;show#[d,fH (by rw[hl];show hl'),r]
  .rw[vz n];show h.im j t e
 .ext À0
  .cases e
  .rw[vz n];show h.ow j ts e
variable {pick:Ã6}
theorem rR Ð (hi:pick[i]?=↑none:=by rfl):ZS pick (zG i) Ã3:=λ B S Z δ Y Y' y d Q hB hs hl hE r e hq=>by
 cases e;exact hq _ (hE.mX hl i r) #[by rw[zaT];show hs.1,λ j c q=>?_] (by simp[hl]);by_cases hj:i=j
 .subst hj;rw[hB i hi] at q;cases q
 .rw[vz hj];show hs.2 j c q
def rO:ZR pick pD Zn:=λ B S Z δ Y Y' y d Q hB hs hl hE r e hq=>by
 cases y with
 | nil=>simp![zq] at r;subst r;cases e;show#[rfl,hq _ hE hs hl]
 | cons _ _=>cases e
def rP ŭ{h:Å3}{t:wO}{u:p7}(hg:ZS pick g t) (hh:ZR pick h u):ZR pick (yE g h) (ck t u):=λ B S Z δ Y Y' y d Q hB hs hl hE r e hq=>by
 cases y with
 | nil=>cases e
 | cons y ys=>
  ext ĵ;show hg B Ã Y1 y c _ hB hs hl hE r1 e1 fun δ1 E1 s1 l1=>hh B S Z δ1 Y1 Y' ys cs Q hB s1 l1 E1 r2 e2 hq
def rQ {n:Nat}{g:Å3}{t:p7}(hg:ZR pick g t):ZS pick (vE n g) (j7 n t):=λ B S Z δ Y Y' y d Q hB hs hl hE r e hq=>by
 cases y with
 | tup ys=>
  ext ō
  .rename_i hn;show#[by rw[r.len];show hn,hg B Ã Y' ys ds Q hB hs hl hE r e hq]
  .cases e
 | _=>cases e
def Th {Y:Ev}ŷ{w:W}(h:(iC pick Y)[i]?=↑↑w):∃ j:Nat,pick[i]?=↑↑j/\Y[j]?=↑↑w:=by
 unfold iC at h;rw[AF] at h;cases q:pick[i]? with
 | none=>rw[q] at h;cases h
 | some o=>
  rw[q] at h;cases o with
  | none=>simp at h
  | some j=>
   simp![Option.map_some,AI,Option.some.injEq] at h;exact#[j,rfl,?_];cases q2:Y[j]? with
   | none=>rw[q2] at h;cases h
   | some o2=>rw[q2] at h;simp![Option.join_some] at h;rw[h]
def Ti {δ:yz}{i j:Nat}{d:D}(h:pick[i]?=↑↑j) (h':δ[j]?=↑↑d):Ő[i]?=↑↑d:=by
 unfold mz;rw[AF,h];simp[h']
def ER.L1 Ä1 İ(h:ER Ã):ER S Z Ő (iC pick Y):=by
 exact#[h.zd,λ i t e=>?_,λ i ts e=>?_]
 .let#[j,h1,h2]:=Th e;let#[d,h3,h4]:=h.im j t h2;show#[d,Ti h1 h3,h4]
 .let#[j,h1,h2]:=Th e;let#[p,ds,h3,h4]:=h.ow j ts h2;show#[p,ds,Ti h1 h3,h4]
def ER.hide {S S':SS}{Z:ă}İ{p:Addr}(h:ER Ã) (s:Sx S S') (hp:S p=none) (hp':S' p≠none):ER S' (Ã2) δ Y:=by
 exact#[λ a z q=>?_,λ i t e=>?_,λ i ts e=>?_]
 .rcases z with z | rfl
  .show h.zd a z (s.none q)
  .show hp' q
 .let#[d,h1,h2]:=h.im i t e;show Ä3
 .let#[q,ds,h1,h2,h3,h4]:=h.ow i ts e;show#[q,ds,h1,s Ā h2,wQ.sx (iO s hp) h3,Ļ h4]
def qu {it:ö}{ti:pz}ŭ{tg:wO}{c:Ń}{tc:xn}Ĝ{b:Bool}(hi:kQ b it ti) (hg:ZS pick g tg) (hc:oB c tc) ź:
  vf (vg pick it g c f) (l4 pick ti tg tc te):=λ S Z δ Y y Q hE e hq=>by
 let#[ts,e1,e2]:=ô;split at e2
 case isFalse=>cases e2
 rename_i hlen;let#[zs,e3,rfl]:=ś e2;exact hi Ã ts _ hE e1 λ I S1 s1 r1 hk=>#[by rw[r1.len];show hlen,λ S' s'=>hk S' ?_,λ p hp=>?_]
 .cases b
  .show s'
  .show (fE Ā).trans s'
 have E1:=hE.grow s1;have nz:¬ Z p:=λ z=>E1.zd p z hp;exact#[λ i S' acc=>∃ us ws,zq (zK S' Ã2) us acc/\iX (ju pick g c f Y) (ts.drop i)=↑ws/\zs=us++ws,#[[],zs,.nil,e3,rfl],λ i S' S'' acc hh #[us,ws,h1,h2]=>#[us,ws,zq.sx (λ a o q=>?_) us h1,h2],λ i d S2 acc hd s2 A3 #[us,ws,h1,h2,h3]=>?_,λ S2 acc s2 A3 #[us,ws,h1,h2,h3]=>?_]
 .let#[q1,q2]:=lj q;rw[o7 q1];show hh a o (λ z=>q1 (ť z)) q2
 .let#[x,hx,rx]:=r1.Wa hd;have Au:=(AM.mp hx).1;have hdt:ts.drop i=x::ts.drop (i+1):=by rw[Ç1,(AM.mp hx).2]
  rw[hdt] at h2;unfold iX at h2;let#[o,o1,h2]:=Ak.mp h2;let#[ws',o2,rfl]:=ś h2;have E2:=(E1.hide s2 hp (by rw[A3];nofun)).L1 (pick:=pick);unfold ju at o1;let#[Y2,g1,o1]:=Ak.mp o1;let#[bb,g2,o1]:=Ak.mp o1;exact hg Ő S2 Ā _ Y2 x d _ (λ j hj=>?_) #[rfl,λ _ _ q=>q] (by unfold mz iC;simp) E2 (Sn.sx (iO s2 hp) x rx) g1 fun δ2 E3 l3 _=>#[l3,?_]
  .unfold mz;rw[AF,hj];rfl
  exact hc S2 _ δ2 Y2 bb _ E3 g2 λ S3 s3=>?_;split at o1
  .rename_i hb;rw[í hb];let#[z,g3,rfl]:=ś o1;exact hf S3 _ δ2 Y2 z _ (E3.grow s3) g3 λ dz S4 s4 r4=>#[s3.trans s4,us++[z],ws',?_,o2,by rw[h3];simp];show (zq.sx (vy (s3.trans s4)) us h1).append (.cons r4 .nil)
  .rename_i hb;rw[ç hb];cases o1;show#[s3,us,ws',zq.sx (vy s3) us h1,o2,h3]
 .rw[show î=ts.length from r1.len,List.drop_length] at h2;cases h2;rw[zaD] at h3;subst h3;exact hq _ S2 š #[?_,λ vs e=>?_]
  .simp![Sn];show#[acc,ť #[p,rfl,by rw[o7 nz];show A3],zq.sx (wM λ a z=>Ļ z) zs h1]
  .cases e;show#[p,acc,rfl,s1.none hp,A3,h1]
class Sr (R:Rk):Prop extends Lo R where
 sn:∀ {S S':SS}{Z:ă}É3,R S S' Z y d->Sn (zK S' Z) y d
instance:Sr zL:=#[λ h=>h]
instance:Sr zC:=#[λ h=>h.1]
def zR (R:Rk) (F:Al):xE:=λ ds S Q=>∃ Z ys y,(∀ a,Z a->S a≠none)/\zq Č ys ds/\F ys=↑y/\∀ d S',Sx S S'->R S S' Z y d->Q d S'
def zR.mo É6{F:Al}:mQ (zR R F):=λ _ _ _ _ hq #[Z,ys,y,h1,h2,h3,h4]=>#[Z,ys,y,h1,h2,h3,λ d S' s r=>hq Ā (h4 d S' s r)]
def zH É6 [Lo R] {F:Al}{g:ö}{u:ya}(h:oE g u):zP R (zu F g) (ba (zR R F) u):=λ S Z δ Y y Q hE e hq=>by
 let#[xs,e1,e2]:=ô;exact h Ã xs _ hE e1 λ ds S1 s1 r1=>?_;show#[Z,xs,y,(hE.grow s1).zd,r1,e2,λ d S' s r=>hq d S' (s1.trans s) (Cl.cl s1 r)]
@[simp] def jb (N:ũ) (ys:Ú):Ev:=ys.map (λ y=>↑(.im y))++List.replicate (N.length-ŧ) none
@[simp] def T4:Á Out->Á T
 | some (.rt y)=>↑y
 | some (.nx _)=>↑.zk
 | _=>none
@[simp] def yd (N:ũ) É5 (g:Sm):Al:=λ ys=>if ŧ=n then T4 (g (jb N ys)) else none
theorem zR.len É6{N:ũ}{n:Nat}{g:Sm}Ŏ:ds.length=n:=by
 ext Ř
 .rename_i h;rw[r.len];show h
 .cases e
theorem ao {N:ũ}Â5 ŷ{d:D}(h:ds[i]?=↑d):(oK N ds)[i]?=↑↑d:=by
 have hi:=(AM.mp h).1;unfold oK;rw[zaN (Ä9),AF,h];rfl
theorem ak {N:ũ}{ys:Ú}ŷ{w:W}(h:(jb N ys)[i]?=↑↑w):∃ y,ys[i]?=↑y/\w=.im y:=by
 unfold jb at h;have hi:i<ŧ:=by
  rcases BV i ŧ with q | q
  .show q
  .rw[zaM (by exists q),zb3] at h;split at h <;> cases h
 rw[zaN (Ä9),AF] at h;cases q:ys[i]? with
 | none=>rw[q] at h;cases h
 | some y=>rw[q] at h;cases h;show#[y,rfl,rfl]
def QM É6 [Lo R] {N:ũ}{n:Nat}{g:Sm}{t:yw}(h:zJ R g t) Ŏ:t { nx:=λ _ S'=>Q .zk S',rt:=Q } (oK N ds) S:=by
 ext Ř
 case isFalse=>cases e
 obtain⟨o,e1,e2⟩:∃ o,g (jb N ys)=↑o/\T4 ↑o=↑y:=by
  cases q:g (jb N ys) with
  | none=>rw[q] at e;cases e
  | some o=>show#[o,rfl,by rw[<- q];show e]
 exact h S Z S Z Ā o _ #[#[hz,λ i t e=>?_,λ i ts e=>?_],?_,.refl S,hz,λ _ z=>z,λ _ z=>Ļ z,λ i ts p e _=>?_,λ i j ts us p _ e _ _ _=>?_] e1 ?_
 .ext Ė;let#[d,h3,h4]:=r.XZ h1;show#[d,ao h3,h4]
 .ext Ė
 .unfold oK jb;have:=r.len;simp[this]
 .ext Ė
 .ext Ė
 .cases o with
  | rt y'=>cases e2;show λ d S' s r=>hq d S' s r
  | nx Y'=>
   cases e2;show λ S' Z' δ' F=>hq .zk S' F.sx (Cl.of Å4 YQ)
  | _=>cases e2
def wR À1:Á T:=(Aa.find? Ē).map (·.2)
def lP À1 (v:T):Õ:=
 if (Aa.any Ē)=true then Aa.map (λ kv=>if kv.1=k then (kv.1,v) else kv) else Aa++[(k,v)]
section
variable {S:SS}
theorem yC.len:∀ ì,Ç2->b.length=a.length
 | [],_,h=>ŕ
 | (k,t)::r,_,h=>by
  let#[d,m,rfl,_,h2]:=h;simp[yC.len h2]
theorem yC.val:∀ ì(k:Key),Ç2->(wR a k=none/\mr b k=none)\/∃ t d,wR a k=↑t/\mr b k=↑d/\Sn S t d
 | [],_,k,h=>by cases h;show Ļ #[rfl,rfl]
 | (j,t)::r,_,k,h=>by
  let#[d,m,rfl,h1,h2]:=h;by_cases e:j=k
  .subst e;show ť #[t,d,by simp[wR],by simp[mr],h1]
  .rcases yC.val k h2 with ⟨g1,g2⟩ | ⟨t',d',g1,g2,g3⟩
   .show Ļ #[by simpa [wR,e] using g1,by simpa [mr,e] using g2]
   .show ť #[t',d',by simpa [wR,e] using g1,by simpa [mr,e] using g2,g3]
theorem yC.any:∀ ì(k:Key),Ç2->(b.any Ē)=a.any Ē
 | [],_,k,h=>ŕ
 | (j,t)::r,_,k,h=>by
  let#[d,m,rfl,h1,h2]:=h;rw[B5,B5,yC.any k h2]
theorem yC.lO {k:Key}Ť:∀ ì,Ç2->yC S (a.map λ kv=>if kv.1=k then (kv.1,t) else kv) (b.map Â8)
 | [],_,h=>ŕ
 | (j,u)::a,_,h=>by
  let#[e,m,rfl,h1,h2]:=h;rw[Az,Az];by_cases q:j=k
  .rw[í q,í q];show#[d,_,rfl,r,yC.lO r h2]
  .rw[ç q,ç q];show#[e,_,rfl,h1,yC.lO r h2]
theorem yC.snoc {k:Key}Ť:∀ ì,Ç2->yC S (a++[(k,t)]) (b++[(k,d)])
 | [],_,h=>by cases h;show#[d,[],rfl,r,rfl]
 | (j,u)::a,_,h=>by
  let#[e,m,rfl,h1,h2]:=h;show#[e,_,rfl,h1,yC.snoc r h2]
def yC.put ì(h:Ç2) (k:Key) Ť:yC S (lP a k t) (putD b k d):=by
 unfold lP putD;rw[h.any k];split
 .show yC.lO r h
 .show yC.snoc r h
end
@[simp] def RU Ð:Sm:=fun Y=>↑(.nx (Y.set i ↑(.own (.yp []))))
@[simp] def cP Ð ţ:Ae:=fun Y=>ę λ y=>match Y[i]?,y with
 | Ī,Ũ k=>wR Aa (Ļ k)
 | _,_=>none
@[simp] def W0 Ð (f g:Ae):Ae:=fun Y=>ę λ y=>(g Y).bind λ z=>match Y[i]?,y with
 | Ī,Ũ k=>↑((wR Aa (Ļ k)).getD z)
 | _,_=>none
@[simp] def Wz Ð (f v:Ae):Sm:=fun Y=>(v Y).bind λ z=>ę λ y=>match Y[i]?,y with
 | Ī,Ũ k=>if Aa.length<Ĭ then ↑(.nx (Y.set i ↑(.own (.yp (lP Aa (Ļ k) z))))) else none
 | _,_=>none
@[simp] def Zz Ð:Ae:=fun Y=>match Y[i]? with
 | Ī=>↑(Ũ Aa.length)
 | _=>none
def aF Ä1 İ(hE:ER Ã) ŷ{Aa:Õ}(h:Y[i]?=↑↑(.own (.yp Aa))):∃ p b,Á9/\S p=↑(.yp b)/\yC Č Aa b:=by
 let#[p,o,h1,h2,h3,_]:=hE.ow i _ h;cases o with
 | yp b=>show#[p,b,h1,h2,h3]
 | _=>show h3.elim
section
variable {É6}{f g v:Ae}{ty tx tv:zy}
def rf Ð:zJ R (RU i) (pW Qn Ã3):=λ S0 Z0 S Z δ Y o E F e P=>by
 cases e;intro p hp;show P Ā _ (F.aw (ts:=.yp []) (ds:=.yp []) (.new hp _) i hp lK rfl)
def xj Ð (hf:xx f ty):wY (cP i f) (Qq (yq i) ty):=λ S Z δ Y y Q hE e hq=>by
 ext Ç7;split at e2
 .rename_i Aa k h;ext è;exact hf Ã Ā hE é;cases Vw.int r1;rcases (yC.sx (vy s1) h3).val (Ļ k) with ⟨g1,_⟩ | ⟨t,d,g1,g2,g3⟩
  .rw[g1] at e2;cases e2
  .rw[g1] at e2;cases e2;show#[p,b,k,d,rfl,rfl,s1 Ā h2,g2,hq d S1 s1 g3]
 .cases e2
def xk Ð (hf:xx f ty) (hg:wY g tx):wY (W0 i f g) (Qp (yq i) ty tx):=λ S Z δ Y y Q hE e hq=>by
 let#[x,e1,e]:=ô;let#[z,e2,e3]:=ô;split at e3
 .rename_i Aa k h;cases e3;ext è;exact#[p,rfl,#[b,h2],hf Ã Ā hE é];cases Vw.int r1;exact hg S1 Z δ Y z _ (hE.grow s1) e2 λ dz S2 s2 r2=>#[k,b,rfl,š Ā h2,?_];rcases (yC.sx (vy š) h3).val (Ļ k) with ⟨g1,g2⟩ | ⟨t,d,g1,g2,g3⟩
  .rw[g2];rw[g1] at hq;show hq _ S2 š r2
  .rw[g2];rw[g1] at hq;show hq _ S2 š g3
 .cases e3
def s_ Ð (hf:xx f ty) (hv:wY v tv):zJ R (Wz i f v) (Qo (yq i) ty tv):=λ S0 Z0 S Z δ Y o E F e P=>by
 let#[z,e1,e]:=ô;let#[x,e2,e3]:=ô;split at e3
 .rename_i Aa k h;split at e3
  .rename_i hl;cases e3;exact hv Ã z _ F.er e1 λ dz S1 s1 r1=>?_;have F1:=Ľ;let#[p,b,h1,h2,h3]:=aF F1.er h;change yq i δ S1 _;unfold yq;rw[h1];exact hf S1 Z δ Y Ā F1.er e2 λ d S2 s2 r2=>?_;cases Vw.int r2;have h4:=yC.sx (vy s2) h3;show#[p,b,k,rfl,rfl,s2 Ā h2,by rw[h4.len];show hl,P _ Z δ ((F1.grow s2).mut (us:=.yp (lP Aa (Ļ k) z)) (es:=.yp (putD b (Ļ k) dz)) i h h1 (h4.put _ (Sn.sx (vy s2) z r1)))]
  .cases e3
 .cases e3
def qD Ð:vf (Zz i) (vj RG (ma (yq i) ly)):=λ S Z δ Y y Q hE e hq=>by
 unfold Zz at e;split at e
 .rename_i Aa h;cases e;ext è;exact#[p,b,rfl,h2,?_];rw[h3.len];show hq _ S (.refl S) (Cl.of Å4 pO)
 .cases e
end
@[simp] def aL ţ:Ae:=fun Y=>ę λ x=>match x with
 | Ũ i=>↑(Ũ (-i))
 | _=>none
def Qg (ta:zy):zy:=fun δ S Q=>ta δ S λ x S1=>match x with
 | Ũ i=>Q (Ũ (-i)) S1
 | _=>False
def qo Ĝ(h:xx f te):vf (aL f) (Qg te):=λ S Z δ Y y Q hE e hq=>by
 ext Ç7;exact h Ã x _ hE é;split at e2
 .cases Vw.int r1;cases e2;show hq _ S1 s1 (Cl.of Å4 pO)
 .cases e2
def qR:nH zC fj RF:=Rq
def qQ:nH zC oy RE:=Rq
def lX:Ú->Á (Æ)
 | []=>↑[]
 | Ũ i::ts=>(lX ts).map (i::·)
 | _::_=>none
def o_:Ú->Á (Ä4)
 | []=>↑[]
 | .tup r::ts=>(lX r).bind λ x=>(o_ ts).map (x::·)
 | _::_=>none
def wj (r:Æ):T:=.tup (r.map T.int)
theorem XN:∀ {ts:Ú}{is:Æ},lX ts=↑is->ts=is.map T.int
 | [],is,h=>ŕ
 | Ũ b::ts,is,h=>by
  unfold lX at h;let#[cs,h1,rfl]:=ś h;rw[Az,<- XN h1]
 | .zk::ts,bs,h=>ĭ
 | .bl _::ts,bs,h=>ĭ
 | .str _::ts,bs,h=>ĭ
 | .tup _::ts,bs,h=>ĭ
 | ĝ _::ts,bs,h=>ĭ
theorem YU:∀ {ts:Ú}{rs:Ä4},o_ ts=↑rs->ts=rs.map wj
 | [],is,h=>ŕ
 | .tup r::ts,is,h=>by
  unfold o_ at h;let#[x,h1,h]:=Ak.mp h;let#[cs,h2,rfl]:=ś h;rw[Az,<- YU h2,XN h1];rfl
 | .zk::ts,bs,h=>ĭ
 | .bl _::ts,bs,h=>ĭ
 | .str _::ts,bs,h=>ĭ
 | Ũ _::ts,bs,h=>ĭ
 | ĝ _::ts,bs,h=>ĭ
def Rf (is:Æ):lX (is.map T.int)=↑is:=by
 induction is with
 | nil=>rfl
 | cons b bs ih=>rw[Az];unfold lX;rw[ih];rfl
def YV (rs:Ä4):o_ (rs.map wj)=↑rs:=by
 induction rs with
 | nil=>rfl
 | cons b bs ih=>
  change o_ (.tup (b.map T.int)::bs.map wj)=_;unfold o_;rw[Rf,ih];rfl
theorem iw {S:SS}:∀ {is:Æ}Â5,zq S (is.map T.int) ds↔ds=is.map D.int
 | [],ds=>by simp![B6,zq]
 | i::is,ds=>by
  rw[Az];simp![zq,Sn];ext Ç8
  .rintro⟨c,cs,rfl,rfl,h⟩;rw[iw.mp h];rfl
  .rintro rfl;show#[Ũ i,_,rfl,rfl,iw.mpr rfl]
theorem gP {S:SS}:∀ {rs:Ä4}Â5,zq S (rs.map wj) ds↔ds=rs.map nc
 | [],ds=>by simp![B6,zq]
 | r::rs,ds=>by
  rw[Az];simp![zq,wj,Sn];ext Ç8
  .rintro⟨c,cs,rfl,⟨es,rfl,h1⟩,h⟩;rw[gP.mp h,iw.mp h1];rfl
  .rintro rfl;show#[nc r,_,rfl,#[_,rfl,iw.mpr rfl],gP.mpr rfl]
@[simp] def vD:T->Á String
 | .zk=>↑"NoneType"
 | .bl _=>↑"bool"
 | Ũ _=>↑"int"
 | .str _=>↑"str"
 | .tup _=>↑"tuple"
 | ĝ _=>↑"list"
 | .wN=>↑"dict"
 | .err Ā _=>none
@[simp] def instS (ty:String) ţ:Ae:=fun Y=>ę λ x=>(vD x).map λ t=>.bl (wz t ty)
theorem Vw.err Ä1{c f:Str}{t:T}{d:D}(h:Vw S Z (.err c f t) d):∃ x,d=.err c f x/\Sn Č t x:=by
 rcases h with h | ⟨_,_,_,h,_⟩
 .simpa only [Sn] using h
 .cases h
def qx {ty:String}Ĝ(hf:xx f te):vf (instS ty f) (cX ty te):=λ S Z δ Y y Q hE e hq=>by
 ext Ç7;let#[n,e3,rfl]:=ś e2;exact hf Ã x _ hE é;have key:k_ d S1=↑n:=by
  rw[<- e3];cases x with
  | zk=>cases Vw.zk r1;rfl
  | bl _=>cases Vw.bl r1;rfl
  | int _=>cases Vw.int r1;rfl
  | str _=>cases Vw.str r1;rfl
  | tup _=>let#[ds,rfl,_]:=Vw.tup r1;rfl
  | lst _=>
   ext œ
   .rfl
   .unfold k_;ext Ć;rw[h1];rfl
  | wN=>
   let#[a,Aa,#[rfl,_],h1]:=Vw.wN r1;unfold k_;ext Ć;rw[h1];rfl
  | err _ _ _=>cases e3
 rw[key];show hq _ S1 s1 (Cl.of Å4 oh)
@[simp] def isNone:T->Bool
 | .zk=>true
 | _=>ĸ
def fA:D->Bool
 | .zk=>true
 | _=>ĸ
def zx (p:Ĥ):T:=.tup [Ũ p.1,Ũ p.2]
def eX (ns:Æ):T:=ĝ (ns.map Ũ)
@[simp] theorem zab:Ĭ=16777216:=rfl
def Ig {n:Nat}(h:n<=10000):n<=Ĭ:=BH h ()
theorem wX ù É7{k:Nat}{x:α}(h:xs[k]?=↑x):L2.yc xs (k:Int)=↑x:=by
 unfold L2.yc L2.o6;have hk:=(AM.mp h).1;rw[í ⋯,í ⋯];exists h
@[simp] theorem Ph ù É7{x:α}:L2.yc (xs++[x]) (-1)=↑x:=by
 unfold L2.yc L2.o6;rw[ç ⋯,í (Å5)];have:(-1+((xs++[x]).length:Int)).toNat=Ó:=Å5
 rw[AI,this];simp
@[simp] theorem xB ù{x:α}É7:L2.yc (x::xs) 0=↑x:=wX (k:=0) rfl
@[simp] theorem wC ù{x y:α}É7:L2.yc (x::y::xs) 1=↑y:=wX (k:=1) rfl
@[simp] theorem Dh ù{x y z:α}É7:L2.yc (x::y::z::xs) 2=↑z:=wX (k:=2) rfl
@[simp] theorem Dg ù{x y z w:α}É7:L2.yc (x::y::z::w::xs) 3=↑w:=wX (k:=3) rfl
theorem W8 ù Ş (g:α->Á T) Æ6:∀ (xs:ĉ),(∀ x∈xs,h (enc x)=↑(g x))->iX h (Ţ enc)=↑(xs.filterMap g)
 | [],_=>rfl
 | x::xs,hh=>by
  rw[Az];unfold iX;rw[hh x Av,W8 enc g h xs λ y hy=>hh y (Ay _ hy)];cases q:g x <;> simp[q]
def FX ù Ş (g:α->T) Æ6 (xs:ĉ) (hh:∀ x∈xs,h (enc x)=↑↑(g x)):iX h (Ţ enc)=↑(Ţ g):=by
 rw[W8 enc (λ x=>↑(g x)) h xs hh];simp
def lh ù Ş (h:α->T) á
  (hh:∀ x∈xs,ju pick g c f Y (enc x)=↑↑(h x)):vg pick it g c f Y=↑(ĝ (Ţ h)):=by
 unfold vg;rw[hi,AI,í (by rw[AQ];show hl),FX enc h _ xs hh];rfl
def Iq ù Ş (h:α->Á T) á
  (hh:∀ x∈xs,ju pick g c f Y (enc x)=↑(h x)):vg pick it g c f Y=↑(ĝ (xs.filterMap h)):=by
 unfold vg;rw[hi,AI,í (by rw[AQ];show hl),W8 enc h _ xs hh];rfl
section
variable {ù}{is:ģ}{ŭ}{b:Sm}
def turn Ł (b:Sm) (y:T) Ź:Á Out:=(g y Y).bind b
theorem X7 (y:T) (ys:Ú) Ź:vw is g b (y::ys) Y=(turn g b y Ŧ).bind λ o=>match o with
  | .nx Y2=>Ž
  | .ct Y2=>Ž
  | .bk Y2=>↑(.nx (xy is Y2))
  | .rt t=>↑(.rt t):=by
 unfold turn;rw[vw];cases g y Ŧ <;> rfl
theorem T_ Ş (I:ĉ->Ev->Prop):∀ (xs:ĉ) (pre:ĉ) Ź,I pre Ŧ->
  (∀ p x q,pre++xs=p++x::q->ġ)->∃ Y',Ä5/\I (pre++xs) Y'
 | [],pre,Y,h,_=>#[xy is Y,by rw[B6,vw],by exists h]
 | x::xs,pre,Y,h,hs=>by
  let#[Y',h1,h2]:=hs pre x xs rfl _ h;rw[Az,X7,h1];have ih:=T_ enc I xs (pre++[x]) Y' h2 λ p y q e=>hs p y q (by rw[<- e];simp);exists ih
def lg Ş (I:ĉ->Ev->Prop) (xs:ĉ) Ź (h:I [] Ŧ)
  (hs:∀ p x q,xs=p++x::q->ġ):∃ Y',Ä5/\I xs Y':=T_ enc I xs [] Y h hs
end
theorem MG É5 (h:n<=100000):oO [Ũ (n:Int)]=↑((ê n).map λ(k:Nat)=>T.int (0+(k:Int))):=by
 change (if inR (n:Int)=true then ↑(rangeT 0 (n:Int).toNat) else none)=_;rw[í (Rh.mpr #[⋯,⋯])];rfl
def ik (a:Key) (b:T) (Aa:Õ) (j:Key):wR ((a,b)::Aa) j=if a=j then ↑b else wR Aa j:=by
 by_cases h:a=j <;> simp[wR,h]
theorem V_ É8:∀ Aa:Õ,wR (Aa.map Â8) j=(wR Aa j).map λ x=>if j=k then d else x
 | []=>rfl
 | (a,b)::Aa=>by
  have ih:=V_ k j d Aa;rw[Az];by_cases hk:a=k
  .rw[í hk,ik,ik,ih];by_cases hj:a=j
   .subst hj;subst hk;simp
   .rw[ç hj,ç hj]
  .rw[ç hk,ik,ik,ih];by_cases hj:a=j
   .subst hj;simp[hk]
   .rw[ç hj,ç hj]
theorem VZ É8:∀ Aa:Õ,(∀ kv∈Aa,¬ kv.1=k)->wR (Aa++[(k,d)]) j=if j=k then ↑d else wR Aa j
 | [],_=>by
  change wR [(k,d)] j=_;rw[ik];by_cases h:j=k
  .subst h;simp
  .rw[ç h,ç (λ z=>h z.symm)]
 | (a,b)::Aa,hn=>by
  have ih:=VZ k j d Aa λ kv hkv=>hn kv (Ay _ hkv);have ha:¬ a=k:=hn (a,b) Av;change wR ((a,b)::(Aa++[(k,d)])) j=_;rw[ik,ik,ih];by_cases hj:a=j
  .subst hj;simp[ha]
  .rw[ç hj,ç hj]
def Pm À1:(Aa.any Ē)=(wR Aa k).isSome:=by
 unfold wR;rw[Option.isSome_map,BK,BB,List.find?_isSome]
def Nt (Aa:Õ) É8:wR (lP Aa k d) j=if j=k then ↑d else wR Aa j:=by
 unfold lP;split
 .rename_i h;rw[Pm] at h;rw[V_];by_cases hj:j=k
  .subst hj;let#[x,hx]:=zbL.mp h;simp[hx]
  .simp[hj]
 .rename_i h;show VZ k j d Aa λ kv hkv z=>h (BB.mpr #[kv,hkv,za3 z])
def Ii À1 (d:T):(lP Aa k d).length=if (wR Aa k).isSome=true then Aa.length else Aa.length+1:=by
 have e:=Pm Aa k;unfold lP;rw[e];split <;> simp
def nL (p:Ĥ):Æ:=[p.1,p.2]
def k9 ı:Ä:=(L4.vF ń).map λ r=>ř
def Uz ı:(k9 ps).map nL=L4.vF ń:=by
 unfold k9;rw[A1]
 conv=>rhs;rw[<- List.map_id (L4.vF ń)]
 exact zbE λ r hr=>?_;let#[p,_,rfl]:=Ax.mp ((L4.jc _).mem_iff.mp hr);rfl
def YM ı:(k9 ps).Perm ps:=by
 have h:=L4.jc ń;have:(k9 ps).Perm ((ps.map nL).map λ r=>ř):=h.map _
 rwa [A1,show ((λ r:Æ=>ř) ∘ nL)=id from rfl,List.map_id] at this
def ft (p q:Ĥ):Prop:=p.1<q.1\/(p.1=q.1/\p.2<=q.2)
def Uy ı:(k9 ps).Pairwise ft:=by
 have h:=L4.YL ń;rw[<- Uz,zbB] at h;exact h.imp λ{p q} hpq=>?_;unfold nL at hpq;rw[HT.iI,HT.iI] at hpq;unfold ft;by_cases e:q.1=p.1
 .rw[í e] at hpq;by_cases e2:q.2=p.2
  .lia
  .rw[ç e2] at hpq;have:=of_decide_eq_false hpq;lia
 .rw[ç e] at hpq;have:=of_decide_eq_false hpq;lia
def ME ı:o_ (ps.map zx)=↑ ń:=by
 have:=YV ń
 rwa [A1,show wj ∘ nL=zx from rfl] at this
def oS (q p:Ĥ):Bool:=decide (p.1<=q.1)&&decide (p.2<=q.2)
def z_ ı (q:Ĥ):Bool:=ps.any (oS q)
def xF {ps:Ä}{q:Ĥ}:z_ ps q=true↔∃ p∈ps,p.1<=q.1/\p.2<=q.2:=by
 unfold z_ oS;simp[BB]
def FP {ps qs:Ä}(h:ps.Perm qs) (q:Ĥ):z_ ps q=z_ qs q:=by
 rw[BK,xF,xF];show#[λ#[p,h1,h2]=>#[p,h.mem_iff.mp h1,h2],λ#[p,h1,h2]=>#[p,h.mem_iff.mpr h1,h2]]
def FT (ps qs:Ä) (q:Ĥ):z_ (ps++qs) q=(z_ ps q||z_ qs q):=by
 unfold z_;rw[List.any_append]
def mj ı:Prop:=ps.Pairwise λ p q=>p.1<q.1/\q.2<p.2
theorem mj.eq:∀ {ps qs:Ä},mj ps->mj qs->(∀ q,z_ ps q=z_ qs q)->ps=qs
 | [],[],_,_,_=>rfl
 | [],q::qs,_,_,h=>by
  have:=h q;rw[show z_ [] q=ĸ from rfl] at this;have h2:z_ (q::qs) q=true:=Å6;rw[h2] at this;cases this
 | p::ps,[],_,_,h=>by
  have:=h p;rw[show z_ [] p=ĸ from rfl] at this;have h2:z_ (p::ps) p=true:=xF.mpr Ū;rw[h2] at this;cases this
 | p::ps,q::qs,hp,hq,h=>by
  have hp1:=BU.mp hp;have hq1:=BU.mp hq;have a1:∃ r∈q::qs,r.1<=p.1/\r.2<=p.2:=xF.mp (by rw[<- h];show xF.mpr Ū);have a2:∃ r∈p::ps,r.1<=q.1/\r.2<=q.2:=xF.mp (by rw[h];show Å6);let#[r,hr,r1,r2]:=a1;let#[u,hu,u1,u2]:=a2;have qr:q.1<=r.1:=by
   rcases È5 hr with e | e
   .subst e;show BC _
   .show Int.le_of_lt (hq1.1 r e).1
  have pu:p.1<=u.1:=by
   rcases È5 hu with e | e
   .subst e;show BC _
   .show Int.le_of_lt (hp1.1 u e).1
  have e1:p.1=q.1:=⋯;have er:r=q:=by
   rcases È5 hr with e | e
   .show e
   .have:=(hq1.1 r e).1;lia
  have eu:u=p:=by
   rcases È5 hu with e | e
   .show e
   .have:=(hp1.1 u e).1;lia
  subst er eu;have e2:u.2=r.2:=⋯;have epq:u=r:=Prod.ext e1 e2;subst epq;rw[mj.eq hp1.2 hq1.2 λ x=>?_];have hx:=h x;unfold z_ at hx ⊢;rw[B5,B5] at hx;cases g:oS x u with
  | ĸ=>rw[g] at hx;exists hx
  | true=>
   have gx:u.1<=x.1/\u.2<=x.2:=by simpa [oS] using g
   have key:∀ {l:Ä},(∀ v∈l,u.1<v.1/\v.2<u.2)->l.any (oS x)=l.any (oS (x.1,u.2-1)):=by
    intro l hl;rw[BK,BB,BB];ext Ç8
    .ext Æ2;have hg':v.1<=x.1/\v.2<=x.2:=by simpa [oS] using hg
     show Å7
    .ext Æ2;have hg':v.1<=x.1/\v.2<=u.2-1:=by simpa [oS] using hg
     show Å7
   rw[key hp1.1,key hq1.1];have hy:=h (x.1,u.2-1);unfold z_ at hy;rw[B5,B5] at hy;have gn:oS (x.1,u.2-1) u=ĸ:=by
    unfold oS;rw[show decide (u.2<=(x.1,u.2-1).2)=ĸ from za2 (by change ¬ u.2<=u.2-1;lia),zaP]
   rw[gn] at hy;exists hy
def ke (l:Á Int) (x:Int):Bool:=match l with
 | none=>true
 | some m=>decide (x<m)
def xZ:Ä->Á Int->Ä
 | [],_=>[]
 | p::ps,l=>if ke l p.2=true then p::xZ ps ↑p.2 else xZ ps l
def oQ ı:Ä:=xZ (k9 ps) none
theorem cp:∀ ı (l:Á Int) (q:Ĥ),q∈xZ ps l->q∈ps/\∀ m,l=↑m->q.2<m
 | [],l,q,h=>by simp[xZ] at h
 | p::ps,l,q,h=>by
  unfold xZ at h;split at h
  .rename_i c;have hm:∀ m,l=↑m->p.2<m:=λ m e=>by subst e;simpa [ke] using c
   rcases È5 h with e | e
   .subst e;show#[Av,hm]
   .let#[h1,h2]:=cp ps _ q e;show#[Ay _ h1,λ m e=>by have:=h2 _ rfl;have:=hm m e;lia]
  .let#[h1,h2]:=cp ps _ q h;show#[Ay _ h1,h2]
theorem XU:∀ ı (l:Á Int),ps.Pairwise ft->mj (xZ ps l)
 | [],l,_=>by simp[xZ,mj]
 | p::ps,l,h=>by
  have h1:=BU.mp h;unfold xZ;split
  .exact BU.mpr #[λ q hq=>?_,XU ps _ h1.2];let#[g1,g2]:=cp ps _ q hq;have:=h1.1 q g1;have:=g2 _ rfl;unfold ft at *;lia
  .show XU ps _ h1.2
theorem XW:∀ ı (l:Á Int),ps.Pairwise ft->∀ p∈ps,(∃ q∈xZ ps l,q.1<=p.1/\q.2<=p.2)\/∃ m,l=↑m/\m<=p.2
 | [],l,_,p,hp=>by cases hp
 | r::ps,l,h,p,hp=>by
  have h1:=BU.mp h;unfold xZ;split
  .rename_i c;rcases È5 hp with e | e
   .subst e;show Ļ Ū
   .rcases XW ps ↑r.2 h1.2 p e with ⟨q,q1,q2⟩ | ⟨m,e1,e2⟩
    .show Ļ #[q,Ay _ q1,q2]
    .cases e1;have:=h1.1 p e;unfold ft at this;show Ļ #[r,Av,⋯,e2]
  .rename_i c;rcases È5 hp with e | e
   .subst e;cases l with
    | none=>simp[ke] at c
    | some m=>show ť #[m,rfl,by simpa [ke] using c]
   .show XW ps l h1.2 p e
def XC ı:mj (oQ ps):=XU Ā (Uy ps)
def Ik {ps:Ä}{q:Ĥ}(h:q∈oQ ps):q∈ps:=(YM ps).mem_iff.mp (cp Ā q h).1
theorem fq ı (q:Ĥ):z_ (oQ ps) q=z_ ps q:=by
 rw[<- FP (YM ps) q,BK,xF,xF];ext Ç8
 .rintro⟨p,h1,h2⟩;show#[p,(cp Ā p h1).1,h2]
 .rintro⟨p,h1,h2⟩;rcases XW (k9 ps) none (Uy ps) p h1 with ⟨r,r1,r2⟩ | ⟨m,e,_⟩
  .show#[r,r1,⋯,⋯]
  .cases e
end L5
namespace L2
open PySem PySem.Spec PyProof.Rows
section
variable {X:Cx}
def UY (K:Ac):R2:=λ x y H Q=>∃ l b xs zs,x=ÿ l/\y=ÿ b/\yj K H l xs/\yj K H b zs/\Ó+zs.length<=Ĭ/\∀ p,H p=none->Q (ÿ p) (upd H p (ĝ (xs++zs)))
theorem KN:xo X (binaryOp .Add) (UY X.K):=by
 intro gV s σ H x y v u Q I rx ry h;let#[l,b,xs,zs,rfl,rfl,hH,hB,hz,q]:=h;cases rx;cases ry;let#[Ab,r,p1,_]:=I.list hH;let#[its2,r2,p2,_]:=I.list hB;let#[#[cls,dd,data,sl],ho,hc,n,hd]:=p1.isList;let#[#[cls2,dd2,data2,sl2],ho2,hc2,n2,hd2]:=p2.isList;simp only at hc hd hc2 hd2;subst hc hd hc2 hd2;have e:Ab.toArray++its2.toArray=(Ab++its2).toArray:=#[];exact concat_meets #[_,ho,rfl] #[_,ho2,rfl] noFill_list_add seq_list_add PySem.F.slot_list_add PySem.F.entry_list_add (PySem.F.args_list_add_2 Ā) (list_addW l b Ab.toArray its2.toArray n n2 dd dd2 sl sl2 (by rw[AN,AN,<- r.length,<- r2.length];show hz)) #[ho,ho2,?_];rw[e];show#[ÿ _,_,I.Ib (t':=s.toks) (r.append r2) (by rw[zD7];lia),rfl,q _ I.fresh]
end
end L2
namespace L5
open PySem PySem.Spec L2 L3
open PyProof.Rows hiding St
section
variable {X:Cx}{K:Ac}{a b c e:Expr}{es:List Expr}{ta tc te:zy}{tA:ya}{pos p:Pos}
def iy {H:Hp}{S:SS}{d:D}{v:V}Â5(r:zj K H d v) (p:yb K H S) (e:yu d S=↑ds) (n:∀ ts,d≠.tup ts):∃ a xs,v=ÿ a/\yj K H a xs/\zw K H ds xs:=by
 unfold yu at e;split at e
 .show absurd rfl (n _)
 .cases e;ext À7;let#[a,xs,h1,h2,h3]:=r;show#[a,xs,h1,h2.sq,h3]
 .split at e
  .rename_i q;cases e;ext À7;subst r;let#[xs,h1,h2]:=p Ā q;show#[_,xs,rfl,yj.of h1,h2]
  .cases e
 .cases e
def nY.mo {g:List Bool->Bool}:nG (nY g):=λ ds S Q Q' hq h=>by
 unfold nY at h ⊢;split at h
 .show h.elim
 .let#[bs,h1,h2]:=h;show#[bs,h1,hq Ā h2]
 .show h.elim
def nY.fits {g:List Bool->Bool}:mS K (nY g) (λ xs H Q=>∃ p,∃ bs:List Bool,xs=[ÿ p]/\yj K H p (bs.map V.bl)/\Q (.bl (g bs)) H):=λ xs ds H S Q h0 h2 h=>by
 unfold nY at h;split at h
 .show h.elim
 .rename_i d hn;let#[x,hx,h1]:=h0.one;subst hx;let#[bs,e,h]:=h;let#[a,ys,rfl,g1,g2]:=iy h1 h2 e (λ ts z=>hn ts z);rw[g2.bools] at g1;show#[a,bs,rfl,g1,h _ H È6 (.refl H) h2]
 .show h.elim
def sr (hm:X.mg "all"=none) Á2 (hg:Gl X "all") Å2:PD X (.Call (.Name "all" p) (e::es) [] pos) (vj (nY λ bs=>bs.all id) tA):=
 mZ (mC (EG hc) hg hm boot_all ha.pa () () he An) nY.mo nY.fits ha.mo
def sj (hm:X.mg "any"=none) Á2 (hg:Gl X "any") Å2:PD X (.Call (.Name "any" p) (e::es) [] pos) (vj (nY λ bs=>bs.any id) tA):=
 mZ (mC (EF hc) hg hm boot_any ha.pa () () he An) nY.mo nY.fits ha.mo
def SM {H:Hp}{d:D}{v:V}(r:zj K H d v):decide (v=.zk)=fA d:=by
 cases d with
 | tup _=>ext Æ3
 | pP _=>ext Æ3
 | err _ _ _=>ext À7;let#[a,_,_,_,rfl,_]:=r;rfl
 | _=>ext À7;subst r;rfl
theorem tq (ha:PD X a ta):PD X (.UnaryOp .USub a pos) (Qg ta):=by
 exact#[fun δ S Q Q' hq h=>ha.mo δ S Ā (λ x S1 z=>by
  cases x <;> first
   | show hq Ā z
   | show z) h,PE.imp (LM Ny ha.pe) fun σ H Q hu=>?_]
 let#[δ,S,r1,r2,h]:=hu;exact zY.go ha.mo r1 r2 h λ x S1 v H1 h1 q1 e1 p1=>?_;cases x with
 | int i=>simp![zj] at q1;show#[i,q1,h1 _ H1 È6 e1 p1]
 | _=>show h1.elim
section
variable {N':ũ}{pick:Ã6}{scope:Scope}{tg elt iter:Expr}{ifs:List Expr}{ti:pz}{g:wO}{tcc:xn}
def l4.mo (hi:ZU ti):yG Ĺ:=fun δ S Q Q' hq z=>hi δ S Ā (λ I S1 #[h1,h2,h3]=>#[h1,h2,λ p hp=>by
 let#[W,w0,w1,w2,w3]:=h3 p hp;show#[W,w0,w1,w2,λ S2 acc a b c=>hq Ā (w3 S2 acc a b c)]]) z
theorem Uc (hi:ZU ti) (hg:bB g) (hc:oG tcc) (he:yG te) {σ:St}{H:Hp}{Q:VK}(hu:zY K Ĺ σ H Q):YF pick (oJ K ti) (eP K g) (pB K tcc) (zY K te) σ H Q:=by
 let#[δ,S,r1,r2,z]:=hu;exact#[δ,S,r1,r2,hi δ S Ā (λ I S1 hF J H1 e1 p1 rep D hD=>?_) z];let#[hlen,hk,hF]:=hF;have hS1:S1 D=none:=p1.none hD;let#[W,w0,wm,wstep,wfin]:=hF D hS1;exact#[λ i m σ H2=>m=î-i/\i<=î/\Ext H1 H2/\xv K H2 Ő σ/\∃ S2 acc,yb K H2 S2/\Sx S1 S2/\S2 D=↑(ĝ acc)/\acc.length<=i/\W i S2 acc,#[_,rfl,A0 _,.new hD _,((r1.ext e1).pick pick).ext (.new hD _),ups S1 D (ĝ []),[],?_,.new hS1 _,lK,Ap _,?_],?_]
 .show p1.ups (.new hD _) #[[],yD,.nil]
 .show wm 0 S1 _ [] Ã7 w0
 rintro i m σ2 H2 ⟨rfl,hi',x2,q1,S2,acc,q2,sx,hS2,A3,hW⟩;let#[g1,g2]:=rep i H2 S2 x2 q2 (hk S2 sx);by_cases hl:i<î
 .have hd:I.items[i]?=↑I.items[i]:=by simp[hl]
  let#[go,yl]:=g1 _ hd;exact ť #[go,λ x H3 hy=>?_];let#[x3,p3,d3]:=yl x H3 hy;exact#[_,_,S2,d3,q1.ext x3,p3,hg Ā S2 Ā (fun δ4 S4 z4 σ4 H4 a1 a2 a3=>?_) (wstep i _ S2 acc hd sx hS2 hW)];let#[hle,z4]:=z4;exact pB.go hc a1 a3 z4 λ b S5 H5 z5 x5 p5=>qI (λ z5=>?_) (λ z5=>?_) z5
  .exact zY.go he (a1.ext x5) p5 z5 λ y S6 v H6 z6 q6 x6 p6=>?_;let#[s6,hW6]:=z6;let#[ys,h6,r6]:=p6 Ā (s6 Ā hS2);have e6:Ext H6 (upd H6 D (ĝ (ys++[v]))):=ĝ h6 _;have hlen2:ŧ<=i:=by rw[<- r6.length];show A3
   exact#[ys,î-(i+1),h6,⋯,⋯,rfl,hl,((Ã8).trans x6).trans e6,hle.rep ((a1.ext (x5.trans x6)).ext e6),ups S6 D (ĝ (acc++[y])),acc++[y],?_,λ b o hb=>?_,lK,Å5,?_]
   .show p6.ups e6 #[_,yD,zw.ext e6 _ (r6.snoc q6)]
   .rw[ky (by intro q;subst q;rw[hS1] at hb;cases hb)];show s6 Ā (sx Ā hb)
   .show wm _ S6 Ā Ã7 hW6
  .let#[s5,hW5]:=z5;show#[î-(i+1),⋯,rfl,hl,Ã8,hle.rep (a1.ext x5),S5,acc,p5,sx.trans s5,s5 Ā hS2,⋯,hW5]
 .have e:i=î:=⋯;subst e;show Ļ #[g2 (Ap _),wfin S2 acc sx hS2 hW _ H2 È6 (e1.trans x2) q2]
def Kv È
  ş:
  PD X ú Ĺ:=
 #[l4.mo hi.mo,λ gV s σ H Q I hu=>LX Ö hs gV s σ H Q I (Uc Ĳ hu)]
def Kp ŷ{y:Str}{py BN:Pos}È
  (hN:X.N.Nodup) (hy:X.N[i]?=↑y) (hx:Loc X.env.scope y)
  (hsw:swapsWith ú ↑(.Name y py) BN.line X.env=pure true)
  (hfn:X.fn y=true\/X.env.scope.names.lookup y=↑.local)
  ş:
  yt X (.Assign [.Name y py] ú BN) (pW Ĺ Ã3):=by
 exact#[pW.mo (l4.mo hi.mo) λ _ _ _ _ _ hq z=>hq Ā z,λ gV s σ H D I hu=>Lf Ö hN hy hx hsw hfn hs gV s σ H D I ?_];let#[δ,S,r1,r2,z]:=hu;exact Uc Ĳ #[δ,S,r1,r2,l4.mo hi.mo δ S Ā (λ x S1 z v H1 q1 e1 p1=>?_) z];show z _ H1 ((r1.ext e1).set i q1) e1 p1
end
end
section
variable {P:Program}{w:World}{K:Ac}{mg:Aq}{base:Heap}{f:Addr}{fd:FuncData}
def R0 đ Á3
  Ì:wg P w K mg base xP (k+1) f fd ps (mv K (zR R (yd N n g))):=
 Wd F Sc (λ ds S Q h=>by rw[h.len,hn]) λ Af A outer s H E hr=>by
  let#[t,h1,h2]:=hbody Af A outer s H E hr;show#[t,h1,λ ds S Q h=>QM h2 h]
def Fb đ (hm:mg x=↑(ÿ f)) Á3
  (hb:∀ (kV doc pm:Ŗ) (an:Á Addr) (Af ct:Ŗ) (us:Ai),us.length=ps.length->bindArgs (PySem.W.fnOf x x (pV st) (xA st) (zW st) .none kV doc pm an Af ct) #[us,[]]=pure (ps.zip us))
  Ì:FD P w K mg base x (k+1) ps (zR R (yd N n g)):=
 #[#[f,fd,R0 F Sc hn hbody,hm,F.kp,F.binds hb],zR.mo]
def Iz É6 [Sr R] {F:Al}(hF:∀ ns:Æ,ns.length<=63->F [ĝ (ns.map T.int)]=↑(.bl true)) {H:Hp}Ň{ns:Æ}{E:XK}(hO:ZM H) (hS:yj K H a (ns.map V.int)) (hl:ns.length<=63):mv K (zR R F) [ÿ a] H (λ v _=>v=.bl true) E:=by
 have hFz:fV K H a (ns.map V.int):=by
  rcases hS with (h | h) | h
  .rcases hO a with z | ⟨o,xs,z⟩
   .rw[h] at z;cases z
   .rw[h] at z;cases z
  .show Ļ h
  .show ť h
 exact#[[.pP (ns.map D.int)],λ _=>none,.cons ?_ .nil,(λ a o z=>nomatch z),λ _=>False,[ĝ (ns.map T.int)],.bl true,nofun,.cons ?_ .nil,hF ns hl,λ d S' s r v H' rv _ _=>?_]
 .simp![zj];show#[a,_,rfl,hFz,zw.Xp ns]
 .simp![Sn];show#[_,Ļ #[rfl,KP ns],iw.mpr rfl]
 .have:=Sr.sn r;simp![Sn] at this;subst this;simpa only [zj] using rv
end
end L5
namespace ST
open PySem PySem.SetTable
def lC (xs:ģ):Prop:=xs.Pairwise (· < ·)
def X_ É9{m d:Nat}(h:m<Ğ):xs.getD m d=xs[m]:=by simp[Array.getD,h]
theorem WQ (xs:Ŝ Nat) (j:Nat) Š:∀ (f lo hi:Nat),hi-lo<=f->lo<=hi->hi<=Ğ->(∀ i Ç9,i<lo->xs[i]<j)->(∀ i Ç9,hi<=i->j<=xs[i])->
  À4<=Ğ/\(∀ i Ç9,i<À4->xs[i]<j)/\∀ i Ç9,À4<=i->j<=xs[i]
 | 0,lo,hi,h1,h2,h3,h4,h5=>by
  unfold below.go;ext Á1
 | f+1,lo,hi,h1,h2,h3,h4,h5=>by
  unfold below.go;have oq:∀ i k (hi:i<Ğ) (hk:k<Ğ),i<=k->xs[i]<=xs[k]:=λ i k hi hk hik=>by
   rcases BV i k with q | q
   .have r:=zbC.mp hr i k (Ä9) (by exists hk) q;rw[zaV,zaV] at r;show B8 r
   .have:i=k:=⋯;subst this;show Ap _
  by_cases hl:lo<hi
  .rw[í hl];ext Ć;have hm:(lo+hi)/2<Ğ:=⋯;rw[X_ hm];by_cases c:xs[(lo+hi)/2]<j
   .rw[í c];exact WQ xs j hr f _ hi ⋯ ⋯ h3 (λ i hi' Au=>?_) h5;have:=oq i ((lo+hi)/2) hi' hm ⋯;lia
   .rw[ç c];exact WQ xs j hr f lo _ ⋯ ⋯ ⋯ h4 (λ i hi' hge=>?_);have:=oq ((lo+hi)/2) i hm hi' hge;lia
  .rw[ç hl];ext Á1
def ZD É9 Ê1 Š:ħ<=Ğ/\(∀ i Ç9,i<ħ->xs[i]<j)/\∀ i Ç9,ħ<=i->j<=xs[i]:=
 WQ xs j hr Ğ 0 Ğ ⋯ ⋯ (Ap _) (λ i h q=>⋯) (λ i h q=>⋯)
theorem below_at É9{j i:Nat}Š (h:xs[i]?=↑j):ħ=i:=by
 let#[h1,h2,h3]:=ZD (j:=j) hr;let#[hi,e]:=ï h;have a:¬ i<ħ:=λ q=>by have:=h2 i hi q;lia
 have b:¬ ħ<i:=λ q=>by
  have:=h3 (ħ) ⋯ (Ap _);have r:=zbC.mp hr (ħ) i (Å5) (Ä9) q;simp at r;lia
 lia
def EZ É9 Ê1 Š:(xs[ħ]?=↑j)↔j∈xs.toList:=by
 ext Ç8
 .intro h;let#[hi,e]:=ï h;rw[<- e];simp
 .intro h;let#[i,hi,e]:=zaI.mp h;have hx:xs[i]?=↑j:=by
   simp at hi;simp[hi] at e ⊢;show e
  rw[below_at hr hx];show hx
def mK â (p:Probe):Probe:=
 if p.more>0 then { p with j:=p.j+1,more:=p.more-1 } else
 let (i,perturb):=leap M p.i p.perturb
 { p with j:=i,more:=Ç3,i,perturb }
def Ve (t:ŗ) (p:Probe):t.advance p=mK Ï p:=rfl
def gT (M i perturb:Nat):Probe:={ j:=i,more:=Ç3,i:=i,perturb:=perturb,dummy:=none }
def way â Ă:Nat->Probe
 | 0=>gT M (ľ%č) (ľ)
 | k+1=>mK M (æ)
def Dv â (p:Probe) (h:p.dummy=none):(mK M p).dummy=none:=by
 unfold mK;split
 .show h
 .show h
theorem Y2 â Ă:∀ k,(æ).dummy=none
 | 0=>rfl
 | k+1=>Dv M _ (Y2 M h k)
def yA â Ă:Nat->Nat×Nat
 | 0=>(ľ%č,ľ)
 | n+1=>leap M û Į
theorem YT (M i pt:Nat) Ă (k:Nat) (hk:æ=gT M i pt):∀ m,m<=Ç3->way M h (k+m)={ j:=i+m,more:=Ç3-m,i:=i,perturb:=pt,dummy:=none }
 | 0,_=>by rw[Nat.add_zero,hk];rfl
 | m+1,hm=>by
  have ih:=YT M i pt h k hk m ⋯;change mK M (way M h (k+m))=_;rw[ih];unfold mK;rw[í (by change Ç3-m>0;lia)];simp![Probe.mk.injEq];show#[⋯,⋯,È1,È1,È1]
def MD (M i:Nat):Ç3<=9:=by ext À2
theorem UB â Ă (n k:Nat) (hk:æ=gT M û Į):way M h (k+(Ģ M û-û)+1)=gT M (yA M h (n+1)).1 (yA M h (n+1)).2:=by
 have:=YT M Ā h k hk _ (Ap _);change mK M (way M h (k+_))=_;rw[this];unfold mK;rw[ç (by change ¬ _-_-(_-_)>0;lia)];rfl
theorem UD â Ă:∀ n,∃ k,k<=10*n/\æ=gT M û Į
 | 0=>#[0,⋯,rfl]
 | n+1=>by
  let#[k,h1,h2]:=UD M h n;have:=MD M û;show#[_,⋯,UB M h n k h2]
def EX Ă:ľ<2 ^ 64:=by
 unfold bits;have h1:=zF0 h (show (2 ^ 64:Int)≠0 by decide);have h2:=zF1 h (show (0:Int)<2 ^ 64 by decide);lia
theorem Tn â Ă:∀ n,Į*32 ^ n<=ľ
 | 0=>by simp[yA]
 | n+1=>by
  have ih:=Tn M h n;change (Į/32)*32 ^ (n+1)<=_;have:Į/32*32<=Į:=Nat.div_mul_le_self Ā
  calc Į/32*32 ^ (n+1)=(Į/32*32)*32 ^ n:=by rw[Nat.pow_succ,Nat.mul_comm (32 ^ n) 32,Nat.mul_assoc]
   _<=Į*32 ^ n:=Nat.mul_le_mul_right _ this
   _<=_:=ih
theorem LK â Ă É5 (hn:13<=n):Į=0:=by
 rcases zbR Į with q | q
 .show q
 .have h1:=Tn M h n;have h2:=EX h;have h3:32 ^ 13<=32 ^ n:=Nat.pow_le_pow_right () hn;have h4:1*32 ^ n<=Į*32 ^ n:=Nat.mul_le_mul_right _ q;have h5:(2:Nat) ^ 64<32 ^ 13:=()
  lia
def kB â Ð:Nat->Nat
 | 0=>i
 | n+1=>(kB M i n*5+1)%č
theorem Sv â Ă:∀ n,(yA M h (13+n)).1=kB M (yA M h 13).1 n
 | 0=>rfl
 | n+1=>by
  have ih:=Sv M h n;have hz:=LK M h (13+n) ⋯;change ((yA M h (13+n)).1*5+1+(yA M h (13+n)).2/32)%č=_;rw[hz,ih];rfl
theorem dD (M i:Nat):∀ a b,kB M i (a+b)=kB M (kB M i a) b
 | a,0=>rfl
 | a,b+1=>by
  change (kB M i (a+b)*5+1)%č=_;rw[dD M i a b];rfl
def dB â:Nat->Nat->ģ
 | 0,_=>[]
 | n+1,i=>i::dB M n ((i*5+1)%č)
theorem Xn â:∀ n i x,x∈dB M n i->∃ k,k<n/\kB M i k=x
 | 0,i,x,h=>ĭ
 | n+1,i,x,h=>by
  rcases È5 h with e | e
  .show#[0,⋯,e.symm]
  .let#[k,h1,h2]:=Xn M n _ x e;show#[k+1,⋯,by rw[Nat.add_comm,dD];show h2]
def nF â:Prop:=M=7\/M=31\/M=127
theorem K2 â Ġ:(∀ e,e<=M->e∈dB M č 0)/\kB M 0 č=0:=by
 have key:∀ M,((ê č).all λ e=>(dB M č 0).contains e)=true->∀ e,e<=M->e∈dB M č 0:=λ M h e he=>by
  have:=zE4.mp h e (AL.mpr ⋯);exists this
 rcases hM with rfl | rfl | rfl
 .show#[key 7 (AU),AU]
 .show#[key 31 (AU),AU]
 .show#[key 127 (AU),AU]
theorem K1 â Ġ (i e:Nat) (hi:i<=M) (he:e<=M):∃ n,n<=M/\kB M i n=e:=by
 let#[h1,h2]:=K2 M hM;let#[a,a1,a2]:=Xn M Ā _ (h1 i hi);let#[b,b1,b2]:=Xn M Ā _ (h1 e he);rcases BV b a with q | q
 .exact#[M+1+b-a,⋯,?_];rw[<- a2,<- dD,show a+(M+1+b-a)=č+b by lia,dD,h2,b2]
 .exact#[b-a,⋯,?_];rw[<- a2,<- dD,show a+(b-a)=b by lia,b2]
theorem Il â Ă:∀ n,û<=M
 | 0=>by have:=zbF (ľ) ū;change ľ%č<=M;lia
 | n+1=>by
  have:=zbF (û*5+1+Į/32) ū;change (_%č:Nat)<=M;lia
theorem Sy â Ġ Ă (e:Nat) (he:e<=M):∃ n,n<M+14/\û=e:=by
 let#[n,h1,h2]:=K1 M hM (yA M h 13).1 e (Il M h 13) he;show#[13+n,⋯,by rw[Sv,h2]]
theorem Nn â Ġ Ă (e:Nat) (he:e<=M):∃ k,k<10*(M+15)/\(æ).j=e:=by
 let#[n,h1,h2]:=Sy M hM h e he;let#[k,k1,k2]:=UD M h n;show#[k,⋯,by rw[k2];show h2]
theorem VU â Ă:∀ k,(æ).j+(æ).more<=M/\(æ).i<=M
 | 0=>by
  have h1:ľ%č<=M:=by have:=zbF (ľ) ū;lia
  exact#[?_,h1];change ľ%č+(Ģ M (ľ%č)-ľ%č)<=M;ext À2
 | k+1=>by
  let#[h1,h2]:=VU M h k;change (mK M (æ)).j+(mK M (æ)).more<=M/\(mK M (æ)).i<=M;unfold mK;split
  .rename_i c;show#[by change (æ).j+1+((æ).more-1)<=M;lia,h2]
  .have h3:Ç4%č<=M:=by have:=zbF Ç4 ū;lia
   exact#[?_,h3];change _%č+(Ģ M (_%č)-_%č)<=M;ext À2
def Y1 â Ă (k:Nat):(æ).j<=M:=by have:=(VU M h k).1;lia
structure Tab (t:ŗ) (hs:Æ):Prop where
 mask:nF Ï
 jE:t.dummies=[].toArray
 len:t.place.size=ğ
 oq:lC Ê
 top:∀ j∈ Ê,j<=Ï
 di:∀ Ð h j,hs[i]?=↑h->ł[i]?=↑j->Œ
theorem Tab.live Ø {i j:Nat}(h:ł[i]?=↑j):t.slot j=.live i:=by
 unfold SetTable.slot;ext Ć;rw[below_at T.oq h,í (by rw[h];simp)]
theorem Tab.empty Ø Ê1(h:j∉ Ê):t.slot j=.empty:=by
 unfold SetTable.slot;ext Ć;have n1:¬ (ł[ð]? == ↑j)=true:=λ q=>h ((EZ T.oq).mp (by exists q));rw[ç n1,Æ8]
theorem Tab.at Ø Ê1(h:j∈ Ê):∃ (i:Nat) (g:Int),ł[i]?=↑j/\hs[i]?=↑g:=by
 let#[i,hi,e]:=zaI.mp h;have hi':i<t.place.size:=Ä9
 exact#[i,hs[i]'(by rw[<- T.len];show hi'),?_,#[]];rw[BW hi'];rw[zaV] at e;rw[e]
theorem Rr Ø {hashAt:Nat->Int}(hA:∀ Ð g,hs[i]?=↑g->hashAt i=g) Ă:∀ (f k:Nat),(∃ e,k<=e/\e<k+f/\(way Ï h e).j∉ Ê)->
  ∃ k1,k<=k1/\(∀ m,k<=m->m<k1->∃ (i:Nat) (g:Int),ł[i]?=↑(way Ï h m).j/\hs[i]?=↑g/\g≠h)/\
   (ž ∉ Ê/\Â9=↑(.empty ž none)\/
    ∃ i,ł[i]?=↑ ž/\hs[i]?=↑h/\Â9=↑(.candidate ž i (way Ï h (k1+1))))
 | 0,k,#[e,h1,h2,_]=>⋯
 | f+1,k,#[e,h1,h2,h3]=>by
  by_cases hm:(way Ï h k).j∈ Ê
  .let#[i,g,p1,p2]:=T.at hm;by_cases hg:g=h
   .exact#[k,Ap _,λ m a b=>⋯,ť #[i,p1,by rw[<- hg];show p2,?_]];unfold Ç5;rw[T.live p1];ext Ć;rw[hA i g p2,í (by simp[hg]),Ve];rfl
   .have AD:e≠k:=λ q=>by subst q;show h3 hm
    let#[k1,q1,q2,q3]:=Rr T hA h f (k+1) #[e,⋯,⋯,h3];have eq:Ç5 t hashAt h (f+1) (way Ï h k)=Ç5 t hashAt h f (way Ï h (k+1)):=by
     conv=>lhs;unfold Ç5
     rw[T.live p1];ext Ć;rw[hA i g p2,ç (by simp[hg]),Ve];rfl
    rw[eq];exact#[k1,⋯,λ m a b=>?_,q3];rcases Nat.eq_or_lt_of_le a with w | w
    .subst w;show#[i,g,p1,p2,hg]
    .show q2 m w b
  .exact#[k,Ap _,λ m a b=>⋯,Ļ #[hm,?_]];unfold Ç5;rw[T.empty hm,Y2]
def TK {xs ys:ģ}(hx:xs.Nodup) (h:∀ x∈xs,x∈ys):Ó<=ŧ:=by
 induction xs generalizing ys with
 | nil=>simp
 | cons x xs ih=>
  have h1:=BR.mp hx;have hxy:=h x Av;have:=ih h1.2 (ys:=ys.erase x) λ z hz=>by
   have AD:z≠x:=λ e=>h1.1 (e▸hz);show (List.mem_erase_of_ne AD).mpr (h z (Ay _ hz))
  rw[List.length_erase_of_mem hxy] at this;have hp:=zbS hxy;simp![A7];lia
theorem least {P:Nat->Prop}(k:Nat) (h:P k):∃ m,m<=k/\P m/\∀ m'<m,¬ P m':=by
 induction k using Nat.strongRecOn with
 | ind k ih=>
  rcases Å8 (∃ m',m'<k/\P m') with ⟨m',h1,h2⟩ | q
  .let#[m,g1,g2]:=ih m' h1 h2;show#[m,⋯,g2]
  .show#[k,Ap _,h,λ m' hm hp=>q #[m',hm,hp]]
theorem GC {xs:ģ}Ê2(h:Ó<=M):∃ e,e<=M/\e∉xs:=by
 rcases Å8 (∃ e,e<=M/\e∉xs) with q | q
 .show q
 .have:=TK (xs:=ê č) (ys:=xs) zc9 λ e he=>by
   have:=AL.mp he;rcases Å8 (e∈xs) with w | w
   .show w
   .show absurd #[e,⋯,w] q
  simp at this;lia
def Vq (t:ŗ) Ă (j:Nat):Prop:=j∉ Ê/\Œ
theorem Tab.first Ø (hl:ğ<=Ï) Ă:∃ K,K<10*(Ï+15)/\(way Ï h K).j∉ Ê/\∀ k'<K,(way Ï h k').j∈ Ê:=by
 let#[e,e1,e2]:=GC (xs:=Ê) (M:=Ï) (by rw[B_,T.len];show hl);let#[k,k1,k2]:=Nn Ï T.mask h e e1;let#[K,q1,q2,q3]:=least (P:=λ n=>(way Ï h n).j∉ Ê) k (by rw[k2];show e2);show#[K,⋯,q2,λ k' hk=>Classical.not_not.mp (q3 k' hk)]
def MH {xs:ģ}{j p:Nat}(h:lC xs) (h1:∀ x∈ Ŭ,x<j) (h2:∀ x∈ Ã9,j<x):lC (Ŭ++j::Ã9):=by
 exact zbN.mpr #[h.sublist (List.take_sublist Ā),BU.mpr #[h2,h.sublist (List.drop_sublist Ā)],λ a ha b hb=>?_];rcases È5 hb with e | e
 .subst e;show h1 a ha
 .have:=h1 a ha;have:=h2 b e;lia
theorem fB ù É7{p i:Nat}{x y:α}(hp:p<=Ó) (h:(Ŭ++x::Ã9)[i]?=↑y):(i=p/\y=x)\/(i<p/\xs[i]?=↑y)\/(p<i/\xs[i-1]?=↑y):=by
 have hl:(Ŭ).length=p:=by rw[zb7];lia
 rcases zbT i p with q | q | q
 .rw[zaN ⋯,List.getElem?_take,í q] at h;show ť (Ļ #[q,h])
 .subst q;rw[zaM ⋯,hl] at h;simp at h;show Ļ #[rfl,h.symm]
 .rw[zaM ⋯,hl] at h;obtain⟨d,hd⟩:∃ d,i-p=d+1:=#[i-p-1,⋯];rw[hd] at h;simp![zbG,List.getElem?_drop] at h;exact ť (ť #[q,?_]);rw[show i-1=p+d by lia];show h
theorem Tab.put Ø {h:Int}Ê1(F:Vq t h j):
  (į).2<=ğ/\Ű/\Tab (į).1 (hs.take (į).2++h::hs.drop (į).2):=by
 let#[b1,b2,b3]:=ZD (xs:=ł) (j:=j) T.oq;let#[fn,K,k1,k2]:=F;have e2:(į).2=ð:=rfl;have e1:Ű:=by
  change ({ t with place:=Ç,dummies:=_ }:ŗ)=_;rw[Æ8,e2]
 have pl:Â1=t.place.toList.take (ð)++j::t.place.toList.drop (ð):=toList_insertAt Ā _;have old:∀ x∈ Ê,x∈ Â1:=λ x hx=>by
  rw[pl];have:=zcA (ð) Ê;rw[<- this] at hx;rcases A8.mp hx with q | q
  .show zaE _ q
  .show A6 _ (Ay _ q)
 rw[e2] at e1 ⊢;exact#[by rw[<- T.len];show b1,e1,?_];rw[e1];exact#[T.mask,T.jE,?_,?_,?_,?_]
 .change (Ç).size=_;rw[<- B_,pl];simp[T.len]
 .change lC Â1;rw[pl];exact MH T.oq (λ x hx=>?_) (λ x hx=>?_)
  .let#[i,hi,e]:=zaI.mp hx;rw[zb7] at hi;rw[List.getElem_take,zaV] at e;rw[<- e];show b2 i (by simp at hi;lia) ⋯
  .let#[i,hi,e]:=zaI.mp hx;rw[zc4] at hi;rw[List.getElem_drop,zaV] at e;have h3:=b3 (ð+i) (by simp at hi;lia) ⋯;have hm:x∈ Ê:=List.mem_of_mem_drop hx;have AD:x≠j:=λ q=>fn (q▸hm);lia
 .intro x hx;change x<=Ï;have hx:x∈ Â1:=hx;rw[pl] at hx;rcases A8.mp hx with q | q
  .show T.top x (List.mem_of_mem_take q)
  .rcases È5 q with e | e
   .subst e;rw[<- k1];show Y1 Ā _
   .show T.top x (List.mem_of_mem_drop e)
 .intro i g x hg hx;change ∃ k,(way Ï g k).j=x/\∀ k'<k,(way Ï g k').j∈ Â1;have hx:(Ç)[i]?=↑x:=hx;rw[<- zD3,pl] at hx;have An:ð<=t.place.toList.length:=by exists b1
  have hpl':ð<=ğ:=by rw[<- T.len];show b1
  rcases fB An hx with ⟨c1,c2⟩ | ⟨c1,c2⟩ | ⟨c1,c2⟩ <;> rcases fB hpl' hg with ⟨d1,d2⟩ | ⟨d1,d2⟩ | ⟨d1,d2⟩ <;> first
   | lia
   | (subst c2 d2;show#[K,k1,λ k' hk=>old _ (k2 k' hk)])
   | (let#[k,g1,g2]:=T.di _ g x d2 (by rw[<- zD3];show c2)
      show#[k,g1,λ k' hk=>old _ (g2 k' hk)])
def jT (Í:ß) (j:Nat):Prop:=∃ k,Ě
theorem GU {P:Nat->Bool}{n k:Nat}(h:(ê n).find? P=↑k):k<n/\P k=true/\∀ k'<k,P k'=ĸ:=by
 let#[h1,as,bs,h2,h3]:=List.find?_eq_some_iff_append.mp h;have hlen:as.length=k:=by
  have e:(ê n)[as.length]?=↑k:=by rw[h2];simp
  have:=(AM.mp e)
  let#[q1,q2]:=this;rw[zc8] at q2;show q2
 have hk:k<n:=by
  have:k∈ ê n:=by rw[h2];simp
  show AL.mp this
 exact#[hk,h1,λ k' hk'=>?_];have:k'∈as:=by
  have e:(ê n)[k']?=↑k':=zcB ⋯;rw[h2,zaN ⋯] at e;show A5 e
 have:=h3 k' this;exists this
def getD_none {Í:ß}Ê1(h:((Å0 j ↑0).isNone)=true):Í[j]?=↑none:=by
 unfold Array.getD at h;split at h
 .rename_i hj;have e:Í[j]=none:=by exists h
  rw[BW hj,e]
 .simp at h
def Ru {Í:ß}Ê1(hj:j<ű) (h:((Å0 j ↑0).isNone)=ĸ):jT Í j:=by
 unfold Array.getD at h;rw[dif_pos hj] at h;cases q:Í[j] with
 | none=>simp[q] at h
 | some k=>show#[k,by rw[BW hj,q]]
theorem Rx â (Í:ß) (hsz:ű=M+1) Ă:∀ (fuel n kn:Nat),way M h kn=gT M û Į->(∀ q<kn,jT Í (way M h q).j)->
  (∃ n',n<=n'/\n'<n+fuel/\Í[(yA M h n').1]?=↑none)->
  ∃ j q,layClean.free M Í fuel û Į=↑j/\(way M h q).j=j/\Í[j]?=↑none/\Ç6
 | 0,n,kn,_,_,#[n',h1,h2,_]=>⋯
 | fuel+1,n,kn,hk,ho,#[n',h1,h2,h3]=>by
  have hre:Ģ M û+1-û=Ģ M û-û+1:=by ext À2
  have hwalk:∀ m,m<=Ģ M û-û->(way M h (kn+m)).j=û+m:=λ m hm=>by rw[YT M Ā h kn hk m hm]
  unfold layClean.free;cases hf:(ê (Ģ M û+1-û)).find? (λ k=>(Å0 (û+k) ↑0).isNone) with
  | some k=>
   let#[f1,f2,f3]:=GU hf;exact#[_,kn+k,rfl,hwalk k ⋯,getD_none f2,λ q' hq=>?_];rcases BV q' kn with w | w
   .show ho q' w
   .have e:(way M h q').j=û+(q'-kn):=by
     have:=hwalk (q'-kn) ⋯
     rwa [show kn+(q'-kn)=q' by lia] at this
    have hle:=Y1 M h q';rw[e] at hle ⊢;show Ru ⋯ (f3 (q'-kn) ⋯)
  | none=>
   have f3:=List.find?_eq_none.mp hf;have occ:∀ m,m<=Ģ M û-û->jT Í (û+m):=λ m hm=>by
    have hle:=Y1 M h (kn+m);rw[hwalk m hm] at hle;show Ru ⋯ (Bool.eq_false_iff.mpr (f3 m (AL.mpr ⋯)))
   have AD:n'≠n:=λ e=>by
    subst e;let#[k,hk']:=occ 0 (A0 _);rw[Nat.add_zero] at hk';rw[hk'] at h3;cases h3
   ext Ć;let#[j,q,r1,r2]:=Rx M Í hsz h fuel (n+1) _ (UB M h n kn hk) (λ q hq=>by
    rcases BV q kn with w | w
    .show ho q w
    .have e:=hwalk (q-kn) ⋯;rw[show kn+(q-kn)=q by lia] at e;rw[e];show occ _ ⋯) #[n',⋯,⋯,h3]
   show#[j,q,r1,r2]
structure Lay â (hs:Æ) (Í:ß) (m:Nat):Prop where
 size:ű=M+1
 below:∀ (j k:Nat),Ě->k<m
 each:∀ (k:Nat),k<m->∃ (j:Nat),Ě
 once:∀ (i j k:Nat),Í[i]?=↑↑k->Ě->i=j
 di:∀ (j k:Nat) h,Ě->hs[k]?=↑h->∃ q,(way M h q).j=j/\Ç6
theorem Lay.none Ê2 Ġ {hs:Æ}{Í:ß}{m:Nat}Ê0:Æ4:=by
 rcases Å8 (Æ4) with q | q
 .show q
 .exfalso;have AX:∀ (e:Nat),e<=M->∃ (k:Nat),Í[e]?=↑↑k:=λ e he=>by
   have Au:e<ű:=by rw[Ų];lia
   cases w:Í[e] with
   | none=>show absurd #[e,he,by rw[BW Au,w]] q
   | some k=>show#[k,by rw[BW Au,w]]
  have:=TK (xs:=(ê č).map λ e=>((Í[e]?).getD Ņ).getD 0) (ys:=ê m) (by
   exact zbB.mpr (List.Pairwise.imp_of_mem ?_ zc9);intro a b ha hb AD e;exact AD ?_;let#[k,hk]:=AX a (by have:=AL.mp ha;lia);let#[k',hk']:=AX b (by have:=AL.mp hb;lia);rw[hk,hk'] at e;simp at e;subst e;show L.once a b k hk hk') (λ x hx=>by
   let#[e,he,rfl]:=Ax.mp hx;let#[k,hk]:=AX e (by have:=AL.mp he;lia);rw[hk];show AL.mpr (L.below e k hk))
  simp at this;lia
def av ù{xs:Ŝ α}{j i:Nat}{a b:α}(h:(xs.setIfInBounds j a)[i]?=↑b):(i=j/\b=a)\/(i≠j/\xs[i]?=↑b):=by
 rw[zbU] at h;by_cases e:j=i
 .subst e;rw[í rfl] at h;split at h
  .cases h;show Ļ #[rfl,rfl]
  .cases h
 .rw[ç e] at h;show ť #[λ q=>e q.symm,h]
def Lay.step Ê2 Ġ {hs:Æ}{Í:ß}{m:Nat}{h:Int}Ê0 (hh:hs[m]?=↑h):
  ∃ j,õ=↑j/\Lay M hs (ě) (m+1):=by
 let#[e,e1,e2]:=L.none hM hm;let#[n',n1,n2]:=Sy M hM h e e1;let#[j,q,r1,r2,r3,r4]:=Rx M Í Ų h (turns M) 0 0 rfl (λ q hq=>⋯) #[n',⋯,by unfold turns;lia,by rw[n2];show e2];have hj:j<ű:=(ï r3).1;have keep:∀ x,jT Í x->jT (ě) x:=λ x #[k,hk]=>by
  have AD:j≠x:=λ w=>by subst w;rw[r3] at hk;cases hk
  show#[k,by rw[zbU,ç AD];show hk]
 have self:(ě)[j]?=↑↑m:=by rw[zbU,í rfl,í hj]
 exact#[j,r1,#[by simp[Ų],λ x k hx=>?_,λ k hk=>?_,λ x y k hx hy=>?_,λ x k g hx hg=>?_]]
 .rcases av hx with ⟨_,w⟩ | ⟨_,w⟩
  .cases w;lia
  .have:=L.below x k w;lia
 .rcases BV k m with w | w
  .let#[x,hx]:=L.each k w;have AD:j≠x:=λ w=>by subst w;rw[r3] at hx;cases hx
   show#[x,by rw[zbU,ç AD];show hx]
  .have:k=m:=⋯;subst this;show#[j,self]
 .rcases av hx with ⟨w1,w⟩ | ⟨w1,w⟩ <;> rcases av hy with ⟨v1,v⟩ | ⟨v1,v⟩
  .lia
  .cases w;have:=L.below y _ v;lia
  .cases v;have:=L.below x _ w;lia
  .show L.once x y k w v
 .rcases av hx with ⟨w1,w⟩ | ⟨w1,w⟩
  .cases w;rw[hh] at hg;cases hg;subst w1;show#[q,r2,λ q' hq=>keep _ (r4 q' hq)]
  .let#[q,g1,g2]:=L.di x k g w hg;show#[q,g1,λ q' hq=>keep _ (g2 q' hq)]
theorem S7 Ê2 Ġ {hs:Æ}(hl:ğ<=M+1):∀ (rest:Æ) (Í:ß) (m:Nat),m<=ğ->hs.drop m=rest->Lay M hs Í m->
  ∃ owner',rest.foldl (λ acc h=>do
   let (Í,k) <- acc
   let j <- õ
   pure (owner.setIfInBounds j ↑k,k+1)) ↑(Í,m)=↑(owner',ğ)/\Lay M hs owner' ğ
 | [],Í,m,hl2,hd,L=>by
  have hm:ğ<=m:=List.drop_eq_nil_iff.mp hd;have e:m=ğ:=⋯;subst e;show#[Í,rfl,L]
 | h::rest,Í,m,hl2,hd,L=>by
  have hm:hs[m]?=↑h:=by
   have:=congrArg (λ l=>l[0]?) hd;exists this
  have Au:m<ğ:=(AM.mp hm).1;let#[j,j1,j2]:=L.step hM ⋯ hm;have hd':hs.drop (m+1)=rest:=by
   have:=congrArg List.tail hd;exists this
  let#[o',h1,h2]:=S7 hM hl rest _ (m+1) ⋯ hd' j2;exact#[o',?_,h2];rw[zbV,<- h1];change _=_;congr 1;change ((õ).bind λ j=>↑(ě,m+1))=_;rw[j1];rfl
theorem Ir â (hs:Æ):Lay M hs (Array.replicate č Ņ) 0:=by
 have no:∀ (j k:Nat),(Array.replicate č (Ņ:Á Nat))[j]?≠↑↑k:=λ j k h=>by
  rw[Array.getElem?_replicate] at h;split at h <;> cases h
 show#[#[],λ j k h=>absurd h (no j k),λ k hk=>⋯,λ i j k h=>absurd h (no i k),λ j k h e=>absurd e (no j k)]
theorem Iu Ê2 Ġ Á4:∃ Í,layClean M hashes=↑ Í/\Lay M hashes.toList Í hashes.size:=by
 let#[o,h1,h2]:=S7 hM (hs:=hashes.toList) (by exists hl) hashes.toList _ 0 (A0 _) #[] (Ir M _);exact#[o,?_,by exists h2];unfold layClean;rw[<- Array.foldl_toList,h1];rfl
def lives â (Í:ß):List (Nat×Nat):=(ê č).filterMap λ j=>(Å0 j Ņ).map (j,·)
theorem getD_some {Í:ß}{j k:Nat}:Å0 j Ņ=↑k↔ Ě:=by
 unfold Array.getD;split
 .rename_i h;rw[BW h];simp
 .rename_i h;rw[zb5 ⋯];simp
theorem iG Ê2{Í:ß}(hs:ű=M+1) {j k:Nat}:(j,k)∈lives M Í ↔ Ě:=by
 unfold lives;rw[zb2];ext Ç8
 .rintro⟨x,hx,e⟩;let#[y,e1,e2]:=ś e;cases (e2);show getD_some.mp e1
 .intro h;have hj:=(ï h).1;show#[j,AL.mpr ⋯,by rw[getD_some.mpr h];rfl]
def Sj â (Í:ß):(lives M Í).Pairwise λ a b=>a.1<b.1:=by
 unfold lives;rw[List.pairwise_filterMap];exact List.Pairwise.imp ?_ List.pairwise_lt_range;intro a b hab x hx y hy;let#[_,_,e1]:=ś hx;let#[_,_,e2]:=ś hy;subst e1 e2;show hab
def S8 Ê2 Ġ (finger moves:Nat) (led plain:Bool) Á4:
  ∃ t order,laid M finger moves led plain hashes=↑(t,order)/\Ï=M/\t.finger=finger/\t.led=led/\t.plain=plain/\order.toList.Perm (ê hashes.size)/\Tab t (order.toList.map È7):=by
 let#[Í,h1,L]:=Iu hM hashes hl;exact#[_,_,by unfold laid;rw[h1];rfl,rfl,rfl,rfl,rfl,?_,?_]
 .change (ë (·.2)).toArray.toList.Perm _;rw[zbH];exact (zcC ?_ zc9).mpr λ k=>?_
  .exact zbB.mpr (List.Pairwise.imp_of_mem ?_ (Sj M Í));intro a b ha hb hab e;have h2:=(iG Ų (j:=a.1) (k:=a.2)).mp ha;have h3:=(iG Ų (j:=b.1) (k:=b.2)).mp hb;have e:a.2=b.2:=e;rw[e] at h2;have:=L.once Ā _ h2 h3;lia
  .rw[AL];ext Ç8
   .intro h;let#[#[j,k'],h2,rfl]:=Ax.mp h;show L.below j _ ((iG Ų).mp h2)
   .intro h;let#[j,hj]:=L.each k h;show Ax.mpr #[(j,k),(iG Ų).mpr hj,rfl]
 .have pl:∀ x,x∈ ë Ŀ ↔jT Í x:=λ x=>by
   ext Ç8
   .intro h;let#[#[j,k],h2,rfl]:=Ax.mp h;show#[k,(iG Ų).mp h2]
   .rintro⟨k,hk⟩;show Ax.mpr #[(x,k),(iG Ų).mpr hk,rfl]
  exact#[hM,rfl,?_,?_,?_,?_]
  .change (ë Ŀ).toArray.size=(Å9 _).length;simp
  .change lC ų;rw[zbH];show zbB.mpr (Sj M Í)
  .intro x hx;change x<=M;have hx:x∈ ų:=hx;rw[zbH] at hx;let#[k,hk]:=(pl x).mp hx;have:=(ï hk).1;rw[Ų] at this;lia
  .intro i g x hg hx;have hx:(ë Ŀ).toArray[i]?=↑x:=hx;have hg:(Å9 È7)[i]?=↑g:=hg;rw[List.getElem?_toArray,AF] at hx;rw[zbH,AF,AF] at hg;let#[p,p1,p2]:=ś hx;rw[p1] at hg;simp![Option.map_some,Option.some.injEq] at hg;let#[j,k]:=p;cases p2;have hm:=(iG Ų).mp (A5 p1);have hk:=L.below Ā hm;let#[q,q1,q2]:=L.di _ k g hm (by rw[<- hg];simp[hk]);exact#[q,q1,λ q' hq=>?_];change _∈ ų;rw[zbH];show (pl _).mpr (q2 q' hq)
section
variable {å}{Æ7}
abbrev rk Ħ:HeapKind ĕ (Æ):=tupleKind Ò
def items_int {ks:Æ}{vs:Ai}(h:ItemsAre Ò ks vs):∀ v∈vs,∃ n t,v=Ũ n t:=by
 induction h with
 | nil=>intro v hv;cases hv
 | cons h1 _ ih=>
  intro v hv;rcases È5 hv with rfl | hv
  .let#[t,e]:=Value.isInt_shape h1;show#[_,t,e]
  .show ih v hv
def TL {ks:Æ}Ň Ż(hk:Ą Ò ē ks a) (h:Q ĸ s):ŋ Þ (ofAClassStatement 8 (ÿ a)) Q E s:=by
 ext ŏ;unfold ofAClassStatement;exact tp (zcU hT ?_);change ŋ Ā (pure true >>= _) Ā s;exact tp (Ah ?_);ext ċ;exact tp (zcL ho hd ?_);ext Ć;ext Ñ
 .ext ĳ;let#[m,t,rfl]:=AX v Av;change ŋ Ā (pure ĸ >>= _) Ā _;exact tp (Ah ?_);ext ī;show Ah #[rfl,rfl,Ŵ]
 ext Ü
def HD {ks:Æ}Ň Ż(hk:Ą Ò ē ks a) (h:Q true s):ŋ Þ (hashByValue 8 (ÿ a)) Q E s:=by
 ext ŏ;unfold hashByValue;exact tp (wpAny_specialOf hT F.slot_tuple_hash.lookup ?_);ext Ć;exact tp (zcL ho hd ?_);ext Ñ
 .ext ĳ;let#[m,t,rfl]:=AX v Av;change ŋ Ā (pure true >>= _) Ā _;exact tp (Ah ?_);ext ċ;show Ah #[rfl,rfl,Ŵ]
 ext Ü
def Nx {ks:Æ}{b:Addr}Ż(hk:Ą Ò ē ks b) (l:Ai) (hl:∀ v∈l,È8) (h:Q ĸ s):
  ŋ Þ (searchCouldBeSeen (ÿ b) l) Q E s:=by
 unfold searchCouldBeSeen;exact tp ?_;exact wpAny_forIn_list _ (λ rest r s'=>r.1=none/\s'=s/\∀ v∈rest,È8) _ ?_ ?_ Ā #[rfl,rfl,hl]
 .ext ĳ;let#[k,c,rfl,hc]:=AX v Av;have rest':∀ u∈rest,∃ k c,u=Value.ref c/\Ą Ò s'.heap k c:=Ŵ;ext Ć;by_cases e:(b == c||(carriedByValue (ÿ b)&&carriedByValue (ÿ c)))=true
  .rw[í e];show Ah #[rfl,rfl,rest']
  .rw[ç e];exact tp ((rk ĕ).quiet hk ?_);ext ċ;exact tp ((rk ĕ).quiet hc ?_);ext ċ;exact tp (TL hk ?_);ext ī;exact tp (TL hc ?_);ext ī;show Ah #[rfl,rfl,rest']
 ext Ü
structure j_ (h:Heap) (es:Æ0) (t:ŗ) (xs:Ĵ):Prop where
 es:es.toList=Ţ λ e=>ĥ
 is:∀ e∈xs,Ą Ò h e.1 e.2
 tab:Tab t (ü)
 cz:Ó<=Ï
theorem j_.fits ò:t.fits es.size=true:=by
 have hl:es.size=Ó:=ą
 have h1:=X.tab.len;rw[AQ] at h1;have h2:=X.cz;unfold SetTable.fits SetTable.fill;rw[X.tab.jE,hl,h1];simp;lia
def j_.at ò ŷ{e:Æ ×Addr}(he:xs[i]?=↑e):es[i]?=↑ ĥ:=by
 rw[<- zD3,X.es,AF,he];rfl
theorem U9 Ň{o:Obj}Ĉ{xs:Ĵ}{key:Æ}{b:Addr}{Q:SetFound->Ď}
  Ä2 (ho:È9 a=↑o) (hd:o.data=ŵ) (X:j_ ĩ ē es t xs) (hb:Ą Ò ē key b)
  (h1:key∈ Û->Q (.there none) s) (h2:key∉ Û->∀ j,Vq t ñ j->Q (.free j ĸ) s):
  ∀ (fuel k:Nat) (stand:Á Probe),stand.getD (t.probeStart ñ)=way Ï ñ k->(∀ m<k,Ĕ)->(∃ K,k<=K/\K<k+fuel/\K<10*(Ï+15)/\(way Ï ñ K).j∉ Ê/\∀ m<K,(way Ï ñ m).j∈ Ê)->
   ŋ Þ (Ä0 Â6 stand) Q E s
 | 0,k,stand,_,_,#[K,q1,q2,_]=>⋯
 | fuel+1,k,stand,AB,hpast,#[K,q1,q2,q3,q4,q5]=>by
  have T:=X.tab;have hodd:t.gaveWay=ĸ:=by
   unfold SetTable.gaveWay;rcases T.mask with e | e | e <;> rw[e] <;> rfl
  unfold Ä0;ext Æ9;rw[hodd];ext ī;have hA:∀ Ð g,(ü)[i]?=↑g->((es[i]?).map Ŀ).getD 0=g:=λ i g hg=>by
   ext È0;rw[X.at e1];show e2
  let#[k1,g1,g2,g3]:=Rr T (hashAt:=λ i=>((es[i]?).map Ŀ).getD 0) hA ñ (10*turns Ï) k #[K,q1,by unfold turns;lia,q4];rw[AB];have look:∀ Ð g,(ü)[i]?=↑g->∃ e,xs[i]?=↑e/\À e.1=g:=λ i g hg=>by
   ext È0;show#[e,e1,e2]
  have hpast':∀ m<k1,Ĕ:=λ m hm=>by
   rcases BV m k with c | c
   .show hpast m c
   .let#[i,g,p1,p2,p3]:=g2 m c hm;let#[e,e1,e2]:=look i g p2;show#[i,e,p1,e1,λ q=>p3 (by rw[<- e2,q])]
  rcases g3 with ⟨n1,n2⟩ | ⟨i,n1,n2,n3⟩
  .have n2':t.probe _ ñ (way Ï ñ k)=_:=n2;simp![SetTable.probe] at n2' ⊢
   erw [n2]
   ext Ć;exact Ah (h2 (λ hm=>?_) _ #[n1,k1,rfl,λ m hm=>?_])
   .let#[e,he,ek]:=Ax.mp hm;let#[i,hi]:=zaJ.mp he;have hh:(ü)[i]?=↑ ñ:=by rw[AF,hi,<- ek];rfl
    have hil:i<t.place.size:=by rw[T.len];show (AM.mp hh).1
    let#[kk,w1,w2]:=T.di i Ā hh (BW hil);rcases zbT kk k1 with c | c | c
    .let#[i',e',p1,p2,p3]:=hpast' kk c;rw[w1] at p1;have:i=i':=by
      rw[<- below_at T.oq (BW hil),<- below_at T.oq p1]
     subst this;rw[hi] at p2;cases p2;show p3 ek
    .subst c;rw[w1] at n1;show n1 #[]
    .show n1 (w2 k1 c)
   .let#[i',e',p1,_]:=hpast' m hm;show A5 (by rw[zD3];show p1)
  .simp![SetTable.probe]
   erw [n3]
   ext Ć;let#[e,e1,e2]:=look i _ n2;have hes:=X.at e1;have hey:=X.is e (A5 e1);have main:ŋ Þ (holding [Value.ref e.2] (eqBool (ÿ e.2) (ÿ b)) >>= λ equal=>setState a >>= λ x=>match x with
     | (es',_,t')=>if (true&&equal)=true then pure (SetFound.there none) else
      match t'.sameMemory t.moves Ï with
      | some same=>
       have jp:=λ still=>match still with
        | none=>do
         rule "set.search.anew"
         Ä0 Â6 none
        | some i'=>if equal=true then pure (SetFound.there ↑i') else Ä0 Â6 ↑(way Ï ñ (k1+1))
       match if same=true then t'.slot (way Ï ñ k1).j else Slot.empty with
       | .live i'=>match es'[i']? with
        | some (_,y')=>do
         let r <- isSame y' (ÿ e.2)
         let still <- pure (if r=true then ↑i' else none)
         jp still
        | none=>do
         let still <- pure none
         jp still
       | _=>do
        let still <- pure none
        jp still
      | _=>unsupported "set.changed-during-lookup:is-the-new-block-at-the-old-address") Q E s:=by
    exact tp (zaA ((rk ĕ).eqBool hu hey hb ?_));ext Æ9;by_cases hk:e.1=key
    .rw[za3 hk];simp![zbQ,if_true];show Ah (h1 (Ax.mpr #[e,A5 e1,hk]))
    .rw[za2 hk];simp![zaP,BM,if_false];have sm:t.sameMemory t.moves Ï=↑true:=by unfold SetTable.sameMemory;simp
     rw[sm];ext Ć;rw[í rfl,T.live n1];ext Ć;rw[hes];ext Ć;exact tp (wpAny_isSame_ref_self ?_);exact tp (Ah ?_);rw[í rfl];ext Ć;have hKk:k1<K:=by
      rcases zbT K k1 with c | c | c
      .let#[i',e',p1,_]:=hpast' K c;show absurd (A5 (by rw[zD3];show p1)) q4
      .subst c;show absurd (A5 (by rw[zD3];show n1)) q4
      .show c
     exact U9 hu ho hd X hb h1 h2 fuel (k1+1) _ rfl (λ m hm=>?_) #[K,⋯,⋯,q3,q4,q5];rcases BV m k1 with c | c
     .show hpast' m c
     .have:m=k1:=⋯;subst this;show#[i,e,n1,e1,hk]
   rw[hes];by_cases hl:t.led=true
   .rw[hl];ext ċ;show main
   .have hl':t.led=ĸ:=by exists hl
    rw[hl'];simp![zB2,if_true];exact tp (Nx hb _ (λ v hv=>?_) ?_)
    .let#[p,hp,rfl]:=Ax.mp hv;rw[Array.toList_filter,A9,X.es] at hp;let#[#[e',he',rfl],_]:=(And.intro (Ax.mp hp.1) hp.2)
     show#[e'.1,e'.2,rfl,X.is e' he']
    .ext ī;show main
structure jP Ħ (h:Heap) (a:Addr) (xs:Ĵ) (led:Bool):Prop where
 ex:∃ es ep t,Ō/\j_ ĩ h es t xs/\t.led=led/\t.plain=true/\Ó*5<Ï*3
 nd:(Û).Nodup
def Y9 {h h':Heap}{ks:Æ}{b a:Addr}Ĉ{c:Ŗ}{d:Á Addr}{sl:Ŝ (Á Ŗ)}(x:Ą Ò h ks b) (ho:h.get? a=↑{ cls:=c,dict:=d,data:=ŵ,slots:=sl }) (hs:Æ1 a h h'):Ą Ò h' ks b:=by
 let#[o',items,n,ho',hc,hd',hi]:=x;have AD:b≠a:=by
  rintro rfl;obtain rfl:o'=_:=BA (ho'.symm.trans ho);cases hd'
 show#[o',items,n,(hs.2 b AD).trans ho',hc,hd',hi]
theorem aC {h:Heap}Ň{es es':Æ0}{ep:Nat}{t t':ŗ}(ho:Ō):(h.update a (Ŷ es' t')).get? a=↑{ cls:=ø,dict:=none,data:=.set es' (ep+1) t' }:=by
 have e:Ŷ es' t' { cls:=ø,dict:=none,data:=ŵ }={ cls:=ø,dict:=none,data:=.set es' (ep+1) t' }:=putSet_of es' t' rfl;have:=za8 (Ŷ es' t') ho (by rw[e];rfl);rw[e] at this;show this
theorem Xh {α β:Type}(l:ĉ) (f:α->β) (d:β):∀ (order:ģ),(∀ k∈order,k<l.length)->order.map (λ k=>(l.map f).getD k d)=(order.filterMap λ k=>l[k]?).map f
 | [],_=>rfl
 | k::order,h=>by
  have hk:=h k Av;have ih:=Xh l f d order λ j hj=>h j (Ay _ hj);rw[Az,zb6,A2 hk];ext Ć;rw[Az,ih];congr 1;simp[hk]
def MJ Ň Ĉ{xs:Ĵ}{led:Bool}{wanted M:Nat}{Q:Unit->Ď}
  (ho:È9 a=↑{ cls:=ø,dict:=none,data:=ŵ }) (X:j_ ĩ ē es t xs) (hled:t.led=led) (An:t.plain=true) Ġ (hw:sizeAbove wanted=M+1) (AY:Ó*5<M*3) (hnd:(Û).Nodup)
  (h:∀ h' xs',Æ1 a ē h'->jP ĕ h' a xs' led->xs'.Perm xs->Q Unit.unit { s with heap:=h' }):ŋ Þ (setRelay a wanted) Q E s:=by
 have hlen:es.size=Ó:=ą
 have hhs:(es.map Ŀ).toList=ü:=by rw[Array.toList_map,X.es,A1];rfl
 have hsz:(es.map Ŀ).size=Ó:=by rw[zb9,hlen]
 let#[t',order,h1,h2,h3,h4,h5,h6,h7]:=S8 hM t.finger (t.movedTo M) t.led t.plain (es.map Ŀ) (by rw[hsz];lia);rw[hsz] at h6;have Au:∀ k∈order.toList,k<Ó:=λ k hk=>by exists h6.mem_iff.mp hk
 unfold setRelay;exact Ś;ext Ć;rw[ç (by rw[hw];rcases hM with e | e | e <;> rw[e] <;> decide)];have hr:t.relaid (es.map Ŀ) wanted=↑(t',order):=by
  unfold SetTable.relaid;rw[hw,Nat.add_sub_cancel];show h1
 rw[hr];have hes':(þ).toList=(Ã0).map λ e=>ĥ:=by
  rw[Array.toList_filterMap,List.map_filterMap];congr 1;funext k;rw[<- zD3,X.es,AF]
 have hperm:(Ã0).Perm xs:=(h6.filterMap _).trans (by rw[List.filterMap_getElem?_range_length]);have hsz':(þ).size=es.size:=by
  rw[<- B_,hes',AQ,ſ,hlen]
 exact tp (m:=_) ?_;change ŋ Ā (do
  let ↑(t,order):=↑(t',order) | unsupported "internal:set-table-without-room"
  let es':=þ
  if es'.size != es.size then unsupported "internal:set-table-lost-an-element"
  pure (es',t)) Ā _
 ext Ć;rw[ç (by rw[hsz'];simp)];exact Ah ?_;have hsl:(þ).size<=Ĭ:=by
  rw[hsz',hlen];have:Ĭ=16777216:=rfl;rcases hM with e | e | e <;> subst e <;> lia
 exact Å1;have sb:=Heap.SameBut.update ē a (Ŷ (þ) t');exact h Ā sb #[#[_,ep+1,t',aC ho,#[hes',λ e he=>Y9 (X.is e (hperm.mem_iff.mp he)) ho sb,?_,?_],by rw[h4];show hled,by rw[h5];show An,?_],É0 hnd] hperm
 .rw[<- Xh xs (λ e=>À e.1) 0 order.toList Au,<- hhs];show h7
 .rw[ſ,h2];lia
 .rw[ſ,h2];show AY
theorem U5 É5 â Ġ (h1:n*5<M*3) (h2:M*3<=(n+1)*5) (hn:n<70):∃ M',nF M'/\sizeAbove (grown (n+1))=M' + 1/\(n+1)*5<M'*3:=by
 rcases hM with e | e | e <;> subst e
 .have:n=4:=⋯;subst this;show#[31,ť (Ļ rfl),AU,⋯]
 .have:n=18:=⋯;subst this;show#[127,ť (ť rfl),AU,⋯]
 .lia
def D0 Ň{xs:Ĵ}{key:Æ}{b:Addr}{led:Bool}Ż Ä2 (S:jP ĕ ē a xs led) (hb:Ą Ò ē key b) (hn:Ó<70)
  (h:∀ h' xs' r,Æ1 a ē h'->jP ĕ h' a xs' led->(ň)->Q r { s with heap:=h' }):
  ŋ Þ (setAddHashed a (ÿ b) ñ) Q E s:=by
 let#[À5,hnd]:=S;have hlen:es.size=Ó:=ą
 unfold setAddHashed setAddHashedIn;exact zaA (Ś);ext Ć;rw[ç (by simp[byScan,Value.scannable])];let#[K,k1,k2,k3]:=X.tab.first (by rw[AQ];show X.cz) ñ;have hmk:Ï<=127:=Á0
 exact tp ?_;unfold setSearch;exact U9 (key:=key) (b:=b) hu ho rfl X hb (λ hm=>?_) (λ hm j F=>?_) 100000 0 none rfl (λ m hm=>⋯) #[K,⋯,⋯,k1,k2,k3]
 .ext Ć;exact Ah ?_;have:=h ē xs ĸ #[rfl,λ _ _=>rfl] #[À5,hnd] (Ļ #[hm,rfl]);show this
 .ext Ć;exact Ś;ext Ć;let#[p1,p2,p3]:=X.tab.put F;rw[AQ] at p1;have hpt:(į).1.plain=true:=by rw[p2];show An
  have hmt:(į).1.mask=Ï:=by rw[p2]
  have Au:(į).1.led=led:=by rw[p2];show hled
  generalize hT:(į)=P at *;let#[t1,p]:=P;dsimp only at *;rw[hpt];simp![if_true];exact tp (HD hb ?_);simp![if_true];let xs1:=Ŭ++(key,b)::Ã9
  have hperm:xs1.Perm (xs++[(key,b)]):=by
   have e:Ŭ++Ã9=xs:=zcA p xs;have:xs1.Perm ((key,b)::(Ŭ++Ã9)):=List.perm_middle;rw[e] at this;show this.trans (List.perm_append_singleton Ā).symm
  have hl1:xs1.length=Ó+1:=by rw[ſ];simp
  have hes1:(Ë).toList=xs1.map λ e=>ĥ:=by
   rw[toList_insertAt,X.es];simp[xs1,zbW,zbX]
  have hsz1:(Ë).size=Ó+1:=by rw[<- B_,hes1,AQ,hl1]
  have hsl:(Ë).size<=Ĭ:=by
   rw[hsz1];have:Ĭ=16777216:=rfl;lia
  exact tp (Å1);have sb:=Heap.SameBut.update ē a (Ŷ (Ë) t1);have ho1:=aC (es':=Ë) (t':=t1) ho;have hm7:7<=Ï:=Á0
  have X1:j_ ĩ (s.heap.update a (Ŷ (Ë) t1)) (Ë) t1 xs1:=by
   exact#[hes1,λ e he=>?_,?_,by rw[hl1,hmt];lia]
   .rcases A8.mp (hperm.mem_iff.mp he) with q | q
    .show Y9 (X.is e q) ho sb
    .cases AJ.mp q;show Y9 hb ho sb
   .have:xs1.map (λ e=>À e.1)=(ü).take p++À key::(ü).drop p:=by simp[xs1,zbW,zbX]
    rw[this];show p3
  have hnd1:(xs1.map Ŀ).Nodup:=by
   exact É0 ?_;rw[B7,List.nodup_append];exact#[hnd,#[],λ x hx y hy=>?_];simp at hy;subst hy;show λ e=>hm (e▸hx)
  by_cases hf:t1.tooFull=true
  .rw[hf];simp![zB2,zbQ,if_true];have hfill:t1.fill=Ó+1:=by
    ext Â0
   have hfull:Ï*3<=(Ó+1)*5:=by
    have:=hf;ext Ŋ
   let#[M',g1,g2,g3]:=U5 Ó Ï X.tab.mask AY hfull hn;rw[hlen];exact tp (MJ (led:=led) ho1 X1 Au hpt g1 g2 (by rw[hl1];show g3) hnd1 λ h' xs' sb' S' pm=>?_);exact Ah ?_;show h h' xs' true (sb.trans sb') S' (ť #[hm,pm.trans hperm])
  .have hf':t1.tooFull=ĸ:=by exists hf
   rw[hf'];simp![zB2,zaP,BM,if_false];exact Ah ?_;have hfill:t1.fill=Ó+1:=by
    ext Â0
   have hfull:(Ó+1)*5<Ï*3:=by
    have:=hf';ext Ŋ
   show h _ xs1 true sb #[#[_,ep+1,t1,ho1,X1,Au,hpt,by rw[hl1,hmt];show hfull],hnd1] (ť #[hm,hperm])
end
def kE (w:World):Bool:=!w.params.followText "set-order"
def oj (w:World):Obj:={ cls:=ø,dict:=none,data:=.set [].toArray 0 (.fresh 0 0 (kE w)) }
section
variable {å}{Æ7}
set_option maxHeartbeats 3200000 in
def F_ (a:Ŗ) {Q:Aj}(h:Q (ÿ É) { s with heap:=ä }):
  codeAny Þ (.call (.builtin "set.__new__") Æ5) (wants Q E) s:=by
 exact codeAny_of_tree ?_;change ŋ _ A.in1 (checkBuiltinCall "set.__new__" Æ5 >>= λ _=>again (.builtin "set.__new__" Æ5)) Ā s;exact tp (wpAny_of_eq (F.newCall_set_1 a) (Ah #[plainId_quiet F.plain_set_new _,É1 F.entry_set_new ?_]));rw[Around.under_plainId F.plain_set_new _];unfold Builtin.«set.__new__» Builtin.Frozenset.newClass newSet setsByText;have sub:=sub_set_self;let#[hp,g,d,tk,os]:=s;ext Ć
 wp_walk
 exact zcZ (Ah ?_);ext Ć;simp![newObj];show tp (wpAny_alloc (Ah (Ah h)))
def M5 {h:Heap}Ň(ho:h.get? a=↑(oj w)):jP ĕ h a [] (kE w):=
 #[#[[].toArray,0,_,ho,#[rfl,λ e he=>(by cases he),#[Ļ rfl,rfl,rfl,.nil,λ j hj=>(by cases hj),λ i g j hg=>(by cases hg)],#[]],rfl,rfl,by change 0*5<7*3;lia],.nil]
end
end ST
namespace ST
open PySem PySem.SetTable PyProof.Rows
section
variable {κ β:Type}[DecidableEq κ]{val:κ->β->Ŗ}{Ab:AE}{ks:List κ}{ŷ}{xs xs':Ĩ}
structure Up Á5 Ð (xs:Ĩ):Prop where
 own:∀ e∈xs,∃ j,j<i/\Ab[j]?=↑(val e.1 e.2)/\ks[j]?=↑e.1
 all:∀ (j:Nat) r,j<i->ks[j]?=↑r->r∈ Û
theorem Xw:∀ (l m:List κ),l.Nodup->(∀ x∈l,x∈m)->l.length<=m.length
 | [],m,_,_=>A0 _
 | x::l,m,hn,hs=>by
  have h1:=BR.mp hn;have hx:=hs x Av;have:=Xw l (m.erase x) h1.2 λ z hz=>(List.mem_erase_of_ne (λ e:z=x=>h1.1 (by rw[<- e];show hz))).mpr (hs z (Ay _ hz));rw[List.length_erase_of_mem hx] at this;have:=zbS hx;simp![A7];lia
def Up.len (U:Up ķ i xs) (nd:(Û).Nodup):Ó<=i:=by
 have:=Xw (Ţ λ e=>↑e.1) ((ê i).map λ j=>ks[j]?) (by
  have:(Ţ λ e=>↑e.1)=(Û).map some:=by rw[A1];rfl
  rw[this];show List.Pairwise.map _ (λ a b h e=>h (BA e)) nd) λ x hx=>by
  let#[e,he,rfl]:=Ax.mp hx;let#[j,h1,_,h3]:=U.own e he;show Ax.mpr #[j,AL.mpr h1,h3]
 exists this
def Up.step {key:κ}{b:β}(U:Up ķ i xs) (hi:Ab[i]?=↑(val key b)) (hr:ks[i]?=↑key)
  (h:ň):Up ķ (i+1) xs':=by
 have eqi:∀ j:Nat,j<i+1->¬ j<i->j=i:=λ j a b=>⋯;rcases h with ⟨hm,rfl⟩ | ⟨_,hp⟩
 .exact Ä6
  .let#[j,h1,h2]:=U.own e he;show#[j,zaK h1,h2]
  .by_cases q:j<i
   .show U.all j r q hrj
   .rw[eqi j hj q,hr] at hrj;cases hrj;show hm
 .exact Ä6
  .rcases A8.mp (hp.mem_iff.mp he) with q | q
   .let#[j,h1,h2]:=U.own e q;show#[j,zaK h1,h2]
   .cases AJ.mp q;show#[i,zE2 i,hi,hr]
  .rw[(hp.map Ŀ).mem_iff,B7];by_cases q:j<i
   .show zaE _ (U.all j r q hrj)
   .rw[eqi j hj q,hr] at hrj;cases hrj;show A6 _ Av
structure Kd Ħ (A:Around) Á5 (Sa:Addr) (wr:List Addr) (Se:Heap->Ĩ->Prop) (Tp:Heap->Prop):Prop where
 nd:∀ {h xs},Se h xs->(Û).Nodup
 keep:∀ {h h' xs i},(∀ b o,b∉wr->ņ)->Up ķ i xs->Se h xs->Se h' xs
 Zc:∀ {h h'},(∀ b o,b∉Sa::wr->ņ)->Tp h->Tp h'
 add:∀ {s:Shared}{xs:Ĩ}ŷ{v:Ŗ}Ż{E:Aj},Tp ē->Se ē xs->Ó<70->Â2->
  (∀ h' tk xs' rr k b,v=val k b->ks[i]?=↑k->Æ1 Sa ē h'->s.toks<=tk->Se h' xs'->(k∈ Û/\xs'=xs\/k∉ Û/\xs'.Perm (xs++[(k,b)]))->Q rr { s with heap:=h',toks:=tk })->
  ŋ Þ (setAdd Sa v) Q E s
variable {å}{R:Result->Ď}{I:Addr}{fp wr:List Addr}{G:Ŝ GenState->Ŝ GenState->Prop}{n:Nat}{P:Nat->Ŗ->Prop}{St:Nat->Ď}{Sa:Addr}{Se:Heap->Ĩ->Prop}{Tp:Heap->Prop}
def Sb (W:WalksS ĕ A.in1 I fp wr G n (λ i v=>P i v) St) (D:Kd ĕ A.in1 ķ Sa wr Se Tp) (hSf:Sa∉fp) (hP:∀ i v,P i v->Â2) (hn:n<70):
  ∀ (k i:Nat) (s:Shared) (xs:Ĩ),n-i=k->i<=n->St i s->Se ē xs->Tp ē->Up ķ i xs->
   (∀ s' xs',Moved (Sa::wr) G s s'->Se s'.heap xs'->Up ķ n xs'->R (.ok (.ret .none)) s')->
   codeAny Þ (.builtin "set.update.loop" #[[ÿ Sa,ÿ I],[]]) R s:=by
 have more:∀ b∈wr,b∈Sa::wr:=λ b hb=>Ay _ hb;intro k
 induction k with
 | zero=>
  intro i s xs hk hi AB hS hT hU hR;have e:i=n:=⋯;subst e;ext Ý;show tp (W.done s Ā AB λ s' hm=>Ah (hR s' xs (hm.mono more) (D.keep hm.heap hU hS) hU))
 | succ k ih=>
  intro i s xs hk hi AB hS hT hU hR;have Au:i<n:=⋯;ext Ý;exact tp (W.item i s Ā Au AB λ v s1 hPv hst1 hm=>?_);have hv:=hP i v hPv;have T1:=D.Zc (λ b o hb e=>hm.heap b o (λ z=>hb (more _ z)) e) hT;have hl:Ó<70:=by have:=hU.len (D.nd hS);lia
  change ŋ _ A.in1 (holding [v] (setAdd Sa v) >>= _) Ā s1;exact tp (zaA (D.add T1 (D.keep hm.heap hU hS) hl hv λ h' tk xs' rr key b ev hr sb ht S' hx=>?_));subst ev;have fr:=W.frame (i+1) s1 h' tk hst1 ht λ c hc o e=>(sb.2 c (λ z:c=Sa=>hSf (z▸hc))).trans e;exact Ah #[plainId_quiet F.plain_set_update_loop _,ih (i+1) _ xs' ⋯ Au fr S' (D.Zc (λ c o hc e=>Â3) T1) (hU.step hv hr hx) λ s2 xs2 hm2 S2 U2=>?_];exact hR s2 xs2 (Moved.trans W.gtrans ((hm.mono more).then_heap ht λ c o hc e=>?_) hm2) S2 U2;show Â3
end
section
variable {å}{Ab:AE}{rows:Ä4}{Sa:Addr}{wr:List Addr}
def fT Ħ (h:Heap) (Ab:AE) (rows:Ä4):Prop:=∀ Ð v,Â2->∃ b r,v=ÿ b/\rows[i]?=↑r/\Ą Ò h r b
def fT.at {h h':Heap}(T:fT ĕ h Ab rows) (k:∀ Ð b,Ab[i]?=↑(ÿ b)->∀ o,ņ):fT ĕ h' Ab rows:=λ i v hv=>by
 let#[b,r,rfl,h1,o,items,m,h2,h3]:=T i v hv;show#[b,r,rfl,h1,o,items,m,k i b hv o h2,h3]
abbrev Ua:Æ->Addr->Ŗ:=λ _ b=>ÿ b
def IK {led:Bool}(hSw:Sa∉wr) Ä2 (hoff:∀ Ð b,Ab[i]?=↑(ÿ b)->b∉Sa::wr):Kd ĕ A Ua Ab rows Sa wr (λ h xs=>jP ĕ h Sa xs led) (λ h=>fT ĕ h Ab rows) where
 nd:=λ S=>S.nd
 keep:=λ{h h' xs i} k U S=>by
  let#[#[es,ep,t,ho,X,r],nd]:=S;exact#[#[es,ep,t,k Sa _ hSw ho,#[X.es,λ e he=>?_,X.tab,X.cz],r],nd];let#[o,items,m,g1,g2]:=X.is e he;let#[j,_,h2,_]:=U.own e he;show#[o,items,m,k Ā (λ z=>hoff j e.2 h2 (Ay _ z)) g1,g2]
 Zc:=λ k T=>T.at λ i b hi o e=>k b o (hoff i b hi) e
 add:=λ{s xs i v Q E} T S hl hv hQ=>by
  let#[b,r,rfl,hr,hb]:=T i v hv;unfold setAdd;exact zaA (tp ((rk ĕ).pyHash (k:=r) (a:=b) (A:=A) hu hb ?_));show D0 (s:={ s with toks:=s.toks+(rk ĕ).draws r }) (A:=A) hu S hb hl λ h' xs' rr sb S' hx=>hQ h' _ xs' rr r b rfl hr sb (zaW Ā) S' hx
end
section
variable {å}{Æ7}
set_option maxHeartbeats 6400000 in
def Q9 {κ β:Type} [DecidableEq κ] {val:κ->β->Ŗ}{ks:List κ}{Se:Heap->Ĩ->Prop}{Tp:Heap->Prop}{l:Addr}{Ab:AE}{Q:Aj}(hh:A.handled=none) (hl:s.heap.IsList l Ab\/s.heap.IsTuple l Ab) (hn:Ab.size<70)
  (D:Kd ĕ A.in1.in1.in1 ķ É [É+1] Se Tp) (hS0:∀ h,h.get? É=↑(oj w)->Se h []) (hT0:∀ h,(∀ b o,È9 b=↑o->h.get? b=↑o)->Tp h)
  (h:∀ (h':Heap) (tk:Nat) xs,Se h' xs->Up ķ Ab.size xs->(ŝ)->Q (ÿ É) { s with heap:=h',toks:=tk }):
  ŋ Þ (call (ø) [ÿ l]) Q E s:=by
 let#[c,tl,hmro]:=F.called_set.mro;have made:=F.called_set.made;have subm:=F.called_set.sub;exact zcM (codeAny_of_tree ?_);change ŋ Ā (callAny (ø) _) Ā _;exact Ah #[Code.quiet_builtin _ (AU),É1 F.entry_type_call ?_];rw[Around.under_plain (weight_type_call_type "set" [ÿ l] []) rfl];have nt:=F.called_set.notType;have cc:=F.called_set.canCreate;have tc:=F.typeCall_set_1 (ÿ l)
 ext ė
 exact codeAny_mono (F_ (ÿ l) (E:=E) (Q:=λ obj s₁=>obj=ÿ É/\s₁={ s with heap:=ä }) #[rfl,rfl]) λ r s₁ hr=>?_;cases r with
 | error e=>show hr
 | ok fl=>
  cases fl with
  | ret obj=>
   let#[rfl,rfl]:=hr;have hS:(ä).get? É=↑(oj w):=AO _ rfl;have hTy:Shared.TypeIs { s with heap:=ä } (ÿ É) "set":=#[_,hS,rfl];have li:=F.called_set.init.lookup;have bi:=F.called_set.init.bind (ÿ É)
   ext ė
   let s1:Shared:={ s with heap:=ä }
   exact codeAny_mono (codeAny_call_builtin (R:=wants (λ r s₂=>r=.none/\∃ h' tk xs,s₂={ s with heap:=h',toks:=tk }/\Se h' xs/\Up ķ Ab.size xs/\
     ŝ) E) F.called_set.init.plain F.entry_set_init (check_set_init_1 hTy ?_)) λ r₂ s₂ hr₂=>?_
   .have hsz:Á7=É+1:=Heap.size_push Ā;have szne:É ≠ Á7:=by rw[hsz];show AG (zE2 _)
    have low:∀ b:Addr,b<É->b≠ Á7:=λ b hb=>by rw[hsz];show AG (zaK hb)
    rw[<- hsz] at D;rcases hl with hl | hl
    all_goals
     let#[#[ocls,odict,odata,oslots],hol,hcl,nl,hdl]:=id hl;simp only at hcl hdl;subst hcl hdl;have hol1:=za1 (oj w) hol;have sls:=F.sub_list_set;have slf:=F.sub_list_frozenset;have sts:=F.sub_tuple_set;have stf:=F.sub_tuple_frozenset;have nd:(Value.type "list" == Value.type "dict")=ĸ:=()
     have nd':(Value.type "tuple" == Value.type "dict")=ĸ:=()
     have hlS:l<É:=Ar hol;have hneI:l≠ Á7:=low l hlS;have hl1:=hl.push (oj w);unfold Builtin.«set.__init__» noKeywords Builtin.Frozenset.updateFrom;generalize hPI:pyIter=PI;unfold oj at *
     wp_walk
     subst hPI
     first | exact zcY hl1 (tp (wpAny_runValue ?_)) | exact zd0 hl1 (tp (wpAny_runValue ?_))
     first
      | exact Sb (A:=A.in1.in1) (P:=λ i v=>Â2) ((Walks.list À8).toS) Ç0
      | exact Sb (A:=A.in1.in1) (P:=λ i v=>Â2) ((Walks.tuple À8).toS) Ç0
     .intro hm;rcases È5 hm with q | q
      .show szne q
      .show BS hlS (AJ.mp q)
     .show hS0 _ (za1 _ hS)
     .show hT0 _ λ b o e=>za1 _ (za1 _ e)
     .intro s' xs' hm S' U';let#[h',g',d',tk',os']:=s';obtain rfl:g'=s.gens:=hm.gens;obtain rfl:d'=s.drawn:=hm.drawn;obtain rfl:os'=s.os:=hm.os;exact Ah (Ah #[rfl,h',tk',xs',rfl,S',U',λ b o hb e=>?_]);exact hm.heap b o (λ q=>?_) (za1 _ (za1 _ e));rcases È5 q with q | q
      .show AG hb q
      .show low b hb (AJ.mp q)
   .cases r₂ with
    | error e=>show hr₂
    | ok fl₂=>
     cases fl₂ with
     | ret r=>
      let#[rfl,h',tk,xs,rfl,g1,g2,g3]:=hr₂
      ext ė
      show h h' tk xs g1 g2 g3
     | _=>show hr₂.elim
  | _=>show hr.elim
)
example:=`(
example À:=s.heap.objs.size
example Ğ _:=x prog w
example Ũ:=intKind Ğ
example Á:=(Ũ).hash
example Ö:=false
example Ç5 _:=x rfl ?_
example Ì:=.ref
example ļ:=Str.ofString "__next__"
example Ë9:=(Ì z)
example Ë3:=.none
example ē:=(Ah ?_)
example Â:=by exact tp (wpAny_attempt (zcO (name:=ļ) hT F.slot_zip_next (zcJ F.slot_zip_next hT F.entry_zip_next ?_ (F.args_zip_next_1 _))));exact tp (m:=field Ë9 2) (za7 hz rfl (x:=.bool Ö) Ç5);exact tp (m:=field Ë9 3) (za7 hz rfl (x:=Ì TI) Ç5);exact tp (m:=seqItems? (Ì TI)) (zcL hti Ç5);exact tp (m:=Builtin.SmallTypes.ownedTupleIsFree Ë9) (tp (m:=field Ë9 0) (za7 hz rfl (x:=Ë3) rfl ē));simp![if_true]
example Ŋ:=Value.ref
example ı:=.int
example Ĵ:=by dsimp only
example ň:=if_neg
example Ã:=by let#[ol,g1,_,n,g2]:=hl;exact tp (zcO (name:=ļ) ht F.slot_tuple_iterator_next (zcJ F.slot_tuple_iterator_next ht F.entry_tuple_iterator_next ?_ (F.args_tuple_iterator_next_1 _)));exact tp (m:=field (Ì it) 0) (za7 e1 e3 (x:=Ì l) Ç5);ext Ĵ;rw[ň (show ¬ ((Ŋ l == Value.none)=true) from zaF)];exact tp (m:=field (Ì it) 1) (za7 e1 e3 (x:=ı i 0) Ç5)
example Ä:=(upd H l (.ext (ST.we w l us)))
example Š{t:SetTable}:=0
example į:=Value
example ë:=Array (Int× į)
example Å{es:ë}{ep:Nat}Š:=0
example á _:=x _ _
example Ì2:=e1.extBut
example Ú:=Builtin.SmallTypes.nextOf
example Æ3:=wpAny_onRaise
example Ë8:=IsPair
example ò:=Ne.symm
example Į _:=x (s1.on λ o q=>Ì2 á (ò n3) q) (h1.on λ o q=>Ì2 á a1 q) hx
example Æ:=by exact tp (tp (Æ3 (tp (m:=Ú (Ì i1)) (draw Į λ g2 s12 e2=>Ah ?_))));have to2:Ë8 g2 TO a b:=e2.extBut á n8 (Ì2 á (ò n2) hto);exact tp (zcL to2 rfl (tp (wpAny_updateSeq_pair to2 λ g3 to3 e3=>tp (wpAny_letGo ē))))
example Æ4:=or_false
example Ç:=by simp![BR,Ao,A4,Æ4,not_or,List.nodup_nil,and_true,not_false_eq_true] at nd f1 f2;let#[#[n1,n2,n3,n4],#[n5,n6,n7],#[n8,n9],n10]:=nd;let#[a1,a2,a3,a4,a5]:=f1;let#[b1,b2,b3,b4,b5]:=f2;let#[hz,hti,#[a,b,hto],s1,s2]:=S;have hT:s.TypeIs Ë9 "zip":=#[_,hz,rfl]
example È _:=x (model Ğ) A
example É:=w.params.followText "set-order"
example Ê:=List Int
example Ë:=[z,TI,TO,i1,i2]
example Í:=PyProof.Rows
example À3{w:World}:=0
example Î{prog:Program}À3:=0
example Ï:=s.heap.push
example ŉ:=Value.int
example Ð:=insertAt es p (Á n,ŉ n tk)
example À7:=rawInt
example Ñ:=by exact tp (wpAny_attempt (zcO (name:=ļ) (iL ho) gR (zcJ gR (iL ho) RM ?_ (Pk _))));exact tp ē;ext Ĵ;exact tp (wpAny_fieldsOf ho Ç5);dsimp only[À7];exact tp (tp (zaC S.get rfl S.fits ē))
example Ò:=s.heap
example Ó:=s.heap.get?
example É5:=rs.length<64/\∀ r∈rs,r≠[]
example ī:=.lst
example Ô:=(o_ ts).bind λ rs=>if É5 then ↑(ī ((L4.vF (pS rs)).map wj)) else none
example Ŏ _:=x z TI TO .ellipsis
example Õ:=by unfold pyNext;ext Â;exact tp (wpAny_rule (tp (za7 hz rfl (x:=Ì TO) rfl (tp (zcW hz #[] λ g1 hz1 e1=>?_)))));replace hz1:IsZip g1 Ŏ:=hz1;exact tp ?_;simp![zbY,List.zipIdx_nil,zbM,List.forIn_nil]
example Ø:=List.replicate
example Ù:=es.size
example ö:=[].toArray
example Û:=(seqObj "list" ö 0)
example Ü:=λ e=>(Á e.1,ŉ e.1 e.2)
example Ý(hh:A.handled=none):=0
example Þ:=by have nd:=D.nd;simp![BR,Ao,A4,Æ4,not_or] at nd
example ß:=by intro X hP hw hK hc i gV s σ H E I hf st hg;subst hP hw hK
example à:=xs.length
example â:=PySem.Spec
example ã _:=x (by rw[typeLookup_type,builtinLookup_eq_fast];kernel_rfl) (AU) (AU) (AU) (by first | show .inl (AU) | show .inr (AU)) (by rw[isSubtype_type];kernel_rfl)
example ä:=by let#[u,rfl,ru]:=vals1 r;cases ru
example å _:=x k1 k2 Ò l1 l2
example ų:=h'.get?
example æ:=Ó b=↑o->ų b=↑o
example ç:=(upd H r (.ext (mM r j)))
example Ŵ:=Ì À
example è:=.fields [Ë3,.bool Ö,Ŵ,À7 0,Ë3,Ë3].toArray
example é _:=x z TI TO i1 i2 l1 l2
example Ä7:=Ak.mp e
example ê:=by let#[ys,e1,e2]:=Ä7;exact h S Z δ Y ys _ hE e1 λ ds S1 s1 r1=>?_
example ì _:=x a es ep
example Ì1:=e3.extBut
example í:=by have up:∀ c o,c≠z->c≠i1->c≠TO->Ó c=↑o->g3.get? c=↑o:=λ c o c1 c2 c3 q=>Ì1 á c3 (e2.extBut á c2 (Ì2 á c1 q))
example î:=.type
example ï:=tp (m:=firstArgMember á) (wpAny_of_eq (a:=Value.none) (by first | rfl | (simp![firstArgMember];rfl)) (zaB ?_ (by size_fits)))
example ũ:=î "StopIteration"
example ð(hx:xs[i]?=none) (hE:∀ h' e,Heap.ExtBut it Ò h'->(∃ o,ų e=↑o/\o.cls=ũ)->E (Ì e) { s with heap:=h' }):=0
example ñ:=by simp![Ao,A4,Æ4] at hb
example Ĥ:=(.ext (we X.w l us))
example ó:=by ext ä;obtain⟨⟨es,ep,t,S,eu⟩,-,-⟩:=(show wy X.prog X.w H Ò l Ĥ from I.zv l _ hl)
example ź:=λ(k:Nat)=>V.int (k:Int)
example ô:=ī ((List.range j.toNat).map ź)
example õ:=by have hlen:Ù=à:=by have:=congrArg List.length he;exists this
example ø:=Heap.SameBut.update
example ù:=sizeLine
example ŝ:=(Ì l)
example ú:=by have ht:=hit.typeIs;let#[oi,e1,e2,e3]:=id hit;ext Ã;ext Ĵ;exact tp (m:=seqItems? ŝ) (zcL g1 g2 ?_);simp![zaR,hx]
example û:=Shared->Prop
example Ì7:=x2.trans e3
example ü:=fun δ5 S5 #[m',b,w5] σ5 H5 b1 b2 b3=>#[(Ì7).trans b2,δ5,S5,m',b,b1,b3,w5]
example ý:=wpAny
example É8(k1 k2:Bool):=0
example Æ9(h:Heap):=0
example þ É8 Æ9 (l1 l2:Addr):=0
example ÿ:=xs.map
example Ā:=List (Ê)
example ā:=I.zv.fresh (Ap _)
example È5:=vs.toArray
example Ă:=(Ï Û).update À (Obj.mapSeq (·++È5))
example ă:=ps.map (·.2)
example Ľ:=by kernel_rfl
example Ą _:=x (o:=['r','o','t','a','r','e','t','i','_','t','e','s']) (Ľ) T2
example ą:=h _ H (by simp![zj,cond]) (.refl H) h3
example Ć{s:Shared}:=0
example Ç1{k:Bool}:=0
example ć Ç1{l:Addr}{xs:AE}:=0
example Ĉ:=PySem
example ĉ:=by have hp:((comes X.w l es ep).toList.map (·.2)).Perm us:=by rw[<- eu];show (bg X.w l es ep).map _
example Ċ:=.Subscript o i pos'
example ċ:=by intro gV s σ H xs us Q I r h
example Ì9:=AutoSeq1.wpAny_loadPart' hl
example Č:=by wp_walk using Ì9,made hL
example č(S:oA w Ò ì t):=0
example Ď(hc:X.calm=true):=0
example ď{es:List Expr}:=0
example Đ:=X.env
example đ(ha:PD X a ta) (hb:PD X b tb):=0
example Ē:=Option
example Ĕ:=(·.1)
example ĕ:=(s1.trans s2).trans s3
example Ė:=(∀ c o,c∉ Ë->Ó c=↑o->ų c=↑o)
example ė:=by .let#[es,ep,t,St,e]:=id hSO;show#[hSO,#[_,St.get],λ h1 h2 S1 k=>S1.oZ k]
example Ę:=(by simp![zj])
example ę:=List (Int×Tok)
example Ě{a:Addr}:=0
example ě:=by let#[x,hx,h1]:=h0.one;subst hx
example Ĝ _:=x (s2.on λ o q=>up _ o (ò n4) (ò n10) (ò n9) q) (h2.on λ o q=>up _ o b1 b4 b3 q) hy
example ĝ:=λ z=>hb (by simp[z])
example Ź:=by let#[δ,S,r1,r2,z]:=hu
example ğ:=by ext Ź;exact vo.go ha.mo r1 r2 z λ ds S1 vs H1 h1 q1 e1 p1=>?_
example Ġ:=Builtin.List.listExtendWith
example ġ{it l:Addr}{i:Nat}{xs:AE}:=0
example Ã0(h1:SQ Ò k1 l1 xs) (h2:SQ Ò k2 l2 ys):=0
example Ģ(D:ZY é) (S:At Ò k1 k2 é Ë3 n) Ã0:=0
example ģ:=comes w ì
example ĥ:=Ab.toArray
example Ħ:=λ e=>Á e.1
example ħ:=by let#[#[slot,h1,h2],S]:=st
example Í7:=by intro gV s σ H x y v u Q I rx ry h
example Ĩ:=by ext Í7;let#[c,d,rfl,rfl,q]:=h;cases rx;cases ry
example ĩ{k1 k2:Bool}{z TI TO i1 i2 l1 l2:Addr}:=0
example Ī:=g5.objs.size
example Ĭ:=t.mask
example ĭ:=.Call (.Name "range" p2) [e] [] pos2
example İ:=AO _ rfl
example Ř _:=x Q E s
example Ĳ:=ý È (Ú (Ì it)) Ř
example Ë2:=î "list"
example ĳ:=Ó l=↑{ cls:=Ë2,dict:=dd,data:=.seq items n,slots:=sl }
example ĵ:=by let#[hp,g,d,tk,os]:=s
example Ķ:=(zM (ha pos gV s σ H _ I h) λ us s1 #[vs,H1,I1,r1,q1]=>?_)
example ķ:=k.toNat
example ĸ:=by simp![Ao,A4,Æ4,not_or] at hc
example Ĺ:=order.toList.filterMap λ k=>xs[k]?
example ĺ:=.Call (.Name "set" p2) [e] [] pos2
example Ļ:=rows.length
example ľ:=(Ï L0).objs.size
example Ŀ:=Heap.size_push
example ŀ:=(ns.map V.int)
example Ł:=.cons
example ł:=v1::v2::rest
example Ń:=(e1.trans e2).trans e3
example ń:=#[_,rfl,h]
example Ņ:=s1.heap.objs.size
example É0:=h.get?
example ņ:=É0 a=↑{ cls:=î "set",dict:=none,data:=.set es ep t }
example Ň:=cq (λ _ _ _=>oh) λ _ _ _=>nofun
example ŋ:=I.ok.hd hc
example Ō:=.new hp _
example ō:=î "tuple"
example ŏ:=by have ex:x'=x:=by have:=f1 _ m1;rw[hx'] at this;show (BA this).symm
example Ő _:=x X (.Tuple es kk pos') (.Call (.Name "enumerate" p) [a] [] pos)
example ő:=t.place
example Œ:=IntsAre
example Ū:=starEach
example Ê5:=(Ö,eval a Đ)
example Ê1:=(Ö,eval b Đ)
example œ:=Ū [a,b] Đ=[Ê5,Ê1]
example Ŕ:=(∀ b o,b<À->æ)->Q (Ŵ) { s with heap:=h',toks:=tk }
example ŕ:=by let#[d,rfl,h1]:=nI hv
example Ŗ(hit:s.heap.IsTupleIter it l i) (hl:s.heap.IsTuple l xs):=0
example ŗ _:=x (T:="StopIteration") (b:=true) #[o,ho,hc] isSubtype_stop
example ř _:=x X (.Tuple es kk pos') (.Call (.Name "zip" p) [a,b] [] pos)
example Ś:=by ext ċ;let#[p,ys,rows,rfl,hq,hr,h64,q]:=h;ext ä
example ś:=tp (zaC S.get rfl S.fits ?_)
example Ŝ:=s.toks
example Ş:=by unfold SetTable.tooFull at this;rw[hfill,hmt] at this;exists this
example ş:=by have q':Ó b=↑o:=by rw[Heap.get?_push_ne á _ hbs] at q;show q
example Ż{X:Cx}:=0
example š Ż{K:Ac}:=0
example Ţ(hf:p_ f) (hg:p_ g) (ha:yG ta) (hb:yG tb) (hc:yG tc):=0
example ţ:=by let#[it1,rv1,q1]:=g1.of I;let#[it2,rv2,q2]:=g2.of I
example Ť:=sb.extBut
example ť:=by .simp![zj] at h2;exact .inr #[h2,?_];rw[SM h1];show ą
example Ì8:=Ï (nQ k l)
example Ä0:=î "enumerate"
example Ŧ:=(Ì8).push { cls:=Ä0,data:=è }
example ŧ:=PySem.SetTable
example ū:=List T
example Ŭ(l:Addr):=0
example ŭ:=λ l hl=>hq á (.new hl _) (jf hz hl (gP.mpr rfl))
example Ů:=ÿ λ e=>(V.ref e.2,e.1)
example ů:=order.filterMap (es[·]?)
example Ű:=λ S3 Z3 δ3 F3=>#[m,zE2 m,Z3,Y2,F3,e']
example ű:=by exact tp (wpAny_handled ?_);rw[show A.in1.handled=none from hh]
example Ê7(a:Addr):=0
example Ų Ê7 (es:ë) (ep:Nat):=0
example ŵ:=xs[i]?=↑x
example Ŷ:=λ b hb=>I1.Zp (nw b hb) (I1.zv.fresh (nw b hb))
example ŷ:=Ï { cls:=ō,data:=.seq [ı i tk,u].toArray }
example Ÿ{ds:List D}:=0
example ż _:=x á hc.2.2.2.2 (up c o hc.1 hc.2.2.2.1 hc.2.2.1 q)
example Ž:=(show h.IsTuple l xs from x)
example ž:=g5.push { cls:=ō,data:=.seq [x,y].toArray }
example ſ:=t.place.getD i 0
example À0:=wpAny_isInstance
example À1:=(Cl.of (λ _=>nofun) oh)
example À2:=e5.extBut
example À4(k:Bool):=0
example À5:=Heap.SameBut it Ò h'->Q x { s with heap:=h' }
example À6:=by have An:p≠l:=λ z=>by subst z;rw[yD] at hp;cases hp
example À8:=t.place.size
example À9:=by .simp![zj] at h1 h2;show .inl #[_,_,h1,h2,ą]
example Á0:=Ï { cls:=ō,data:=.seq [u1,u2].toArray }
example Á1:=É=Ö->slot=slotAt t i
example Á2:=(ģ).toList.map (·.2)
example Á3:=∃ c d,x=.bl c/\y=.bl d/\Q (.bl (c == d)) H
example Á4:=(λ x y=>D.tup [x,y])
example Á5 _:=x á n4 (Ì1 á n2 (e2.extBut á n3 hz1))
example Á6:=hq _ S1 s1 (YO 0 g2) λ S'' s=>yu.sx g1 s
example Á7:=by have hh:X.A.handled=none:=ŋ
example Á8:=#[_,ho,rfl]
example Á9:=codeAny_builtin
example Â0:=es.toList.findIdx? (λ e=>(Ũ).is n e.2)
example Â1:=(show h.IsList l xs from x)
example Â2:=∃ c d,x=.bl c/\y=.bl d/\Q (.bl (c != d)) H
example Â3:=SQ Ò k l xs
example Â4:=(fC å).get?
example Â5:=u _ (p1 á rfl)
example Â6:=λ v z=>by cases z
example Â7:=List.zipWith
example Â8:=.tup [ı i,x]
example Â9 _:=x k1 k2 h l1 l2
example Ã1:=(nQ k1 l1)
example Ã2:=(by have:=(AM.mp hj).1;rw[AN];lia)
example Ã3:=(Shared.heap #[hp,g,d,tk,os])
example Ã4:=(ÿ λ e=>ŉ e.1 e.2)
example Ã5:=by let#[a1,us,rfl,g1,g2]:=yu.k d1 p1 s1
example Ã6:=t.place.toList
example Ã7:=slotAt t (i+1)
example Ã8:=(way Ĭ h K).j
example Ã9:=(by simp;lia)
example Ä1:=by have:=(bg w ì).length_eq
example Ä2(An:AH X pos []) (hpl2:AH X pos2 []):=0
example Ä3(is:List Nat) (c:Ev->Ē Bool) (b:Sm):=0
example Ä4:=ys.zip rows
example Ä5:=(.builtin "sorted")
example Ä6:=ù=16777216
example Ä8:=λ zs hz=>by rw[hz.inj I g1];show hx
example Ä9:=h _ H1 e1 p1 λ i H2 S2 x1 x2 hk=>?_
example Å0(I:Inv X gV σ H s):=0
example Å1 _:=x I1 kk λ b hb=>#[hf' b hb,(hf b hb).2]
example Å2:=by rcases T.mask with e | e | e <;> lia
example Å3:=#[by change 2<=ù;decide,.new _]
example Å4:=(ups S l (ī ((oJ ns).map D.int)))
example Å5:=fun δ' S'=>∃ m',m'<m/\W m' δ' S'
example Å6:=by have kk:∀ b o,æ:=λ b o e=>k b o (Ar e) e
example Å7:=by have hpH:H p=none:=by rw[zX An] at hp;show hp
example Å8:=ý È (call (î "set") [Ì l]) Ř
example Å9:=(Obj.mapSeq (·.push Value.none))
example Æ0:=xs=[Ì p]
example Æ1:=ps.map Ĕ
example Æ2:=(x1.trans x2)
example Æ5:=.inl (Rp S Z _ z ds Q hz hv e hq)
example Æ6(h':Heap) (tk:Nat):=0
example Æ7{Q:Aj}:=0
example Æ8{Q:Ē į->û}:=0
example Ç0 _:=x (by rw[AN];lia) λ h' tk xs S U k=>?_
example Ç2:=(((ø ..).extBut.push _).push _)
example Ç3:=Ä l'=↑(.ext (ST.we w l' us'))
example Ç4:=(show X.A.in1.handled=none from ŋ)
example Ç6:=by rcases hb with e | e | e | e | e <;> subst e
example Ç7:=by exact#[Ō,x2.new hp,?_];simp![zj]
example Ç8:=trivial
example Ç9:=es.toList=ÿ (Ü)
example È0:=(fP f g ta tb tc)
example È1{h:Heap}:=0
example È2:=#[o,f o ho,r]
example È3:=.fields [Ì l,ı 0 0].toArray
example È4:=(Zl å).objs.size
example È6(ho:Ó I=↑(jx a slot i n ep)):=0
example È7 _:=x (T9.or T7) vH.R6 vH.mo ha hb (m_ _)
example È8(dd:Ē Addr) (sl:Array (Ē į)):=0
example È9:=Around
example É1:=(yj X.K H p ys\/yJ X.K H p ys)
example É2:=fits_of (n:=à) hlen T #[] ⋯
example É3:=(.bl (cond neg (c != d) (c == d)))
example É4:=.tup [x,y]
example É6:=ns.length<64
example É7:=by simp[hi]
example É9:=(ÿ λ e=>Ŋ e.2)
example Ê0:=(.Compare a [.IsNot] [b] pos)
example Ê2(hit:SI Ò k it l i) (hl:Â3):=0
example Ê3:=H l=none
example Ê4:=(by rw[<- rv.length];show hz)
example Ê6:=[e,it]
example Ê8:=oA w h ì t
example Ê9:=if_pos
example Ë0:=#[_,İ,rfl]
example Ë1:=Builtin.List.listLengthHint
example Ë4:=by rw[List.length_zip];lia
example Ë5:=.tup ts
example Ë6:=hperm.length_eq
example Ë7:=SQ h k l xs
example Ì0:=e4.extBut
example Ì3:=pL K H k1 a1 xs
example Ì4:=pL K H k2 a2 ys
example Ì5:=λ v z=>by rw[d1] at z;cases z
example Ì6:=PyProof.Rows.callWith_type1
example Í0(w:World):=0
example Í1{h h':Heap}:=0
example Í2{pos p pos':Pos}:=0
example Í3{xs:List V}:=0
example Í4(n:Nat):=0
example Í5{g:Ev->Ē (ū)}:=0
example Í6:=by let#[Ab,rv,pl,hz]:=I.list hq
def Ey {l:Addr}{Ab:AE}{rows:Ā}Æ7 Ý (hu:A.units+64<cLine) (hl:s.heap.IsList l Ab\/s.heap.IsTuple l Ab) (hT:fT Ğ Ò Ab rows) (hn:Ab.size<70)
  (h:∀ Æ6 xs,jP Ğ h' À xs (kE w)->Up Ua Ab rows Ab.size xs->Ŕ):
  Å8:=by
 exact Q9 hh hl hn (IK #[] (show A.units+1+1+1<cLine by lia) λ i b hb hm=>?_) (λ h e=>M5 e) (λ h k=>hT.at λ i b _ o e=>k b o e) h;let#[b',r,e,_,o,_,_,ho,_]:=hT i _ hb;cases e;have:=Ar ho;rcases Ao.mp hm with q | q
 .show AG this q
 .show AG (zaK this) (AJ.mp q)
end
end ST
namespace ST
open Ĉ ŧ
section facts
def T2:Manifest.owners.lookup (String.ofList ['r','o','t','a','r','e','t','i','_','t','e','s'].reverse)=↑Manifest.sig_set_iterator:=Ľ
def gR:Slot "set_iterator" "__next__" "set_iterator.__next__":=
 .of (owner:="set_iterator") (n:="__next__") ã
def RM:entryFor table "set_iterator.__next__"=↑Builtin.«set_iterator.__next__»:=entryFor_of_tree (Ľ)
theorem Pk (a:į):argsOk "set_iterator.__next__" #[[a],[]]:=by
 unfold argsOk;rw[signature?_of (id:="set_iterator.__next__") (n:=['_','_','t','x','e','n','_','_']) Ą]
 kernel_rfl
def Ft:entryFor table "set.__iter__"=↑Builtin.«frozenset.__iter__»:=entryFor_alias (id':="frozenset.__iter__") (Ľ) rfl (AU) (Ľ)
def U4:Slot "set_iterator" "__iter__" "set_iterator.__iter__":=
 .of (owner:="set_iterator") (n:="__iter__") ã
def Fs:entryFor table "set_iterator.__iter__"=↑Builtin.«dict_keyiterator.__iter__»:=entryFor_alias (id':="dict_keyiterator.__iter__") (Ľ) rfl (AU) (Ľ)
theorem Dm (a:į):argsOk "set_iterator.__iter__" #[[a],[]]:=by
 unfold argsOk;rw[signature?_of (id:="set_iterator.__iter__") (n:=['_','_','r','e','t','i','_','_']) Ą]
 kernel_rfl
end facts
theorem RI {α:Type}:∀ (l:List α) (i:Nat) (x:α),l[i]?=↑x->l.Perm (x::l.eraseIdx i)
 | [],i,x,h=>by simp at h
 | y::l,0,x,h=>by simp at h;subst h;simp
 | y::l,i+1,x,h=>by
  have ih:=RI l i x (by exists h);rw[List.eraseIdx_cons_succ];show (ih.cons y).trans (.swap x y _)
theorem Tg {α:Type}(next:Nat->Nat):∀ (f k:Nat) (left:List α) (out:Array α),left.length=f->(pickOrder.go next f k left out).toList.Perm (out.toList++left)
 | 0,k,left,out,h=>by
  cases left with
  | nil=>unfold pickOrder.go;simp
  | cons _ _=>simp at h
 | f+1,k,left,out,h=>by
  unfold pickOrder.go;have Au:next k%left.length<left.length:=zbF _ ⋯;rw[A2 Au];ext Ĵ;exact (Tg next f (k+1) á (by rw[List.length_eraseIdx_of_lt Au];lia)).trans ?_;rw[Array.toList_push,zc6];show (RI left á (A2 Au)).symm.append_left _
theorem Ly {α:Type}(next:Nat->Nat) (xs:Array α):(pickOrder next xs).toList.Perm xs.toList:=by
 unfold pickOrder;exists Tg next xs.size 0 xs.toList ö #[]
def comes Í0 Ų:ë:=if É=true then pickOrder (w.params.setOrder a ep) es else es
def bg Í0 Ų:(ģ).toList.Perm es.toList:=by
 unfold comes;split
 .show Ly á
 .show .refl _
def jx Ê7 (slot i n ep:Nat):Obj:={ cls:=î "set_iterator",data:=.fields [À7 slot,À7 i,Ì a,À7 n,À7 ep].toArray }
def slotAt (t:SetTable):Nat->Nat
 | 0=>0
 | i+1=>ſ+1
theorem EY Š(hr:lC Ã6):∀ i,i<=À8->below ő (slotAt t i)=i
 | 0,_=>by
  let#[h1,h2,h3]:=ZD (xs:=ő) (j:=0) hr;rcases zbR (below ő 0) with q | q
  .show q
  .have:=h2 0 ⋯ q;lia
 | i+1,hi=>by
  have hd:ſ=ő[i]:=X_ ⋯;change below ő (ſ+1)=i+1;rw[hd];let#[h1,h2,h3]:=ZD (xs:=ő) (j:=ő[i] + 1) hr;have oq:∀ a b (ha:a<À8) (hb:b<À8),a<b->ő[a]<ő[b]:=λ a b ha hb hab=>by
   have r:=zbC.mp hr a b (by exists ha) (by exists hb) hab;rw[zaV,zaV] at r;show r
  rcases zbT (below ő (ő[i] + 1)) (i+1) with q | q | q
  .have:=h3 i ⋯ ⋯;lia
  .show q
  .have a:=h2 (i+1) ⋯ q;have b:=oq i (i+1) ⋯ ⋯ ⋯;lia
structure oA Í0 Æ9 Ų (t:SetTable):Prop where
 get:ņ
 fits:t.fits Ù=true
 oq:lC Ã6
 led:t.led=kE w
 plain:t.plain=true
theorem oA.size À3 È1 Ě Å(S:Ê8):À8=Ù:=by
 have:=S.fits;simp![SetTable.fits,zE5,beq_iff_eq] at this;show this.1
section
variable {Î}{A:È9}{E:Aj}{Ć}
def TN Ě Å{i:Nat}{Q:Ē (į ×Nat)->û}č (hi:i<=Ù) (slot:Nat) (hs:Á1)
  (h:∀ slot',(É=Ö->slot'=Ã7)->Q ((ģ)[i]?.map λ e=>(e.2,slot')) s):ý È (setNext a slot i ep) Ř:=by
 unfold setNext setsByText;exact ś;ext Ĵ;exact tp (tp (zcZ ē));change ý _ A (if É=true then _ else _) Ř;cases hb:É with
 | true=>
  rw[Ê9 rfl,ň #[]];unfold setWalk setsByText;exact tp (ś);ext Ĵ;exact tp (tp (zcZ ē));change ý _ A (if É=true then _ else _) _ E s;rw[Ê9 hb];exact tp (zcZ ē);exact Ah ?_;have:=h slot (λ q=>by rw[hb] at q;cases q);unfold comes at this;rw[Ê9 hb] at this;show this
 | Ö=>
  rw[ň #[]];split
  .rename_i hd;have hd':(!t.plain&&decide (Ù>1))=true:=hd;rw[S.plain] at hd';simp at hd'
  .change ý _ A ((if (!t.led&&!es.isEmpty)=true then unsupported "set:maker-not-led" else pure Unit.unit) >>= _) Ř;have hl:t.led=true:=by rw[S.led];unfold kE;rw[hb];rfl
   rw[ň (by rw[hl];simp)];exact tp (Ah ē);have hsl:=hs hb;have hz:=S.size;rw[hsl,EY S.oq i (by rw[hz];show hi)];have:=h (Ã7) (λ _=>rfl);unfold comes at this;rw[ň (by rw[hb];simp)] at this;rcases BV i Ù with q | q
   .have hp:i<À8:=by rw[hz];show q
    rw[BW q] at this;rw[BW q,BW hp];have e:Ã7=ő[i] + 1:=by change ſ+1=_;rw[X_ hp]
    rw[e] at this;show this
   .rw[zb5 q] at this;rw[zb5 q];show this
def iL {a I:Addr}{slot i n ep:Nat}È6:s.TypeIs (Ì I) "set_iterator":=Á8
def Ur (k:Nat):((k:Int)).toNat=k:=zaR k
def M1 {I a:Addr}Å{i slot:Nat}{e:Int× į}Æ8(ho:Ó I=↑(jx a slot i Ù ep)) č (hs:Á1) (he:(ģ)[i]?=↑e)
  (hi:i<Ù) (h:∀ h' slot',(É=Ö->slot'=Ã7)->ų I=↑(jx a slot' (i+1) Ù ep)->Heap.SameBut I Ò h'->Q ↑e.2 { s with heap:=h' }):ý È (pyNext (Ì I)) Ř:=by
 unfold pyNext;ext Ñ;rw[ň #[]];exact tp (TN S ⋯ slot hs λ slot' hs'=>?_);rw[Ur] at hs' ⊢;rw[he];dsimp only[Option.map_some];exact tp (zcK ho rfl #[] ?_);have o1:=za8 (Obj.mapFields (·.set! 0 (ŉ (slot':Int) 0))) ho rfl;exact tp (zcK o1 rfl #[] ?_);have o2:=za8 (Obj.mapFields (·.set! 1 (ŉ ((i:Int)+1) 0))) o1 rfl;exact Ah #[_,rfl,Ah (h _ slot' hs' o2 ((ø ..).trans (ø ..)))]
def M3 {I a:Addr}Å{slot:Nat}Æ8 Ý (ho:Ó I=↑(jx a slot Ù Ù ep)) č (hs:É=Ö->slot=slotAt t Ù)
  (h:∀ h',Heap.ExtBut I Ò h'->Q none { s with heap:=h' }):ý È (pyNext (Ì I)) Ř:=by
 have hn:(ģ)[Ù]?=none:=by
  ext Ä1;simp![B_] at this;rw[zb5 ⋯]
 unfold pyNext;ext Ñ;rw[ň #[]];exact tp (TN S #[] slot (by exists hs) λ slot' hs'=>?_);rw[Ur,hn];dsimp only[Option.map_none];exact tp (zcK ho rfl #[] ?_);exact tp ?_;simp![newExc,newTuple];exact tp (zaB ?_ (by size_fits));exact ï;unfold raiseNew;ext ű;exact tp ((Ah (wpAny_throw ?_)));exact tp ((À0 (T:="StopIteration") (b:=true) Ë0 isSubtype_stop ?_));show Ah (h _ Ç2)
def M0 {I a:Addr}{slot i n ep:Nat}Æ7 È6 (h:Q (Ì I) s):ý È (pyIter (Ì I)) Ř:=by
 exact wpAny_pyIter_slot (iL ho) U4 (zcJ U4 (iL ho) Fs ?_ (Dm _));show Ah #[_,rfl,"set_iterator",_,iL ho,gR.lookup,h]
def oA.keep Í1 Ě Å(S:Ê8) (k:∀ o,É0 a=↑o->ų a=↑o):oA w h' ì t:=#[k _ S.get,S.fits,S.oq,S.led,S.plain]
def Np Ý (I a:Addr) (AD:a≠I) (es:ë) (ep:Nat) (t:SetTable):
  Walks Ğ A I [I,a] [I] Ù (λ i v=>∃ e,(ģ)[i]?=↑e/\v=e.2) (λ i h=>(∃ slot,(Á1)/\É0 I=↑(jx a slot i Ù ep))/\Ê8) where
 sub:=λ b hb=>by simp at hb;simp[hb]
 frame:=λ _ _ _ st k=>by
  ext ħ;show#[#[slot,h1,k I #[] _ h2],S.keep λ o e=>k a #[] o e]
 item:=λ i s Q E hi st hQ=>by
  ext ħ;have hl:i<(ģ).size:=by
   ext Ä1;simp![B_] at this;lia
  exact M1 h2 S h1 (BW hl) hi λ h' slot' g1 g2 g3=>?_;show hQ _ h' Ŝ #[_,BW hl,rfl] #[#[slot',g1,g2],S.keep λ o e=>(g3.2 a AD).trans e] λ b o hb e=>(g3.2 b (ĝ)).trans e
 done:=λ s Q E st hQ=>by
  ext ħ;show M3 hh h2 S h1 λ h' g=>hQ h' Ŝ λ b o hb e=>g b o (ĝ) e
 self:=λ _ _ _ _ st hQ=>by
  ext ħ;show M0 h2 hQ
def Ic:typeLookup (î "set") "__len__"=pure ↑(.builtin "set.__len__"):=F.slot_set_len.lookup
def split_len:splitId "set.__len__"=↑("set","__len__"):=by decide +kernel
def J2 Ě Å{Q:Bool->û}č (h:Q Ö s):ý È (setDrawn a) Ř:=by
 unfold setDrawn setsByText;exact ś;ext Ĵ;exact tp (tp (zcZ (Ah ē)));change Q (! É&&(!t.plain&&decide (Ù>1))) s;rw[S.plain];exists h
set_option maxHeartbeats 4000000 in
theorem J6 Ě Å{Q:Bool->û}č (h:Q Ö s):ý È (Ë1 (Ì a)) Ř:=by
 have Ty:s.TypeIs (Ì a) "set":=#[_,S.get,rfl];unfold Ë1;exact tp (wpAny_specialOf Ty Ic ?_);ext Ĵ;rw[split_len];ext Ĵ;exact tp (À0 (b:=true) Ty sub_set_self ?_);rw[ň ()];rw[Ê9 (AU)];exact tp (zcU Ty ?_);show Ah h
set_option maxHeartbeats 4000000 in
def FY Ě Å{Q:List į->û}Ý č (hn:Ù<=ù)
  (h:∀ Æ6,(∀ b o,b<À->æ)->À<=h'.objs.size->Q (Á2) { s with heap:=h',toks:=tk }):ý È (collect (Ì a)) Ř:=by
 have ha:a<À:=Ar S.get;unfold collect;exact tp (wpAny_runValue (Á9 F.entry_proto_collect ?_));rw[Around.under_plainId F.plain_proto_collect _];change ý _ A.in1 (newList [] >>= λ l=>again (.builtin "list.__iadd__" #[[l,Ì a],[]])) á s;exact tp (zaB (Ah #[plainId_quiet F.plain_list_iadd _,Á9 F.entry_list_iadd ?_]));rw[Around.under_plainId F.plain_list_iadd _];let L0:Obj:={ cls:=Ë2,data:=.seq ([]:Ai).toArray }
 have S1:oA w (Ï L0) ì t:=S.keep λ o e=>za1 _ e;have T1:Shared.TypeIs { s with heap:=Ï L0 } (Ì a) "set":=#[_,S1.get,rfl];change ý _ A.in1 (Ġ (Ŵ) (Ì a) (Ŵ)) á { s with heap:=Ï L0 };unfold Ġ;exact tp (zcU T1 ?_);have AD:À ≠a:=BS ha;have c1:Builtin.List.listSameRef (Ŵ) (Ì a)=Ö:=by simp[Builtin.List.listSameRef,AD]
 rw[ň (by rw[c1];decide)];exact tp (wpAny_pyIter_slot T1 F.slot_set_iter (zcJ F.slot_set_iter T1 Ft ?_ (F.args_set_iter_1 _)));exact tp (tp (Ah ē));exact tp (tp (tp (zaC S1.get rfl S1.fits (Ah ē))));exact tp (J2 S1 ?_);rw[ň ()];exact tp ē;exact tp (wpAny_setEpoch_of S1.get rfl S1.fits ?_);exact tp (zaB (Ah #[_,rfl,"set_iterator",_,Ë0,gR.lookup,?_]));let I:=ľ
 let h2:=(Ï L0).push (jx a 0 0 Ù ep)
 have S2:oA w h2 ì t:=S1.keep λ o e=>za1 _ e;have hI:h2.get? I=↑(jx a 0 0 Ù ep):=İ;have hL:h2.get? À=↑L0:=za1 _ (İ);have hsz:ľ=À+1:=Ŀ á;change ý _ A.in1 á _ { s with heap:=h2 };exact tp (zaA (J6 (s:={ s with heap:=h2 }) S2 ?_));rw[Ê9 (AU)];exact tp (wpAny_rule ?_);exact tp ?_;change ý _ A.in1 (updateSeq À (·.push Ë3) >>= λ _=>updateSeq À (·.pop)) á { s with heap:=h2 };exact tp (wpAny_updateSeq hL Ç5);have hL2:=za8 Å9 hL rfl;exact wpAny_updateSeq hL2 Ç5;have hL3:=za8 (Obj.mapSeq (·.pop)) hL2 rfl;let h3:=(h2.update À Å9).update À (Obj.mapSeq (·.pop))
 have oth:∀ b o,b≠ À->h2.get? b=↑o->h3.get? b=↑o:=λ b o hb e=>(za9 á (ò hb)).trans ((za9 á (ò hb)).trans e);have haI:a≠I:=by change a≠ ľ;rw[hsz];show AG (zaK ha)
 have hIn:I≠ À:=by change ľ ≠_;rw[hsz];show BS (zE2 _)
 exact Ah #[plainId_quiet F.plain_extend_loop _,codeAny_extend_loopS ((Np (A:=A.in1) hh I a haI es ep t).toS) hn À ?_ _ Ù 0 { s with heap:=h3 } ö _ rfl (A0 _) #[#[0,λ _=>rfl,oth I _ hIn hI],S2.keep λ o e=>oth a o (ò AD) e] hL3 (ItemsOf.nil _) λ s' acc c' hm hS' A3=>?_]
 .intro hm;rcases Ao.mp hm with q | q
  .show hIn q.symm
  .show AD (AJ.mp q)
 .exact tp (wpAny_load hS' ē);let#[h',g',d',tk',os']:=s';obtain rfl:g'=s.gens:=hm.gens;obtain rfl:d'=s.drawn:=hm.drawn;obtain rfl:os'=s.os:=hm.os;have hcm:(ģ).size=Ù:=by
   ext Ä1;exists this
  have e:acc.toList=Á2:=by
   exact List.ext_getElem? λ j=>?_;rw[AF];rcases BV j Ù with q | q
   .have hjl:j<acc.size:=by rw[A3.1];show q
    have hj:acc[j]?=↑acc[j]:=BW hjl;let#[e,e1,e2]:=A3.2 j _ hj;rw[zD3,zD3,hj,e1,e2];rfl
   .rw[zD3,zD3,zb5 (by rw[A3.1];show q),zb5 (by rw[hcm];show q)];rfl
  rw[e];exact h h' tk' (λ b o hb e=>hm.heap b o (λ q=>?_) (oth b o (AG hb) (za1 _ (za1 _ e)))) ?_
  .rcases Ao.mp q with q | q
   .show AG hb q
   .have q':b=ľ:=AJ.mp q;rw[hsz] at q';show AG (zaK hb) q'
  .show B8 (Ar hS')
end
end ST
namespace ST
open Ĉ ŧ Í L4
section
variable {Î}{A:È9}{E:Aj}{Ć}
def Qu Ě Å Ý č (hz:Ù<=ù) (Q':List į->û)
  (h:∀ h1 tk,(∀ b o,¬ False->Ó b=↑o->h1.get? b=↑o)->À<=h1.objs.size->Q' (Á2) { s with heap:=h1,toks:=tk }):ý È (collect (Ì a)) Q' E s:=
 FY hh S hz λ h1 tk k1 k2=>h h1 tk (λ b o _ q=>k1 b o (Ar q) q) k2
end
end ST
namespace ST
open Ĉ ŧ â Í L2
def we Í0 Ê7 (us:Ai):Heap->Prop:=λ h=>∃ es ep t,Ê8/\es.toList.map (·.2)=us
def we.oZ À3 Ě{us:Ai}{h1 h2:Heap}(S:we w a us h1) (k:∀ o,h1.get? a=↑o->h2.get? a=↑o):we w a us h2:=by
 let#[es,ep,t,S,e]:=S;show#[es,ep,t,S.keep k,e]
def jP.at Î È1 Ě{xs:List (Ê ×Addr)}(S:jP Ğ h a xs (kE w)):we w a É9 h:=by
 let#[#[es,ep,t,ho,X,h1,h2,h3],_]:=S;show#[es,ep,t,#[ho,X.fits,X.tab.oq,h1,h2],by rw[X.es,A1];rfl]
section
variable {Ż}
theorem SH:∀ {ns:Ê}{us:Ai},Vals ŀ us->∀ Î,ItemsAre (Ũ) ns us
 | [],_,.nil,_,_=>.nil
 | n::ns,_,Ł r t,prog,w=>by
  let#[tk,rfl]:=r;show Ł (intKind_is á á) (SH t)
def Eu Ď (hu:X.A.units+64<cLine):xR X (î "set") (λ xs H Q=>∃ p ys,∃ rows:Ā,Æ0/\É1/\L4.jQ X.K H ys rows/\Ļ<64/\
  ∀ Ŭ (us:Ai) (ps:List (V× Ê)),Ê3->Vals (Æ1) us->(∀ q∈ps,q∈ Ä4)->(ă).Nodup->(∀ r∈rows,r∈ ă)->Q ŝ (upd H l Ĥ)):=by
 ext Ś;obtain⟨Ab,rv,pl,hz⟩:∃ Ab,Vals ys Ab/\(s.heap.IsList p ĥ\/s.heap.IsTuple p ĥ)/\True:=by
  rcases hq with hq | hq
  .let#[Ab,rv,pl,_]:=I.list hq;show#[Ab,rv,.inl pl.isList,Ç8]
  .let#[Ab,rv,pl,_]:=I.tuple hq;show#[Ab,rv,.inr pl,Ç8]
 have hl:=rv.length;have hlr:ys.length=Ļ:=Paired.length hr;have oY:fT X.prog X.w Ò ĥ rows:=λ i v hv=>by
  have hv':Ab[i]?=↑v:=by exists hv
  have hi:i<Ab.length:=(AM.mp hv').1;let#[AD,b,hb,hsq]:=L4.Paired.at' hr (i:=i) ⋯ V.zk ([]:Ê);have hy:ys[i]?=↑(V.ref b):=by
   rw[A2 ⋯];have:ys.getD i V.zk=ys[i]'⋯:=by simp[show i<ys.length by lia]
   rw[this] at hb;rw[hb]
  let#[v',e1,e2]:=rv.get hy;rw[hv'] at e1;cases e1;cases (show v=Ŋ b from e2);let#[its2,rv2,#[o,e,hcl,n,hd],_]:=I.tuple hsq;exact#[b,rows.getD i [],rfl,?_,o,its2.toArray,n,e,hcl,hd,by exists SH rv2];simp[show i<Ļ by lia]
 ext Á7;exact Ey (A:=X.A) hh hu pl oY Ç0;ext Å6;have AR:H À=none:=ā;have hSO:=S.at;have vals:Vals ((Ů).map Ĕ) É9:=by
  clear S U hSO
  induction xs with
  | nil=>show .nil
  | cons e xs ih=>show Ł rfl ih
 have snd:(Ů).map (·.2)=ÿ Ĕ:=by rw[A1];rfl
 exact#[Ŵ,_,I.laid (t':=tk) (o:=.ext (we X.w À É9)) kk (Ap _) ?_,rfl,q á (Ů) AR vals (λ x hx=>?_) (by rw[snd];show S.nd) λ r hr'=>?_]
 ext ė
 .let#[e,he,rfl]:=Ax.mp hx;let#[j,j1,j2,j3]:=U.own e he;have hj':Ab[j]?=↑(Ŋ e.2):=by exists j2
  have hjl:j<ys.length:=by rw[hl];show (AM.mp hj').1
  let#[v',e2,e3]:=rv.get (A2 hjl);rw[hj'] at e2;cases e2;let#[AD,b,hb,_]:=L4.Paired.at' hr (i:=j) ⋯ V.zk ([]:Ê);have:ys.getD j V.zk=ys[j]:=by simp[hjl]
  rw[this] at hb;rw[hb] at e3;cases (show Ŋ e.2=Ŋ b from e3);exact A5 (i:=j) ?_;rw[List.getElem?_zip_eq_some];show#[by rw[A2 hjl,hb],j3]
 .rw[snd];let#[j,hj]:=zaJ.mp hr';show U.all j r Ã2 hj
theorem Paired.mk {α β:Type}{F:α->β->Prop}:∀ {l:List α}{m:List β},l.length=m.length->(∀ (i:Nat) a b,l[i]?=↑a->m[i]?=↑b->F a b)->Paired F l m
 | [],[],_,_=>.nil
 | a::l,b::m,h,f=>Ł (f 0 a b rfl rfl) (Paired.mk (by exists h) λ i x y hx hy=>f (i+1) x y (by exists hx) (by exists hy))
 | [],_::_,h,_=>by simp at h
 | _::_,[],h,_=>by simp at h
theorem Et Ď:xR X Ä5 (λ xs H Q=>∃ l us vs,∃ rs:Ā,xs=[Ì l]/\H l=↑ Ĥ/\Vals vs us/\L4.jQ X.K H vs rs/\rs.length<64/\L4.b8 (vs.zip rs) H Q):=by
 intro gV s σ H xs us0 Q I r h;let#[l,us,vs,rs,rfl,hl,hv,hr,h64,q]:=h;ext ó
 ext ĉ
 let#[qs,q1,q2]:=L4.Paired.perm hp (L4.VR.of hv hr);have hzl:(vs.zip rs).length<64:=Ë4
 have hes:Ù<=ù:=by
  have h1:us.length=(vs.zip rs).length:=Paired.length (L4.VR.of hv hr);have h2:=congrArg List.length eu;rw[AQ,B_] at h2;have:Ä6:=rfl;lia
 show L4.YK I (λ Q' h=>Qu (by show ŋ) S hes Q' h) q2 (by rw[q1.length_eq];show hzl) λ p ps hf hp hs=>q p ps hf (hp.trans q1) hs
end
end ST
namespace L5
open Ĉ â L2 L3
open Í hiding St
def pS:Ā->Ā
 | []=>[]
 | r::rs=>if r∈pS rs then pS rs else r::pS rs
theorem dP {r:Ê}:∀ {rs:Ā},r∈pS rs↔r∈rs
 | []=>.rfl
 | x::rs=>by
  unfold pS;split
  .rename_i h;rw[dP,Ao];show#[.inr,λ h'=>h'.elim (λ e=>e▸dP.mp h) id]
  .rw[Ao,Ao,dP]
theorem Xs:∀ rs:Ā,(pS rs).Nodup
 | []=>.nil
 | x::rs=>by
  unfold pS;split
  .show Xs rs
  .rename_i h;show BR.mpr #[h,Xs rs]
theorem Xu:∀ rs:Ā,(pS rs).length<=rs.length
 | []=>Ap _
 | x::rs=>by
  unfold pS;have:=Xu rs;split <;> simp![A7] <;> lia
def mG:vm:=λ ds S Q=>match ds with
 | [d]=>∃ rows:Ā,yu d S=↑(rows.map nc)/\Ļ<64/\(∀ r∈rows,r≠[])/\∀ l,S l=none->Q ŝ (ups S l (ī ((L4.vF (pS rows)).map nc)))
 | _=>False
def eW:Al
 | [ī ts]=>Ô
 | [Ë5]=>Ô
 | _=>none
def Rp:nH zC eW mG:=λ S Z ys z ds Q hz hv e hq=>by
 have key:∀ y ts,ys=[y]->oM y=↑ts->(Ô)=↑z->mG ds S Q:=λ y ts ey et e'=>by
  subst ey;ext ŕ;let#[rs,e1,e2]:=Ak.mp e';split at e2
  .rename_i hc;cases e2;cases YU e1;let#[es,h2,h3]:=h1.seq et;cases gP.mp h3;show#[rs,h2,hc.1,hc.2,ŭ]
  .cases e2
 unfold eW at e;split at e
 .show key á rfl rfl e
 .show key á rfl rfl e
 .cases e
section
variable {K:Ac}{e:Expr}{p:Pos}
def mG.mo:nG mG:=λ ds S Q Q' hq h=>by
 unfold mG at h ⊢;split at h
 .let#[rows,h1,h2,h3,h4]:=h;show#[rows,h1,h2,h3,λ l hl=>hq á (h4 l hl)]
 .show h.elim
def mG.fits À3:mS K mG (λ xs H Q=>∃ p ys,∃ rows:Ā,Æ0/\(yj K H p ys\/yJ K H p ys)/\L4.jQ K H ys rows/\Ļ<64/\
  ∀ Ŭ (us:Ai) (ps:List (V× Ê)),Ê3->Vals (Æ1) us->(∀ q∈ps,q∈ Ä4)->(ă).Nodup->(∀ r∈rows,r∈ ă)->
   ∃ l' us' vs',∃ rs':Ā,[V.ref l]=[Ì l']/\Ç3/\Vals vs' us'/\L4.jQ K Ä vs' rs'/\rs'.length<64/\L4.b8 (vs'.zip rs') Ä Q):=λ xs ds H S Q h0 h2 h=>by
 unfold mG at h;split at h
 .rename_i d;ext ě;let#[rows,e,h64,AD,h]:=h;obtain⟨a,ys,rfl,g1,g2⟩:∃ a xs,x=Ì a/\(yj K H a xs\/yJ K H a xs)/\zw K H (rows.map nc) xs:=by
   by_cases hn:∃ ts,d=Ë5
   .let#[ts,rfl]:=hn;cases e;simp![zj] at h1;let#[a,xs,q1,q2,q3]:=h1;show#[a,xs,q1,.inr q2,q3]
   .let#[a,ys,q1,q2,q3]:=iy h1 h2 e (λ ts z=>hn #[ts,z]);show#[a,ys,q1,.inl q2,q3]
  exact#[a,ys,rows,rfl,g1,ax g2 AD,h64,λ l us ps hf hv sub nd all=>?_];have mem:∀ r,r∈ ă ↔r∈rows:=λ r=>#[λ h=>by
   let#[q,hq,rfl]:=Ax.mp h;show (zbK (sub q hq)).2,all r]
  have x1:Ext H Ä:=.new hf _;have g3:zw K H ((ă).map nc) (Æ1):=zw.aD λ q hq=>zw.bP g2 q (sub q hq);have hper:(ă).Perm (pS rows):=(zcC nd (Xs rows)).mpr λ r=>by rw[mem,dP]
  have hzip:(Æ1).zip (ă)=ps:=by rw[List.zip_map',List.map_id''];intro a;rfl
  exact#[l,us,Æ1,ă,rfl,yD,hv,ax (zw.ext x1 _ g3) λ r hr=>AD r ((mem r).mp hr),by rw[hper.length_eq];have:=Xu rows;lia,λ p qs hp hi hs=>?_];rw[hzip] at hi;have heq:=L4.Ux ((hi.map (·.2)).trans hper) hs;ext À6
  ext Å7
  have x2:Ext Ä (upd Ä p (ī (qs.map Ĕ))):=Ō;have r1:yb K Ä S:=h2.new hf;exact h p (h2.none hpH) á Ę Æ2 (r1.ups x2 #[_,yD,?_]);rw[<- heq];show zw.ext Æ2 _ (zw.aD λ q hq=>zw.bP g2 q (sub q (hi.mem_iff.mp hq)))
 .show h.elim
end
end L5
namespace ST
open Ĉ ŧ Í
theorem Rt Š{hs:Ê}(T:Tab t hs) (h:Int):∀ (f k K:Nat),k<=K->K<k+f->Ã8 ∉ Ã6->(∀ m<K,(way Ĭ h m).j∈ Ã6)->probe.go t (λ _=>h+1) h f (way Ĭ h k)=↑(.empty Ã8 none)
 | 0,k,K,h1,h2,_,_=>⋯
 | f+1,k,K,h1,h2,h3,h4=>by
  by_cases e:k=K
  .subst e;unfold probe.go;rw[T.empty h3,Y2]
  .let#[i,g,p1,_]:=T.at (h4 k ⋯);have ih:=Rt T h f (k+1) K ⋯ ⋯ h3 h4
   conv=>lhs;unfold probe.go
   rw[T.live p1];ext Ĵ;rw[ň (by intro q;have:=eq_of_beq q;lia),Ve];show ih
theorem GD Š{hs:Ê}(T:Tab t hs) (hl:hs.length<=Ĭ) (h:Int):∃ j,t.freeSlot h=↑(j,Ö)/\Vq t h j:=by
 let#[K,k1,k2,k3]:=T.first hl h;exact#[Ã8,?_,#[k2,K,rfl,k3]];have g:=Rt T h (10*turns Ĭ) 0 K (A0 _) (by unfold turns;lia) k2 k3;unfold SetTable.freeSlot;have e:t.probe (λ _=>h+1) h (t.probeStart h)=↑(.empty Ã8 none):=g;rw[e];rfl
structure hZ (prog:Program) Í0 Æ9 Ê7 (xs:ę) (led:Bool):Prop where
 ex:∃ es ep t,ņ/\Ç9/\Tab t (ÿ Ħ)/\t.led=led/\t.plain=true/\à*5<Ĭ*3
 nd:(ÿ Ĕ).Nodup
section
variable {Î}{A:È9}{E:Aj}{Ć}
def fits_of {es:ë}Š{hs:Ê}{n:Nat}(h1:Ù=n) (T:Tab t hs) (h2:hs.length=n) (h3:n<=Ĭ):t.fits Ù=true:=by
 have l:=T.len;unfold SetTable.fits SetTable.fill;rw[T.jE,h1,l,h2];simp;lia
def dZ {n m:Int}{t:Tok}:(Ũ).is n (ı m t)=true↔n=m:=by
 constructor
 .intro h;let#[t',e]:=Value.isInt_shape (show Value.isInt n (ı m t)=true from h);cases e;rfl
 .rintro rfl;show intKind_is á á
def Fu {es:ë}{xs:ę}(h:Ç9):ElemsOf (Ũ) es.toList:=λ e he=>by
 rw[h] at he;let#[x,_,rfl]:=Ax.mp he;show#[#[x.1,dZ.mpr rfl,rfl],rfl]
def MK {es:ë}Š{xs:ę}{M wanted:Nat}(he:Ç9) (hM:nF M) (hw:sizeAbove wanted=M+1) (AY:à*5<M*3):
  ∃ es' t',∃ xs':ę,relayAll t es wanted=(es',t',Ö)/\es'.toList=xs'.map (Ü)/\xs'.Perm xs/\Tab t' (xs'.map Ħ)/\t'.mask=M/\t'.led=t.led/\t'.plain=t.plain/\es'.size=Ù:=by
 ext õ
 have hhs:(es.map Ĕ).toList=ÿ Ħ:=by rw[Array.toList_map,he,A1];rfl
 have hsz:(es.map Ĕ).size=à:=by rw[zb9,hlen]
 let#[t',order,h1,h2,h3,h4,h5,h6,h7]:=S8 hM t.finger (t.movedTo M) t.led t.plain (es.map Ĕ) (by rw[hsz];lia);rw[hsz] at h6;have Au:∀ k∈order.toList,k<à:=λ k hk=>by exists h6.mem_iff.mp hk
 have hr:t.relaid (es.map Ĕ) wanted=↑(t',order):=by
  unfold SetTable.relaid;rw[hw,Nat.add_sub_cancel];show h1
 have hes':(ů).toList=(Ĺ).map Ü:=by
  rw[Array.toList_filterMap,List.map_filterMap];congr 1;funext k;rw[<- zD3,he,AF]
 have hperm:(Ĺ).Perm xs:=(h6.filterMap _).trans (by rw[List.filterMap_getElem?_range_length]);have hsz':(ů).size=Ù:=by
  rw[<- B_,hes',AQ,Ë6,hlen]
 have hT:Tab t' ((Ĺ).map Ħ):=by
  rw[<- Xh xs (Ħ) 0 order.toList Au,<- hhs];show h7
 exact#[_,t',_,?_,hes',hperm,hT,h2,h4,h5,hsz'];have z_:coversAll order Ù=true:=by
  unfold coversAll;rw[List.isPerm_iff,hlen];show h6
 have fit:t'.fits (ů).size=true:=fits_of (n:=à) (by rw[hsz',hlen]) hT (by rw[AQ,Ë6]) (by rw[h2];lia);unfold relayAll;rw[hr];ext Ĵ;rw[z_,fit];rfl
def add_int Ě{xs:ę}{n:Int}{tk:Tok}{led:Bool}{Q:Bool->û}(S:hZ Ğ Ò a xs led) (hn:à<70)
  (h:∀ h' xs' r,Heap.SameBut a Ò h'->hZ Ğ h' a xs' led->(n∈ ÿ Ĕ/\xs'=xs\/n∉ ÿ Ĕ/\xs'.Perm (xs++[(n,tk)]))->Q r { s with heap:=h' }):
  ý È (setAddHashed a (ı n tk) (Á n)) Ř:=by
 have S0:=S;let#[#[es,ep,t,ho,he,T,hled,An,AY],hnd]:=S;ext õ
 have hm7:7<=Ĭ/\Ĭ<=127:=Å2
 have fit:t.fits Ù=true:=É2;have hel:=Fu (prog:=prog) (w:=w) he;unfold setAddHashed setAddHashedIn;exact zaA (tp (zaC ho rfl fit ?_));ext Ĵ;have bs:byScan (ı n tk) es=true:=by
  have h1:decide (Ù<scanBound)=true:=za3 (by unfold scanBound;lia);have h2:es.all (·.2.scannable)=true:=by
   rw[Array.all_eq_true_iff_forall_mem];intro e hm;show (hel e (by exists hm)).2
  unfold byScan;rw[h1,h2];rfl
 rw[Ê9 bs];exact tp ?_;unfold setAddByScan;exact tp (wpAny_rule (tp (wpAny_setScan_of (k:=n) (dZ.mpr rfl) ho rfl fit hel ?_)));have hfind:(Â0).isSome=true↔n∈ ÿ Ĕ:=by
  rw[he,List.findIdx?_isSome,BB];constructor
  .rintro⟨e,hm,q⟩;let#[x,hx,rfl]:=Ax.mp hm;show Ax.mpr #[x,hx,(dZ.mp q).symm]
  .intro hm;let#[x,hx,rfl]:=Ax.mp hm;show#[_,Ax.mpr #[x,hx,rfl],dZ.mpr rfl]
 cases hc:Â0 with
 | some j=>
  ext Ĵ;have hm:=hfind.mp (by rw[hc];rfl);exact Ah ?_;ext Ĵ;show Ah (h Ò xs Ö #[rfl,λ _ _=>rfl] S0 (.inl #[hm,rfl]))
 | none=>
  ext Ĵ;have hm:n∉ ÿ Ĕ:=λ q=>by have:=hfind.mpr q;rw[hc] at this;cases this
  let#[j,fs,F]:=GD T (by rw[AQ];lia) (Á n);let#[p1,p2,p3]:=T.put F;rw[AQ] at p1;have hpt:(t.put j).1.plain=true:=by rw[p2];show An
  have hmt:(t.put j).1.mask=Ĭ:=by rw[p2]
  have Au:(t.put j).1.led=led:=by rw[p2];show hled
  generalize hT:(t.put j)=P at *;let#[t1,p]:=P;dsimp only at *;let xs1:=xs.take p++(n,tk)::xs.drop p
  have hperm:xs1.Perm (xs++[(n,tk)]):=by
   have e:xs.take p++xs.drop p=xs:=zcA p xs;have:xs1.Perm ((n,tk)::(xs.take p++xs.drop p)):=List.perm_middle;rw[e] at this;show this.trans (List.perm_append_singleton á).symm
  have hl1:xs1.length=à+1:=by rw[Ë6];simp
  have hes1:(Ð).toList=xs1.map Ü:=by
   rw[toList_insertAt,he];simp[xs1,zbW,zbX]
  have hsz1:(Ð).size=à+1:=by rw[<- B_,hes1,AQ,hl1]
  have T1:Tab t1 (xs1.map Ħ):=by
   have:xs1.map (Ħ)=(ÿ Ħ).take p++Á n::(ÿ Ħ).drop p:=by simp[xs1,zbW,zbX]
   rw[this];show p3
  have fit1:t1.fits (Ð).size=true:=fits_of (n:=à+1) hsz1 T1 (by rw[AQ,hl1]) (by rw[hmt];lia);have hlay:layNew t es (Á n) (ı n tk)=(Ð,t1,Ö,Ö):=by
   unfold layNew;rw[fs];ext Ĵ;rw[hT];ext Ĵ;unfold SetTable.orStandIn;rw[fit1];rfl
  have hsl:(Ð).size<=ù:=by
   rw[hsz1];have:Ä6:=rfl;lia
  have hnd1:(xs1.map Ĕ).Nodup:=by
   exact (hperm.map _).nodup_iff.mpr ?_;rw[B7,List.nodup_append];exact#[hnd,#[],λ x hx y hy=>?_];simp at hy;subst hy;show λ e=>hm (e▸hx)
  have ho1:=aC (es':=Ð) (t':=t1) ho;have sb:=ø Ò a (Obj.putSet (Ð) t1);have hfill:t1.fill=à+1:=by
   have l:=T1.len;rw[AQ,hl1] at l;unfold SetTable.fill;rw[T1.jE,l];simp
  rw[hlay];ext Ĵ;exact tp (m:=pure Unit.unit) ē;rw[hpt];simp![if_true];exact tp (m:=pure true) ē;simp![if_true];exact tp (wpAny_storeSet_of ho Ç5 hsl);by_cases hf:t1.tooFull=true
  .rw[hf];simp![zB2,zbQ,if_true];have hfull:Ĭ*3<=(à+1)*5:=by
    have:=hf;ext Ş
   let#[M',g1,g2,g3]:=U5 à Ĭ T.mask AY hfull hn;let#[es2,t2,xs2,r1,r2,r3,r4,r5,r6,r7,r8]:=MK (prog:=prog) (w:=w) (t:=t1) hes1 g1 (wanted:=grown (Ð).size) (by rw[hsz1];show g2) (by rw[hl1];show g3);rw[r1];ext Ĵ;exact tp (m:=pure Unit.unit) (Ah (tp (wpAny_storeSet_of ho1 Ç5 (by rw[r8];show hsl))));exact Ah ?_;ext Ĵ;exact Ah (h _ xs2 true (sb.trans (ø _ a _)) #[#[es2,ep+1+1,t2,aC ho1,r2,r4,by rw[r6];show Au,by rw[r7];show hpt,by rw[r3.length_eq,hl1,r5];show g3],(r3.map _).nodup_iff.mpr hnd1] (.inr #[hm,r3.trans hperm]))
  .have hf':t1.tooFull=Ö:=by exists hf
   rw[hf'];simp![zB2,zaP,BM,if_false];have hfull:(à+1)*5<Ĭ*3:=by
    have:=hf';ext Ş
   exact Ah ?_;ext Ĵ;show Ah (h _ xs1 true sb #[#[_,ep+1,t1,ho1,hes1,T1,Au,hpt,by rw[hl1,hmt];show hfull],hnd1] (.inr #[hm,hperm]))
end
def Nums (Ab:AE) (ns:Ê):Prop:=∀ (i:Nat) v,Ab[i]?=↑v->∃ n t,v=ı n t/\ns[i]?=↑n
section
variable {Î}{A:È9}{E:Aj}{Ć}{Ab:AE}{ns:Ê}
def IL {led:Bool}{Sa:Addr}{wr:List Addr}(hSw:Sa∉wr) (hN:Nums Ab ns):Kd Ğ A ŉ Ab ns Sa wr (λ h xs=>hZ Ğ h Sa xs led) (λ _=>True) where
 nd:=λ S=>S.nd
 keep:=λ k _ S=>let #[#[es,ep,t,ho,r],nd]:=S;#[#[es,ep,t,k á hSw ho,r],nd]
 Zc:=λ _ T=>T
 add:=λ{s xs i v Q E} _ S hl hv hQ=>by
  let#[m,t,rfl,hr]:=hN i v hv;unfold setAdd;exact zaA (tp ((Ũ).pyHash (A:=A) (k:=m) (dZ.mpr rfl) ?_));show add_int (s:={ s with toks:=Ŝ+1 }) (A:=A) S hl λ h' xs' rr sb S' hx=>hQ h' _ xs' rr m t rfl hr sb (zaW á) S' hx
def M6 È1 Ě(ho:É0 a=↑(oj w)):hZ Ğ h a [] (kE w):=
 #[#[ö,0,_,ho,rfl,#[.inl rfl,rfl,rfl,.nil,λ j hj=>(by cases hj),λ i g j hg=>(by cases hg)],rfl,rfl,by change 0*5<7*3;lia],.nil]
def Ex {l:Addr}Æ7 Ý (hl:s.heap.IsList l Ab) (hT:Nums Ab ns) (hn:Ab.size<70)
  (h:∀ Æ6 xs,hZ Ğ h' À xs (kE w)->Up ŉ Ab ns Ab.size xs->Ŕ):
  Å8:=
 Q9 hh (.inl hl) hn (IL #[] hT) (λ h e=>M6 e) (λ _ _=>Ç8) h
end
end ST
namespace L4
open Ĉ Í
def FW Î{A:È9}{E:Aj}Ć{vs:Ai}{ns:Ê}(hI:Œ vs ns) (h2:2<=vs.length) (h64:vs.length<64):
  Core Ğ A E vs (λ out=>∃ ns',Œ out.toList ns'/\ns'.Perm ns/\ns'.Pairwise (·<=·)) s:=by
 obtain⟨v1,v2,rest,rfl⟩:∃ v1 v2 rest,vs=ł:=by
  match vs,h2 with
  | ł,_=>show#[v1,v2,rest,rfl]
 unfold Core;rw[keyKind_ints hI];exact Ah #[rfl,?_];exact za6 (wpS_sortRuns (a₀:=pairsOf (ł)) (st:=SortSt.mk' oneType' ((ł).toArray.zip (ł).toArray) ö 7 none)
   (Q:=λ _ st'=>(arrOf st').Perm (pairsOf (ł))/\failedOf st'=none/\SortedTo (arrOf st') (pairsOf (ł)).size)
   hI.intKeys #[Array.Perm.refl _,rfl,rfl,rfl] (by rw[pairsOf_size];simp) (by rw[pairsOf_size];show h64) λ st' a1 a2 a3=>#[a1,a2,a3]) ?_ λ _ _ e=>e
 rintro⟨⟨⟩,st'⟩ s' ⟨rfl,hp,hf,hs⟩;show#[rfl,hf,sorted_out hI hp hs,by rw[hp.size_eq,pairsOf_size]]
end L4
namespace L5
open Ĉ â L2 L3
open Í hiding St
structure Bq (mg:Aq):Prop where
 set:mg "set"=none
 zip:mg "zip"=none
 enumerate:mg "enumerate"=none
section
variable {š}{a b c e:Expr}{ta tb tc:zy}{pos:Pos}{fa fb fc:Ae}
def fP (f g:wx) (ta tb tc:zy):zy:=fun δ S Q=>ta δ S λ x S1=>tb δ S1 λ y S2=>f x y S2 λ z S3=>match z with
 | .bl k=>if k=true then tc δ S3 λ w S4=>g y w S4 Q else Q (.bl Ö) S3
 | _=>False
def fP.mo {f g:wx}Ţ:yG È0:=fun δ S Q Q' hq h=>
 ha δ S á (λ x S1 h=>hb δ S1 á (λ y S2 h=>hf x y S2 á (λ z S3 h=>by
  cases z <;> first
   | show qI (hc δ S3 á λ w S4 h=>hg y w S4 á hq h) (hq á) h
   | show h) h) h) h
theorem Nv {f g:wx}{r r':R2}(hr:vB K f r) (hr':vB K g r') Ţ {σ:St}{H:Hp}{Q:VK}(h:zY K È0 σ H Q):Ut r r' (zY K ta) (zY K tb) (zY K tc) σ H Q:=by
 let#[δ,S,r1,r2,h]:=h;exact zY.go ha r1 r2 h λ x S1 v H1 h1 q1 e1 p1=>?_;exact zY.go hb (r1.ext e1) p1 h1 λ y S2 w H2 h2 q2 e2 p2=>?_;exact hr v w x y H2 S2 _ (zj.ext e2 x q1) q2 p2 (hf x y S2 á (λ d S3 z v3 H3 q3 e3 p3=>?_) h2);cases d with
 | bl k=>
  simp![zj] at q3;exact#[k,q3,qI (λ z=>?_) (λ z=>?_) z]
  .exact zY.go hc (r1.ext (Ń)) p3 z λ w4 S4 v4 H4 h4 q4 e4 p4=>?_;show hr' w v4 y w4 H4 S4 Q (zj.ext (e3.trans e4) y q2) q4 p4 (hg y w4 S4 á (λ d S' z=>z.ext ((Ń).trans e4)) h4)
  .show z _ H3 Ę (Ń) p3
 | _=>show z.elim
@[simp] def Q6 (f g:T->T->Ē T) (fa fb fc:Ae):Ae:=fun Y=>(fa Y).bind λ x=>(fb Y).bind λ y=>(f x y).bind λ b=>match b with
 | .bl k=>if k=true then (fc Y).bind λ z=>g y z else ↑(.bl Ö)
 | _=>none
def qE {f g:T->T->Ē T}{F G:wx}(hf:Good2 zC f F) (hg:Good2 zC g G) (ha:xx fa ta) (hb:xx fb tb) (hc:xx fc tc):vf (Q6 f g fa fb fc) (fP F G ta tb tc):=λ S Z δ Y y Q hE e hq=>by
 let#[x1,e1,e]:=Ä7;let#[x2,e2,e]:=Ä7;let#[b,e3,e]:=Ä7;exact ha S Z δ Y x1 _ hE e1 λ d1 S1 s1 r1=>?_;exact hb S1 Z δ Y x2 _ (hE.grow s1) e2 λ d2 S2 s2 r2=>?_;exact hf S2 Z x1 x2 b d1 d2 _ (hE.grow (s1.trans s2)).zd (Vw.grow r1 s2) r2 e3 λ c S3 s3 r3=>?_;split at e
 .have:=r3.1;simp![Sn] at this;subst this;split at e
  .rename_i hk;let#[x4,e4,e5]:=Ä7;ext Ĵ;rw[Ê9 hk];exact hc S3 Z δ Y x4 _ (hE.grow (ĕ)) e4 λ d4 S4 s4 r4=>?_;show hg S4 Z x2 x4 y d2 d4 Q (hE.grow ((ĕ).trans s4)).zd (Vw.grow r2 (s3.trans s4)) r4 e5 λ c' S5 s5 r5=>hq c' S5 (((ĕ).trans s4).trans s5) (Cl.cl ((ĕ).trans s4) r5)
  .rename_i hk;ext Ĵ;rw[ň hk];cases e;show hq _ S3 (ĕ) À1
 .cases e
def sf {op op':CmpOp}{f g:wx}{r r':R2}(ho:xo X (compareOp op) r) (ho':xo X (compareOp op') r') (hr:vB X.K f r) (hr':vB X.K g r') (hf:p_ f) (hg:p_ g) đ (hc:PD X c tc)
  (hm:lastMarks [op,op'] [b,c]=Ö:=by with_unfolding_all rfl):PD X (.Compare a [op,op'] [b,c] pos) È0:=
 #[fP.mo hf hg ha.mo hb.mo hc.mo,PE.imp (Kh ho ho' ha.pe hb.pe hc.pe hm) λ _ _ _ h=>Nv hr hr' hf hg ha.mo hb.mo hc.mo h]
end
end L5
namespace L2
open Ĉ â Í
section
variable {Ż}
def KD:xo X (compareOp .Is) (λ x y H Q=>Á3):=by
 ext Ĩ;show is_bool #[.bl _,H,I,rfl,q]
def T9:xo X (compareOp .IsNot) (λ x y H Q=>Â2):=by
 ext Ĩ;show isnot_bool #[.bl _,H,I,rfl,q]
end
end L2
namespace L5
open Ĉ â L2 L3
open Í hiding St
section
variable {š}{a b c e o i v:Expr}{ď}{ta tb td ty tv:zy}{Í2}
def vH (neg:Bool):wx:=λ x y S Q=>match x,y with
 | .bl c,.bl d=>Q É3 S
 | x,.zk=>Q (.bl (cond neg (!fA x) (fA x))) S
 | _,_=>False
def wt (neg:Bool):T->T->Ē T
 | .bl c,.bl d=>↑ É3
 | x,.zk=>↑(.bl (cond neg (!isNone x) (isNone x)))
 | _,_=>none
def vH.mo {neg:Bool}:p_ (vH neg):=λ x y S Q Q' hq h=>by
 unfold vH at h ⊢;split at h
 .show hq á h
 .show hq á h
 .show h.elim
def vH.fits:vB K (vH Ö) (λ x y H Q=>(Á3)\/(y=.zk/\Q (.bl (decide (x=.zk))) H)):=λ x y d e H S Q h1 h2 h3 h=>by
 unfold vH at h;split at h
 ext À9
 ext ť
 .show h.elim
def vH.R6:vB K (vH true) (λ x y H Q=>(Â2)\/(y=.zk/\Q (.bl (!decide (x=.zk))) H)):=λ x y d e H S Q h1 h2 h3 h=>by
 unfold vH at h;split at h
 ext À9
 ext ť
 .show h.elim
def IZ {S:SS}{Z:Addr->Prop}{x:T}{d:D}(hx:Vw S Z x d):fA d=isNone x:=by
 cases x with
 | zk=>cases hx.zk;rfl
 | bl _=>cases hx.bl;rfl
 | int _=>cases hx.int;rfl
 | str _=>cases hx.str;rfl
 | tup _=>let#[ds,rfl,_]:=hx.tup;rfl
 | lst _=>obtain⟨ds,rfl | ⟨a,rfl,h1⟩,h2⟩:=hx.lst <;> rfl
 | wN=>let#[a,Aa,#[rfl,_],h1]:=hx.wN;rfl
 | err _ _ _=>let#[x,rfl,_]:=hx.err;rfl
def qV {neg:Bool}:Good2 zC (wt neg) (vH neg):=λ S Z x y z d e Q hz hx hy ef hq=>by
 unfold wt at ef;split at ef
 .cases ef;cases hx.bl;cases hy.bl;show hq _ S (.refl S) À1
 .cases ef;cases hy.zk;have key:Q (.bl (cond neg (!fA d) (fA d))) S:=by
   rw[IZ hx];show hq _ S (.refl S) À1
  unfold vH;cases d <;> show key
 .cases ef
def tK đ:PD X Ê0 (yT (vH true) ta tb):=aE È7
def um đ:yh X (.Compare a [.Is] [b] pos) (n_ (yT (vH Ö) ta tb)):=jh (KD.or KC) vH.fits vH.mo ha hb (m_ _)
def uk đ:yh X Ê0 (n_ (yT (vH true) ta tb)):=jh È7
def Qk (td ty tv:zy):yw:=λ E δ S=>tv δ S λ v S1=>td δ S1 λ x S2=>ty δ S2 λ y S3=>∃ p ds k j,x=Ì p/\y=ı k/\S3 p=↑(ī ds)/\o6 ds.length k=↑j/\E.nx δ (ups S3 p (ī (ds.set j v)))
theorem zw.set {H:Hp}{d:D}{x:V}(h:zj K H d x):∀ Ÿ Í3(j:Nat),zw K H ds xs->zw K H (ds.set j d) (xs.set j x)
 | [],xs,j,r=>by simp![zw] at r;subst r;show .nil
 | c::ds,xs,0,r=>by
  simp![zw] at r;let#[y,ys,rfl,_,r2]:=r;show Ł h r2
 | c::ds,xs,j+1,r=>by
  simp![zw] at r;let#[y,ys,rfl,r1,r2]:=r;show Ł r1 (zw.set h j r2)
def u9 (ho:PD X o td) (hi:PD X i ty) (hv:PD X v tv) (hs:swapsWithSole [Ċ] v pos.line Đ=pure Ö) (hw:swappedStores [Ċ] v Đ=pure none)
  (h1:(assignEach [Ċ] Đ).map (·.2)=[assign (Ċ) Đ])
  (ha:∀ v,assign (Ċ) Đ v=(do
   let ov <- holding [v] (eval o Đ)
   let iv <- holding [v,ov] (eval i Đ)
   standAt pos'
   holding [v,ov,iv] (setItem ov iv v)
   release [v,ov,iv] [])):yt X (.Assign [Ċ] v pos) (Qk td ty tv):=by
 exact#[λ E E' δ S hE z=>hv.mo δ S á (λ w S1 z=>ho.mo δ S1 á (λ x S2 z=>hi.mo δ S2 á (λ y S3 #[p,ds,k,j,a,b,c,d,h]=>#[p,ds,k,j,a,b,c,d,hE.nx á h]) z) z) z,PS.imp (Tc hv.pe (LG ho.pe hi.pe set_list ha) hs hw h1) λ D σ H hu=>?_];ext Ź;exact zY.go hv.mo r1 r2 z λ w S1 w1 H1 h1 q1 e1 p1=>?_;exact zY.go ho.mo (r1.ext e1) p1 h1 λ x S2 w2 H2 h2 q2 e2 p2=>?_;exact zY.go hi.mo ((r1.ext e1).ext e2) p2 h2 λ y S3 w3 H3 h3 q3 e3 p3=>?_;let#[p,ds,k,j,rfl,rfl,c1,c2,h]:=h3;simp![zj] at q2 q3;subst q2 q3;let#[xs,g1,g2]:=p3 á c1;have e4:Ext H3 (upd H3 p (ī (xs.set j w1))):=ī g1 _;exact#[p,xs,k,j,rfl,rfl,g1,by rw[<- g2.length];show c2,?_];show h σ _ ((((r1.ext e1).ext e2).ext e3).ext e4) ((Ń).trans e4) (p3.ups e4 #[_,yD,zw.ext e4 _ (zw.set (zj.ext (e2.trans e3) w q1) j g2)])
@[simp] def dR Í4 (f v:Ae):Sm:=fun Y=>(v Y).bind λ z=>(f Y).bind λ y=>match Y[n]?,y with
 | some ↑(.own (ī ts)),ı k=>(o6 ts.length k).map λ j=>.nx (Y.set n ↑(.own (ī (ts.set j z))))
 | _,_=>none
def sT {R:Rk}Í4 {f v:Ae}(hf:xx f ty) (hv:wY v tv):zJ R (dR n f v) (Qk (yq n) ty tv):=λ S0 Z0 S Z δ Y o E F e P=>by
 let#[z,e1,e]:=Ä7;let#[x,e2,e3]:=Ä7;split at e3
 .rename_i ts k h;let#[j,hj,rfl]:=Aw.mp e3;exact hv S Z δ Y z _ F.er e1 λ dz S1 s1 r1=>?_;have F1:=F.grow s1;let#[p,ob,h1,h2,h3,h4]:=F1.er.ow n _ h;cases ob with
  | lst ds=>
   change yq n δ S1 _;unfold yq;rw[h1];exact hf S1 Z δ Y á F1.er e2 λ d S2 s2 r2=>?_;cases Vw.int r2;have h5:zq (zK S2 Z) ts ds:=zq.sx (vy s2) ts h3;show#[p,ds,k,j,rfl,rfl,s2 á h2,by rw[h5.len];show hj,P _ Z δ ((F1.grow s2).mut (us:=ī (ts.set j z)) (es:=ī (ds.set j dz)) n h h1 (h5.U8 j (Sn.sx (vy s2) z r1)))]
  | _=>show h3.elim
 .cases e3
def Kw {x y:Str}{u:į}(hm:X.mg x=↑u) (r:RelV (.str y) u) (hg:Gl X x) (hd:(x == ("__debug__":Str))=Ö):PD X (.Name x pos) (dC (.str y)):=dw (Tq hg hm r hd) λ _=>by simp![zj]
end
end L5
namespace ZP
open Ĉ Í
def XM À4:String:=cond k "tuple_iterator" "list_iterator"
def SI Æ9 À4 (it l:Addr) (i:Nat):Prop:=∃ o,É0 it=↑o/\o.cls=î (XM k)/\o.data=.fields [Ì l,ı i 0].toArray
def SQ Æ9 À4 Ŭ (xs:AE):Prop:=match k with
 | true=>h.IsTuple l xs
 | Ö=>h.IsList l xs
def SI.on Í1 Ç1{it l:Addr}{i:Nat}(x:SI h k it l i) (f:∀ o,É0 it=↑o->ų it=↑o):SI h' k it l i:=
 let #[o,ho,r]:=x;È2
def SQ.on Í1 ć(x:Ë7) (f:∀ o,É0 l=↑o->ų l=↑o):SQ h' k l xs:=by
 cases k with
 | true=>let#[o,ho,r]:=Ž;show È2
 | Ö=>let#[o,ho,r]:=Â1;show È2
def SQ.lt È1 ć(x:Ë7):l<h.objs.size:=by
 cases k with
 | true=>let#[o,ho,_]:=Ž;show Ar ho
 | Ö=>let#[o,ho,_]:=Â1;show Ar ho
theorem SQ.cls È1 ć(x:Ë7):∃ o,É0 l=↑o/\o.cls=î (cond k "tuple" "list"):=by
 cases k with
 | true=>let#[o,ho,c,_]:=Ž;show#[o,ho,c]
 | Ö=>let#[o,ho,c,_]:=Â1;show#[o,ho,c]
section
variable {Î}{A:È9}{E:Aj}{Ć}
def made ć Æ7(hl:Â3)
  (hQ:Q (Ŵ) { s with heap:=Ï { cls:=î (XM k),data:=È3 } }):ý È (pyIter ŝ) Ř:=by
 cases k with
 | true=>show zd0 hl hQ
 | Ö=>show zcY hl hQ
def F6 ġ{x:į}Æ7 Ŗ (hx:ŵ)
  (hQ:∀ h',h'.IsTupleIter it l (i+1)->À5):Ĳ:=by
 ext ú;have there:=za8 (Obj.mapFields λ y=>y.setIfInBounds 1 (À7 ((i:Int)+1))) e1 (Obj.isFreed_of_fields (Obj.data_mapFields e3 _));exact tp (zcK e1 e3 #[] (Ah #[x,rfl,Ah (hQ _ #[_,there,(Obj.cls_mapFields ..).trans e2,?_] (ø ..))]));rw[Obj.data_mapFields e3];simp[À7]
def Fq ġ Æ7 Ý Ŗ ð:Ĳ:=by
 ext ú;exact tp (wpAny_rule (tp (zcK e1 e3 #[] ?_)));exact tp (m:=newExc (ũ) []) ?_;simp![newExc,newTuple];exact tp (zaB (ï) (by size_fits));simp![raiseNew];ext ű;show tp (Ah (wpAny_throw (hE á Ç2 Ë0)))
def draw Ç1 ġ{x:į}Æ7 Ê2 (hx:ŵ)
  (hQ:∀ h',SI h' k it l (i+1)->À5):Ĳ:=by
 cases k with
 | true=>show F6 hit hl hx hQ
 | Ö=>show wpAny_nextOf_list_item hit hl hx hQ
def Zy Ç1 ġ Æ7 Ý Ê2 ð:Ĳ:=by
 cases k with
 | true=>show Fq hh hit hl hx hE
 | Ö=>show wpAny_nextOf_list_end hh hit hl hx hE
structure ZY (z TI TO i1 i2 l1 l2:Addr):Prop where
 nd:[z,TI,TO,i1,i2].Nodup
 f1:l1∉ Ë
 f2:l2∉ Ë
structure At Æ9 É8 (z TI TO i1 i2 l1 l2:Addr) (f0:į) Í4:Prop where
 z:IsZip h z TI TO f0
 ti:Ë8 h TI (Ì i1) (Ì i2)
 to:∃ a b,Ë8 h TO a b
 s1:SI h k1 i1 l1 n
 s2:SI h k2 i2 l2 n
def At.keep Í1 ĩ{f0:į}{n:Nat}(S:At h k1 k2 é f0 n) (f:∀ b∈ Ë,∀ o,É0 b=↑o->ų b=↑o):At h' k1 k2 é f0 n:=
 #[f z #[] _ S.z,f TI #[] _ S.ti,let #[a,b,e]:=S.to;#[a,b,f TO #[] _ e],S.s1.on (f i1 #[]),S.s2.on (f i2 #[])]
def item ĩ{n:Nat}{xs ys:AE}{x y:į}Æ8 Ģ (hx:xs[n]?=↑x) (hy:ys[n]?=↑y)
  (hQ:∀ h',At h' k1 k2 é (À7 À) (n+1)->Ë8 h' À x y->Ė->Q ↑(Ŵ) { s with heap:=h' }):
  ý È (pyNext Ë9) Ř:=by
 let#[nd,f1,f2]:=D;ext Ç;ext Õ;ext Æ;replace to3:Ë8 g3 TO x b:=to3;ext í;exact tp (tp (Æ3 (tp (m:=Ú (Ì i2)) (draw Ĝ λ g4 s24 e4=>Ah ?_))));have to4:Ë8 g4 TO x b:=Ì0 á n9 to3;exact tp (zcL to4 rfl (tp (wpAny_updateSeq_pair to4 λ g5 to5 e5=>tp (wpAny_letGo (Ah ē)))));replace to5:Ë8 g5 TO x y:=to5;exact tp (zcL to5 rfl (tp (wpAny_newTuple ?_)));have sz:Ī=À:=by rw[e5.1,e4.1,e3.1,e2.1,e1.1]
 have hz5:IsZip g5 Ŏ:=À2 á n2 (Ì0 Á5);have up5:∀ c o,c∉ Ë->Ó c=↑o->g5.get? c=↑o:=λ c o hc q=>by
  ext ĸ;show À2 á hc.2.2.1 (Ì0 ż)
 have ti5:Ë8 g5 TI (Ì i1) (Ì i2):=À2 á n5 (Ì0 á n7 (up á (ò n1) n6 n5 hti));have s15:SI g5 k1 i1 l1 (n+1):=s12.on λ o q=>À2 á (ò n8) (Ì0 á n10 (Ì1 á (ò n8) q));have s25:SI g5 k2 i2 l2 (n+1):=s24.on λ o q=>À2 á (ò n9) q;have lz:z<Ī:=Ar hz5;exact tp (m:=Builtin.SmallTypes.ownedTupleHandOut Ë9 (Ì Ī)) ?_;have hz6:IsZip (ž) Ŏ:=za1 _ hz5;exact tp (zcW hz6 #[] λ g7 hz7 e7=>?_);replace hz7:IsZip g7 z TI TO (À7 Ī):=hz7;exact zcW hz7 #[] λ g8 hz8 e8=>?_;replace hz8:IsZip g8 z TI TO (À7 Ī):=hz8;have up8:∀ c o,c≠z->(ž).get? c=↑o->g8.get? c=↑o:=λ c o c1 q=>e8.extBut á c1 (e7.extBut á c1 q);have T8:Ë8 g8 Ī x y:=up8 á (BS lz) (İ);have up9:∀ c o,c≠z->g5.get? c=↑o->g8.get? c=↑o:=λ c o c1 q=>up8 c o c1 (za1 _ q);rw[sz] at hz8 T8;exact Ah #[Ì Ī,rfl,Ah ?_];change Q ↑(Ì Ī) _;rw[sz];exact hQ g8 #[hz8,up9 á (ò n1) ti5,#[x,y,up9 á (ò n2) to5],s15.on λ o q=>up9 _ o (ò n3) q,s25.on λ o q=>up9 _ o (ò n4) q] T8 λ c o hc q=>up9 c o (λ e=>hc (by simp[e])) (up5 c o hc q)
def stop ĩ{n:Nat}{xs ys:AE}Æ8 Ý Ģ (hend:xs[n]?=none\/ys[n]?=none)
  (hQ:∀ h',Ė->Q none { s with heap:=h' }):
  ý È (pyNext Ë9) Ř:=by
 let#[nd,f1,f2]:=D;ext Ç;have fin:∀ (h':Heap) (e:Addr),Ė->(∃ o,ų e=↑o/\o.cls=ũ)->
   ý È (do if <- isInstance (Ì e) (ũ) then pure none else throw (Ì e)) Q E { s with heap:=h' }:=λ h' e k1 k2=>by
  let#[o,ho,hc]:=k2;show tp (À0 ŗ (Ah (hQ _ k1)))
 ext Õ;cases hx:xs[n]? with
 | none=>
  exact tp (tp (Æ3 (tp (m:=Ú (Ì i1)) (Zy hh Į λ g2 ex e2 he=>?_))));have hz2:IsZip g2 Ŏ:=e2 á n3 hz1;let#[oe,q1,q2]:=he;have ne:ex≠z:=λ q=>by subst q;rw[hz2] at q1;cases q1;simp at q2
  exact zcW hz2 #[] λ g3 _ e3=>fin g3 ex (λ c o hc q=>?_) #[oe,Ì1 á ne q1,q2];ext ĸ;show Ì1 á hc.1 (e2 á hc.2.2.2.1 (Ì2 á hc.1 q))
 | some x=>
  have hy:ys[n]?=none:=hend.resolve_left (by rw[hx];simp);ext Æ;ext í;exact tp (tp (Æ3 (tp (m:=Ú (Ì i2)) (Zy hh Ĝ λ g4 ex e4 he=>?_))));have hz4:IsZip g4 Ŏ:=e4 Á5;let#[oe,q1,q2]:=he;have ne:ex≠z:=λ q=>by subst q;rw[hz4] at q1;cases q1;simp at q2
  exact zcW hz4 #[] λ g5 _ e5=>fin g5 ex (λ c o hc q=>?_) #[oe,À2 á ne q1,q2];ext ĸ;show À2 á hc.1 (e4 ż)
end
abbrev nQ À4 Ŭ:Obj:={ cls:=î (XM k),data:=È3 }
abbrev fD þ:Heap:=(h.push Ã1).push (nQ k2 l2)
abbrev Zm þ:Heap:=(fD Â9).push { cls:=ō,data:=.seq [Ì h.objs.size,Ì (h.push Ã1).objs.size].toArray }
abbrev Zl þ:Heap:=(Zm Â9).push { cls:=ō,data:=.seq [Ë3,Ë3].toArray }
abbrev fC þ:Heap:=(Zl Â9).push { cls:=î "zip",data:=.fields [Ë3,.bool Ö,.bool Ö,Ì (fD Â9).objs.size,Ì (Zm Â9).objs.size].toArray }
def JO É8 (l1 l2:Addr) (xs ys:AE):Meets (Builtin.«zip.__new__» #[[î "zip",Ì l1,Ì l2],[]]) (λ _ R s=>SQ Ò k1 l1 xs/\SQ Ò k2 l2 ys/\
   R (.ok (.ret (Ì È4))) { s with heap:=fC å }):=
 .of_wp λ prog w A R s h=>by
  ext ĵ;let#[q1,q2,h]:=h;have hsub:=sub_zip;have m1:SQ Ã3 k1 l1 xs:=q1;have m2:SQ (Shared.heap #[hp.push Ã1,g,d,tk,os]) k2 l2 ys:=q2.on λ o e=>za1 _ e
  wp_walk using made m1,made m2
  show ń
section
variable {Î}{A:È9}{E:Aj}{Ć}
def new {k1 k2:Bool}{l1 l2:Addr}{xs ys:AE}Æ7 Ã0
  (h:∀ h' z TI TO i1 i2,(∀ b∈ Ë,À<=b)->ZY é->At h' k1 k2 é Ë3 0->(∀ c o,Ó c=↑o->ų c=↑o)->Q Ë9 { s with heap:=h' }):
  ý È (call (î "zip") [Ì l1,Ì l2]) Ř:=by
 exact callType_new F.called_zip () (F.typeCall_zip_2 á) (F.newCall_zip_2 á) (λ obj=>F.args_object_init_3 obj á) F.entry_zip_new (JO k1 k2 l1 l2 xs ys) #[h1,h2,?_];have z1:(Ï Ã1).objs.size=À+1:=Ŀ ..;have z2:(fD å).objs.size=À+2:=by rw[Ŀ,z1]
 have z3:(Zm å).objs.size=À+3:=by rw[Ŀ,z2]
 have z4:È4=À+4:=by rw[Ŀ,z3]
 have p1:∀ Æ9 (o:Obj),o.isFreed=Ö->(h.push o).get? h.objs.size=↑o:=λ h o e=>AO _ e;have u:∀ È1{b:Addr}{o:Obj}(o':Obj),É0 b=↑o->(h.push o').get? b=↑o:=λ o' e=>za1 _ e;have g5:Â4 È4=↑_:=p1 á rfl;have g4:Â4 (Zm å).objs.size=↑_:=Â5;have g3:Â4 (fD å).objs.size=↑_:=u _ (Â5);have g2:Â4 (Ï Ã1).objs.size=↑(nQ k2 l2):=u _ (u _ (Â5));have g1:Â4 À=↑ Ã1:=u _ (u _ (u _ (Â5)));have a1:=h1.lt;have a2:=h2.lt;rw[z2,z3,z4] at g5;rw[z1,z2] at g3;rw[z3] at g4;rw[z1] at g2;generalize hN:À=N at *;have lt:∀ {m:Nat},m<N->∀ j:Nat,¬ m=N+j:=λ hm j=>⋯;have ne:∀ {i j:Nat},i≠j->¬ (N+i=N+j):=λ A_ e=>A_ ⋯;change _/\_;rw[z4];exact#[#[_,g5,rfl],h _ (N+4) (N+2) (N+3) N (N+1) (λ b hb=>?_) #[?_,?_,?_] #[g5,g3,#[_,_,g4],#[_,g1,rfl,rfl],#[_,g2,rfl,rfl]] λ c o e=>u _ (u _ (u _ (u _ (u _ e))))]
 .ext ñ;have h0:N<=N:=Ap N;ext Ç6
  .show zaW N 4
  .show zaW N 2
  .show zaW N 3
  .show h0
  .show zaW N 1
 .have e0:∀ {i:Nat},i≠0->¬ (N+i=N):=λ hi e=>hi ⋯;have e0':∀ {i:Nat},i≠0->¬ (N=N+i):=λ hi e=>hi ⋯;simp![BR,Ao,A4,Æ4,not_or,List.nodup_nil,and_true,not_false_eq_true];show#[#[ne (),ne (),e0 (),ne ()],#[ne (),e0 (),ne ()],#[e0 (),ne ()],e0' ()]
 .simp![Ao,A4,Æ4,not_or];show#[lt a1 4,lt a1 2,lt a1 3,AG a1,lt a1 1]
 .simp![Ao,A4,Æ4,not_or];show#[lt a2 4,lt a2 2,lt a2 3,AG a2,lt a2 1]
end
end ZP
namespace L2
open Ĉ â Í ZP
section
variable {Ż}{gV:Am}{σ:St}{H:Hp}{Ć}
def Inv.b_ {h':Heap}{t':Nat}{fp:List Addr}Å0 (k:∀ b o,b∉fp->æ) (hf:∀ b∈fp,ml X gV H b):Inv X gV σ H { s with heap:=h',toks:=t' }:=by
 have nit:∀ b u,H b=↑u->b∉fp:=λ b u e z=>by rw[(hf b z).1] at e;cases e
 exact I.step (g':=s.gens) (d':=s.drawn) (ch:=fp) (λ b hb=>?_) (λ b o _ _ hc e _=>k b o hc e) (λ b o _ _ hc e _=>#[o.slots,k b o hc e]) (λ _ _ _ _ n=>n)
  (λ b o hc e=>#[o,k b o hc e]) (λ _ _ e=>e) (λ _ _ _ e=>e) (λ b ps e=>#[ö,by rw[e];simp]) (λ m hm=>?_) (λ b u e=>?_) I.bare
 .let#[_,q1,_,q2,q3,q4]:=hf b hb;show#[q2,q1,q3,q4]
 .let#[o,es,ep,ho,r]:=hm;show#[o,es,ep,k _ o (λ z=>(hf _ z).2.1 rfl) ho,r]
 .exact (I.zv b u e).oZ (λ c v hc q=>k c v ?_ q) (λ _ q=>q) λ _ _ q=>q;rcases hc with z | z
  .rw[z];show nit b u e
  .show nit c _ z
def pL (K:Ac) (H:Hp) À4 Ê7 (xs:List V):Prop:=match k with
 | true=>yJ K H a xs
 | Ö=>yj K H a xs
def pL.of Å0 Ç1 Ě Í3(h:pL X.K H k a xs):∃ Ab:List į,Vals xs Ab/\SQ Ò k a ĥ:=by
 cases k with
 | true=>let#[Ab,rv,p,_]:=I.tuple h;show#[Ab,rv,p]
 | Ö=>let#[Ab,rv,p,_]:=I.list h;show#[Ab,rv,p.isList]
def pL.inj Å0 Ç1 Ě{xs ys:List V}(h:pL X.K H k a xs) (h':pL X.K H k a ys):xs=ys:=by
 cases k with
 | true=>show I.Y8 h h'
 | Ö=>show I.X8 h h'
def PL (K:Ac) É8 (a1 a2:Addr):It:=
 #[λ i H=>∃ xs ys x y,Ì3/\Ì4/\ŵ/\ys[i]?=↑y,
   λ i H v H'=>∃ p x y,v=Ì p/\H p=none/\H'=upd H p (É4)/\(∀ xs,Ì3->ŵ)/\∀ ys,Ì4->ys[i]?=↑y,
   λ i H=>∃ xs ys,Ì3/\Ì4/\(à<=i\/ys.length<=i)]
def N3 {P:Program}À3{K:Ac}ď{kk} {pos:Pos}{k1 k2:Bool}{z TI TO i1 i2 a1 a2:Addr}(D:ZY z TI TO i1 i2 a1 a2):
  Turn P w K (.Tuple es kk pos) (PL K k1 k2 a1 a2) Ë z (λ i h=>At h k1 k2 z TI TO i1 i2 a1 a2 Ë3 i) where
 mem:=#[]
 obj:=λ i h st b hb=>by
  let#[q1,q2,#[_,_,q3],#[o1,q4,_,d1],#[o2,q5,_,d2]]:=st;ext ñ;ext Ç6
  .show#[_,q1,Â6]
  .show#[_,q2,Â6]
  .show#[_,q3,Â6]
  .show#[_,q4,Ì5]
  .show#[_,q5,λ v z=>by rw[d2] at z;cases z]
 keep:=λ i h h' st k=>st.keep k
 item:=by
  ext ß;let#[xs,ys,x,y,g1,g2,hx,hy]:=hg;ext ţ;let#[u1,e1,r1]:=rv1.get hx;let#[u2,e2,r2]:=rv2.get hy;exact ZP.item D st q1 q2 (x:=u1) (y:=u2) (by exists e1) (by exists e2) λ h' S' T' up=>#[_,rfl,?_];exact wpAny_letOwnedTupleGo_zip S'.z λ h2 z2 sb=>?_;have nT:À ∉ Ë:=λ hb=>by
   let#[o,ho,_]:=(show ∃ o,Ó À=↑o/\True from by
    let#[w1,w2,#[_,_,w3],#[o1,w4,_],#[o2,w5,_]]:=st;ext ñ;rcases hb with e | e | e | e | e <;> rw[e]
    .show#[_,w1,Ç8]
    .show#[_,w2,Ç8]
    .show#[_,w3,Ç8]
    .show#[_,w4,Ç8]
    .show#[_,w5,Ç8])
   show absurd (Ar ho) (zE1 _)
  have nz:À ≠z:=λ e=>nT (by simp[e]);have fr:H À=none:=ā;have I1:Inv X gV σ (upd H À (É4)) { s with heap:=Á0,toks:=Ŝ }:=
   I.laid (o:=É4) (λ b u q=>za1 _ q) (Ap _) #[Å3,[u1,u2],Ł r1 (Ł r2 .nil),IsTup.new á]
  have hf':∀ b∈ Ë,upd H À (É4) b=none:=λ b hb=>by
   rw[zX (λ e=>nT (by rw[<- e];show hb))];show (hf b hb).1
  have kk:∀ b o,b∉ Ë->(Á0).get? b=↑o->h2.get? b=↑o:=λ b o hb q=>by
   have hbz:b≠z:=λ e=>hb (by simp[e]);by_cases hbs:b=À
   .subst hbs;rw[İ] at q;cases q;show Ť á nz T'
   .ext ş
    show Ť á hbz (up b o hb q')
  have I2:=Inv.b_ (h':=h2) (t':=Ŝ) (fp:=Ë) Å1;exact#[Ŵ,_,I2,rfl,#[_,x,y,rfl,fr,rfl,Ä8,λ zs hz=>by rw[hz.inj I g2];show hy],#[z2,?_,?_,?_,?_],hf']
  .ext Þ;show Ť á (ò nd.1.1) S'.ti
  .let#[a,b,e]:=S'.to;ext Þ;show#[a,b,Ť á (ò nd.1.2.1) e]
  .ext Þ;show S'.s1.on λ o q=>Ť á (ò nd.1.2.2.1) q
  .ext Þ;show S'.s2.on λ o q=>Ť á (ò nd.1.2.2.2) q
 done:=by
  ext ß;let#[xs,ys,g1,g2,hx]:=hg;ext ţ;have l1:=rv1.length;have l2:=rv2.length;exact ZP.stop (ŋ) D st q1 q2 ?_ λ h' up=>#[rfl,I.b_ (t':=Ŝ) up hf];rcases hx with hx | hx
  .show .inl Ã9
  .show .inr Ã9
 self:=λ _ _ _ _ _ st h=>wpAny_pyIter_zip st.z h
def Hx (K:Ac) (ta:TA):TI:=fun σ H R=>ta σ H λ vs H1=>∃ a1 a2 k1 k2,vs=[Ì a1,Ì a2]/\(∃ xs,pL K H1 k1 a1 xs)/\(∃ ys,pL K H1 k2 a2 ys)/\R (PL K k1 k2 a1 a2) H1
theorem L7 {a b:Expr}{ta:TA}{p pos pos':Pos}ď{kk} (hg:Gl X "zip") (hm:X.mg "zip"=none) (ha:PA X [a,b] ta) (hs:œ:=by rfl) (hs2:Ū [b] Đ=[Ê1]:=by rfl):
  PI ř (Hx X.K ta):=by
 intro gV s σ H R I h;exact Call_ (iK I hg hm boot_zip (Ì6 Ķ (by rw[hs,hs2]) (by rw[hs2];rfl)));let#[a1,a2,k1,k2,rfl,#[xs,g1],#[ys,g2],q]:=q1;cases r1 with
 | cons r rr=>
  cases rr with
  | cons r' rr=>
   cases rr;cases r;cases r';let#[it1,_,q1]:=g1.of I1;let#[it2,_,q2]:=g2.of I1;exact ZP.new q1 q2 λ h' z TI TO i1 i2 nw D S up=>wpAny_pyIter_zip S.z ?_;show#[z,Ë,_,_,H1,rfl,I1.kept (t':=s1.toks) up,N3 D,S,Ŷ,q]
end
end L2
namespace L5
open Ĉ â L2 L3
open Í hiding St
section
variable {K:Ac}{a:Expr}{p:Pos}
def SD (t:ya):pz:=fun δ S R=>t δ S λ ds S1=>∃ d e xs ys,ds=[d,e]/\yu d S1=↑xs/\yu e S1=↑ys/\R #[Â7 Á4 xs ys,λ S=>yu d S=↑xs/\yu e S=↑ys] S1
def dW:D->Bool
 | .tup _=>true
 | _=>Ö
def yu.k {H:Hp}{S:SS}{d:D}{v:V}Ÿ(r:zj K H d v) (p:yb K H S) (e:yu d S=↑ds):∃ a xs,v=Ì a/\pL K H (dW d) a xs/\zw K H ds xs:=by
 by_cases q:∃ ts,d=Ë5
 .let#[ts,rfl]:=q;cases e;simp![zj] at r;let#[a,xs,h1,h2,h3]:=r;show#[a,xs,h1,h2,h3]
 .let#[a,xs,h1,h2,h3]:=iy r p e λ ts z=>q #[ts,z];exact#[a,xs,h1,?_,h3];have:dW d=Ö:=by cases d <;> first | rfl | show absurd #[_,rfl] q
  rw[this];show h2
end
section
variable {Ż}{a b:Expr}{tA:ya}{Í2}{ď}{kk:Nat}
def uF (hm:X.mg "zip"=none) (ha:y6 X [a,b] tA) (hg:Gl X "zip") (hs:œ) (hs2:Ū [b] Đ=[Ê1]):
  xW ř (SD tA):=by
 exact#[fun δ S Q Q' hq z=>ha.mo δ S á (λ ds S1 #[d,e,xs,ys,h1,h2,h3,h4]=>#[d,e,xs,ys,h1,h2,h3,hq á h4]) z,PI.imp (L7 hg hm ha.pa hs hs2) fun σ H R hu=>?_];ext ğ;let#[d,e,xs,ys,rfl,s1,s2,h]:=h1;let#[v,u,rfl,d1,d2]:=q1.two;ext Ã5;let#[a2,ws,rfl,g3,g4]:=yu.k d2 p1 s2;exact#[a1,a2,dW d,dW e,rfl,#[us,g1],#[ws,g3],Ä9];let#[b1,us2,q1,m1,m2]:=yu.k (zj.ext x1 d d1) x2 hk.1;cases q1;let#[b2,ws2,q2,m3,m4]:=yu.k (zj.ext x1 e d2) x2 hk.2;cases q2;have l1:=m2.length;have l2:=m4.length;exact#[λ dd hd=>?_,λ hl=>#[us2,ws2,m1,m3,?_]]
 .rw[List.getElem?_zipWith] at hd;split at hd
  .rename_i dx dy hx hy;cases hd;let#[x,hx',rx]:=m2.get hx;let#[y,hy',ry]:=m4.get hy;exact#[#[us2,ws2,x,y,m1,m3,hx',hy'],λ v H' q=>?_];let#[pp,x',y',rfl,hp,rfl,f1,f2]:=q;ext ŏ
   have ey:y'=y:=by have:=f2 _ m3;rw[hy'] at this;show (BA this).symm
   subst ex ey;ext Ç7;show#[pp,_,rfl,yJ.of yD,zw.ext (Ō) _ (Ł rx (Ł ry .nil))]
  .cases hd
 .have hl':(Â7 Á4 xs ys).length<=i:=hl;rw[List.length_zipWith] at hl';lia
@[simp] def Yx:ū->Ē (ū)
 | [x,y]=>(oM x).bind λ xs=>(oM y).map λ ys=>Â7 (λ a b=>T.tup [a,b]) xs ys
 | _=>none
theorem U0 {S:SS}:∀ {ts us:ū}{ds es:List D},zq S ts ds->zq S us es->zq S (Â7 (λ a b=>T.tup [a,b]) ts us) (Â7 Á4 ds es)
 | [],us,ds,es,h,h'=>by simp![zq] at h;subst h;exists zq.nil
 | t::ts,[],ds,es,h,h'=>by simp![zq] at h';subst h';exists zq.nil
 | t::ts,u::us,ds,es,h,h'=>by
  simp![zq] at h h';let#[c,cs,rfl,h1,h2]:=h;let#[c',cs',rfl,h3,h4]:=h';show zq.cons (gQ (zq.cons h1 (zq.cons h3 zq.nil))) (U0 h2 h4)
def yu.sx {S S':SS}{d:D}Ÿ(h:yu d S=↑ds) (s:Sx S S'):yu d S'=↑ds:=by
 unfold yu at h ⊢;split at h
 .show h
 .show h
 .split at h
  .rename_i q;cases h;rw[s á q]
  .cases h
 .cases h
def r9 Í5(h:jS g tA):kQ Ö (vh Yx g) (SD tA):=λ S Z δ Y ts Q hE e hq=>by
 ext ê;unfold Yx at e2;split at e2
 .let#[xs,e3,e4]:=Ak.mp e2;let#[zs,e5,rfl]:=Aw.mp e4;let#[d,d',rfl,h1,h2]:=Y3 r1;let#[es,g1,g2]:=h1.seq e3;let#[es',g3,g4]:=h2.seq e5;show#[d,d',es,es',rfl,g1,g3,hq _ S1 s1 (U0 g2 g4) λ S'' s=>#[yu.sx g1 s,yu.sx g3 s]]
 .cases e2
theorem yu.zK {S:SS}{Z:Addr->Prop}{y:T}{d:D}{ts:ū}(h:Sn (zK S Z) y d) (e:oM y=↑ts):∃ ds,yu d (zK S Z)=↑ds/\zq (zK S Z) ts ds:=by
 cases y with
 | tup us=>cases e;simp![Sn] at h;let#[ds,rfl,h2]:=h;show#[ds,rfl,h2]
 | lst us=>
  cases e;simp![Sn] at h;obtain⟨ds,⟨rfl,_⟩ | ⟨a,rfl,h1⟩,h2⟩:=h
  .show#[ds,rfl,h2]
  .show#[ds,by unfold yu;ext Ĵ;rw[h1],h2]
 | _=>cases e
end
end L5
namespace TM
open Ĉ Í
theorem Ry {α:Type}(xs:List α):∀ (m:Nat) (acc:Array α),(Ø m xs.toArray).foldl (·++·) acc=acc++(Ø m xs).flatten.toArray
 | 0,acc=>#[]
 | m+1,acc=>by
  rw[zaG,zbV,Ry xs m,zaG,zaO,zc1];simp
end TM
namespace L5
open Ĉ â L2 L3
open Í hiding St
section
variable {K:Ac}
theorem zw.rep {H:Hp}Ÿ Í3(h:zw K H ds xs):∀ n:Nat,zw K H (Ø n ds).flatten (Ø n xs).flatten
 | 0=>.nil
 | n+1=>by
  rw[zaG,zaG,zaO,zaO];show h.append (zw.rep h n)
theorem zq.rep {S:SS}{ts:ū}Ÿ(h:zq S ts ds):∀ n:Nat,zq S (Ø n ts).flatten (Ø n ds).flatten
 | 0=>.nil
 | n+1=>by
  rw[zaG,zaG,zaO,zaO];show h.append (zq.rep h n)
end
end L5
namespace L4
open Ĉ Í
section
variable {Î}{A:È9}{E:Aj}{Ć}
def FZ {l:Addr}{vs:Ai}{Q:List į->û}(hl:IsTup Ò l È5) (hz:vs.length<=ù)
  (h:Q vs { s with heap:=Ă }):ý È (collect ŝ) Ř:=by
 let#[o,ho,hc,n,hd]:=id hl;have new:(Ï Û).get? À=↑ Û:=İ;have ho':(Ï Û).get? l=↑o:=za1 _ ho;unfold collect;exact tp (wpAny_runValue (Á9 entry_proto_collect' (tp (m:=newList []) (wpAny_newList (Ah #[Code.quiet_builtin _ (AU),Á9 entry_list_iadd' ?_])))));change ý á (Ġ (Ŵ) ŝ (Ŵ)) á { s with heap:=Ï Û };unfold Ġ;exact tp (zcU (T:="tuple") #[o,ho',hc] ?_);rw[Ê9 (by rw[show (Value.type "tuple" == Value.type "tuple")=true from rfl];simp)];exact tp (listItems_at ho' hd (tp (listItems_at (xs:=ö) (n:=0) new Ç5)));rw[ň #[]];exact tp (listUpdate_at (xs:=ö) (n:=0) new rfl ē (A0 _) (by change (ö++È5).size<=ù+1;simp![Array.size_append,AN,zbD];lia));exact tp (m:=load À) (wpAny_load (get?_update_seq new _) ?_);change ý á (pure ((ö:AE)++È5).toList) Q E _;have e:((ö:AE)++È5).toList=vs:=#[];rw[e];show Ah h
end
section
open L2 â
variable {Ż}
def U_ Ć{vs:Ai}:∀ b o,¬ False->Ó b=↑o->(Ă).get? b=↑o:=λ b o _ q=>by
 rw[zcV á á (AG (Ar q))];show za1 _ q
theorem Er:xR X Ä5 (λ xs H Q=>∃ p ys,∃ rows:Ā,Æ0/\É1/\jQ X.K H ys rows/\Ļ<64/\b8 (Ä4) H Q):=by
 ext Ś;have hl:(Ä4).length<64:=Ë4
 have sz:∀ vs:List į,À<=(Ă).objs.size:=λ vs=>by rw[Heap.size_update,size_push'];show zaX _
 rcases hq with hq | hq
 .ext Í6;show YK I (λ Q' h=>collect_list pl.isList (h _ Ŝ U_ (sz Ab)) Ê4) (VR.of rv hr) hl q
 .let#[Ab,rv,pl,hz]:=I.tuple hq;show YK I (λ Q' h=>FZ pl Ê4 (h _ Ŝ U_ (sz Ab))) (VR.of rv hr) hl q
end
end L4
namespace L5
open Ĉ â L2 L3
open Í hiding St
section
variable {š}{e:Expr}{ď}{tA:ya}{pos p:Pos}
def j9:vm:=λ ds S Q=>∃ d,∃ rows:Ā,ds=[d]/\yu d S=↑(rows.map nc)/\Ļ<64/\(∀ r∈rows,r≠[])/\∀ l,S l=none->Q ŝ (ups S l (ī ((L4.vF rows).map nc)))
def gO:Al
 | [y]=>(oM y).bind λ ts=>(o_ ts).bind λ rs=>if É5 then ↑(ī ((L4.vF rs).map wj)) else none
 | _=>none
def qN:nH zC gO j9:=λ S Z ys z ds Q hz hv e hq=>by
 unfold gO at e;split at e
 .ext ŕ;let#[ts,e0,e]:=Ä7;let#[rs,e1,e2]:=Ä7;split at e2
  .rename_i hc;cases e2;cases YU e1;let#[es,h2,h3]:=h1.seq e0;cases gP.mp h3;show#[d,rs,rfl,h2,hc.1,hc.2,ŭ]
  .cases e2
 .cases e
def j9.mo:nG j9:=λ ds S Q Q' hq #[d,rows,h0,h1,h2,h3,h4]=>#[d,rows,h0,h1,h2,h3,λ l hl=>hq á (h4 l hl)]
def xR.or {f:į}{r r':List V->Hp->VK->Prop}(h:xR X f r) (h':xR X f r'):xR X f (λ xs H Q=>r xs H Q\/r' xs H Q):=λ gV s σ H xs us Q I rv q=>
 q.elim (λ q=>h gV s σ H xs us Q I rv q) λ q=>h' gV s σ H xs us Q I rv q
def j9.fits:mS K j9 (λ xs H Q=>∃ p ys,∃ rows:Ā,Æ0/\(yj K H p ys\/yJ K H p ys)/\L4.jQ K H ys rows/\Ļ<64/\L4.b8 (Ä4) H Q):=λ xs ds H S Q h0 h2 h=>by
 let#[d,rows,rfl,e,h64,AD,h]:=h;ext ě;let#[a,ys,rfl,g1,g2]:=yu.sq h1 h2 e;have hl:=g2.length;rw[AQ] at hl;exact#[_,ys,rows,rfl,g1,ax g2 AD,h64,λ l ps hf hp hs=>?_];have heq:=L4.Ux (rows:=rows) (by have:=hp.map (·.2);rwa [List.map_snd_zip ⋯] at this) hs;have hx:Ext H (upd H l (ī (Æ1))):=.new hf _;exact h l (h2.none hf) á Ę hx (h2.ups hx #[_,yD,?_]);rw[<- heq];show zw.ext hx _ (zw.aD λ q hq=>zw.bP g2 q (hp.mem_iff.mp hq))
def uW (hm:X.mg "sorted"=none) (ha:y6 X (e::es) tA) (hg:Gl X "sorted") (he:AA X e es) (An:AH X pos es):PD X (.Call (.Name "sorted" p) (e::es) [] pos) (vj j9 tA):=
 mZ (mC L4.Er hg hm boot_sorted ha.pa () () he An) j9.mo j9.fits ha.mo
end
end L5
namespace L2
open Ĉ â Í
section
variable {Ż}
def mM (r:Addr) (j:Int):Heap->Prop:=λ h=>∃ t u v,IsRange h r 0 j 1 t u v
def E4:xR X (î "range") (λ xs H Q=>∃ j,xs=[ı j]/\∀ r,H r=none->Q (Ì r) ç):=by
 ext ċ;let#[j,rfl,q]:=h;let#[u,rfl,ru]:=vals1 r;let#[t,rfl]:=ru;exact call_range_1 #[Ŵ,_,I.laid (o:=.ext (mM À j)) (λ b o e=>za1 _ e) (Ap _) ?_,rfl,q _ (ā)];have here:mM À j (Ï { cls:=î "range",data:=.fields [ı 0 Ŝ,ı j t,ı 1 (Ŝ+1)].toArray }):=#[_,_,_,IsRange.new ..];exact#[here,#[_,İ],λ h1 h2 S k=>?_];let#[a,b,c,e]:=S;show#[a,b,c,k _ e]
theorem E9 Ď:xR X (Ë2) (λ xs H Q=>∃ r j,xs=[Ì r]/\H r=↑(.ext (mM r j))/\0<=j/\j<=16777216/\∀ l,Ê3->Q ŝ (upd H l (ô))):=by
 ext ċ;let#[a,j,rfl,hr,h0,h1,q]:=h;ext ä;obtain⟨⟨t,u,v,hR⟩,-,-⟩:=(show wy X.prog X.w H Ò a (.ext (mM a j)) from I.zv a _ hr)
 have hsz:Builtin.Range.rangeSize 0 j 1=((j.toNat:Nat):Int):=by rw[rangeSize_one];split <;> lia
 exact call_list_range (n:=j.toNat) (ŋ) hR (small_one () () ⋯ ⋯) hsz ⋯ λ h' tk acc c k e hi=>?_;exact#[Ŵ,_,I.laid (o:=ô) k (Ap _) #[?_,acc.toList,c,?_,by exists e],rfl,q _ (ā)]
 .have:Ä6:=rfl;simp;lia
 .let#[hn,hi]:=hi;exact ST.Paired.mk (by simp[hn]) λ i a b ha hb=>?_;rw[AF] at ha;let#[k',hk,rfl]:=Aw.mp ha;let#[hk1,hk2]:=AM.mp hk;simp at hk2;subst hk2;let#[w,hw]:=hi i b (by exists hb);subst hw;show#[w,#[]]
end
end L2
namespace L5
open Ĉ â L2 L3
open Í hiding St
section
variable {š}{e:Expr}{tA:ya}{pos p pos2 p2:Pos}
def kK:vm:=λ ds S Q=>∃ j:Int,ds=[ı j]/\0<=j/\j<=16777216/\∀ l,S l=none->Q ŝ (ups S l (ī (ng 0 j.toNat)))
def fk:Al
 | [ı j]=>if 0<=j/\j<=16777216 then ↑(ī (rangeT 0 j.toNat)) else none
 | _=>none
def qS:nH zC fk kK:=λ S Z ys z ds Q hz hv e hq=>by
 unfold fk at e;split at e
 .ext ŕ;split at e
  .rename_i hc;cases e;cases h1.int;show#[_,rfl,hc.1,hc.2,λ l hl=>hq á (.new hl _) (jf hz hl (YN á))]
  .cases e
 .cases e
def kK.mo:nG kK:=λ ds S Q Q' hq #[j,h0,h1,h2,h3]=>#[j,h0,h1,h2,λ l hl=>hq á (h3 l hl)]
theorem MI {H:Hp}Í4:zw K H (ng 0 n) ((List.range n).map ź):=by
 unfold ng
 induction List.range n with
 | nil=>show .nil
 | cons k l ih=>show Ł (by simp![zj];rw[zaY]) ih
def kK.fits:mS K kK (λ xs H Q=>∃ j,xs=[ı j]/\∀ r,H r=none->∃ r' j',[V.ref r]=[Ì r']/\ç r'=↑(.ext (mM r' j'))/\0<=j'/\j'<=16777216/\
  ∀ l,ç l=none->Q ŝ (upd ç l (ī ((List.range j'.toNat).map ź)))):=λ xs ds H S Q h0 h2 h=>by
 let#[j,rfl,c1,c2,h]:=h;ext ě;simp![zj] at h1;subst h1;exact#[j,rfl,λ r hr=>#[r,j,rfl,yD,c1,c2,λ l hl=>?_]];have x1:Ext H ç:=.new hr _;have hlr:l≠r:=λ z=>by subst z;rw[yD] at hl;cases hl
 have hlH:Ê3:=by rw[zX hlr] at hl;show hl
 have x2:Ext ç (upd ç l (ô)):=.new hl _;show h l (h2.none hlH) á Ę Æ2 ((h2.new hr).ups x2 #[_,yD,MI _])
def tF (hm:X.mg "list"=none) (hm2:X.mg "range"=none) (ha:y6 X [e] tA) Ď (hg:Gl X "list") (hg2:Gl X "range")
  (he2:AA X e [])
  (he:Ū [ĭ] Đ=(Ö,eval (ĭ) Đ)::Ū [] Đ) Ä2:
  PD X (.Call (.Name "list" p) [ĭ] [] pos) (vj kK tA):=by
 have h:=du (p:=p) (E9 hc) hg hm PyProof.Rows.boot_list (lQ (du E4 hg2 hm2 boot_range ha.pa () () he2 hpl2) jj he) () () he An;show#[vj.mo kK.mo ha.mo,PE.imp h λ _ _ _ hu=>Ug kK.mo kK.fits ha.mo hu]
end
end L5
namespace ST
open Ĉ ŧ â Í L2
def Hk {us us':Ai}(p:us'.Perm us):∀ {ms:Ê},Œ us ms->∃ ms',Œ us' ms'/\ms'.Perm ms:=by
 induction p with
 | nil=>intro ms h;show#[ms,h,.refl _]
 | cons x _ ih=>
  intro ms h;cases h with
  | cons n t h=>
   let#[ms',h1,h2]:=ih h;show#[n::ms',Ł n t h1,h2.cons n]
 | swap x y l=>
  intro ms h;cases h with
  | cons n t h=>
   cases h with
   | cons m u h=>show#[m::n::_,Ł m u (Ł n t h),.swap á _]
 | trans _ _ ih1 ih2=>
  intro ms h;let#[m1,h1,h2]:=ih2 h;let#[m2,h3,h4]:=ih1 h1;show#[m2,h3,h4.trans h2]
theorem hZ.at Î È1 Ě{xs:ę}(S:hZ Ğ h a xs (kE w)):we w a Ã4 h:=by
 let#[#[es,ep,t,ho,he,T,h1,h2,h3],_]:=S;have hm:7<=Ĭ/\Ĭ<=127:=Å2
 ext õ
 show#[es,ep,t,#[ho,É2,T.oq,h1,h2],by rw[he,A1];rfl]
theorem Rc:∀ xs:ę,Œ Ã4 (ÿ Ĕ)
 | []=>.nil
 | e::xs=>Ł e.1 e.2 (Rc xs)
theorem VW:∀ {us:Ai}{ns:Ê},Œ us ns->Vals ŀ us
 | _,_,.nil=>.nil
 | _,_,Ł n t h=>Ł #[t,rfl] (VW h)
section
variable {Ż}
def Ew Ď:xR X (î "set") (λ xs H Q=>∃ p,∃ ns:Ê,Æ0/\yj X.K H p ŀ/\É6/\
  ∀ Ŭ (us:Ai) (ms:Ê),Ê3->Œ us ms->ms.Nodup->(∀ n,n∈ms↔n∈ns)->Q ŝ (upd H l Ĥ)):=by
 ext ċ;let#[p,ns,rfl,hq,h64,q]:=h;ext ä;ext Í6;have hl:=rv.length;rw[AQ] at hl;have iA:Œ Ab ns:=intsAre_of rv;have nums:Nums ĥ ns:=λ i v hv=>by
  have hv':Ab[i]?=↑v:=by exists hv
  have hi:i<ns.length:=by rw[hl];show (AM.mp hv').1
  let#[u,e1,t,e2]:=rv.get (i:=i) (x:=V.int ns[i]) (É7);rw[hv'] at e1;cases e1;show#[ns[i],t,e2,É7]
 ext Á7;exact Ex (A:=X.A) hh pl.isList nums Ç0;ext Å6;have hSO:=S.at;exact#[Ŵ,_,I.laid (t':=tk) (o:=.ext (we X.w À Ã4)) kk (Ap _) ?_,rfl,q á (ÿ Ĕ) (ā) (Rc xs) S.nd λ n=>#[λ hn=>?_,λ hn=>?_]]
 ext ė
 .let#[e,he,rfl]:=Ax.mp hn;let#[j,_,_,hj]:=U.own e he;show A5 hj
 .let#[j,hj]:=zaJ.mp hn;show U.all j n Ã2 hj
def Es Ď:xR X Ä5 (λ xs H Q=>∃ l us,∃ ms:Ê,xs=[Ì l]/\H l=↑ Ĥ/\Œ us ms/\ms.length<64/\
  ∀ (p:Addr) (ns:Ê),H p=none->ns.Perm ms->ns.Pairwise (·<=·)->Q (Ì p) (upd H p (ī ŀ))):=by
 intro gV s σ H xs us0 Q I r h;let#[l,us,ms,rfl,hl,hm,h64,q]:=h;ext ó
 have hlen:Ù=us.length:=by rw[<- eu];simp
 have hml:=hm.length;ext Á7;ext ĉ
 let#[ms',i1,i2]:=Hk hp hm;have hcl:=hp.length_eq;have hl24:Ä6:=rfl;exact L4.Uw (N:=λ _=>False) (Out:=λ out=>∃ ns',Œ out.toList ns'/\ns'.Perm ms'/\ns'.Pairwise (·<=·)) (λ Q' h=>Qu (by show hh) S (by rw[hlen,hml];lia) Q' h) (by rw[hcl,hml];lia) (λ h2 s6 k=>L4.FW i1 h2 (by rw[hcl,hml];show h64)) (λ h1=>#[ms',by simpa using i1,.refl _,?_]) λ out h' tk p ho hs hp' k hat=>?_
 .have:ms'.length<2:=by rw[<- i1.length];show h1
  match ms',this with
  | [],_=>show .nil
  | [_],_=>show zc7 á
 .let#[ns,g1,g2,g3]:=ho;let#[e,he]:=hat;exact#[Ì p,_,I.laid (t':=tk) (o:=ī ŀ) (λ b o e=>k b o id e) hp' ?_,rfl,q p ns (I.zv.fresh hp') (g2.trans i2) g3];show#[by rw[AQ,g2.length_eq,i2.length_eq];lia,out.toList,e,VW g1,by exists he]
end
end ST
namespace L5
open Ĉ â L2 L3
open Í hiding St
def insI (n:Int):Ê->Ê
 | []=>[n]
 | m::l=>if n<m then n::m::l else if n=m then m::l else m::insI n l
def oJ:Ê->Ê
 | []=>[]
 | n::ns=>insI n (oJ ns)
theorem X4 {n k:Int}:∀ {l:Ê},k∈insI n l↔k=n\/k∈l
 | []=>by simp[insI]
 | m::l=>by
  unfold insI;split
  .simp
  .split
   .rename_i h;subst h;simp
   .rw[Ao,X4,Ao];constructor
    .rintro (h | h | h)
     .show .inr (.inl h)
     .show .inl h
     .show .inr (.inr h)
    .rintro (h | h | h)
     .show .inr (.inl h)
     .show .inl h
     .show .inr (.inr h)
theorem aQ {k:Int}:∀ {l:Ê},k∈oJ l↔k∈l
 | []=>.rfl
 | n::l=>by unfold oJ;rw[X4,aQ,Ao]
theorem Rg {n:Int}:∀ {l:Ê},l.Pairwise (· < ·)->(insI n l).Pairwise (· < ·)
 | [],_=>zc7 á
 | m::l,h=>by
  have h':=BU.mp h;unfold insI;split
  .rename_i c;exact BU.mpr #[λ x hx=>?_,h];rcases Ao.mp hx with e | e
   .rw[e];show c
   .show Int.lt_trans c (h'.1 x e)
  .split
   .show h
   .rename_i c1 c2;exact BU.mpr #[λ x hx=>?_,Rg h'.2];rcases X4.mp hx with e | e
    .rw[e];lia
    .show h'.1 x e
theorem Ud:∀ l:Ê,(oJ l).Pairwise (· < ·)
 | []=>.nil
 | n::l=>Rg (Ud l)
theorem Nu {l m:Ê}(h1:l.Nodup) (h2:l.Pairwise (·<=·)) (h3:m.Pairwise (· < ·)) (h:∀ k,k∈l↔k∈m):l=m:=by
 have nm:m.Nodup:=h3.imp λ h e=>⋯;exact L4.Xi (r:=λ a b:Int=>a<=b) (λ a b p q=>⋯) ((zcC h1 nm).mpr h) h2 (h3.imp λ h=>⋯)
section
variable {š}{e:Expr}{tA:ya}{pos pos2 p p2:Pos}
def cB:vm:=λ ds S Q=>mG ds S Q\/∃ d,∃ ns:Ê,ds=[d]/\(∀ ts,d≠ Ë5)/\yu d S=↑(ns.map D.int)/\É6/\∀ l,S l=none->Q ŝ Å4
def k8:Al
 | [ī ts]=>match lX ts with
  | some ns=>if É6 then ↑(ī ((oJ ns).map T.int)) else none
  | none=>eW [ī ts]
 | [Ë5]=>eW [Ë5]
 | _=>none
def qM:nH zC k8 cB:=λ S Z ys z ds Q hz hv e hq=>by
 unfold k8 at e;split at e
 .split at e
  .rename_i ns hns;split at e
   .rename_i hc;cases e;cases XN hns;ext ŕ;let#[es,h2,h3]:=h1.seq rfl;cases iw.mp h3;exact .inr #[d,ns,rfl,?_,h2,hc,λ l hl=>hq á (.new hl _) (jf hz hl (iw.mpr rfl))];obtain⟨_,q | ⟨a,q,_⟩,_⟩:=h1.lst <;> subst q <;> show λ _=>nofun
   .cases e
  .show Æ5
 .show Æ5
 .cases e
theorem cB.mo:nG cB:=λ ds S Q Q' hq h=>by
 rcases h with h | ⟨d,ns,h1,h2,h3,h4,h5⟩
 .show .inl (mG.mo ds S Q Q' hq h)
 .show .inr #[d,ns,h1,h2,h3,h4,λ l hl=>hq á (h5 l hl)]
def GO À3 Í3{H:Hp}{S:SS}{Q:VK}{d:D}{ns:Ê}(h0:zw K H [d] xs) (h2:yb K H S) (hn:∀ ts,d≠ Ë5) (e:yu d S=↑(ns.map D.int)) (h64:É6) (h:∀ l,S l=none->pH K H Q ŝ Å4):
  ∃ p,∃ ns':Ê,Æ0/\yj K H p (ns'.map V.int)/\ns'.length<64/\
   ∀ Ŭ (us:Ai) (ms:Ê),Ê3->Œ us ms->ms.Nodup->(∀ n,n∈ms↔n∈ns')->
    ∃ l' us',∃ ms':Ê,[V.ref l]=[Ì l']/\Ç3/\Œ us' ms'/\ms'.length<64/\
     ∀ (p:Addr) (ns:Ê),Ä p=none->ns.Perm ms'->ns.Pairwise (·<=·)->Q (Ì p) (upd Ä p (ī ŀ)):=by
 ext ě;let#[a,ys,rfl,g1,g2]:=iy h1 h2 e hn;rw[g2.ints] at g1;exact#[a,ns,rfl,g1,h64,λ l us ms hf hi nd BD=>#[l,us,ms,rfl,yD,hi,?_,λ p ns2 hp pm srt=>?_]]
 .have:=ST.Xw ms ns nd λ x hx=>(BD x).mp hx;lia
 .have x1:Ext H Ä:=.new hf _;ext À6
  ext Å7
  have x2:Ext Ä (upd Ä p (ī (ns2.map V.int))):=Ō;have heq:ns2=oJ ns:=Nu (pm.nodup_iff.mpr nd) srt (Ud ns) λ k=>by rw[pm.mem_iff,BD,aQ]
  exact h p (h2.none hpH) á Ę Æ2 ((h2.new hf).ups x2 #[_,yD,?_]);rw[<- heq];show zw.Xp ns2
def uV {k:Nat}(hr:yg k X.A) (hm:X.mg "sorted"=none) (hm2:X.mg "set"=none) (ha:y6 X [e] tA) Ď (hg:Gl X "sorted") (hg2:Gl X "set")
  (he2:AA X e [])
  (he:Ū [ĺ] Đ=(Ö,eval (ĺ) Đ)::Ū [] Đ) Ä2:
  PD X (.Call (.Name "sorted" p) [ĺ] [] pos) (vj cB tA):=by
 have h:=mC (p:=p) (xR.or (ST.Et hc) (ST.Es hc)) hg hm boot_sorted (lQ (du (xR.or (ST.Eu hc hr.units) (ST.Ew hc)) hg2 hm2 PyProof.Rows.boot_set ha.pa () () he2 hpl2) jj he) () () he An;exact#[vj.mo cB.mo ha.mo,PE.imp h fun σ H Q hu=>?_];ext Ź;exact vo.go ha.mo r1 r2 z λ ds S1 xs H1 h1 q1 e1 p1=>?_;rcases h1 with h1 | ⟨d,ns,rfl,c1,c2,c3,h1⟩
 .let#[p,ys,rows,a1,a2,a3,a4,a5]:=mG.fits (w:=X.w) xs ds H1 S1 Q q1 p1 (mG.mo ds S1 á (λ d S' z=>z.ext e1) h1);show .inl #[p,ys,rows,a1,a2,a3,a4,λ l us ps b1 b2 b3 b4 b5=>.inl (a5 l us ps b1 b2 b3 b4 b5)]
 .let#[p,ns',a1,a2,a3,a4]:=GO (w:=X.w) q1 p1 c1 c2 c3 (λ l hl=>(h1 l hl).ext e1);show .inr #[p,ns',a1,a2,a3,λ l us ms b1 b2 b3 b4=>.inr (a4 l us ms b1 b2 b3 b4)]
end
end L5
namespace L5
open Ĉ L2 L3
def ym:Good2 zC jt Zt:=Ň
def yn:Good2 zC fF Wo:=Ň
def yo:Good2 zC Zo Wq:=Ň
end L5
namespace L3
open Ĉ Í L2
section
variable {Ż}{pos:Pos}
def wE (E:ko) (W:Nat->yz->SS->Prop) (m:Nat):ko:={ E with nx:=Å5,ct:=Å5,bk:=E.nx }
def cR (c:xn) (tb:yw):yw:=λ E δ S=>∃ W:Nat->yz->SS->Prop,(∃ m,W m δ S)/\∀ m δ S,W m δ S->
 c δ S λ b S1=>if b=true then tb (wE E W m) δ S1 else E.nx δ S1
def cR.mo {c:xn}{tb:yw}(hc:oG c) (hb:mO tb):mO (cR c tb):=λ E E' δ S hE #[W,w0,ws]=>
 #[W,w0,λ m δ S hw=>hc δ S á (λ b S1 z=>qI (λ z=>hb (wE E W m) (wE E' W m) δ S1 #[λ _ _ q=>q,hE.rt,hE.nx,λ _ _ q=>q] z) (λ z=>hE.nx á z) z) (ws m δ S hw)]
def uz {c:Expr}{body:List Stmt}{tc:xn}{tb:yw}(hp:PassesOwn (model X.prog X.w) X.A Đ X.xe) (hc:yh X c tc) (hb:xw X body tb):yt X (.While c body [] pos) (cR tc tb):=by
 exact#[cR.mo hc.mo hb.mo,PS.imp (Ld hp hc.pt hb.ps) λ D σ H hu=>?_];let#[δ,S,r1,r2,W,#[m0,w0],ws]:=hu;exact#[λ m σ' H'=>Ext H H'/\∃ δ S,xv X.K H' δ σ'/\yb X.K H' S/\W m δ S,#[m0,.refl _,δ,S,r1,r2,w0],?_];rintro m σ2 H2 ⟨x2,δ2,S2,q1,q2,w2⟩;exact pB.go hc.mo q1 q2 (ws m δ2 S2 w2) λ k S3 H3 h3 e3 p3=>qI (λ z=>?_) (λ z=>?_) h3
 .exact#[fun σ' H'=>Ext H H'/\∃ δ S m',m'<m/\xv X.K H' δ σ'/\yb X.K H' S/\W m' δ S,fun σ' H' #[a,δ',S',m',b,c,d,e]=>#[m',b,a,δ',S',c,d,e],δ2,S3,q1.ext e3,p3,?_];show hb.mo (wE (nZ X.K H D) W m) _ δ2 S3 #[ü,λ _ _ q=>pH.ext (Ì7) q,λ _ _ q=>v8.ext (Ì7) q,ü] z
 .show z σ2 H3 (q1.ext e3) (Ì7) p3
end
end L3
namespace L5
open Ĉ Í L2 L3
def oz Ä3:Nat->Ev->Ē Out
 | 0,_=>none
 | n+1,Y=>(c (xy is Y)).bind λ k=>if k=true then (b (xy is Y)).bind λ o=>match o with
   | .nx Y2=>oz is c b n Y2
   | .ct Y2=>oz is c b n Y2
   | .bk Y2=>↑(.nx (xy is Y2))
   | .rt t=>↑(.rt t)
  else ↑(.nx (xy is Y))
def bU Í4 Ä3:Sm:=oz is c b n
def sA {R:Rk} [Lo R] {n:Nat}{is:List Nat}{c:Ev->Ē Bool}{tc:xn}{b:Sm}{tb:yw}(hc:oB c tc) (hb:zJ R b tb):zJ R (bU n is c b) (cR tc tb):=λ S0 Z0 S Z δ Y o E F e P=>by
 let#[SB,b1,FB,b2]:=F.rebase;have lo:∀ S' d y,R SB S' Z0 y d->R S0 S' Z0 y d:=λ S' d y r=>Lo.lo b1 (λ _ z=>z) r;exact#[λ m δ' S'=>∃ Z' Y',FR SB Z0 S' Z' δ' Y'/\oz is c b m Y'=↑o,#[n,Z,Y,FB,e],λ m δ' S' #[Z',Y',F',e']=>?_];cases m with
 | zero=>cases e'
 | succ m=>
  unfold oz at e';let#[k,c1,e']:=Ak.mp e';have G:=F'.xy is;exact hc S' Z' δ' _ k _ G.er c1 λ S3 s3=>?_;cases k with
  | true=>
   rw[Ê9 rfl] at e' ⊢;let#[o1,g2,e']:=Ak.mp e';exact hb SB Z0 S3 Z' δ' _ o1 _ (G.grow s3) g2 ?_;cases o1 with
   | nx Y2=>show Ű
   | ct Y2=>show Ű
   | bk Y2=>cases e';show λ S3 Z3 δ3 F3=>P S3 Z3 δ3 ((F3.xy is).back b1 F.z0)
   | rt y=>cases e';show λ d S3 s3 r3=>P d S3 (b1.trans s3) (lo á _ r3)
  | Ö=>
   rw[ň ()] at e' ⊢;cases e';show P S3 Z' δ' ((G.grow s3).back b1 F.z0)
end L5
namespace ZP
open Ĉ Í
def JP À4 Ŭ (xs:AE):Meets (Builtin.«enumerate.__new__» #[[Ä0,Ì l],[]]) (λ _ R s=>Â3/\
   R (.ok (.ret (Ì (Ì8).objs.size))) { s with heap:=Ŧ }):=
 .of_wp λ prog w A R s h=>by
  ext ĵ;let#[q,h]:=h;have hsub:=sub_enumerate;have hL:SQ Ã3 k l xs:=q;let#[#[c,yp,dt,sl],hl,hc]:=q.cls;replace hc:c=î (cond k "tuple" "list"):=hc;subst hc
  wp_walk using Ì9
  exact wpAny_stack_any λ st=>Ah ?_;split
  .rename_i c _ _ _ _ _;cases (c == Value.type "enumerate")
   .ext Č
    show ń
   .ext Č
    show ń
  .ext Č
   show ń
section
variable {Î}{A:È9}{E:Aj}{Ć}
def Fp ć Æ7(hL:Â3)
  (h:∀ h',IsEnum h' (À+1) À 0 Ë3->SI h' k À l 0->(∀ b o,æ)->Q (Ì (À+1)) { s with heap:=h' }):
  ý È (call (Ä0) [Ì l]) Ř:=by
 exact callType_new F.called_enumerate () (F.typeCall_enumerate_1 _) (F.newCall_enumerate_1 _) (λ obj=>F.args_object_init_2 obj _) F.entry_enumerate_new (JP k l xs) #[hL,?_];have hz:(Ì8).objs.size=À+1:=Ŀ ..;change _/\_;rw[hz];have he:IsEnum (Ŧ) (À+1) À 0 Ë3:=by
  have:=AO (Ì8) (o:={ cls:=Ä0,data:=è }) rfl;rw[hz] at this;show this
 show#[#[_,he,rfl],h _ he #[_,za1 _ (İ),rfl,rfl] λ b o x=>za1 _ (za1 _ x)]
def F4 Ý À4 (it l:Addr) (AD:l≠it) (xs:AE):Draws Ğ A it [it,l] xs.size (λ i v=>xs[i]?=↑v) (λ i h=>SI h k it l i/\Ë7) where
 live:=λ _ _ st=>let #[o,ho,_]:=st.1;#[o,ho]
 frame:=λ _ _ _ st hk=>#[st.1.on λ o e=>hk it #[] o e,st.2.on λ o e=>hk l #[] o e]
 item:=λ i s Q E hi st hQ=>draw st.1 st.2 (x:=xs[i]) (É7) λ h' hit' hs'=>hQ _ h' Ŝ (É7) #[hit',st.2.on λ o e=>(hs'.2 l AD).trans e] hs'
 done:=λ s Q E st hE=>Zy hh st.1 st.2 #[] hE
end
end ZP
namespace L2
open Ĉ â Í ZP
section
variable {Ż}{gV:Am}{σ:St}{H:Hp}{Ć}
def PQ (K:Ac) À4 Ê7:It:=
 #[λ i H=>∃ xs x,pL K H k a xs/\ŵ,
   λ i H v H'=>∃ p x,v=Ì p/\H p=none/\H'=upd H p (Â8)/\∀ xs,pL K H k a xs->ŵ,
   λ i H=>∃ xs,pL K H k a xs/\à<=i]
def N7 {P:Program}À3{K:Ac}ď{kk} {pos:Pos}Ç1{e it a:Addr}(hei:e≠it) (hea:e≠a) (hai:a≠it):
  Turn P w K (.Tuple es kk pos) (PQ K k a) Ê6 e (λ i h=>(∃ old,IsEnum h e it i old)/\SI h k it a i) where
 mem:=#[]
 obj:=λ i h st b hb=>by
  let#[#[old,q1],o1,q2,_,d1]:=st;ext ñ;rcases hb with e | e <;> subst e
  .show#[_,q1,Â6]
  .show#[_,q2,Ì5]
 keep:=λ i h h' st k=>#[let #[old,q]:=st.1;#[old,k e #[] _ q],st.2.on λ o q=>k it #[] o q]
 item:=by
  ext ß;let#[xs,x,g1,hx]:=hg;let#[Ab,rv,q1]:=g1.of I;let#[u1,e1,r1]:=rv.get hx;let#[#[old,he],si]:=st;have Au:i<Ab.toArray.size:=by have:=(AM.mp e1).1;exists this
  have D:=F4 (prog:=X.prog) (w:=X.w) (A:=X.A.in1) Ç4 k it a hai ĥ;exact wpAny_pyNext_enum_itemD D he #[si,q1] Au hei (by simp[hei,hea]) λ u h' tk hP ho hs' hT hsz hk=>#[_,rfl,?_];have hu:u=u1:=by simp![List.getElem?_toArray,e1] at hP;show (BA hP).symm
  subst hu;have nT:À ∉ Ê6:=λ hb=>by
   ext ñ;let#[oi,qi,_]:=si;rcases hb with z | z
   .show absurd (Ar he) (by rw[<- z];show zE1 _)
   .show absurd (Ar qi) (by rw[<- z];show zE1 _)
  have ne:À ≠e:=λ z=>nT (by simp[z]);exact wpAny_letOwnedTupleGo_enum ho λ h2 he2 sb=>?_;have fr:H À=none:=ā;have I1:Inv X gV σ (upd H À (Â8)) { s with heap:=ŷ,toks:=Ŝ }:=
   I.laid (o:=Â8) (λ b u q=>za1 _ q) (Ap _) #[Å3,[ı i tk,u],Ł #[tk,rfl] (Ł r1 .nil),IsTup.new á]
  have hf':∀ b∈ Ê6,upd H À (Â8) b=none:=λ b hb=>by
   rw[zX (λ z=>nT (by rw[<- z];show hb))];show (hf b hb).1
  have kk:∀ b o,b∉ Ê6->(ŷ).get? b=↑o->h2.get? b=↑o:=λ b o hb q=>by
   have B4:b≠e:=ĝ;have hbi:b≠it:=ĝ;by_cases hbs:b=À
   .subst hbs;rw[İ] at q;cases q;show Ť á B4 hT
   .ext ş
    show Ť á B4 (hk b o B4 hbi q')
  have I2:=Inv.b_ (h':=h2) (t':=tk+1) (fp:=Ê6) Å1;exact#[Ŵ,_,I2,rfl,#[_,x,rfl,fr,rfl,Ä8],#[#[_,by exists he2],hs'.1.on λ o q=>(sb.2 it (ò hei)).trans q],hf']
 done:=by
  ext ß;let#[xs,g1,hx]:=hg;let#[Ab,rv,q1]:=g1.of I;have l1:=rv.length;let#[#[old,he],si]:=st;have hT:s.TypeIs (Ì e) "enumerate":=#[_,he,rfl];unfold pyNext;exact tp (wpAny_attempt (zcO (name:=ļ) hT F.slot_enumerate_next
   (zcJ F.slot_enumerate_next hT F.entry_enumerate_next ?_ (F.args_enumerate_next_1 _))))
  change ý á (field (Ì e) 2 >>= _) á _;exact tp (za7 he rfl (x:=Ì it) Ç5);exact tp (Zy Ç4 si q1 Ã9 λ h' x he' hx'=>?_);let#[o,ho,hc]:=hx';exact tp (À0 ŗ ?_);show Ah #[rfl,I.b_ (t':=Ŝ) (fp:=Ê6) (λ b o hb q=>he' b o (ĝ) q) hf]
 self:=λ _ _ _ _ _ st h=>let #[_,q]:=st.1;wpAny_pyIter_enum q h
def Hz (K:Ac) (ta:TA):TI:=fun σ H R=>ta σ H λ vs H1=>∃ a k,vs=[Ì a]/\(∃ xs,pL K H1 k a xs)/\R (PQ K k a) H1
theorem LB {a:Expr}{ta:TA}{p pos pos':Pos}ď{kk} (hg:Gl X "enumerate") (hm:X.mg "enumerate"=none) (ha:PA X [a] ta) (hs:Ū [a] Đ=[Ê5]:=by rfl):
  PI Ő (Hz X.K ta):=by
 intro gV s σ H R I h;exact Call_ (iK I hg hm boot_enumerate (Ì6 Ķ (by rw[hs];rfl) rfl));let#[a1,k,rfl,#[xs,g1],q]:=q1;cases r1 with
 | cons r rr=>
  cases rr;cases r;let#[it1,_,q1]:=g1.of I1;have la:=q1.lt;exact ZP.Fp q1 λ h' E S up=>wpAny_pyIter_enum E ?_;have nw:∀ b∈[Ņ+1,Ņ],Ņ<=b:=λ b hb=>by
   ext ñ;rcases hb with z | z <;> rw[z]
   .show zaX _
   .show Ap _
  show#[_,[Ņ+1,Ņ],_,_,H1,rfl,I1.kept (t':=s1.toks) up,N7 (Nat.succ_ne_self _) (BS (zaK la)) (AG la),#[#[_,E],S],Ŷ,q]
end
end L2
namespace L5
open Ĉ â L2 L3
open Í hiding St
def l_ (k:Nat):List D->List D
 | []=>[]
 | d::ds=>.tup [ı k,d]::l_ (k+1) ds
def jC (k:Nat):ū->ū
 | []=>[]
 | d::ds=>.tup [ı k,d]::jC (k+1) ds
theorem RQ:∀ (ds:List D) (k i:Nat),(l_ k ds)[i]?=(ds[i]?).map λ d=>D.tup [ı ((k+i:Nat):Int),d]
 | [],k,i=>by simp[l_]
 | d::ds,k,0=>by simp[l_]
 | d::ds,k,i+1=>by
  unfold l_;rw[zbG,zbG,RQ ds (k+1) i,show k+1+i=k+(i+1) from by lia]
theorem RP:∀ (ds:List D) (k:Nat),(l_ k ds).length=ds.length
 | [],k=>rfl
 | d::ds,k=>by unfold l_;rw[A7,RP ds];rfl
theorem YO {S:SS}:∀ {ts:ū}Ÿ(k:Nat),zq S ts ds->zq S (jC k ts) (l_ k ds)
 | [],ds,k,h=>by simp![zq] at h;subst h;show zq.nil
 | t::ts,ds,k,h=>by
  simp![zq] at h;let#[c,cs,rfl,h1,h2]:=h;show zq.cons (gQ (zq.cons (by simp![Sn]) (zq.cons h1 zq.nil))) (YO (k+1) h2)
section
variable {Ż}{a:Expr}{tA:ya}{Í2}{ď}{kk:Nat}
def XJ (t:ya):pz:=fun δ S R=>t δ S λ ds S1=>∃ d xs,ds=[d]/\yu d S1=↑xs/\R #[l_ 0 xs,λ S=>yu d S=↑xs] S1
def uJ (hm:X.mg "enumerate"=none) (ha:y6 X [a] tA) (hg:Gl X "enumerate") (hs:Ū [a] Đ=[Ê5]):
  xW Ő (XJ tA):=by
 exact#[fun δ S Q Q' hq z=>ha.mo δ S á (λ ds S1 #[d,xs,h1,h2,h4]=>#[d,xs,h1,h2,hq á h4]) z,PI.imp (LB hg hm ha.pa hs) fun σ H R hu=>?_];ext ğ;let#[d,xs,rfl,s1,h]:=h1;let#[v,rfl,d1]:=q1.one;ext Ã5;exact#[a1,dW d,rfl,#[us,g1],Ä9];let#[b1,us2,q1,m1,m2]:=yu.k (zj.ext x1 d d1) x2 hk;cases q1;have l1:=m2.length;exact#[λ dd hd=>?_,λ hl=>#[us2,m1,?_]]
 .rw[RQ,zbI] at hd;let#[dx,hx,rfl]:=Aw.mp hd;let#[x,hx',rx]:=m2.get hx;exact#[#[us2,x,m1,hx'],λ v H' q=>?_];let#[pp,x',rfl,hp,rfl,f1]:=q;ext ŏ
  subst ex;ext Ç7;show#[pp,_,rfl,yJ.of yD,zw.ext (Ō) _ (Ł Ę (Ł rx .nil))]
 .have hl':(l_ 0 xs).length<=i:=hl;rw[RP] at hl';lia
@[simp] def jD:ū->Ē (ū)
 | [x]=>(oM x).map λ xs=>jC 0 xs
 | _=>none
def rE Í5(h:jS g tA):kQ Ö (vh jD g) (XJ tA):=λ S Z δ Y ts Q hE e hq=>by
 ext ê;unfold jD at e2;split at e2
 .let#[xs,e3,rfl]:=Aw.mp e2;let#[d,rfl,h1]:=nI r1;let#[es,g1,g2]:=h1.seq e3;show#[d,es,rfl,g1,Á6]
 .cases e2
def rF Í5(h:oE g tA):kQ true (vh jD g) (XJ tA):=λ S Z δ Y ts Q hE e hq=>by
 ext ê;unfold jD at e2;split at e2
 .let#[xs,e3,rfl]:=Aw.mp e2;simp![zq] at r1;let#[d,_,rfl,h1,rfl]:=r1;let#[es,g1,g2]:=yu.zK h1 e3;show#[d,es,rfl,yu.sx g1 (fE S1 Z),Á6]
 .cases e2
end
end L5
namespace TM
open Ĉ Í
def FI (i:Int) (t:Tok) Ŭ (items:AE) Í4 È8:
  Meets (Builtin.«int.__rmul__» #[[ı i t,Ì l],[]]) (λ _ R s=>ĳ/\R (.ok (.ret Value.notImplemented)) s):=
 .of_wp λ prog w A R s h=>by
  ext ĵ;let#[hl,h]:=h
  wp_walk
  show ń
def mulL Ŭ (items:AE) Í4 (x:Int) (u:Tok) È8 (hc0:¬(!Builtin.List.listFitsIndex x)=true) (hc1:¬items.size*x.toNat>(2 ^ 63-1)/8) (hc2:¬Builtin.List.listTooLong (items.size*x.toNat)=true):
  Meets (Builtin.«list.__mul__» #[[Ì l,ı x u],[]]) (λ _ R s=>ĳ/\R (.ok (.ret (Ŋ À))) { s with heap:=Ï { cls:=Ë2,data:=.seq (List.foldl (λ x1 x2=>x1++x2) ö (Ø (if items.isEmpty=true then 0 else x.toNat) items)) } }):=
 .of_wp λ prog w A R s h=>by
  ext ĵ;let#[hl,h]:=h
  have hsz:=AutoListH.joined_fits hc2
  wp_walk;exact wpAny_ite_false (za2 (Nat.not_lt.mpr hsz)) ?_;wp_walk;show ń
section
variable {Î}{A:È9}{E:Aj}{Ć}
def NG {l:Addr}{Ab:Ai}{k:Int}{t:Tok}Æ7(ht:PlainL Ò l ĥ) (AD:Ab≠[]) (h0:0<=k) (hz:Ab.length*ķ<=ù)  (hk:k<=1000000)
  (more:Q (Ŵ) { s with heap:=Ï { cls:=Ë2,data:=.seq (Ø ķ Ab).flatten.toArray } }):
  ý È (binaryOp .Mult ŝ (ı k t)) Ř:=by
 let#[#[cls,dd,data,sl],n,ho,hc,he,hd]:=id ht;simp only at hc hd he;subst hc hd he;have hl:Ä6:=rfl;have hem:Ab.toArray.isEmpty=Ö:=by cases Ab with
  | nil=>show absurd rfl AD
  | cons a r=>rfl
 have hf:List.foldl (λ x1 x2=>x1++x2) ö (Ø (if Ab.toArray.isEmpty=true then 0 else ķ) ĥ)=(Ø ķ Ab).flatten.toArray:=by
  rw[hem,ň ()];have:=Ry Ab ķ ö;exists this
 exact wpAny_binaryOp_repeat_ref (T:="list") (U:="int") () Á8 (λ s'=>typeIs_int s' k t) noFill_list_mul F.fills_int_mul F.slot_int_rmul repeat_list F.slot_int_index.lookup
  (call_meets F.slot_int_rmul (typeIs_int s k t) F.entry_int_rmul (F.args_int_rmul_2 á) (FI k t l ĥ n none sl)
   #[ho,rfl,Á8,call_meets F.slot_list_mul Á8 F.entry_list_mul (F.args_list_mul_2 á)
    (mulL l ĥ n k t none sl (by simp[Builtin.List.listFitsIndex];lia) Ã9 (by simp[Builtin.List.listTooLong];lia)) #[ho,?_]])
 rw[hf];show more
end
end TM
namespace L2
open Ĉ â Í
def UQ (K:Ac):R2:=λ x y H Q=>∃ a k xs,x=Ì a/\y=ı k/\yj K H a xs/\xs≠[]/\0<=k/\k<=1000000/\à*ķ<=ù/\∀ p,H p=none->Q (Ì p) (upd H p (ī (Ø ķ xs).flatten))
theorem K6 Ż:xo X (binaryOp .Mult) (UQ X.K):=by
 ext Í7;let#[a,k,xs,rfl,rfl,hx,AD,h1,h2,hz,q]:=h;cases rx;let#[t,rfl]:=ry;let#[Ab,r,ht,_]:=I.list hx;have hl:=r.length;exact TM.NG ht (λ z=>AD (r.J7.mp z)) h1 (by rw[<- hl];show hz) h2 ?_;have hlen:(Ø ķ xs).flatten.length<=ù:=by
  have:(Ø ķ xs).flatten.length=ķ*à:=#[];rw[this,Nat.mul_comm];show hz
 show#[Ì _,_,I.laid (t':=Ŝ) (o:=ī (Ø ķ xs).flatten) (λ b ob q=>za1 _ q) (Ap _) #[hlen,_,0,r.rep ķ,İ],rfl,q _ (ā)]
end L2
namespace L5
open Ĉ â L2 L3
open Í hiding St
section
variable {K:Ac}{a:Expr}
def Ze:D->Bool
 | .tup _=>true
 | _=>Ö
def Zs:wx:=λ x y S Q=>∃ k ds,y=ı k/\Ze x=Ö/\yu x S=↑ds/\(ds≠[]/\0<=k/\k<=1000000/\ds.length*ķ<=ù)/\∀ p,S p=none->Q (Ì p) (ups S p (ī (Ø ķ ds).flatten))
def Zs.fits:vB K Zs (UQ K):=λ x y d e H S Q h1 h2 h3 h=>by
 let#[k,ds,rfl,ht,hs,#[c1,c2,c3,c4],h]:=h;simp![zj] at h2;let#[a,xs,rfl,g1,g2]:=iy h1 h3 hs λ ts z=>by subst z;cases ht
 have hl:=g2.length;exact#[a,k,xs,rfl,h2,g1,λ z=>c1 (by subst z;cases ds with | nil=>rfl | cons _ _=>simp at hl),c2,c3,by rw[<- hl];show c4,λ p hp=>?_];show h p (h3.none hp) á Ę (Ō) (h3.ups (Ō) #[_,yD,zw.ext (Ō) _ (zw.rep g2 _)])
end
end L5
namespace L3
open Ĉ â Í L2
section
variable {š}{e o:Expr}{te to:zy}{apos Ad:Pos}
def jH (to te:zy):zy:=fun δ S Q=>to δ S λ x S1=>match x with
 | Ì p=>(∃ ds,S1 p=↑(ī ds))/\te δ S1 λ y S2=>∃ q ds es,y=Ì q/\S2 p=↑(ī ds)/\S2 q=↑(ī es)/\ds.length+es.length<=ù/\Q .zk (ups S2 p (ī (ds++es)))
 | _=>False
def jH.mo (h:yG to) (h':yG te):yG (jH to te):=fun δ S Q Q' hq z=>h δ S á (λ x S1 z=>by
 cases x with
 | ref p=>show#[z.1,h' δ S1 á (λ y S2 #[q,ds,es,a,b,c,d,w]=>#[q,ds,es,a,b,c,d,hq á w]) z.2]
 | _=>show z) z
)
example:=`(
example ü:=h.get?
example Ō _:=x sn sub ab col dd k0 k1 k2 k3
example Ê8:=excClassObj
example É:=.ref
example À:=ü C=↑(Ê8 nm q C N bs (É P::bmB) true Ō k5 newId)
example Ĭ:=Option
example à:=Ĭ Addr
example ò:=Value
example İ:=List Str
example Á{sn:İ}{sub:Ai}{ab:Bool}{col:Ĭ Bool}{dd:à}{k0 k1 k2 k3 k5:Ĭ ò}:=0
example Ĉ:=PySem.W.nsIn
example Ĥ:=(É C)
example Ŭ:=mainGlobals
example Æ1:=Array (Ĭ ò)
example Â{o1 o2:ò}{d1 d2:à}{c1 c2:ClassData}{s1 s2:Æ1}(_:Ĉ K Ŭ c=↑↑ Ĥ) (_:Ĉ K Ŭ "PurseError"=↑↑(É P)) (_:K.lookup C=↑#[o1,d1,.cls c1,s1]) (_:K.lookup P=↑#[o2,d2,.cls c2,s2]) (h:cF K c=↑(C,P,c1.ns,c2.ns)):=0
example Ã:=#[h,g,d,t,os]
example ő:=.none
example ā:=.fields
example É3:=Value.none
example ī:=ā ([head,É L,ő,rawInt L,ő]++(if pl.isEmpty then List.replicate 6 É3 else pl)).toArray
example į:=.type
example Ã2:=base.StaysIn
example õ _:=x _ _
example Ä:=by unfold EntryCells.newEntry newFields;exact tp (zaB ?_ (An.sizeOk5 õ õ _));have he₁:h₁.get? e=↑oe:=(hs₁.2.1 e hene).trans he;have kb₁:Ã2 h₁:=λ b o AZ=>(hs₁.2.1 b λ hm=>by rw[(hl.mem hm).1] at AZ;cases AZ).trans (hkb b o AZ);generalize htb:({ cls:=į "traceback",dict:=none,data:=ī }:Obj)=tb;have tbd:tb.data=ī:=by rw[<- htb]
example ų:=Shared
example Ø:=ų->Prop
example Ŝ{Q:Unit->Ø}:=0
example ŭ:=outer
example Æ9 _:=x base (env::ŭ)
example Å Ŝ (AR:A.frames=↑(env::ŭ)) (hl:s.heap.FunFrames Æ9) (hf:env.frame=↑L):=0
example Þ:=false
example Ó:=h.objs.size
example Ğ:=ā [É Ó,ő,ő,ő,.bool Þ,ő].toArray
example Æ:=((h.push { cls:=į "tuple",data:=.seq rest.toArray }).push { cls:=É C,data:=Ğ }).get?
example Ç:=by (with_reducible exact za5 hx ?_;rw[hc])
example È:=(Ê8 nm q C N bs bm hdct Ō k5 newId)
example Ê:=(model prog w)
example Ñ6{h:Heap}:=0
example À1 Ñ6{g:Array GenState}{d:Drawn}{t:Nat}{os:OsState}:=0
example Ë{A:Around}{E:Aj}À1:=0
example Ò0:=Ne.symm
example Õ:=Value.ref
example Ç5:=·.setIfInBounds
example ĸ:=h₁.objs.size
example Ì5:=Obj.mapFields
example ð:=(Ì5 (Ç5 1 (Õ ĸ)))
example È5:=Obj.isFreed_of_fields
example Ï6:=h₁.push tb
example ď:=Obj.data_mapFields
example Ì:=by have hTe:ĸ ≠e:=BS (Ar he₁);have hd₃:=ď hd (Ç5 1 (Õ ĸ));have he₃:=za8 ð he₂ (È5 hd₃);have hT₃:=(za9 (Ï6) ð (Ò0 hTe)).trans (AO h₁ tbf)
example Í(hx:ü x=↑o) (hc:o.cls=É C):=0
example È1:=PySem.W.fnOf
example Ç9(kV doc pm:ò) (an:à) (Af ct:ò) (us:Ai):=0
example Ż:=us.length
example Æ3:=(zW st)
example û _:=x (pV st) (xA st) Æ3 ő kV
example Ð7 _:=x û doc pm an Af ct
example Î{R:Rk} [Lo R] {N ps:İ}{k n:Nat}{g:Sm}(F:Fy K mg x st) (Sc:vn N ps Æ3) (hn:n=ps.length) (hb:∀ Ç9,Ż=ps.length->bindArgs (È1 x x Ð7) #[us,[]]=pure (ps.zip us)):=0
example Ï:=#[q',bs',sn',sub',ab',col',dd',l0,l1,l2,l3,l5,hP]
example ľ:=Array.getElem?_eq_some_iff.mp
example Ĩ:=s.heap.get?
example Ä7:=if_pos (show (Õ T != É3)=true from by simp)
example Ð:=by rw[Ä7];exact tp (za7 hT xu h3 ?_);rw[if_neg (show ¬ ((É3 == rawInt L)=true) from by simp[rawInt])];exact tp (zcK hT xu (ľ h3).1 ?_);have other:∀ b,b≠T->(s.heap.update T (Ì5 (Ç5 3 É3))).get? b=Ĩ b:=λ b hb=>za9 õ (Ò0 hb)
example ñ(hn:h.Ns N mN) (hP:kO h P mP):=0
example Â1(hna:mN "__class__"=none) (BX:mP "__class__"=none):=0
example Ä9:=typeLookup
example Ñ2:=.builtin
example ö:=Ñ2 "object.__class__"
example Ł:=Ä9 (į B) "__class__"=pure ↑(ö)
example ĝ(hq1:mN "__getattribute__"=none) (hq2:mP "__getattribute__"=none) (hq3:mN "__getattr__"=none) (hq4:mP "__getattr__"=none):=0
example Ñ ñ (hB:Ł) ĝ Â1:=0
example Ä5:=Value.builtin "BaseException.__getattribute__"
example Ò:=Ä5 == Value.builtin "object.__getattribute__"
example Ô:=ā [É vs,ő,ő,ő,.bool Þ,ő].toArray
example Ö:=by let#[FB,hb,hB,nm,q,N,bs,sn,sub,ab,col,dd,k0,k1,k2,k3,k5,newId,mN,mP,hC,hn,hP,hm]:=X;have m1:=hm "__getattribute__" (.head _);have m2:=hm "__getattr__" (.tail _ (.head _));have m3:=hm "__class__" (.tail _ (.tail _ (.head _)))
example Ì2:=Unit.unit
example Ù:=Q Ì2 { s with heap:=h' }
example é:=wpAny
example Ì4:=ü b=↑o
example Ã0:=Code.quiet_builtin
example Ú:=by exact codeAny_call_builtin_code (Ã0 _ F.quiet) (wpAny_check_new_subT F T hC ?_);exact codeAny_exc_new_subT F T hC ?_ hrest;change é õ õ õ;have up:∀ b o,Ì4->Æ b=↑o:=λ b o e=>za1 _ (za1 _ e);have hC₁:=up õ hC
example Û(hna:mN name=none) (BX:mP name=none) (hB:Ä9 (į B) name=pure none):=0
example Ü(F:ExcBaseFacts B newId initId bmB) (T:OwnTail h bmB bm) {mN:Aq}{rest:Ai}:=0
example Ý:=#[oe,vs,oT,ts,g0,#[#[rfl,rfl],g3],g1,g2,PySem.W.hideAll_none _ #[],g4,g6,g7,g8]
example ß(hn:∀ v s,¬ X.xe v s):=0
example á _:=x P w K mg base
example Ĺ:=#[δ,S,r1,r2,z]
example â:=λ gV s σ H D Q W hW I Ĺ=>?_
example À5:=oe.data=ā vs
example œ:=s.heap
example Ķ(hkb:Ã2 œ) (hen:base.get? e=none):=0
example ã(he:Ĩ e=↑oe) Ķ (hd:À5):=0
example É0 _:=x X gV σ
example ä(I:Inv É0 H s):=0
example Ì6:=noRecord
example å:=(other b (Ì6 b o hb AK)).trans hb
example Ë8 _:=x S Z δ Y
example æ:=by let#[ys,e1,e2]:=Ak.mp e;let#[y,e3,rfl]:=Aw.mp e2;exact h Ë8 ys _ Fr.er e1 λ ds S1 s1 r1=>#[Z,ys,y,(Fr.er.grow s1).zd,r1,e3,λ d S2 s2 r2=>#[λ he=>?_,λ he=>?_]]
example Â3{base:Heap}:=0
example ç Â3{env:Env}{ŭ:List Env}{L e:Addr}:=0
example ĵ:=X.env
example Ò1:=ĵ::X.outer
example è(AB:X.stack=Ò1) (AR:X.env.frame=↑X.env.locals):=0
example Ď:=(É e)
example Ś _:=x Ê (A.mark ↑ Ď)
example ê:=(notedBy Ś env (cameBackBy Ê A env E))
example À2{K:Ac}:=0
example ź{P:Program}{w:World}:=0
example ë ź À2{mg:Aq}:=0
example Ê4:=by assumption
example ű _:=x hC hn hP
example ì:=by repeat (any_goals (first | ext Ê4 | ext Ç | with_reducible exact kX ű FB.mro FB.ga.lookup hq1 hq2 ?_ | with_reducible exact kX ű FB.mro FB.noGetattr hq3 hq4 ?_ | wp_step))
example í:=(į "BaseException")
example î:=za8 _ hT (È5 (ď xu _))
example ï _:=x (((δ.set i ↑d).set j ↑d).set i none) S'
example ó:=by have f1:=tc_lookup;have f2:=tc_bind Ĥ;have hT:(Ã:ų).TypeIs Ĥ "type":=#[_,hC,rfl];exact zcM (codeAny_of_tree ?_);change é õ (callAny Ĥ _) õ _
example Ó5 _:=x X.prog X.w
example ô _:=x (model Ó5) X.A
example ø:=("__debug__":Str)
example ù(X:K.In h) (G:h.Ns Ŭ mg):=0
example ú:=by with_reducible exact za5 hC ?_
example ý:=(Õ C::É P::bmB).contains
example þ:=Addr->Hp->Prop
example ÿ:=#[λ b o AZ=>keep b o (λ q=>by rw[q,hen] at AZ;cases AZ) (kb₁ b o AZ),hl.of_keeps λ b o hb AK=>?_,?_,λ b o hb AK=>?_,λ b o us hb BP=>?_]
example Î8:=Ĉ K N "__init__"
example ę:=PySem.W.keepIn
example Ê6:=ę K Ĥ=true
example Ä4 _:=x "__init__" (c++".__init__")
example Î4:=(É fI)
example Ā:=Ê6/\Î8=↑↑ Î4/\PySem.W.isFn K Î4=true/\pM K Ä4 st fI fd
example Ă:=PyProof.Rows
example ă:=#[λ E E' δ S hE z=>ha.mo δ S õ (λ ds S1 z=>F.mo ds S1 õ (λ d S2 q=>#[λ y=>hE.rt õ (q.1 y),λ y=>hE.nx õ (q.2 y)]) z) z,â]
example ĭ:=wu X.stack
example š _:=x T (pK T)
example Î6:=(upd H š)
example Ą Ŝ (hq:∀ h' T,H T=none->Un (ĭ) [] H Î6 œ h'->yK Ó5 Î6 h'->gk h' Î6 e->Ù):=0
example ą _:=x á N qual Æ3 f Af A ŭ s
example Ć:=(λ b o AZ=>(other b λ q=>by rw[q,hnT] at AZ;cases AZ).trans (hkb b o AZ))
example Ã1:=bmB.contains
example ć(hb:Ã1 (į "object")=true) (hC:À):=0
example ĉ:=.Name
example Ċ{prog:Program}{w:World}:=0
example ċ{gV:Am}{σ:St}{H:Hp}{s:ų}:=0
example Č:=by change é õ (Ä9 Ĥ _) õ _;exact wpAny_typeLookup_tail hC₁ (hn.keeps up) (T.keeps up) F.mroIs F.init.lookup ?_;rw[hi]
example Í1:=(λ b o q=>PySem.W.of_hideAll _ q)
example č _:=x Í1 (PySem.W.hideAll_none _ #[])
example Đ:=(λ _ z=>by cases z)
example đ:=(do let a <- frameOf env;let pl <- entryPlaceOf L hadNext;let b <- EntryCells.newEntry head a ő (rawInt L) ő pl;setField Ď 1 b)
example Í9:=(other e (Ò0 hTe)).trans he
example Ç3:=(hl.of_keeps λ b o hb AK=>#[o,å,rfl])
example Ē _:=x AR Ç3 hf (Í9) Ć hen hd (ľ h1).1 h0
example Ž:=[].toArray
example È0:=h.push { cls:=į "dict",data:=.dict Ž }
example ē:=(È0).update x λ o=>{ cls:=o.cls,dict:=↑ Ó,data:=o.data,slots:=o.slots }
example Ĕ _:=x (by rw[BQ,show pY.contains í=true from by decide,zaQ]) (I.ok.hd hc) (tp (za6 ?_ (λ v s₃ h₃=>tp (zcQ (Ah h₃))) λ _ _ x=>x))
example ĕ(Af:ò) (A:Around) (ŭ:List Env) (s:ų) (H:Hp) (E:XK):=0
example Ė:=(.Call (ĉ x p) (e::es) [] Ad)
example ė(hg:Gl X x) (AV:(x == ø)=Þ) (he:AA X e es) (An:AH X Ad es):=0
example Ò5:=swapsWith
example Ę(hnd:(n == ø)=Þ) (hnc:(n == ("__classdict__":Str))=Þ) (hsw:Ò5 (ĉ n p3) ↑(ĉ c p2) p4.line ĵ=pure Þ):=0
example Ě:=λ _ _ z=>(hn õ z).elim
example ě:=PySem.Spec
example Ĝ:=tp (zcQ (VL (C:=C) (nm:=c) (q:=q) (N:=N) (bs:=bs) (bm:=É P::pY) (hdct:=true) (sn:=sn) (sub:=sub) (ab:=ab) (col:=col) (dd:=dd) (k0:=k0) (k1:=k1) (k2:=k2) (k3:=k3) (k5:=k5) (newId:="ValueError.__new__") Ĕ))
example ğ:=∀ vs,o.data≠ ā vs
example À4(hC:ü C=↑ È) (hn:h.Ns N mN):=0
example Ġ À4 (hi:mN "__init__"=↑ Î4) (hfI:ü fI=↑oI) (hfc:oI.cls=į "function"):=0
example ġ:=λ _ _ q=>q
example Ģ:=(.Try body [.ExceptHandler ↑(ĉ "PurseError" p1) ↑n [.Assign [ĉ c p2] (ĉ n p3) p4] hpos] [] [] pos)
example ģ:=by let#[#[q,bs,sn,sub,ab,col,dd,k0,k1,k2,k3,k5,lk],_,_]:=id hE.own;rw[arm_exec_Raise]
example ĥ:=#[h',g,d,t,os]
example Ħ:=λ _ _=>False
example Ŵ:=.int
example ħ:=Ŵ (if b<a then b else a)
example ĩ:=by (with_reducible exact zcI hC ?_;rw[hcB])
example Ê9:=h'.get?
example Ī:=o.data=ā vs->∃ o' vs',Ê9 b=↑o'/\o'.data=ā vs'
example Į:=by (with_reducible exact zcI hC ?_;rw[BO])
example ı:=keep b _ (Ì6 b o hb AK) hs
example Ĳ(hg:Gl X "isinstance") (h1:AA X e [ĉ cn q]) (h2:AH X pos [ĉ cn q]) (h3:AA X (ĉ cn q) []):=0
example ĳ:=#[I.ok,J.os,J.bare,J.base,J.loc,J.cell,J.free,J.oU,J.pin,J.zv,J.len]
example Ñ7:=oe.dict
example È4:=vs[0]?=↑a0
example Ĵ(h0:È4) (h:∀ h',Heap.ZV Æ9 e oe.cls a0 Ñ7 œ h'->Ù):=0
example ķ:=by repeat (first | with_reducible exact za5 hget ?_ | (with_reducible exact zcI hC₁ ?_;rw[hcC]) | wp_step)
example ĺ:=by let#[oe,vs,oT,ts,he,#[#[rfl,rfl],h0],hd,h1,hnT,hTe,hT,xu,h3]:=ht
example Ļ _:=x (upd H dx (.xd fv)) e (.ext ψ)
example ļ:=∀ a H',fW H1 H'->ZT X.K c f x a H'->Q a H'
example Ľ:=Heap.MadeExcOf h h' e Ĥ rest
example Ŀ:=(Ê8 nm' q' P N' bs' bm' hdct' sn' sub' ab' col' dd' l0 l1 l2 l3 l5 newId')
example ŀ(hrest:rest.length<=sizeLine):=0
example ł:=by exact tp (wpAny_frameOf_fun AR hl hf λ h₁ hs₁=>tp (wpAny_entryPlaceOf λ pl An=>?_));ext Ä
example Ń:=(hs.2 b (AG (BG (Ar e) I.ok.above))).trans
example ń:=#[P,N,NP,hE]
example Â8(hnc:∀ c,o.data≠.cls c):=0
example Ņ Â8 (hdx:o.dict=↑dx) (hns:h.Ns1 dx mA) (hv:mA name=↑v):=0
example ņ:=by rcases xC e with ⟨rfl,hl,e⟩ | ⟨n,e⟩
example Ň:=km K c C P N NP
example ň(hxj:Loc X.env.scope c) (hfj:X.fn c=true\/X.env.scope.names.lookup c=↑.local):=0
example ŉ:=(Ì5 (Ç5 3 ((none:à).elim É3 λ f=>rawInt f)))
example Ŋ:=.inr #[_,hE,#[oe',vs',a1,a2.trans z1,a3.trans z2,a5],oe',a1]
example ŋ:=decide (cn=c)||decide (cn="PurseError")
example ō _:=x sub ab col dd k0 k1 k2 k3 k5
example Ŏ:=by repeat (any_goals (first | ext Ê4 | wp_step))
example ŏ:=by .rw[pC (Sr.sn r2)] at he;rw[if_pos he] at P;show P he d S2 (s1.trans s2) (Sr.sn r2)
example Ő:=K.lookup f=↑#[oc,od,.func (È1 x x û dc pm an cd ct),sl]
example Œ:=codeAny_call_builtin
example Ŕ(he:PD X e te):=0
example ŕ(K:Ac):=0
example Ŗ(SF:StoreFacts B bmB sa owner) (hC:À):=0
example Ó3{M:Model}:=0
example ŗ Ó3{A:Around}{E:Aj}:=0
example Ř:=by let#[sl,hs]:=hs₁.2.2 b o hb
example ř:=by let#[oe,vs,a0,T,oT,ts,g0,g1,g3,g2,g4,g5,g6,g7,g8]:=hf
example ś:=by let#[x,e1,e2]:=Ak.mp e;exact hf Ë8 x _ hE e1 λ d S1 s1 r1=>?_;split at e2
example ŝ:=by let#[C,dx,hE]:=he;have hF:=I.ok.frames;rw[AB] at hF;have hS:=I.stack;rw[AB] at hS
example Ş:=Ì4->Ê9 b=↑o
example ş:=by let#[T',n,r]:=x.tr;show#[T',by rw[Heap.size_after_update] at n;show n,r]
example Š:=(setFlight Ď none)
example Ţ:=by simp![zj]
example ţ:=PySem
example Ť:=PySem.W.mg_of
example ť:=Builtin.«object.__getattribute__»
example Ŧ(st:∀ h1 h2:Heap,ψ h1->(∀ o,h1.get? e=↑o->h2.get? e=↑o)->ψ h2):=0
example ŧ:=by with_reducible apply VN FB hb ű hB m1.1 m1.2 m2.1 m2.2 m3.1 m3.2 hx hc
example Ũ:=PySem.W.hideAll
example ũ:=by have hT5:(Ã:ų).TypeIs (ö) "getset_descriptor":=F.typeOf_object_class
example Ū:=#[q,bs,sn,sub,ab,col,dd,k0,k1,k2,k3,k5,hC]
example ū{X:Cx}:=0
example Ů:=#[q,bs,sn,sub,ab,col,dd,k0,k1,k2,k3,k5,e]
example ů _:=x r1 r2 z λ x S1 v H1 h1 q1 e1 p1=>?_
example Ű:=by let#[f,oc,od,kV,dc,pm,an,cd,ct,sl,a,l,c,k]:=H
example Ų:=by repeat (first | ext ú | with_reducible exact wpAny_madeBy_exc hC ?_ | wp_step)
example ŵ:=#[#[Obj.cls_mapFields õ,Obj.RW õ],by rw[zcH ()];show h0]
example Ŷ:=PySem.W.funFrames_hide
example ŷ _:=x Q E Ã
example Ÿ:=é Ê A (Builtin.«type.__call__» #[É C::rest,[]]) ŷ
example Ź _:=x gV s σ H
example ż:=s.heap.objs.size
example ž _:=x (a2.trans xT) (a3.keep xT λ b u o _ c=>by rw[zX (vv c hT)];show c)
example Ê0:=tp (za7 he hd h1 ?_)
example ſ:=by unfold leaving noteFrame;simp![hf];exact tp (Ê0)
example À0:=#[#[_,_,_,_,hP,hN']]
example À3(hc:X.calm=true):=0
example À6:=Builtin.«isinstance.nested»
example À7:=∀ b o,Ĩ b=↑o->(ğ)->b≠T
example À8{Q:Fin->Ø}:=0
example À9(ha:y6 X (e::es) tA):=0
example Á0:=by let#[_,o',ho',AK]:=hl.mem hm;rw[hb] at ho';cases ho';show AK us BP
example Á1(hbase:bm'.contains í=true) (hm:bm.contains (É P)=true):=0
example Á2:=(λ h1 h2 #[oe,vs,a,b] k=>#[oe,vs,k _ a,b])
example Á3 _:=x (t':=t) M.keeps hle #[m1,#[_,m1],λ h1 h2 a b=>b _ a]
example Á4 _:=x base e cls a0 ő yp T
example Ì8:=List Stmt
example Á5{n c:Str}{body:Ì8}{p1 p2 p3 p4 hpos pos:Pos}:=0
example Á6 _:=x (g':=s₁.gens) (d':=s₁.drawn) (t':=s₁.toks) (ch:=[])
example Á7:=(Õ C::bm).contains
example Á8:=by decide +kernel
example Á9:=λ _ _ q=>q.elim
example Â0:=by rcases A8.mp ha with q | q
example Â2:=by let#[_,o,ho,AK]:=hl.mem hm;rw[he] at ho;cases ho;show AK vs hd
example Ó7{st:Stmt}:=0
example Â4{c f:Str}Ó7:=0
example Â5:=#[[É x,nameV,v],[]]
example Â6:=fun δ S Q Q' hq z=>he.mo δ S õ (λ y S1 z=>?_) z
example Ê2:=String
example Â7{B newId:Ê2} {mN mP:Aq}:=0
example Â9{fa fb:Ae}{ta tb:zy}(ha:xx fa ta) (hb:xx fb tb):=0
example Ã3:=["self",f]
example Ã4:=by rw[q,hT] at hb;cases hb;show AK ts xu
example Ã5:=(λ us s1 #[vs,H1,I1,r,q]=>#[I1.yB,?_])
example Ã6:=(.Call (ĉ "isinstance" p) [e,ĉ cn q] [] pos)
example Ã7{W:Aj}(hW:∀ v s',XP X gV Þ σ Q v s'->W v s'):=0
example Ó0:=Ev->Ĭ (List T)
example Ã8{F:Al}{ga:Ó0}{ua:ya}(h:oE ga ua):=0
example Ã9:=by rw[pC (Sr.sn r2)] at he;rw[if_neg (by rw[he];decide)] at P
example Ä0:=s₁.heap.get?
example Ä1:=.inr #[_,g5,#[o2,t2,b3,b4],o2,b3]
example Ï4{nm q:Str}:=0
example Ä2 Ï4{C N:Addr}{bs bm bmB:Ai}{hdct:Bool}:=0
example Ä3:=by rw[typeLookup_type,builtinLookup_eq_fast];kernel_rfl
example Ä6:=by have ue:∀ b,H b=none->b≠e:=λ b a z=>by rw[z,he] at a;cases a
example Ä8:=by let#[δ,S,r1,r2,z]:=hu
example Å0:=ExcAttrBase B bmB
example Å1:=ü e=↑oe
example Å2:=ĉ "ValueError" q
example Å3:=by repeat (any_goals (first | ext Ê4 | ext ú | wp_step))
example Å4 _:=x Ó5 X.K X.mg X.base
example Å5{oe:Obj}{vs:AE}{head a0:ò}{hadNext:Bool}:=0
example Å6 _:=x gD λ i j=>Ŵ (i/j)
example Å7 _:=x gC λ i j=>Ŵ (i*j)
example Å8:=A6 _ (zb2.mpr #[env,by rw[AB];show hm,ha])
example È7:=vi d=true
example Å9:=#[E.nx,λ d S'=>È7/\E.nx ï,Ħ,Ħ]
example Æ0:=by repeat (any_goals (first | ext Ê4 | ext Ç | wp_step))
example Æ2:=FuncData
example Æ4:=oe.cls=É C
example Æ5:=us b _ q Đ
example Æ6:=(Ŵ (if i<0 then -i else i))
example Æ7:=by have hx1:(onTheHeap (Õ C)&&Ò)=Þ:=by rw[hx2];rfl
example Æ8(e:Addr):=0
example Ç0:=by have he₂:(Ï6).get? e=↑oe:=za1 _ he₁
example Ç1:=checkBuiltinCall
example Ç2:=h₁.get? b=↑o
example Ç4:=yf (fG (λ _ _ _=>pO) λ _ _ _=>nofun) ha hb
example Ç6:=h'.Ns1 Ó (λ y=>if y=name then ↑v else none)
example Ç7:=zcS (iJ I hg hm ?_ AV)
example Ç8:=[Value.int a t1,Value.int b t2].toArray
example Ï7:=(λ _=>nofun)
example È2:=hq _ S (.refl S) (Cl.of Ï7 pO)
example È3:=mroOf (į B)=pure bmB
example È6:=(λ b z=>absurd z #[])
example È8(us:List α):=0
example È9(zv:yK P w H h):=0
example É1:=.Attribute
example É2:=yg k (A.deeper (envOfC x Æ3 ż f Af))
example É4:=yx y=true
example É5:=(g Y).bind
example É6 _:=x (λ b c=>us b _ c Đ) λ b xs c=>us b _ c Đ
example É7:=(wB xP á N x Æ3 f Af A ŭ s H E).vb
example É8:=Æ (Ó+1)=some { cls:=É C,data:=Ğ }
example É9:=(other b q).trans hb
example Ê1:=by simp![Sn] at h;let#[_,h,_]:=h;subst h;rfl
example Ê3 Ï4{C N P x:Addr}{bs bmB:Ai}:=0
example Ê5(hN:X.N.Nodup):=0
example Ê7:=by have b1:b≠e:=λ y=>by rw[y,en] at z;cases z
example Ë0:=h'.FunFrames base l
example Ë1:=(eI e C va)
example Ë2:=(a.free c o q n hx)
example Ë3:=λ _ _ h=>v8.ext e h
example Ë4:=by simpa [hab,argBest] using hP.symm
example Ë5:=by (with_reducible exact kX ű hm hB hna BX ?_)
example Ë6:=e∉(env::ŭ).filterMap (·.frame)
example Ë7:=λ b ps q=>#[Ž,by rw[Æ5];simp]
example Ë9:=by have hcC:Á7 Ĥ=true:=#[];unfold isInstance
example Ì0:=by let#[n,u',BZ]:=R3 u zv I.zv hp a9 a10
example Ì1 _:=x (hn _ (Zq hf)) (hn' _ (Zq hf)) (VV hf)
example Ì3:=oT.data=ā ts
example Ì7:=#[o,us,keep b o q hb₁,BP]
example Ì9:=H e=↑(oH e C dx)
example Í0:=List Addr
example Í2:=PySem.W.ns_none_of
example Í3:=[Ŵ a,Ŵ b]
example Í4(st:Stmt):=0
example Í5:=by (with_reducible exact za5 hD ?_;rw[hDc])
example Í6:=by have tbf:tb.isFreed=Þ:=by rw[<- htb];rfl
example Í7{f:Str}(h:f∈w6):=0
example Í8:=λ b o hb AK=>x.slots b o (å) AK
example Î0:=(Õ C::É P::pY).contains (É D)
example Î1:=#[oe,vs,he,hc,hdx,hdt]
example Î2:=by (with_reducible exact za5 hD ?_;rw[hDd])
example Î3(c f:Str):=0
example Î5:=Heap.get?_push_at
example Î7:=(į "ValueError")
example Î9:=by .subst q;show x.i9 õ _ (î) (ď xu _)
example Ï0{f:Addr}{fd:Æ2}:=0
example Ï1(he:AA X e es) (An:AH X pos es):=0
example Ï2 _:=x F (hr.mono hk) ha hg AV he An hn hW
example Ï3:=(É x)
example Ï5:=Builtin.«object.__setattr__»
example Ï8:=by repeat (first | ext Ç | ext ĩ | wp_step)
example Ï9:=by .rename_i c BE;show absurd BE (hnc c)
example Ð0 _:=x PySem.F.excBase_ValueError T hC hN
example Ð1:=by let#[Ï,hN',hn']:=hE.par.at I1.yB
example Ð2:=ę K (É f)=true
example Ð3:=∀ b o,Ĩ b=↑o->(ğ)->b≠e
example Ð4:=é M A (leaving env Ď) Q E s
example Ð5:=by let#[y,e1,e2]:=Ak.mp e;split at e2
example Ð6{yp:à}{T:Addr}:=0
example Ð8(B2:X.env.kindOf n=↑.local):=0
example Ñ9{e:Expr}:=0
example Ð9 Ñ9{te:zy}{p q pos:Pos}:=0
example Ñ0(ha:PD X a ta) (hb:PD X b tb):=0
example Ñ1 _:=x (fI.fits λ _ _ _=>Ţ) fI.mo ha hb
example Ñ3:=Ê9 x=↑{ o with dict:=↑ Ó }
example Ñ4{tk:Tok}:=0
example Ñ5:=by rw[q,he] at hb;cases hb;show AK vs hd
example Ñ8{e:Addr}:=0
example Ò2:=(fin _ oe a0 g0 λ a ha=>?_)
example Ò3:=[e,T]++ĭ
example Ò4:=PySem.F.attrBase_ValueError
example Ò6:=(SP X gV D)
example Ò7:=(É a)
example Ò8:=#[hE,h2,h3]
example Ò9:=(nZ X.K H D).nx
example Ó1(i:Nat):=0
example Ó2 _:=x á x (k+1) ps (zR R (yd N n g))
example Ó4:=by rw[yD] at q;cases q
example Ó6(hg:Gl X c) (AV:(c == ø)=Þ):=0
example Ó8{g:Ae}{te:zy}(hf:xx g te):=0
example Ó9{k:Nat}:=0
theorem Kx {e0:Expr}(hpe:PE X e0 (YG X.K "list" UX (zY X.K to) (ai (zY X.K te) ah))) (h:yG to) (h':yG te):PD X e0 (jH to te):=by
 exact#[jH.mo h h',PE.imp hpe fun σ H Q hu=>?_];ext Ä8;exact zY.go h ů;cases x with
 | ref p=>
  let#[#[ds,hd],h1]:=h1;simp![zj] at q1;subst q1;let#[xs,g1,g2]:=p1 õ hd;exact#[.inl #[rfl,xs,yj.of g1],?_];exact zY.go h' (r1.ext e1) p1 h1 λ y S2 w H2 h2 q2 e2 p2=>?_;let#[q,ds',es,rfl,b1,b2,b3,b4]:=h2;simp![zj] at q2;subst q2;let#[xs',g3,g4]:=p2 õ b1;let#[ys',g5,g6]:=p2 õ b2;exact#[p,q,xs',ys',rfl,rfl,g3,g5,by rw[<- g4.length,<- g6.length];show b3,?_];have e4:Ext H2 (upd H2 p (.lst (xs'++ys'))):=.lst g3 _;show b4 õ (Ţ) ((e1.trans e2).trans e4) (p2.ups e4 #[_,yD,zw.ext e4 _ (g4.append g6)])
 | _=>show h1.elim
def tB (ho:PD X o to) Ŕ
  (hbase:attributeBase o "extend" ĵ (eval o ĵ)=eval o ĵ)
  (AY:((backTo Ad (starEach [e] ĵ)).all (λ x=>!x.1)&&(backToKw Ad (keywordEach [] ĵ)).all (λ x=>x.1.isSome)
   && decide ([e].length+([]:List Keyword).length+(if ([]:List Keyword).isEmpty then 0 else 1)<30))=true)
  (hline:(apos.endLine == Ad.line)=true) (hs:AA X e []) (hplain:AH X Ad []):
  PD X (.Call (É1 o "extend" apos) [e] [] Ad) (jH to te):=
 Kx (Tr PySem.F.plainAttrs_list PySem.F.slot_list_extend PySem.F.type_list_extend JJ ho.pe (lQ he.pe jj hs) hbase AY hline hs hplain) ho.mo he.mo
end
end L3
namespace L5
open ţ L2 L3
@[simp] def Zu Ó1 (f:Ae):Sm:=fun Y=>match Y[i]? with
 | some ↑(.own (.lst ts))=>(f Y).bind λ y=>match y with
  | .lst us=>if ts.length+Ż<=sizeLine then ↑(.nx (Y.set i ↑(.own (.lst (ts++us))))) else none
  | _=>none
 | _=>none
section
variable {R:Rk}{f:Ae}{te:zy}
def sY Ó1 (hf:vf f te):zJ R (Zu i f) (Z6 (jH (yq i) te)):=λ S0 Z0 S Z δ Y o E F e P=>by
 unfold Zu at e;split at e
 .rename_i ts h;ext Ð5
  .rename_i us;split at e2
   .rename_i hl;cases e2;let#[p,ob,h1,h2,h3,h4]:=F.er.ow i _ h;obtain⟨ds,rfl⟩:∃ ds,ob=.lst ds:=by
     cases ob with
     | lst ds=>show#[ds,rfl]
     | _=>show h3.elim
    replace h3:zq (zK S Z) ts ds:=h3;change jH (yq i) te δ S _;unfold jH yq;rw[h1];exact#[#[ds,h2],hf Ë8 õ F.er e1 λ d S1 s1 r1=>?_];let#[q,es,rfl,g1,g2,g3]:=r1.2 us rfl;have F1:=F.grow s1;have g4:zq (zK S1 Z) us es:=zq.sx (wM λ a z=>.inl z) us g3;exact#[q,ds,es,rfl,s1 õ h2,g2,by rw[h3.len,g4.len];show hl,P _ Z δ (F1.mut (us:=.lst (ts++us)) (es:=.lst (ds++es)) i h h1 ((zq.sx (vy s1) ts h3).append g4))]
   .cases e2
  .cases e2
 .cases e
end
section
variable {α:Type}{P:List α->Prop}
def Dr (h:∀ a,P [a]) È8 (hl:Ż=1):P us:=match us,hl with | [a],_=>h a
def bz (h:∀ a b,P [a,b]) È8 (hl:Ż=2):P us:=match us,hl with | [a,b],_=>h a b
def Dq (h:∀ a b c,P [a,b,c]) È8 (hl:Ż=3):P us:=match us,hl with | [a,b,c],_=>h a b c
def Dp (h:∀ a b c d,P [a,b,c,d]) È8 (hl:Ż=4):P us:=match us,hl with | [a,b,c,d],_=>h a b c d
def Dn (h:∀ a b c d e,P [a,b,c,d,e]) È8 (hl:Ż=5):P us:=match us,hl with | [a,b,c,d,e],_=>h a b c d e
end
end L5
namespace L5
open ţ ě L2 L3
open Ă hiding St
section
variable {ë}{base h:Heap}{x:Str}{Ó7}
def Fx ŕ (x:Str) Í4:Prop:=∃ (f:Addr) (oc:ò) (od:à) (kV dc pm:ò) (an:à) (cd ct:ò) (sl:Æ1),
 Ĉ K Ŭ x=↑↑(É f)/\Ő/\PySem.W.codeIn K cd x=true/\Ð2
def Fx.i {f:Addr}{oc:ò}{od:à}{kV dc pm:ò}{an:à}{cd ct:ò}{sl:Æ1}(a:Ĉ K Ŭ x=↑↑(É f)) (l:Ő) (c:PySem.W.codeIn K cd x=true) (k:Ð2):Fx K x st:=#[f,oc,od,kV,dc,pm,an,cd,ct,sl,a,l,c,k]
def Fy ŕ (mg:Aq) (x:Str) Í4:Prop:=∃ (f:Addr) (fd:Æ2),pM K x x st f fd/\mg x=↑(É f)
def Fx.mk (H:Fx K x st) ù:Fy K mg x st:=by
 ext Ű;show#[f,_,fK l c k,Ť X G a]
theorem Fx.law {fa:Addr}{p:Str}(H:Fx K "law" st) ù (hfa:mg "law"=↑(É fa)) (hb:∀ (kV dc pm:ò) (an:à) (cd ct:ò) (s:ų) (v:ò),BindsTo s (È1 "law" "law" û dc pm an cd ct) #[[v],[]] [(p,v)]):∃ fd:Æ2,pM K "law" "law" st fa fd/\∀ (s:ų) (v:ò),BindsTo s fd #[[v],[]] [(p,v)]:=by
 ext Ű;have e:=hfa.symm.trans (Ť X G a);cases e;show#[_,fK l c k,hb kV dc pm an cd ct]
def Cn ŕ (x:Str) (t:V):Prop:=∃ u,Ĉ K Ŭ x=↑↑u/\L2.RelV t u
def Cn.i {t:V}{u:ò}(a:Ĉ K Ŭ x=↑↑u) (r:L2.RelV t u):Cn K x t:=#[u,a,r]
def Cn.mk {t:V}(H:Cn K x t) ù:∃ u,mg x=↑u/\L2.RelV t u:=by
 let#[u,a,r]:=H;show#[u,Ť X G a,r]
def G_ Î
  (hbody:∀ (f:Addr) ĕ,É2->
   ∃ t,xw É7 (xA st) t/\zJ R g t):FD Ó2:=by
 let#[f,fd,F,hm]:=F;show Fb F hm Sc hn hb (hbody f)
end
end L5
namespace ţ
section
variable {Ċ}{Ë}
variable {Ä2}{Á}{B newId initId:Ê2}
def OT Ü{fI:Addr}{oI:Obj}À8
  Ġ
  (hq:∀ h' e,Ó<=e->Ľ->
   é Ê A (call Î4 (É e::rest)) (λ r s'=>r=ő/\Q (.done (.ret Ď)) s') E ĥ) ŀ:
  Ÿ:=by
 ext Ų
 ext Ú;have hfI₁:=up õ hfI;have hget:É8:=by heap_get
 ext Ë9
 ext ķ
 ext Č;exact zaA (tp ?_);unfold bindSpecial;exact tp (zcU (T:="function") #[_,hfI₁,hfc] ?_);rw[if_pos ()];exact Ah (tp (za6 (hq _ (Ó+1) (zaX _) #[up,zcT (zaX _),Ó,hget,zcT (Ap _),?_]) (λ r s' hr=>?_) λ _ _ x=>x))
 .show za1 _ (Î5 rfl rfl)
 .let#[rfl,hQ]:=hr
  wp_walk
  show hQ
def Nf Ü{fI:Addr}{oI:Obj}{Q:Aj}
  Ġ
  (hq:∀ h' e,Ó<=e->Ľ->
   é Ê (A.under (Ñ2 "type.__call__" #[É C::rest,[]])) (call Î4 (É e::rest)) (λ r s'=>r=ő/\Q Ď s') E ĥ) ŀ:
  é Ê A (call Ĥ rest) ŷ:=by
 ext ó
 ext Å3
 exact#[rfl,?_];show codeAny_call_builtin_at (Ã0 _ (AU)) entry_typeCall (wpAny_check_type_call_sub hC (OT F T hC hn hi hfI hfc (λ h' e hl hm=>hq h' e hl hm) hrest))
def VL Ó3{env:Env}{s:ų}{x:Sem ò}{Q:Flow->Ø}(hbase:bm.contains í=true) (hh:A.handled=none)
  (hx:é M A x (λ v s₁=>∃ e yp vs sl,v=É e/\Ä0 C=↑ È/\
   Ä0 e=↑{ cls:=É C,dict:=yp,data:=Ô,slots:=sl }/\E Ď s₁) E s):
  é M A (raiseStmt env ↑x none) Q E s:=by
 have hcB:Á7 í=true:=by rw[BQ,hbase,zaQ]
 unfold raiseStmt;exact tp (za6 hx (λ v s₁ h₁=>?_) λ _ _ x=>x);let#[e,yp,vs,sl,rfl,hC,he,hE]:=h₁;let#[hp,g,d,tk,os]:=s₁
 repeat (first | with_reducible exact za5 he ?_ | ext ú | ext ĩ | wp_step)
 show wpAny_raiseNew_none hh hE
end
end ţ
namespace ţ
open Builtin Builtin.ObjectAttr
section
variable {Ċ}{Ó3}{Ë}
variable {Ê3}{hdct:Bool}{Á}{Â7}{name:Str}{v:ò}
structure kO (h:Heap) (P:Addr) (mP:Aq):Prop where
 ex:∃ (c0:ò) (dd:à) (cd:ClassData) (sl:Æ1),ü P=↑{ cls:=c0,dict:=dd,data:=.cls cd,slots:=sl }/\h.Ns cd.ns mP
def kX {n:Str}{y:Ĭ ò}{Q:Ĭ ò->Ø}
  (hC:ü C=↑(Ê8 nm q C N bs (É P::bmB) hdct Ō k5 newId)) ñ (hbm:È3) (hB:Ä9 (į B) n=pure y)
  (h1:mN n=none) (h2:mP n=none) (hq:Q y Ã):é M A (Ä9 Ĥ n) ŷ:=by
 let#[c0,pd,cd,sl,hA,hN]:=hP.ex;have hrest:lookupAlong bmB n=pure y:=by rw[typeLookup_eq,hbm] at hB;show hB
 rw[typeLookup_eq];exact tp (wpAny_mroOf_exc hC ?_);rw[lookupAlong_cons];exact tp (wpAny_classOwn_exc hC hn ?_);rw[h1];change é M A (lookupAlong (É P::bmB) n) Q E _;rw[lookupAlong_cons];exact tp (wpAny_classOwn_cls hA hN ?_);rw[h2];change é M A (lookupAlong bmB n) Q E _;rw[hrest];show Ah hq
def Nc {o:Obj}{nameV:ò}Ŝ{sa owner:Ê2}Ŗ Í (hq:Q Ì2 Ã):
  é M A (Ç1 sa Â5) ŷ:=by
 have hcB:ý (į owner)=true:=by rw[BQ,BQ,SF.hasOwner,zaQ,zaQ]
 have ha:=SF.args Ï3 nameV v;simp![Ç1,SF.kind,SF.split];exact tp ?_;unfold isInstance
 ext Ï8
 cases hsig:Manifest.signature? sa with
 | none=>show Ah hq
 | some sig=>
  simp![argsOk,hsig] at ha;have h2:Bind.checkArgs sa sig Â5=pure Ì2:=ha;change é M A (Bind.checkArgs sa sig Â5) Q E _;rw[h2];show Ah hq
def OU Ñ4 À8{sa owner:Ê2}{o:Obj}Ŗ ñ Û Í (hdn:o.dict=none) Â8
  (hq:∀ h' tk',Ñ3->Ç6->
   (∀ b o,b≠x->Ş)->Q (.done (.ret ő)) #[h',g,d,tk',os]):
  é Ê A (Ï5 #[[É x,.str name tk,v],[]]) ŷ:=by
 have hpass:=SF.passes Ï3;unfold Ï5
 repeat (first | rw[refuse_eq] | (rw[refuseLoop_ref,refuseLoop_ref,hpass]) | ext Ç | with_reducible exact wpAny_mroOf_exc hC ?_ | (with_reducible exact kX ű SF.mro hB hna BX ?_) | wp_step)
 rw[hdn,if_neg (by simp[typeHasDict])];split
 .rename_i BE;cases BE
 split
 ext Ï9
 .have hx₁:(È0).get? x=↑o:=za1 _ hx;have hxs:x≠ Ó:=AG (Ar hx);exact tp (wpAny_alloc' ?_);exact tp (wpAny_update' hx₁ ?_);exact Ah ?_;have hgd:(ē).get? Ó
    = ↑{ cls:=į "dict",data:=.dict Ž }:=
   (zcV õ õ hxs.symm).trans (Î5 rfl rfl)
  have hnd:(ē).Ns Ó (λ _=>none):=
   #[_,Ž,_,hgd,rfl,λ e he=>absurd he #[],λ _=>rfl]
  change é õ (storeInDict Ó (.str name tk) name v) õ _;unfold storeInDict newKeyGuard;exact tp (Ah (tp (wpAny_nsSet1 (Heap.Ns1.of_empty hnd) λ h' hn' hs=>?_)));let#[oD,esD,epD,hoD,hdD,hcD]:=hn'.count (Within.cons name v Within.nil);exact tp (wpAny_lookBehind hoD (by rw[hdD];show pastItsLine_dict (BH hcD (by rw[A7,zbD,sizeLine_eq];lia))) ?_)
  wp_walk
  exact hq h' _ ?_ hn' λ b ob hbx hb=>?_
  .exact (hs.2 x hxs).trans (za8 _ hx₁ ?_);have AR:=(Heap.get?_some_iff.mp hx).2;let#[oc,od,odt,osl]:=o;cases odt <;> first | rfl | show AR
  .show (hs.2 b (AG (Ar hb))).trans ((zcV õ õ hbx).trans (za1 _ hb))
def OV Ŝ{sa owner:Ê2}{o:Obj}Ŗ ñ (hns:mN "__setattr__"=none) (hps:mP "__setattr__"=none) Û Í (hdn:o.dict=none) Â8
  (hq:∀ h' tk',Ñ3->Ç6->
   (∀ b o,b≠x->Ş)->Q Ì2 #[h',g,d,tk',os]):
  é Ê A (setAttr Ï3 name v) ŷ:=by
 have f3:=SF.slot.bind Ï3;unfold setAttr callSpecial? specialOf
 repeat (any_goals (first | ext Ê4 | ext Ç | (with_reducible exact kX ű SF.mro SF.slot.lookup hns hps ?_) | wp_step))
 exact Œ SF.slot.plain SF.entry (Nc SF hC hx hc (OU SF ű hna BX hB hx hc hdn hnc λ h' tk' h1 h2 h3=>?_))
 ext Ŏ
 show hq h' tk' h1 h2 h3
end
section
variable {Ċ}{Ó3}{Ë}
variable {Ï4}{C N P x dx:Addr}{bs bmB:Ai}{Á}{B newId:Ê2}
 {mN mP mA:Aq}{name:Str}{v:ò}{o:Obj}
def VO {nameV:ò}Ŝ(hb:Ã1 í=true) (hC:À)
  Í (hq:Q Ì2 Ã):é M A (Ç1 "BaseException.__getattribute__" #[[É x,nameV],[]]) ŷ:=by
 have hk:builtinKind "BaseException.__getattribute__"=↑.slot:=Á8
 have hsplit:splitId "BaseException.__getattribute__"=↑("BaseException","__getattribute__"):=Á8
 have hcB:ý í=true:=by rw[BQ,BQ,hb];rfl
 have ha:=F.args_bexc_ga Ï3 nameV;simp![Ç1,hk,hsplit];exact tp ?_;unfold isInstance
 ext Ï8
 show hq
def OW Ñ4 À8
  (hC:À) ñ (hm:È3) Û Í Ņ (hq:Q (.done (.ret v)) Ã):
  é Ê A (ť #[[É x,.str name tk],[]]) ŷ:=by
 unfold ť
 repeat (first | ext Ç | ext Ë5 | wp_step)
 split
 ext Ï9
 unfold instanceDict
 repeat (first | ext Ç | ext ú | wp_step)
 rw[hdx]
 repeat (first | (with_reducible exact wpAny_nsGet hns.ns ?_;rw[hv]) | wp_step)
 show hq
def OZ {expr:Bool}{Q:Aj}(FB:Å0)
  (hC:À) ñ ĝ Û Í Ņ (hh:handedOut v=pure v) (hq:Q v #[h,g,d,t+1,os]):
  é Ê A (getAttr Ï3 name expr) ŷ:=by
 have f3:=FB.ga.bind Ï3;have hx0:(expr&&onTheHeap (Ä5))=Þ:=by cases expr <;> rfl
 have hx2:(Ò)=Þ:=Á8
 ext Æ7
 unfold getAttr getAttrBy
 ext ì
 exact Œ FB.ga.plain F.entry_bexc_ga (VO FB.hasBase hC hx hc (OW ű FB.mro hna BX hB hx hc hnc hdx hns hv ?_))
 repeat (any_goals (first | ext Ê4 | (rw[hh];show Ah hq) | wp_step))
end
section
variable {Ċ}{Ë}
variable {Ê3}{Á}{Â7}{o:Obj}
def O_ {R:Result->Ø}ć
  Í (hq:R (.ok (.ret Ĥ)) Ã):
  codeAny Ê A (.call (Ñ2 "getset_descriptor.__get__") #[[ö,É x,É C],[]]) R Ã:=by
 ext ũ;have hcB:ý (į (".".intercalate ("object.__class__".cutAt '.').dropLast))=true:=by rw[F.owner_object_class,BQ,BQ,hb];rfl
 exact Œ F.slot_gs_get.plain F.entry_gs_get (F.slot_gs_get.check õ õ õ õ hT5 (F.args_gs_get õ _) ?_)
 repeat (any_goals (first | ext Ê4 | ext Ç | ext ĩ | wp_step))
 exact#[Ã0 _ (AU),codeAny_builtin F.entry_object_class ?_]
 ext Æ0
def Na Ñ4 À8 ć ñ (hm:È3)
  (hB:Ł) Â1
  Í (hq:Q (.done (.ret Ĥ)) Ã):
  é Ê A (ť #[[É x,.str "__class__" tk],[]]) ŷ:=by
 ext ũ;have f5:=F.typeOf_object_class;have f6:=F.slot_gs_get.lookup;have f7:=F.slot_gs_set.lookup
 repeat (any_goals (first | ext Ê4 | ext Ç | ext Ë5 | wp_step))
 exact O_ hb hC hx hc ?_
 ext Ŏ
def Nb Ñ4{Q:Aj}(FB:Å0) ć Ñ
  Í (hq:Q Ĥ Ã):é Ê A (getAttrBy Ï3 (.str "__class__" tk) Þ) ŷ:=by
 have f3:=FB.ga.bind Ï3;have hx2:(Ò)=Þ:=Á8
 ext Æ7
 ext ì
 exact Œ FB.ga.plain F.entry_bexc_ga (VO FB.hasBase hC hx hc (Na hb ű FB.mro hB hna BX hx hc ?_))
 ext Ŏ
def VN {Q:Ĭ ò->Ø}(FB:Å0) ć Ñ
  Í (hq:Q ↑ Ĥ #[h,g,d,t+1,os]):é Ê A (getAttr? Ï3 "__class__") ŷ:=by
 unfold getAttr? getAttrBy?
 repeat (any_goals (first | ext Ê4 | with_reducible apply Nb FB hb ű hB hq1 hq2 hq3 hq4 hna BX hx hc | wp_step))
end
section
variable {Ċ}{Ë}
variable {Ï4}{C N P x D:Addr}{bs bmB:Ai}{Á}{Â7}{o:Obj}
structure Vg (h:Heap) (C P:Addr) (B:Ê2) (bmB:Ai):Prop where
 FB:Å0
 hb:Ã1 (į "object")=true
 hB:Ł
 ex:∃ (nm q:Str) (N:Addr) (bs:Ai) (sn:İ) (sub:Ai) (ab:Bool) (col:Ĭ Bool) (dd:à) (k0 k1 k2 k3 k5:Ĭ ò) (newId:Ê2) (mN mP:Aq),
  À/\h.Ns N mN/\kO h P mP/\
  ∀ n∈(["__getattribute__","__getattr__","__class__"]:İ),mN n=none/\mP n=none
def OY Ñ4{dep:Int}À8{oD:Obj}{cD:ClassData}(X:Vg h C P B bmB) Í (hD:ü D=↑oD) (hDc:oD.cls=į "type") (hDd:oD.data=.cls cD)
  (hq:∀ t',Q (.done (.ret (.bool (ý (É D))))) #[h,g,d,t',os]):
  é Ê A (À6 #[[É x,É D,Ŵ dep tk],[]]) ŷ:=by
 ext Ö;by_cases he:C=D
 .subst he;have BO:ý Ĥ=true:=#[];rw[BO] at hq;have hee:(Õ C == Õ C)=true:=#[]
  ext Æ0
  show hq _
 .have hee:(Õ C == Õ D)=Þ:=by exists he
  cases BO:ý (É D) with
  | true=>
   rw[BO] at hq
   repeat (any_goals (first | ext Ê4 | ext Ç | ext Í5 | ext Î2 | ext Į | wp_step))
   show hq _
  | Þ=>
   rw[BO] at hq
   repeat (any_goals (first | ext Ê4 | ext Ç | ext Í5 | ext Î2 | ext Į | ext ŧ | ext ú | wp_step))
   show hq _
def OX Ñ4{dep:Int}À8{T:Ê2}(X:Vg h C P B bmB) Í (hty:typeOf (į T)=pure (į "type"))
  (hq:∀ t',Q (.done (.ret (.bool (Ã1 (į T))))) #[h,g,d,t',os]):
  é Ê A (À6 #[[É x,į T,Ŵ dep tk],[]]) ŷ:=by
 ext Ö;have hee:(Õ C == Value.type T)=Þ:=rfl;have BO:ý (į T)=Ã1 (į T):=by rw[BQ,BQ];rfl
 cases hct:Ã1 (į T) with
 | true=>
  rw[hct] at hq BO
  repeat (any_goals (first | ext Ê4 | ext Ç | ext Į | wp_step))
  show hq _
 | Þ=>
  rw[hct] at hq BO
  repeat (any_goals (first | ext Ê4 | ext Ç | ext Į | ext ŧ | ext ú | wp_step))
  show hq _
def VM {c:ò}{b:Bool}{s:ų}{Q:Aj}(hn:∀ (prog:Program) (w:World) (A:Around) (Q:Fin->Ø) (E:Aj),(∀ t',Q (.done (.ret (.bool b))) { s with toks:=t' })->é Ê A (À6 #[[É x,c,rawInt 0],[]]) Q E s)
  (hq:∀ t',Q (.bool b) { s with toks:=t' }):é Ê A (call (Ñ2 "isinstance") [É x,c]) Q E s:=
 call_isinstance (S:=λ _ R s'=>s'=s/\∀ t',R (.ok (.ret (.bool b))) { s with toks:=t' }) (λ prog w A R s' hs=>by
  let#[rfl,hs]:=hs;exact isinstance_outer (hn prog w õ _ λ t'=>?_) (λ e=>by cases e);show hs t') #[rfl,λ t'=>hq t']
end
namespace Heap
def fU (h base:Heap) Æ8 (cls a0 fl:ò) (yp:à) (T:Addr):Prop:=
 ∃ oe vs oT ts,Å1/\((oe.cls=cls/\Ñ7=yp)/\È4)/\À5/\vs[1]?=↑(É T)/\base.get? T=none/\T≠e/\ü T=↑oT/\Ì3/\ts[3]?=↑fl
structure ZV (base:Heap) (l:List Env) Æ8 (cls a0:ò) (yp:à) (h h':Heap):Prop where
 stays:Ã2 h'
 frames:Ë0
 tr:∃ T,Ó<=T/\h'.fU Á4
 slots:h.UpToSlots h'
 i9:∀ b o vs,Ì4->Ī
end Heap
def Obj.RW (f:Array ò->Array ò) (o:Obj):(Ì5 f o).dict=o.dict:=by
 let#[c,dc,dt,sl]:=o;cases dt <;> rfl
section
variable {ŗ}{s:ų}
def VH ç Å5 Å
  ã (hsz:1<vs.size) Ĵ:
  é M A đ (λ _ s'=>é M A Š Q E s') E s:=by
 have hene:Ë6:=λ hm=>by
  ext Â2
 ext ł
 ext Í6
 ext Ç0;exact zcK he₂ hd hsz ?_;ext Ì;unfold setFlight;exact tp (za7 he₃ hd₃ (x:=É ĸ) (by simp[hsz]) ?_);rw[if_pos (show (Õ ĸ != É3)=true from by simp)];exact zcK hT₃ tbd (by simp![AN,zD7,A7,zbD] <;> lia) (h _ ?_);have keep:∀ b o,b≠e->Ç2->(((Ï6).update e ð).update ĸ ŉ).get? b=↑o:=λ b o B4 hb=>by
  rw[za9 õ (BS (Ar hb)),za9 õ (Ò0 B4)];show za1 _ hb
 have Ì6:Ð3:=λ b o hb AK q=>by
  ext Ñ5
 exact ÿ
 .ext Ř;show#[_,ı,rfl]
 .exact#[ĸ,by rw[hs₁.1];show Ap _,_,_,_,_,?_,ŵ,hd₃,by simp[hsz],kb₁.fresh,hTe,za8 _ hT₃ (È5 (ď tbd _)),ď tbd _,by first | (simp;done) | (rcases An with rfl | ⟨_,_,_,_,_,_,_,rfl⟩ <;> simp)];rw[za9 õ hTe];show he₃
 .ext Ř;show#[sl,ı]
 .by_cases q:b=e
  .subst q;show#[_,_,(by rw[za9 õ hTe];show he₃),hd₃]
  .have hb₁:Ç2:=(hs₁.2.1 b λ hm=>by
    ext Á0).trans hb
   show Ì7
def OO ç{oe:Obj}{vs:AE}{a0:ò}Å
  ã (h1:vs[1]?=↑ ő) Ĵ:Ð4:=by
 ext ſ;rw[if_neg ()];show VH AR hl hf he hkb hen hd (ľ h1).1 h0 h
def OK ç{cls a0:ò}Ð6 Å (ht:s.heap.fU Á4) Ķ
  (h:∀ h',Heap.ZV Æ9 e cls a0 yp œ h'->Ù):Ð4:=by
 ext ĺ;ext ſ;ext Ð;have Ì6:À7:=λ b o hb AK q=>by
  ext Ã4
 exact VH Ē
  λ h' x=>h h' #[x.stays,x.frames,(by
   ext ş),Í8,λ b o us hb BP=>(by
   by_cases q:b=T
   ext Î9
   .show x.i9 b o us (É9) BP)]
end
structure Heap.PC (base:Heap) (l:List Env) Æ8 (cls a0 fl:ò) (yp:à) (h h':Heap):Prop where
 stays:Ã2 h'
 frames:Ë0
 tr:∃ T,Ó<=T/\h'.fU base e cls a0 fl yp T
 slots:h.UpToSlots h'
 i9:∀ b o vs,Ì4->Ī
section
variable {ŗ}{s:ų}
def OP ç Å5 Å
  ã (hsz:1<vs.size) (h0:È4)
  (h:∀ h',Heap.PC Æ9 e oe.cls a0 (rawInt L) Ñ7 œ h'->Ù):
  é M A đ Q E s:=by
 have hene:Ë6:=λ hm=>by
  ext Â2
 ext ł
 ext Í6
 ext Ç0;exact zcK he₂ hd hsz (h _ ?_);ext Ì;have keep:∀ b o,b≠e->Ç2->((Ï6).update e ð).get? b=↑o:=λ b o B4 hb=>by
  rw[za9 õ (Ò0 B4)];show za1 _ hb
 have Ì6:Ð3:=λ b o hb AK q=>by
  ext Ñ5
 exact ÿ
 .ext Ř;show#[_,ı,rfl]
 .show#[ĸ,by rw[hs₁.1];show Ap _,_,_,_,_,he₃,ŵ,hd₃,by simp[hsz],kb₁.fresh,hTe,hT₃,tbd,#[]]
 .ext Ř;show#[sl,ı]
 .by_cases q:b=e
  .subst q;show#[_,_,he₃,hd₃]
  .have hb₁:Ç2:=(hs₁.2.1 b λ hm=>by
    ext Á0).trans hb
   show Ì7
def OJ ç{cls a0:ò}Ð6 Å (ht:s.heap.fU Á4) Ķ
  (h:∀ h',Heap.PC Æ9 e cls a0 (rawInt L) yp œ h'->Ù):é M A (noteFrame Ď env) Q E s:=by
 ext ĺ;unfold noteFrame;simp![hf];exact Ê0;ext Ð;have Ì6:À7:=λ b o hb AK q=>by
  ext Ã4
 exact OP Ē
  λ h' x=>h h' #[x.stays,x.frames,(by
   ext ş),Í8,λ b o us hb BP=>(by
   by_cases q:b=T
   ext Î9
   .show x.i9 b o us (É9) BP)]
def VG Â3{l:List Env}Ñ8{cls a0 fl:ò}Ð6 Ŝ
  (hkb:Ã2 œ) (hl:s.heap.FunFrames base l) (ht:s.heap.fU base e cls a0 fl yp T)
  (h:∀ h',Ã2 h'->Ë0->h'.fU Á4->s.heap.UpToSlots h'->(∀ b o vs,Ĩ b=↑o->Ī)->Ù):é M A Š Q E s:=by
 let#[oe,vs,oT,ts,he,BJ,hd,h1,hnT,hTe,hT,xu,h3]:=ht;have hsz3:3<ts.size:=(ľ h3).1;have other:∀ b,b≠T->(s.heap.update T ŉ).get? b=Ĩ b:=
  λ b hb=>za9 õ (Ò0 hb)
 have Ì6:À7:=λ b o hb AK q=>by
  ext Ã4
 unfold setFlight;exact Ê0;rw[Ä7];exact zcK hT xu hsz3 (h _ Ć
  Ç3 ?_ (λ b o hb AK=>#[o.slots,å]) λ b o us hb BP=>?_)
 .show#[oe,vs,_,_,Í9,BJ,hd,h1,hnT,hTe,î,ď xu _,by simp[hsz3]]
 .by_cases q:b=T
  .subst q;show#[_,_,î,ď xu _]
  .show#[o,us,É9,BP]
end
end ţ
namespace ţ
open Calls Spec
section
variable {Ċ}{ŗ}{env:Env}
variable {Ï4}{C N:Addr}{bs bm:Ai}{hdct:Bool}{Á}{newId:Ê2}
variable {nm' q':Str}{P N':Addr}{bs' bm':Ai}{hdct':Bool}{sn':İ}{sub':Ai}{ab':Bool}{col':Ĭ Bool}{dd':à}{l0 l1 l2 l3 l5:Ĭ ò}{newId':Ê2}
def OL À1 Ñ8{oe:Obj}{Q:Bool->Ø}
  (hC:ü C=↑ È) (hP:ü P=↑ Ŀ)
  (he:Å1) (BJ:Æ4) Á1
  (hq:Q true Ã):é M A (excMatches Ď (É P)) ŷ:=by
 have hcB:(Õ P::bm').contains í=true:=by rw[BQ,hbase,zaQ]
 have hcP:Á7 (É P)=true:=by rw[BQ,hm,zaQ]
 have f:=tc_notTuple;unfold excMatches
 repeat (first | (with_reducible exact za5 he ?_;rw[BJ]) | with_reducible exact za5 hP ?_ | (with_reducible exact zcI hP ?_;rw[hcB]) | (with_reducible exact zcI hC ?_;rw[hcP]) | wp_step)
 show hq
def OM {s:ų}Ñ8{t:Expr}{n:Str}{b₀:Stmt}{suite:Ì8}{pos:Pos}{rest:List ExceptHandler}{Q:Flow->Ø}
  Á1
  (h:é Ś (eval t env) (λ c s₁=>c=É P/\Ä0 C=↑ È/\Ä0 P=↑ Ŀ/\(∃ oe,Ä0 e=↑oe/\Æ4)/\
   é Ś Š (λ _ s₂=>
     é Ś (storeName env n Ď) (λ _ s₃=>
      é Ś (execs (b₀::suite) env)
       (λ f s₄=>é Ê A (do bindName env n ő;unbindBehindTheSuite env n pos) (λ _ s₅=>Q f s₅) E s₄)
       (AsSuiteRaised Ś env n pos ê) s₃) ê s₂) ê s₁) ê s):
  é Ê A (handleBy Ď env (.ExceptHandler ↑t ↑n (b₀::suite) pos::rest)) Q E s:=by
 exact wpAny_handleBy_cons (codeAny_handlers_test (za6 h (λ c s₁ h₁=>?_) λ _ _ y=>y)) (by intro q;cases q);let#[rfl,hC,hP,#[oe,he,BJ],hk]:=h₁;let#[hh,g,d,tk,os]:=s₁;show OL hC hP he BJ hbase hm (codeAny_handlers_suite_as hk)
end
end ţ
namespace L3
open ţ ě L2
open Ă hiding St
def pK (T:Addr):HO:=.ext λ h=>∃ oT ts,ü T=↑oT/\Ì3
def PU (h:Heap) Æ8:Prop:=∃ oe vs a0,Å1/\À5/\vs[1]?=↑ ő/\È4
def gk (h:Heap) (H:Hp) Æ8:Prop:=∃ oe vs a0 T oT ts,Å1/\À5/\È4/\vs[1]?=↑(É T)/\T≠e/\H T=↑(pK T)/\ü T=↑oT/\Ì3/\ts[3]?=↑ ő
def bD (H:Hp) Æ8:Prop:=∃ C dx,Ì9
section
variable {ź}{H:Hp}{h h':Heap}
def Wi {fs as:Í0}È9 (hf:∀ b∈fs,H b=none/\∀ o,Ì4->ğ) (st:(Ũ h as).StaysIn h') (us:h.UpToSlots h')
  (has:∀ a∈as,a∈fs\/∃ φ:Heap->Prop,H a=↑(.ext φ)/\φ h'/\∃ o,Ê9 a=↑o):Un fs [] H H h h'/\yK P w H h':=by
 have st':∀ b o,b∉as->Ş:=λ b o hb e=>st b o (PySem.W.hideAll_get _ e hb);exact#[#[λ b o e n hb _=>st' b o (λ hm=>?_) e,λ b o e n hb _=>us b o e ((hf b hb).2 o e),λ _ _ _ n _=>n,λ b o e _=>?_,ġ,λ _ _ _ q=>q,λ _ ps q=>#[Ž,by rw[q];simp]],λ a o e=>?_]
 .rcases has b hm with z | ⟨φ,z,_⟩
  .show hb z
  .rw[n] at z;cases z
 .by_cases hm:b∈as
  .rcases has b hm with z | ⟨φ,_,_,z⟩
   .let#[sl,q]:=us b o e ((hf b z).2 o e);show#[_,q]
   .show z
  .show#[o,st' b o hm e]
 .by_cases hm:a∈as
  .rcases has a hm with z | ⟨φ,z,z1,z2⟩
   .rw[(hf a z).1] at e;cases e
   .rw[e] at z;cases z;show#[z1,z2,(zv a _ e).2.2]
  .exact (zv a o e).oZ (λ b u hb q=>?_) (λ _ q=>q) ġ;rcases hb with rfl | hb
   .show st' _ u hm q
   .exact st' _ u (λ hm'=>?_) q;rcases has b hm' with z | ⟨φ,z,_⟩
    .rw[(hf b z).1] at hb;cases hb
    .rw[hb] at z;cases z
def R3 {fs:Í0}{T:Addr}{oT:Obj}{ts:AE}(u:Un fs [] H H h h') (zv:yK P w H h') (hk:yK P w H h) (hp:Ó<=T) (e:Ê9 T=↑oT) (hd:Ì3):
  H T=none/\Un fs [] H Î6 h h'/\yK P w Î6 h':=by
 have hn:=hk.fresh hp;exact#[hn,#[u.keep,u.slot,λ b o q n x=>by rw[zX (AG (BG (Ar q) hp))];show n,u.there,λ b xs q=>by rw[zX (vv q hn)];show q,λ b o xs q=>by rw[zX (vv q hn)];show q,λ b ps q=>#[Ž,by rw[zX (vv q hn),q];simp]],λ b o q=>?_];by_cases hb:b=T
 .subst hb;ext Ó4;show#[#[oT,ts,e,hd],#[oT,e],λ h1 h2 #[o,ts,a,b] k=>#[o,ts,k _ a,b]]
 .rw[zX hb] at q;show (zv b o q).oZ (λ _ _ _ z=>z) (λ c z=>by rw[zX (vv z hn)];show z) λ c xs z=>by rw[zX (vv z hn)];show z
end
section
variable {ū}{ċ}{Ñ8}
def We ä:∀ b∈ ĭ,H b=none/\∀ o,Ĩ b=↑o->ğ:=λ b hb=>
 #[I.YI b hb,λ o ho=>by
  let#[_,o',ho',hd]:=I.stack.mem hb;rw[ho] at ho';cases ho';show hd]
def RH {H:Hp}Ñ6 ź{C:Addr}{dx:à}{oe:Obj}È9 (he:Ì9) (q:Å1):Æ4/\Ñ7=dx:=by
 let#[#[o',_,a,b,c,_],_]:=zv e _ he;rw[q] at a;cases a;show#[b,c]
def Ij Ó3{E:Aj}ä è (he:bD H e) (hf:PU œ e\/gk œ H e) Ą:é M X.A (leaving ĵ Ď) Q E s:=by
 ext ŝ;have fin:∀ (as:Í0) (oe:Obj) (a0:ò),Ĩ e=↑oe->(∀ a∈as,a=e\/a∈ ĭ\/H a=↑(pK a))->
   ∀ h':Heap,Heap.ZV (Ũ œ as) (Ò1) e oe.cls a0 Ñ7 œ h'->Ù:=λ as oe a0 g0 has h' x=>by
  let#[T,hp,oe',vs',oT,ts,a1,#[#[a2,a3],a4],a5,a6,a7,a8,a9,a10,a11]:=x.tr;let#[z1,z2]:=RH I.zv hE g0;let#[u,zv]:=Wi (as:=as) I.zv (We I) x.stays x.slots λ a ha=>by
   rcases has a ha with z | z | z
   .rw[z];show Ŋ
   .show .inl z
   .let#[#[oT,ts,q1,q2],_]:=I.zv a _ z;let#[o',ts',q3,q4]:=x.i9 õ _ q1 q2;show .inr #[_,z,#[o',ts',q3,q4],o',q3]
  ext Ì0;show hq h' T n u' BZ #[oe',vs',a0,T,oT,ts,a1,a5,a4,a6,a8,yD,a9,a10,a11]
 have B2:∀ (r:Í0),∀ env∈ Ò1,∀ a,env.frame=↑a->a∈r++ĭ:=λ r env hm a ha=>Å8;rcases hf with ⟨oe,vs,a0,g0,g1,g2,g3⟩ | ⟨oe,vs,a0,T,oT,ts,g0,g1,g3,g2,g4,g5,g6,g7,g8⟩
 .exact OO (base:=Ũ œ ([e]++ĭ)) hF (Ŷ hS (B2 _)) AR g0 č g1 g2 g3 Ò2;ext Â0
  .show .inl (AJ.mp q)
  .show .inr (.inl q)
 .exact OK (base:=Ũ œ (Ò3)) hF (Ŷ hS (B2 _)) AR Ý č Ò2;ext Â0
  .rcases Ao.mp q with q | q
   .show .inl q
   .show .inr (.inr (by rw[AJ.mp q];show g5))
  .show .inr (.inl q)
end
section
variable {ū}{ċ}{Ñ8}{ŗ}
def J0 ä è (he:bD H e) (hf:gk œ H e) Ą:
  é M X.A (noteFrame Ď ĵ) (λ _ s₂=>é M X.A Š Q E s₂) E s:=by
 ext ŝ;ext ř;have B2:∀ env∈ Ò1,∀ a,env.frame=↑a->a∈ Ò3:=λ env hm a ha=>Å8;exact OJ (base:=Ũ œ (Ò3)) hF (Ŷ hS B2) AR Ý č λ h1 x=>?_;let#[T',hp,tr]:=x.tr;exact VG (s:={ s with heap:=h1 }) x.stays x.frames tr λ h2 y1 y2 y3 y4 y5=>?_;let#[oe',vs',oT',ts',a1,#[#[a2,a3],a4],a5,a6,a7,a8,a9,a10,a11]:=y3;let#[z1,z2]:=RH I.zv hE g0;let#[u,zv]:=Wi (as:=Ò3) I.zv (We I) y1 (x.slots.trans y4) λ a ha=>by
  ext Â0
  .rcases Ao.mp q with q | q
   .rw[q];show Ŋ
   .rw[AJ.mp q];let#[o1,t1,b1,b2]:=x.i9 õ _ g6 g7;let#[o2,t2,b3,b4]:=y5 õ _ b1 b2;show Ä1
  .show .inl q
 ext Ì0;show hq h2 T' n u' BZ #[oe',vs',a0,T',oT',ts',a1,a5,a4,a6,a8,yD,a9,a10,a11]
def IA ä (he:bD H e) (hf:gk œ H e) Ŝ
  (hq:∀ h',Un (ĭ) [] H H œ h'->yK Ó5 H h'->Ù):é M A Š Q E s:=by
 let#[C,dx,hE]:=he;ext ř;have B2:∀ env∈X.stack,∀ a,env.frame=↑a->a∈[T]++ĭ:=λ env hm a ha=>A6 _ (zb2.mpr #[env,hm,ha]);exact VG (base:=Ũ œ ([T]++ĭ)) Í1 (Ŷ I.stack B2) Ý λ h2 y1 y2 y3 y4 y5=>?_;let#[u,zv]:=Wi (as:=[T]++ĭ) I.zv (We I) y1 y4 λ a ha=>by
  ext Â0
  .rw[AJ.mp q];let#[o2,t2,b3,b4]:=y5 õ _ g6 g7;show Ä1
  .show .inl q
 show hq h2 u zv
def G1 {i:Nat}{x:Str}{pos:Pos}Ŝ ä Ê5 (hi:X.N[i]?=↑x) (hk:X.env.kindOf x=↑.local)
  (h:∀ s',Inv X gV (σ.set i none) H s'->Q Ì2 s'):é M A (do bindName ĵ x ő;unbindBehindTheSuite ĵ x pos) Q E s:=by
 let#[m,hn,hl]:=id I.loc;have BJ:(X.env.scope.kind == .class||(X.env.scope.kind == .module&&X.env.locals != X.env.globals))=Þ:=by rw[I.ok.kind];rfl
 have l6:=I.l6;let#[oL,_,_,hoL,_]:=id hn;exact wpAny_nameGoes_keeps hk hn BJ λ h' v hn' hs=>?_;exact h _ #[I.ok,I.os,I.bare,#[λ b o e n hb hx=>?_,λ b o e n hb hx=>?_,I.base.free,λ b o e hx=>?_,I.base.oY,I.base.nV,I.base.mx],#[_,hn',λ j y v' e1 e2 e3=>?_],λ y c e=>?_,I.free,I.oU,λ p hp=>?_,λ b ob e=>?_,by exists I.len]
 .show Ń (I.base.keep b o e n hb hx)
 .let#[sl,e1]:=I.base.slot b o e n hb hx;show#[sl,Ń e1]
 .let#[o',e1]:=I.base.there b o e hx;show#[o',Ń e1]
 .by_cases hj:j=i
  .subst hj;rw[zb4] at e2;simp at e2
  .rw[zc3 (Ò0 hj)] at e2;let#[u',r',q]:=hl j y v' e1 e2 e3;exact#[u',r',?_];rcases q with ⟨k,e⟩ | ⟨k,c,e,z⟩
   .exact .inl #[k,?_];have:y≠x:=λ e=>hj (Xx hN e1 (e▸hi));simp[this,e]
   .show .inr #[k,c,e,z.sameBut hs (l6 y c e)]
 .let#[w',z]:=I.cell y c e;show#[w',z.sameBut hs (l6 y c e)]
 .let#[e,n,ne,nf,d]:=I.pin p hp;show#[(hs.2 p.1 ne).trans e,n,ne,nf,d]
 .exact (I.zv b ob e).oZ (λ c w' hc q=>(hs.2 c ?_).trans q) (λ _ q=>q) ġ;rintro rfl;rcases hc with rfl | hc
  .rw[I.free] at e;cases e
  .rw[I.free] at hc;cases hc
end
abbrev w6:İ:=["place","pair","way","times","told","name","row"]
def Zq Í7:f∈jm:=by
 simp![Ao,A4,or_false] at h ⊢;rcases h with h | h | h | h | h | h | h <;> simp[h]
def VV Í7:Ä9 Î7 f=pure none:=by
 simp![Ao,A4,or_false] at h;rcases h with rfl | rfl | rfl | rfl | rfl | rfl | rfl <;> (ext Ä3)
def Nr:Ä9 Î7 "__class__"=pure ↑(ö):=by ext Ä3
section
variable {À2}{Ñ6}{c:Str}{C P N NP:Addr}{bm:Ai}
def jR.at (o:jR K c C bm N) (X:K.In h):(∃ (q:Str) (bs:Ai) (sn:İ) (sub:Ai) (ab:Bool) (col:Ĭ Bool) (dd:à) (k0 k1 k2 k3 k5:Ĭ ò),ü C=↑(Ê8 c q C N bs bm true Ō k5 "ValueError.__new__"))/\h.Ns N (h.nsMap N)/\∀ n∈jm,h.nsMap N n=none:=by
 let#[Ů,ok,hn]:=o;show#[#[q,bs,sn,sub,ab,col,dd,k0,k1,k2,k3,k5,X õ e],.of_isNs (PySem.W.isNs_of_in X ok),λ n m=>PySem.W.nsMap_none_of_in X ok (hn n m)]
theorem km.VJ (e:Ň) (X:K.In h):Vg h C P "ValueError" pY:=by
 let#[Ū,hN,hn]:=e.own.at X;let#[Ï,hN',hn']:=e.par.at X;exact#[Ò4,(),Nr,c,q,N,bs,sn,sub,ab,col,dd,k0,k1,k2,k3,k5,_,_,_,hC,hN,À0,λ n m=>?_];have m':n∈jm:=by
  simp![Ao,A4,or_false] at m ⊢;rcases m with m | m | m <;> simp[m]
 show#[hn n m',hn' n m']
end
def eI (e C vs:Addr):HO:=.ext λ h=>ü e=↑{ cls:=É C,data:=Ô }
def VA (e C dx vs:Addr):HO:=.ext λ h=>ü e=↑{ cls:=É C,dict:=↑dx,data:=Ô }
section
variable {ź}{fs:Í0}{H:Hp}{h h':Heap}{e dx:Addr}{φ ψ:Heap->Prop}{fv:List (Str×V)}
def Nz È9 (he:H e=↑(.ext φ)) (hd:Ó<=dx) (k:∀ b o,b≠e->Ş) (hψ:ψ h') (heo:∃ o,Ê9 e=↑o)
  Ŧ (hx:∃ mA,h'.Ns1 dx mA/\∀ f,p8 (fv.lookup f) (mA f)):
  Un fs [] H (upd Ļ) h h'/\yK P w (upd Ļ) h':=by
 have hn:H dx=none:=zv.fresh hd;have up:∀ b,b≠e->b≠dx->upd Ļ b=H b:=λ b a c=>by rw[zX a,zX c]
 ext Ä6
 have ux:∀ b o,Ì4->b≠dx:=λ b o q=>AG (BG (Ar q) hd);have us:∀ b u,H b=↑u->(∀ φ,u≠.ext φ)->upd Ļ b=↑u:=λ b u q n=>by
  rw[up b (ou q he (n _)) (vv q hn)];show q
 exact#[#[λ b o q n _ _=>k b o (ue b n) q,λ b o q n _ _=>#[o.slots,k b o (ue b n) q],λ b o q n _=>by rw[up b (ue b n) (ux b o q)];show n,λ b o q _=>?_,λ b xs q=>Æ5,λ b o u q=>Æ5,Ë7],λ a o q=>?_]
 .by_cases z:b=e
  .rw[z];show heo
  .show#[o,k b o z q]
 .by_cases z:a=e
  .subst z;ext Ó4;show#[hψ,heo,st]
  .rw[zX z] at q;by_cases z':a=dx
   .subst z';ext Ó4;show hx
   .rw[zX z'] at q;exact (zv a o q).oZ (λ b u hb c=>k b u ?_ c) É6;rcases hb with rfl | hb
    .show z
    .show ou hb he (by intro z;cases z)
def Uh È9 (he:H e=↑(.ext φ)) (hψ:ψ h) Ŧ:
  Un fs [] H (upd H e (.ext ψ)) h h/\yK P w (upd H e (.ext ψ)) h:=by
 ext Ä6
 have us:∀ b u,H b=↑u->(∀ φ,u≠.ext φ)->upd H e (.ext ψ) b=↑u:=λ b u q n=>by
  rw[zX (ou q he (n _))];show q
 exact#[#[λ b o q n _ _=>q,λ b o q n _ _=>#[o.slots,q],λ b o q n _=>by rw[zX (ue b n)];show n,λ b o q _=>#[o,q],λ b xs q=>Æ5,λ b o u q=>Æ5,Ë7],λ a o q=>?_];by_cases z:a=e
 .subst z;ext Ó4;show#[hψ,(zv a _ he).2.1,st]
 .rw[zX z] at q;show (zv a o q).oZ (λ b u hb c=>c) É6
end
def NS ŕ (f:Str):TS:=λ D σ H=>∃ e C vs v c,σ[0]?=↑↑ Ď/\σ[1]?=↑↑v/\H e=↑(eI e C vs)/\lI K c C/\
 ∀ dx,H dx=none->dx≠e->D.nx σ (upd (upd H dx (.xd [(f,v)])) e (VA e C dx vs))
def Lg ū{o value:Expr}{f:Str}{pos pos':Pos}(hf:f∈w6) (ho:PE X o (eS 0)) (hv:PE X value (eS 1)) (hs:Ò5 value ↑(É1 o f pos') pos.line ĵ=pure Þ):
  PS X (.Assign [É1 o f pos'] value pos) (NS X.K f):=by
 intro gV s σ H D I h;let#[e,C,vs,v,c,h0,h1,h2,ń,hq]:=h;exact plainObj_wpAny_Assign_Attribute (zM (hv Ź (λ x H'=>x=v/\H'=H) I #[v,h1,rfl,rfl]) λ u s1 #[y,H1,I1,ry,ey,eH]=>?_) hs;subst ey eH;exact zM (ho gV s1 σ H1 (λ x H'=>x=É e/\H'=H1) I1 #[_,h0,rfl,rfl]) λ ov s2 #[x,H2,I2,rx,ex,eH2]=>?_;subst ex eH2;obtain rfl:ov=Õ e:=rx;let#[hh,g,d,t,os]:=s2;let#[Ū,hN,hn]:=hE.own.at I2.yB;let#[Ï,hN',hn']:=hE.par.at I2.yB;have hsa:("__setattr__":Str)∈jm:=#[];have h3:hh.get? e=↑{ cls:=É C,data:=Ô }:=(I2.zv e _ h2).1;exact OV PySem.F.store_ValueError hC hN À0 (hn _ hsa) (hn' _ hsa) Ì1 h3 rfl rfl Ï7 λ h' tk' z1 z2 z3=>?_;have dn:=I2.zv.fresh (Ap hh.objs.size);let#[u',BZ]:=Nz (fs:=X.fs) (fv:=[(f,y)]) (ψ:=λ h=>ü e=↑{ cls:=É C,dict:=↑hh.objs.size,data:=Ô }) I2.zv h2 (Ap _) z3 z1 #[_,z1] (λ h1 h2 a b=>b _ a) #[_,z2,λ f'=>by
  by_cases hff:f'=f
  .subst hff;simp![BF,beq_self_eq_true,if_true];show ry
  .have:(f' == f)=Þ:=by exists hff
   simp![BF,this,List.lookup_nil,if_neg hff]
   trivial]
 show#[σ,_,I2.un (t':=tk') u' BZ,hq _ dn (vv h2 dn).symm]
def Mq ŕ (f:Str):Sp:=λ vs H Q _=>∃ e C va v c,vs=[É e,v]/\H e=↑ Ë1/\lI K c C/\∀ dx,H dx=none->dx≠e->Q .zk (upd (upd H dx (.xd [(f,v)])) e (VA e C dx va))
structure yF ŕ (mg:Aq) Î3 Í4:Prop where
 fl:f∈w6
 ex:∃ (C P N NP fI:Addr) (fd:Æ2),Ň/\mg c=↑ Ĥ/\Ā
structure mR (f:Str) Í4:Prop where
 sc:vn Ã3 Ã3 Æ3
 bd:∃ p1 p2 p3 p4,xA st=[.Assign [É1 (ĉ "self" p1) f p2] (ĉ f p3) p4]/\∀ env:Env,Ò5 (ĉ f p3) ↑(É1 (ĉ "self" p1) f p2) p4.line env=pure Þ
 bn:∀ (x q:Str) Ç9,Ż=2->bindArgs (È1 x q Ð7) #[us,[]]=pure ((Ã3:İ).zip us)
theorem R5 Í7:(f == ø)=Þ/\(f == ("__classdict__":Str))=Þ:=by
 simp![Ao,A4,or_false] at h;rcases h with rfl | rfl | rfl | rfl | rfl | rfl | rfl <;> show#[(),()]
def Hl ë Â3 Â4{fI:Addr}{fd:Æ2}(hf:f∈w6) (F:pM K Ä4 st fI fd) (S:mR f st):
  wg á xP 1 fI fd Ã3 (Mq K f):=by
 let#[p1,p2,p3,p4,hb,hs]:=S.bd;exact F.ok (k:=0) S.sc (λ vs H Q E #[e,C,va,v,c,h,_]=>by rw[h];rfl) λ Af A ŭ s H vs Q E hr h=>?_;rw[hb];let#[e,C,va,v,c',h1,h2,h3,h4]:=h;subst h1;have vis:∀ x∈(Ã3:İ),b7 Æ3 x:=λ x m=>(S.sc.par x m).elim .inl (λ z=>.inr (.inl z));show#[_,Xc (Lg hf (pv 0 rfl (vis _ #[])) (pv 1 rfl (vis _ #[]) (R5 hf).1 (R5 hf).2) (hs _)),e,C,va,v,c',rfl,rfl,h2,h3,h4]
def Jz À2 Ñ6{N:Addr}{mg:Aq}{n:Str}{v:ò}(X:K.In h) (G:h.Ns N mg) (e:Ĉ K N n=↑↑v):mg n=↑v:=by
 let#[o,es,ep,ho,hd,_,hf]:=G;unfold Ĉ at e;split at e
 .rename_i c d es' n' sl q;have:=X õ q;rw[ho] at this;cases this;cases hd;split at e
  .rename_i en he;cases e;rw[<- hf];unfold nsFind findBy;rw[<- Array.find?_toList,he];rfl
  .split at e <;> cases e
 .cases e
def XP (X:Cx) (gV:Am) (fl:Bool) (σ:St) (Q:þ) (v:ò) (s':ų):Prop:=
 ∃ e pins' σ' H',v=É e/\(fl=true->pins'=gV/\σ'=σ)/\Inv X pins' σ' H' s'/\bD H' e/\((fl=Þ/\PU s'.heap e)\/gk s'.heap H' e)/\Q e H'
def ZT ŕ Î3 (x:V) Æ8 (H':Hp):Prop:=∃ C dx,lI K c C/\H' e=↑(oH e C dx)/\Xd H' f x dx
def wp_raise ū Â4 Ñ9{te:TE}{p pos rpos:Pos}ċ{Q:þ}{R:Flow->Ø}
  (G:yF X.K X.mg c f st) (S:mR f st) (hr:yg 2 X.A) À3 ß Ó6 (he:PE X e te)
  (hs:AA X e []) (An:AH X pos [])
  Ã7 ä (h:te σ H λ x H1=>ļ):
  é ô (exec (.Raise ↑(.Call (ĉ c p) [e] [] pos) none rpos) ĵ) R W s:=by
 let#[C,P,N,NP,fI,fd,hE,hm,hk,hi,hfn,F]:=G.ex;ext ģ;exact Ĝ
 exact Ç7;have ha:PA X [e] (ai te ah):=lQ he jj hs;exact PySem.W.callWith_K (h₀:=X.base) I.ok.mod.jv hk (za6 (ha pos Ź (λ vs H1=>match vs with
  | [x]=>ļ
  | _=>False) I h) Ã5 Ě) hs An
 obtain⟨x,rfl,q⟩:∃ x,vs=[x]/\ļ:=by
  match vs,q with
  | [x],q=>show#[x,rfl,q]
 obtain⟨u,rfl,r1⟩:∃ u,us=[u]/\RelV x u:=by
  cases r with
  | cons r1 r2=>
   cases r2;show#[_,rfl,r1]
 let#[hh,g,d,t,os]:=s1;have hC:=I1.yB õ lk;let#[_,hN,hnn]:=hE.own.at I1.yB;ext Ð1;have hfI:∃ oI,hh.get? fI=↑oI/\oI.cls=į "function":=by
  let#[oc,od,_,_,_,_,_,_,osl,_,lf,_]:=F.ex;have z:=beq_iff_eq.mp hfn;simp![PySem.W.typeIn,lf,Option.map_some] at z;show#[_,I1.yB õ lf,BA z]
 let#[oI,hfI,hfc]:=hfI;have T:OwnTail hh pY (É P::pY):=.own hP hN' (Í2 I1.yB hN' hE.Tf) .base;exact Nf Ð0 (Jz I1.yB hN hi) hfI hfc (λ h' e hle M=>?_) (by change 1<=sizeLine;decide);let#[va,m1,m2,m3]:=M.there;have I2:Inv É0 (upd H1 e Ë1) ĥ:=I1.laid Á3;have en:H1 e=none:=I1.zv.fresh hle;have r2:Vals [V.ref e,x] [Õ e,u]:=.cons rfl (.cons r1 .nil);have F2:=Hl (P:=X.prog) (w:=X.w) (mg:=X.mg) (base:=X.base) G.fl F S;exact zcM (codeAny_mono (F2.run _ X.stack õ #[[É e,u],[]] [É e,u] [É e,x] (λ v H2=>v=.zk/\∃ dx,upd H1 e Ë1 dx=none/\dx≠e/\H2=upd (upd (upd H1 e Ë1) dx (.xd [(f,x)])) e (VA e C dx va)) E0 ((hr.make C [u] []).mono ()) (I2.cH.make C [u] [])
  (F.binds (ps:=Ã3) (S.bn õ) õ I2.yB rfl) r2 #[e,C,va,x,c,rfl,yD,ń,λ dx n ne=>#[rfl,dx,n,ne,rfl]]) λ r s' hq'=>?_)
 cases r with
 | error e=>show hq'.elim
 | ok fl=>
  cases fl with
  | ret u'=>
   let#[v,H',I3,rv,ev,dx,n,ne,eH]:=I2.after hq';subst ev eH;have g3:=(I3.zv e _ yD).1;let#[u3,dF]:=Uh (fs:=X.fs) (ψ:=λ h=>∃ oe vs,Å1/\Æ4/\Ñ7=↑dx/\À5) I3.zv yD #[_,_,g3,rfl,rfl,rfl] Á2;have I4:=I3.un (t':=s'.toks) u3 dF;exact#[rv,e,↑dx,va,_,rfl,I3.yB õ lk,g3,hW õ #[e,gV,σ,_,rfl,nofun,I4,#[C,↑dx,yD],.inl #[rfl,_,_,_,g3,rfl,rfl,rfl],q e _ (λ b o z=>?_) #[C,↑dx,ń,yD,show _=_ by rw[zX ne,zX ne,yD]]]];ext Ê7
   have b2:b≠dx:=λ y=>by rw[<- y,zX b1,z] at n;cases n
   rw[zX b1,zX b1,zX b2,zX b1];show z
  | _=>show False.elim hq'
def Un.out {fs:Í0}{L:Addr}{H H1 H2:Hp}{h h1 h2:Heap}(a:Un fs [] H H1 h h1) (b:Un (L::fs) [] H1 H2 h1 h2) (hL:ü L=none):Un fs [] H H2 h h2 where
 keep:=λ c o q n hc hx=>b.keep c o (a.keep c o q n hc hx) Ë2 (λ z=>(Ao.mp z).elim (λ y=>by rw[y,hL] at q;cases q) hc) hx
 slot:=λ c o q n hc hx=>by
  let#[sl,e]:=a.slot c o q n hc hx;let#[sl',e']:=b.slot c _ e Ë2 (Ay _ hc) hx;show#[sl',e']
 free:=λ c o q n hx=>by
  let#[o',e]:=a.there c o q hx;show b.free c o' e Ë2 hx
 there:=λ c o q hx=>by
  let#[o',e]:=a.there c o q hx;show b.there c o' e hx
 oY:=λ c xs q=>b.oY c xs (a.oY c xs q)
 nV:=λ c o xs q=>b.nV c o xs (a.nV c o xs q)
 mx:=λ c ps q=>by
  let#[m1,e1]:=a.mx c ps q;let#[m2,e2]:=b.mx c _ e1;show#[m1++m2,by rw[e2,zc1]]
def ku (P:Program) (w:World):mq:=λ ŭ H s E v s'=>∃ e H',v=É e/\s'.os=s.os/\AllBare s'.gens/\Un (wu ŭ) [] H H' œ s'.heap/\yK P w H' s'.heap/\bD H' e/\gk s'.heap H' e/\E v none H'
def wg.never ë Â3 Ó9 Ï0{ps:İ}{sp:Sp}(F:wg á (ku P w) k f fd ps sp):
  wg á xP k f fd ps (λ vs H Q _=>sp vs H Q λ _ _ _=>False):=
 #[λ vs H Q E h=>F.len õ õ h,λ A ŭ s H args us vs Q E hr he hb hv hs=>codeAny_mono (F.run A ŭ s H args us vs Q _ hr he hb hv hs) λ r s' hq=>by
  cases r with
  | error e=>
   let#[_,_,_,_,_,_,_,_,_,z]:=hq;show z.elim
  | ok fl=>cases fl <;> show hq]
section
variable {ū}{Ó9}{Ï0}{ps:İ}{sp:Sp}{x:Str}{p pos:Pos}{Ñ9}{es:List Expr}{t:TA}{ċ}{Q:VK}{Qx:þ}{fl:Bool}
def Nl (F:wg Å4 (ku Ó5) k f fd ps sp) (hr:yg k X.A) (hg:Gl X x) (hm:X.mg x=↑(É f)) (hk:ę X.K (É f)=true) (hb:Binds X.K fd ps []) ß
  (ha:PA X (e::es) t) (AV:(x == ø)=Þ) Ï1
  {W:Aj}(hW:∀ v s',XP X gV fl σ Qx v s'->W v s') ä (h:t σ H λ vs H1=>sp vs H1 Q λ v _ H'=>∃ a,v=É a/\Qx a H'):
  é ô (eval (.Call (ĉ x p) (e::es) [] pos) ĵ) (EP É0 Q) W s:=by
 exact Ç7;exact PySem.W.callWith_K (h₀:=X.base) I.ok.mod.jv hk (za6 (ha pos Ź _ I h) Ã5 Ě) he An;have hl:Ż=ps.length:=by rw[<- r.length];show F.len õ õ q
 have BP:=hb s1 us I1.yB (by rw[zaD];show hl);rw[zaD] at BP;exact zcM (codeAny_mono (F.run X.A X.stack s1 H1 #[us,[]] us vs Q _ hr I1.cH BP r q) λ r s' hq=>?_);cases r with
 | error v=>
  let#[a,H',rfl,os,bare,un,zv,ie,f1,a',ea,z]:=hq;cases ea;show hW õ #[a,gV,σ,H',rfl,λ _=>#[rfl,rfl],I1.ZA (ch:=[]) os un zv bare È6,ie,.inr f1,z]
 | ok fl=>
  cases fl with
  | ret u=>show I1.after hq
  | _=>show False.elim hq
end
abbrev dM (X:Cx) Æ8:Cx:={ X with A:=X.A.mark ↑ Ď,calm:=Þ }
section
variable {ū}{gV:Am}{σ σ':St}{H H':Hp}{s s':ų}{Ñ8}
def SW ä Æ8:Inv (dM X e) gV σ H s:=
 #[#[I.ok.mod,I.ok.kind,I.ok.glob,I.ok.blt,I.ok.above,I.ok.inj,I.ok.has,I.ok.iZ,nofun,I.ok.frames,I.ok.gN,I.ok.cE,I.ok.bs,I.ok.kc,I.ok.iD,I.ok.iU,I.ok.nr,I.ok.kJ],I.os,I.bare,I.base,I.loc,I.cell,I.free,I.oU,I.pin,I.zv,I.len]
def Hc ä (J:Inv (dM X e) gV σ' H' s'):Inv X gV σ' H' s':=ĳ
def Ni {i j:Nat}Á5{D:Ends}{Qx:þ}ß è
  (hg:Gl X "PurseError") Ê5 (hi:X.N[i]?=↑n) Ð8 (hj:X.N[j]?=↑c) ň (A_:i≠j)
  Ę
  ä (hb:é ô (execs body ĵ) Ò6 (XP X gV true σ Qx) s)
  (hx:∀ a H',Qx a H'->(∃ cn C dx,lI X.K cn C/\H' a=↑(oH a C dx))/\∀ T,H' T=none->D.nx (((σ.set i ↑ Ò7).set j ↑ Ò7).set i none) (upd H' š)):
  é ô (exec Ģ ĵ) Ò6 X.xe s:=by
 exact wpAny_Try_except (za6 hb (λ f s₁ q=>?_) λ v s₁ #[a,pins',σ',H1,ev,es,I1,ie,fly,q]=>?_)
 .cases f with
  | next=>show zcP q
  | _=>show q
 subst ev;let#[rfl,rfl]:=es rfl;let#[#[cn,C,dx,ń,hEo],q]:=hx a H1 q;have f1:=fly.resolve_left (λ z=>by cases z.1);exact J0 I1 AB AR ie f1 λ h' T hT un zv f2=>?_;have I2:Inv X pins' σ' (upd H1 š) { s₁ with heap:=h' }:=I1.call Á6 un zv I1.bare È6;have hEo2:upd H1 š a=↑(oH a C dx):=by rw[zX (vv hEo hT)];show hEo
 let#[#[qn,bs,sn,sub,ab,col,dd,k0,k1,k2,k3,k5,lk],_,_]:=id hE.own;let#[#[q',bs',sn',sub',ab',col',dd',l0,l1,l2,l3,l5,lp],_,_]:=id hE.par;have mP:X.mg "PurseError"=↑(É P):=Ť I.ok.mod.jv I.ok.mod.glob hE.Ta;have aoe:∃ oe,Ê9 a=↑oe/\Æ4:=by
  let#[#[oe,vs,z1,z2,_],_]:=I2.zv a _ hEo2;show#[oe,z1,z2]
 exact OM (bm:=É P::pY) (bm':=pY) () (by rw[BQ];simp) (iJ (X:=dM X a) (SW I2 a) hg mP #[rfl,I2.yB õ lk,I2.yB õ lp,aoe,?_]);exact IA I2 #[C,dx,hEo2] f2 λ h2 un2 hok2=>?_;have I3:Inv X pins' σ' (upd H1 š) { s₁ with heap:=h2 }:=Inv.call (s:={ s₁ with heap:=h' }) Á6 I2 un2 hok2 I1.bare È6;exact ja I3 hN hi (.inl B2) (v:=É a) rfl (λ s4 I4=>?_) (.inr B2);have st:=Xc (Tb (X:=dM X a) (i:=j) (pos:=p4) (pos':=p2) hN hj hxj (pv (X:=dM X a) i (pos:=p3) hi (.inl B2) hnd hnc) hsw hfj);have hl:i < σ'.length:=by rw[I1.len];show (AM.mp hi).1
 exact za6 (st pins' s4 õ { nx:=fun σ2 H2=>σ2=(σ'.set i ↑ Ò7).set j ↑ Ò7/\H2=upd H1 š,rt:=Ħ } (SW I4 a) #[É a,by rw[zc2 hl],rfl,rfl]) (λ fl s5 q5=>?_) Ě;cases fl with
 | next=>
  let#[σ5,H5,I5,rfl,rfl]:=q5;show G1 (Hc I I5) hN hi B2 λ s6 I6=>#[_,_,I6,q T hT]
 | ret _=>let#[_,_,_,_,_,z]:=q5;show z.elim
 | _=>let#[_,_,_,z]:=q5;show z.elim
end
def vi:D->Bool
 | .err õ _=>true
 | _=>Þ
def ny ŕ (H:Hp) (R:VK) (Q:þ):DK:=λ d S'=>(vi d=Þ->pH K H R d S')/\(È7->∀ a H',zj K H' d Ò7->Ext H H'->yb K H' S'->Q a H')
theorem ny.ext À2{H H':Hp}{R:VK}{Q:þ}(e:Ext H H') {d:D}{S:SS}(h:ny K H R Q d S):ny K H' R Q d S:=#[λ z=>pH.ext e (h.1 z),λ z a H2 r x q=>h.2 z a H2 r (e.trans x) q]
def kb ŕ (H:Hp) (D:Ends) (Q:þ):ko:=#[v8 K H D.nx,ny K H D.rt Q,v8 K H D.bk,v8 K H D.ct]
theorem kb.ext À2{H H':Hp}{D:Ends}{Q:þ}(e:Ext H H'):(kb K H D Q).Le (kb K H' D Q):=#[Ë3,λ _ _ h=>ny.ext e h,Ë3,Ë3]
def eO ŕ (t:yw) (Q:þ):TS:=λ D σ H=>∃ δ S,xv K H δ σ/\yb K H S/\t (kb K H D Q) δ S
structure jN (X:Cx) (gV:Am) (σ:St) (fl:Bool) (Q:þ) (W:Aj):Prop where
 xp:∀ v s',XP X gV fl σ Q v s'->W v s'
 own:fl=Þ->PassesOwn ô ĵ W
def jN.any ū{gV pins':Am}{σ σ':St}{Q:þ}{W:Aj}(h:jN É0 Þ Q W):jN X pins' σ' Þ Q W:=
 #[λ v s' #[e,p,q,H',h1,_,h3]=>h.xp v s' #[e,p,q,H',h1,nofun,h3],h.own]
structure xH (X:Cx) (fl:Bool) Í4 (t:yw):Prop where
 mo:mO t
 px:∀ gV s σ H D Q W,jN É0 fl Q W->Inv É0 H s->eO X.K t Q D σ H->é ô (exec st ĵ) Ò6 W s
structure xI (X:Cx) (fl:Bool) (sts:Ì8) (t:yw):Prop where
 mo:mO t
 px:∀ gV s σ H D Q W,jN É0 fl Q W->Inv É0 H s->eO X.K t Q D σ H->é ô (execs sts ĵ) Ò6 W s
section
variable {ū}{fl:Bool}{Ó7}{rest:Ì8}{t u:yw}{pos:Pos}{Ñ9}{te:zy}
def vR (h:yt X st t) (ht:∀ E δ S,t E δ S->t { E with rt:=Ħ } δ S) ß:xH X fl st t:=by
 exact#[h.mo,λ gV s σ H D Q W hW I Ĺ=>za6 (h.ps Ź D I #[δ,S,r1,r2,h.mo { kb X.K H D Q with rt:=Ħ } _ δ S #[ġ,Á9,ġ,ġ] (ht _ δ S z)]) (ġ) Ě]
def vS:xI X fl [] W6:=#[λ _ _ _ _ hE h=>hE.nx õ h,λ gV s σ H D Q W hW I Ĺ=>zcP #[σ,H,I,z σ H r1 (.refl H) r2]]
def vQ (h:xH X fl st t):xI X fl [st] t:=#[h.mo,λ gV s σ H D Q W hW I hu=>by
 exact wpAny_execs_cons (zM (h.px Ź D Q W hW I hu) λ f s1 q=>?_);cases f with
 | next=>show zcP q
 | ret v=>show q
 | brk=>show q
 | cont=>show q]
def vZ (h:xH X Þ st t) (h':xI X Þ rest u):xI X Þ (st::rest) (iW t u):=#[iW.mo h.mo h'.mo,λ gV s σ H D Q W hW I Ĺ=>by
 exact wpAny_execs_cons (zM (h.px Ź { D with nx:=eO X.K u Q D } Q W hW I #[δ,S,r1,r2,h.mo { kb X.K H D Q with nx:=u (kb X.K H D Q) } _ δ S #[fun δ' S' q σ' H' q1 q2 q3=>#[δ',S',q1,q3,h'.mo õ δ' S' (kb.ext q2) q],ġ,ġ,ġ] z]) λ f s1 q=>?_);cases f with
 | next=>
  let#[σ',H',I',q]:=q;show h'.px gV s1 σ' H' D Q W hW.any I' q
 | ret v=>show q
 | brk=>show q
 | cont=>show q]
def vX {c:Expr}{p q:Ì8}{tc:xn}(hc:yh X c tc) (h:xI X fl p t) (h':xI X fl q u) ß:xH X fl (.If c p q pos) (cY tc t u):=by
 exact#[λ E E' δ S hE z=>hc.mo δ S õ (λ k S1 z=>qI (h.mo õ δ S1 hE) (h'.mo õ δ S1 hE) z) z,â];exact wpAny_If (za6 (hc.pt Ź (λ k H1=>if k=true then eO X.K t Q D σ H1 else eO X.K u Q D σ H1) I (pB.go hc.mo r1 r2 z λ k S1 H1 h1 e1 p1=>qI (λ z=>?_) (λ z=>?_) h1)) (λ k s1 #[H1,I1,q1]=>?_) Ě)
 .show#[δ,S1,r1.ext e1,p1,h.mo õ δ S1 (kb.ext e1) z]
 .show#[δ,S1,r1.ext e1,p1,h'.mo õ δ S1 (kb.ext e1) z]
 .cases k with
  | true=>show h.px gV s1 σ H1 D Q W hW I1 q1
  | Þ=>show h'.px gV s1 σ H1 D Q W hW I1 q1
def W5 (te:zy):yw:=λ E δ S=>te δ S λ d S1=>vi d=Þ/\E.rt d S1
def vN Ŕ ß:xH X fl (.Return ↑e pos) (W5 te):=by
 exact#[λ E E' δ S hE z=>he.mo δ S õ (λ _ _ q=>#[q.1,hE.rt õ q.2]) z,â];show wpAny_Return_some (za6 (he.pe Ź D.rt I (zY.go he.mo r1 r2 z λ x S1 v H1 h1 q1 e1 p1=>h1.2.1 h1.1 v H1 q1 e1 p1)) (λ v s1 #[x,H1,I1,r1,q1]=>#[x,σ,H1,I1,r1,q1]) Ě)
def Ext.same {H H':Hp}(e:fW H H'):Ext H H':=#[λ b xs q=>e õ q,λ b o u q=>e õ q,λ b u q=>e õ q,λ b u q=>e õ q]
def cU Î3 (te:zy):yw:=λ E δ S=>te δ S λ d S1=>E.rt (.err c f d) S1
def Km {c f:Str}{si:Stmt}{p Ad:Pos}Ó9(G:yF X.K X.mg c f si) (Sh:mR f si) (hr:yg k X.A) Ŕ (hk:2<=k) (hg:Gl X c) À3 (AV:(c == ø)=Þ)
  (hs:AA X e []) (An:AH X Ad []) ß:
  xH X Þ (.Raise ↑(.Call (ĉ c p) [e] [] Ad) none pos) (cU c f te):=by
 exact#[λ E E' δ S hE z=>he.mo δ S õ (λ _ _ q=>hE.rt õ q) z,â];exact wp_raise G Sh (hr.mono hk) hc hn hg AV he.pe hs An hW.xp I (zY.go he.mo r1 r2 z λ x S1 v H1 h1 q1 e1 p1 a H' sm #[C,dx,hE,h2,h3]=>?_);exact h1.2 rfl a H' ?_ (e1.trans (.same sm)) (p1.same sm);simp![zj];show#[a,C,dx,v,rfl,Ò8,zj.ext (.same sm) x q1]
end
def il ŕ (sp:xE):Sp:=λ vs H Q E=>∃ ds S,zw K H ds vs/\yb K H S/\sp ds S (ny K H Q λ a H'=>E Ò7 none H')
structure xO (P:Program) (w:World) ŕ (mg:Aq) (base:Heap) (x:Str) (k:Nat) (ps:İ) (sp:xE):Prop where
 ex:∃ (f:Addr) (fd:Æ2),wg á (ku P w) k f fd ps (il K sp)/\mg x=↑(É f)/\Ð2/\Binds K fd ps []
 mo:mQ sp
def aI (sp:xE):xE:=λ ds S Q=>sp ds S λ d S'=>vi d=Þ/\Q d S'
def aI.mo {sp:xE}(h:mQ sp):mQ (aI sp):=λ ds S Q Q' hq z=>h ds S õ (λ d S' q=>#[q.1,hq õ q.2]) z
theorem xO.fd ë Â3{x:Str}Ó9{ps:İ}{sp:xE}(F:xO á x k ps sp):FD á x k ps (aI sp):=by
 let#[#[f,fd,h1,h2],hm]:=F;exact#[#[f,fd,(wg.never h1).imp λ vs H Q E #[ds,S,r1,r2,z]=>#[ds,S,r1,r2,hm ds S õ (λ d S' q=>#[λ _=>q.2,λ z=>?_]) z],h2],aI.mo hm];rw[q.1] at z;cases z
section
variable {ū}{fl:Bool}{pos Ad p:Pos}{Ñ9}{es:List Expr}{tA:ya}{x:Str}{Ó9}{ps:İ}{sp:xE}
def Y0 {gV:Am}{s:ų}{σ:St}{H:Hp}{Q:þ}{W:Aj}{R:DK}{RV:VK}{δ:yz}{S:SS}(F:xO Å4 x k ps sp) (hr:yg k X.A) À9 ė ß (hW:jN É0 fl Q W) ä (r1:xv X.K H δ σ) (r2:yb X.K H S)
  (z:tA δ S λ ds S1=>sp ds S1 R) (hR:∀ d S',R d S'->ny X.K H RV Q d S'):
  é ô (eval Ė ĵ) (EP É0 RV) W s:=by
 let#[#[f,fd,h1,h2,h3,h4],hm]:=F;exact Nl (Qx:=Q) h1 hr hg h2 h3 h4 hn ha.pa AV he An hW.xp I (vo.go ha.mo r1 r2 z λ ds S1 xs H1 z1 q1 e1 p1=>#[ds,S1,q1,p1,hm ds S1 õ (λ d S' q=>?_) z1]);have q':=ny.ext e1 (hR d S' q);show#[q'.1,λ y a H' c1 c2 c3=>#[a,rfl,q'.2 y a H' c1 c2 c3]]
def W3 (sp:xE) (tA:ya):yw:=λ E δ S=>tA δ S λ ds S1=>sp ds S1 λ d S2=>(È7->E.rt d S2)/\(vi d=Þ->E.nx δ S2)
def Qc Ó1 (sp:xE) (tA:ya):yw:=λ E δ S=>tA δ S λ ds S1=>sp ds S1 λ d S2=>(È7->E.rt d S2)/\(vi d=Þ->E.nx (δ.set i ↑d) S2)
variable (F:xO Å4 x k ps sp)
include F
theorem vY {k':Nat}(hr:yg k' X.A) À9 (hk:k<=k') ė ß (hs:Ò5 Ė none pos.line ĵ=pure Þ):
  xH X fl (.Expr Ė pos) (W3 sp tA):=by
 exact ă;exact wpAny_Expr_any (zM (Y0 (RV:=λ _ H'=>D.nx σ H') Ï2 I r1 r2 z λ d S' q=>#[λ y v H' a1 a2 a3=>q.2 y σ H' (r1.ext a2) a2 a3,λ y=>(q.1 y).2 y]) λ v s1 #[x,H1,I1,_,q1]=>#[σ,H1,I1,q1]) I.quiet hs
theorem v_ {k' i:Nat}{y:Str}{py:Pos}Ê5 (hr:yg k' X.A) À9 (hi:X.N[i]?=↑y) (hx:Loc X.env.scope y) (hf:X.fn y=true\/X.env.scope.names.lookup y=↑.local) (hk:k<=k') ė ß (hs:Ò5 Ė ↑(ĉ y py) pos.line ĵ=pure Þ):
  xH X fl (.Assign [ĉ y py] Ė pos) (Qc i sp tA):=by
 exact ă;exact zcX (zM (Y0 (RV:=λ v H'=>D.nx (σ.set i ↑v) H') Ï2 I r1 r2 z λ d S' q=>#[λ y v H' a1 a2 a3=>q.2 y _ H' ((r1.ext a2).set i a1) a2 a3,λ y=>(q.1 y).2 y]) λ v s1 #[x,H1,I1,r,q1]=>?_) hs;show ja I1 hN hi hx r (λ s2 I2=>#[_,H1,I2,q1]) hf
end
section
variable {ë}{Â3}
def fnX {x qual:Str}Ó7 Ï0{N ps:İ}Ó9{sp:xE}(F:pM K x qual st f fd) (Sc:vn N ps Æ3) (len:∀ ds S Q,sp ds S Q->ds.length=ps.length)
  (hbody:∀ ĕ,yg k (A.deeper (envOfC qual Æ3 ż f Af))->
   ∃ t,xI (wB xP ą H E).vb Þ (xA st) t/\∀ ds S Q,sp ds S Q->t { nx:=λ _ S'=>Q .zk S',rt:=Q } (oK N ds) S):
  wg á (ku P w) (k+1) f fd ps (il K sp):=by
 let#[oc,od,kV,doc,pm,an,Af,ct,osl,rfl,lk,BE]:=F.ex;exact Rz lk BE Sc (λ vs H Q E #[ds,S,r1,_,z]=>by rw[<- r1.length];show len õ _ z) λ A ŭ s H vs Q E hr hsp=>#[λ D σ H'=>D={ nx:=λ _ H'=>Q .zk H',rt:=Q }/\σ=start N vs/\H'=H,λ gV s1 σ H' D I #[e1,e2,e3]=>?_,rfl,rfl,rfl];subst e1 e2 e3;let#[t,hp,ht]:=hbody Af A ŭ s H' E hr;let#[ds,S,r1,r2,z]:=hsp;have cv:∀ {gV:Am}{σ':St}{H'':Hp}{s':ų},Inv (wB xP ą H' E).vb gV σ' H'' s'->Inv (wB (ku P w) ą H' E) gV σ' H'' s':=λ J=>
  ĳ
 have ok0:(wB xP ą H' E).vb.Ok:=#[I.ok.mod,I.ok.kind,I.ok.glob,I.ok.blt,I.ok.above,I.ok.inj,I.ok.has,I.ok.iZ,I.ok.hd,I.ok.frames,I.ok.gN,I.ok.cE,I.ok.bs,I.ok.kc,I.ok.iD,I.ok.iU,I.ok.nr,I.ok.kJ];have I0:Inv (wB xP ą H' E).vb gV (start N vs) H' s1:=#[ok0,I.os,I.bare,I.base,I.loc,I.cell,I.free,I.oU,I.pin,I.zv,I.len];exact za6 (hp.px gV s1 (start N vs) H' { nx:=λ _ H'=>Q .zk H',rt:=Q } (λ e H2=>∀ T,H2 T=none->E Ď none (upd H2 š)) (wB (ku P w) ą H' E).xe #[λ v s' #[e,pins',σ',H2,ev,_,J,ie,hf,q]=>?_,λ _=>PassesOwn.leaving] I0
  #[oK N ds,S,xv.init r1,r2,hp.mo { nx:=λ _ S'=>ny K H' Q (λ a H2=>E Ò7 none H2) .zk S',rt:=ny K H' Q λ a H2=>E Ò7 none H2 } õ S #[fun δ S' q σ2 H2 a1 a2 a3=>q.1 rfl .zk H2 (Ţ) a2 a3,λ d S' q=>#[q.1,λ y a H2 a1 a2 a3 T hT=>?_],Á9,Á9] (ht ds S _ z)]) (λ fl s' q=>?_) λ _ _ z=>z
 .subst ev;have J':=cv J;exact Ij J' rfl rfl ie (hf.imp And.right id) λ h' T hT un zv f1=>?_;let#[C,dx,hE]:=ie;show#[e,_,rfl,J'.os,J'.bare,Un.out J'.base un (zcT (Ap _)),zv,#[C,dx,by rw[zX (vv hE hT)];show hE],f1,q T hT]
 .have xT:Ext H2 (upd H2 š):=.new hT _;show q.2 y a _ (zj.ext xT d a1) ž
 .cases fl with
  | ret u=>let#[v,σ',H',J,r,q]:=q;show#[v,σ',H',cv J,r,q]
  | _=>let#[σ',H',J,q]:=q;show#[σ',H',cv J,q]
end
def xv.hole À2{H:Hp}{δ:yz}{σ:St}Ó1 (r:xv K H δ σ):xv K H (δ.set i none) (σ.set i none):=by
 exact#[by rw[zaT,zaT];show r.1,λ j c hc=>?_];rw[zb4] at hc ⊢;by_cases hj:i=j
 .subst hj;rw[if_pos rfl] at hc;split at hc <;> cases hc
 .rw[if_neg hj] at hc ⊢;show r.2 j c hc
def W4 (i j:Nat) (t:yw):yw:=λ E δ S=>t Å9 δ S
def Kn ū{t:yw}(i j:Nat) Á5 Ê5 (hb:xI X true body t) (A_:i≠j) (hi:X.N[i]?=↑n) (hj:X.N[j]?=↑c)
  (hg:Gl X "PurseError") Ð8 ň
  Ę
  è ß:
  yt X Ģ (W4 i j t):=by
 exact#[λ E E' δ S hE z=>hb.mo Å9 #[E'.nx,λ d S'=>È7/\E'.nx ï,Ħ,Ħ] δ S #[hE.nx,λ d S' q=>#[q.1,hE.nx õ q.2],ġ,ġ] z,λ gV s σ H D I Ĺ=>?_];exact Ni (Qx:=λ a H'=>∃ d S',È7/\zj X.K H' d Ò7/\Ext H H'/\yb X.K H' S'/\Ò9 ï) hn AB AR hg hN hi B2 hj hxj hfj A_ hnd hnc hsw I
  (hb.px Ź D õ #[ġ,nofun] I #[δ,S,r1,r2,hb.mo #[Ò9,λ d S'=>È7/\Ò9 ï,Ħ,Ħ] _ δ S #[ġ,λ d S' q=>#[λ y=>?_,λ y a H' a1 a2 a3=>#[d,S',y,a1,a2,a3,q.2]],Á9,Á9] z]) λ a H' #[d,S',hd,a1,a2,a3,q]=>#[?_,λ T hT=>?_]
 .rw[q.1] at y;cases y
 .cases d with
  | err cn f x=>
   simp![zj] at a1;let#[e,C,dx,w,e1,#[h1,h2,h3],_]:=a1;cases e1;show#[cn,C,dx,h1,h2]
  | _=>cases hd
 .have xT:Ext H' (upd H' š):=.new hT _;have rd:=zj.ext xT d a1;show q õ ((((r1.ext (a2.trans xT)).set i rd).set j rd).hole i) ž
end L3
namespace L5
open ţ ě L2 L3
open Ă hiding St
def yx:T->Bool
 | .err õ _=>true
 | _=>Þ
@[simp] theorem zak Î3 (t:T):yx (.err c f t)=true:=rfl
@[simp] theorem zah:yx .zk=Þ:=rfl
@[simp] theorem zam (b:Bool):yx (.bl b)=Þ:=rfl
@[simp] theorem zaj (b:Int):yx (Ŵ b)=Þ:=rfl
@[simp] theorem zag (b:Str):yx (.str b)=Þ:=rfl
@[simp] theorem zaf (b:List T):yx (.tup b)=Þ:=rfl
@[simp] theorem zai (b:List T):yx (.lst b)=Þ:=rfl
@[simp] theorem zal:yx .wN=Þ:=rfl
def pC {S:SS}{y:T}{d:D}(h:Sn S y d):vi d=yx y:=by
 cases y with
 | tup _=>ext Ê1
 | lst _=>
  simp![Sn] at h;obtain⟨_,h | ⟨_,h,_⟩,_⟩:=h
  .rw[h.1];rfl
  .subst h;rfl
 | wN=>simp![Sn] at h;let#[_,_,#[h,_],_]:=h;subst h;rfl
 | err _ _ _=>ext Ê1
 | _=>simp![Sn] at h;subst h;rfl
def Fn {y:T}(h:É4):∀ ts,y≠.lst ts:=λ ts e=>by subst e;cases h
@[simp] def jd Î3 (g:Ae):Sm:=fun Y=>(g Y).map λ y=>.rt (.err c f y)
@[simp] def gU (g:Ae):Sm:=fun Y=>É5 λ y=>if É4 then none else ↑(.rt y)
@[simp] def gI (F:Al) (g:Ó0):Sm:=fun Y=>É5 λ ys=>(F ys).map λ y=>if É4 then .rt y else .nx Y
@[simp] def gJ Ó1 (F:Al) (g:Ó0):Sm:=fun Y=>É5 λ ys=>(F ys).map λ y=>if É4 then .rt y else .nx (Y.set i ↑(.im y))
@[simp] def zaa (i j:Nat) (g:Sm):Sm:=fun Y=>É5 λ o=>match o with
 | .nx Y'=>↑(.nx Y')
 | .rt y=>if É4 then ↑(.nx (((Y.set i none).set j ↑(.im y)).set i none)) else none
 | _=>none
@[simp] def aJ (F:Al):Al:=λ ys=>(F ys).bind λ y=>if É4 then none else ↑y
section
variable {R:Rk}{g h:Sm}{t:yw}{f:Ae}{te:zy}{S0 S:SS}{Z0 Z:Addr->Prop}{δ:yz}{Y:Ev}
def sJ [Cl R] {c x:Str}(hf:wY f te):zJ R (jd c x f) (cU c x te):=λ S0 Z0 S Z δ Y o E F e P=>by
 let#[y,e1,rfl]:=Aw.mp e;exact hf Ë8 y _ F.er e1 λ d S1 s1 r1=>P _ S1 (F.sx.trans s1) (Cl.of Ï7 ?_);simp![Sn];show#[d,rfl,Sn.sx (wM F.zz) y r1]
def sM [Sr R] (hf:zP R f te):zJ R (gU f) (W5 te):=λ S0 Z0 S Z δ Y o E F e P=>by
 ext Ð5
 .cases e2
 .rename_i hy;cases e2;show hf Ë8 y _ F.er e1 λ d S1 s1 r1=>#[by rw[pC (Sr.sn r1)];simpa using hy,P d S1 (F.sx.trans s1) (Lo.lo F.sx F.zz r1)]
def DS (S0:SS) (Z0:Addr->Prop) (S:SS) (Z:Addr->Prop) (o:Out) (E:ko):Prop:=match o with
 | .nx Y'=>∀ S' Z' δ',FR S0 Z0 S' Z' δ' Y'->E.nx δ' S'
 | .rt y=>É4->∀ d S',Sx S S'->Sn (zK S' Z) y d->E.rt d S'
 | _=>True
def ve (g:Sm) (t:yw):Prop:=∀ S0 Z0 S Z δ Y o E,FR S0 Z0 Ë8->g Y=↑o->DS S0 Z0 S Z o E->t E δ S
theorem ve.s [Cl R] (h:ve g t):zJ R g t:=λ S0 Z0 S Z δ Y o E F e P=>by
 exact h S0 Z0 Ë8 o E F e ?_;cases o with
 | nx Y'=>show P
 | rt y=>show λ hy d S' s r=>P d S' (F.sx.trans s) (Cl.of (Fn hy) (Sn.sx (wM F.zz) y r))
 | _=>trivial
def xa [Sr R] Ã8:ve (gI F ga) (W3 (zR R F) ua):=λ S0 Z0 S Z δ Y o E Fr e P=>by
 ext æ
 ext ŏ
 .ext Ã9;show P S2 Z δ (Fr.grow (s1.trans s2))
def xb [Sr R] Ó1 Ã8:ve (gJ i F ga) (Qc i (zR R F) ua):=λ S0 Z0 S Z δ Y o E Fr e P=>by
 ext æ
 ext ŏ
 .ext Ã9;show P S2 Z _ ((Fr.grow (s1.trans s2)).mX i (Sr.sn r2))
def FR.hole (h:FR S0 Z0 Ë8) Ó1 (v:Ĭ D):FR S0 Z0 S Z (δ.set i v) (Y.set i none):=by
 exact#[#[h.er.zd,λ j t e=>?_,λ j ts e=>?_],by simp[h.len],h.sx,h.z0,h.zz,h.zn,λ j ts p e e'=>?_,λ j k ts us p n e1 e2 e3 e4=>?_]
 .ext ņ
  .cases e
  .rw[vz n];show h.er.im j t e
 .ext ņ
  .cases e
  .rw[vz n];show h.er.ow j ts e
 .ext ņ
  .cases e
  .rw[vz n] at e';show h.fr j ts p e e'
 .rcases xC e1 with ⟨rfl,hl,e⟩ | ⟨n1,e1⟩
  .cases e
  rcases xC e2 with ⟨rfl,hl,e⟩ | ⟨n2,e2⟩
  .cases e
  rw[vz n1] at e3;rw[vz n2] at e4;show h.dj j k ts us p n e1 e2 e3 e4
end
section
variable {ë}{Â3}{x:Str}{Ó7}
def GZ Î
  (hbody:∀ (f:Addr) ĕ,É2->
   ∃ t,xI É7 Þ (xA st) t/\zJ R g t):xO Ó2:=by
 let#[f,fd,F,hm]:=F;exact#[#[f,fd,fnX F Sc (λ ds S Q h=>by rw[h.len,hn]) λ Af A ŭ s H E hr=>?_,hm,F.kp,F.binds hb],zR.mo];let#[t,h1,h2]:=hbody f Af A ŭ s H E hr;show#[t,h1,λ ds S Q h=>QM h2 h]
def xO.no {R:Rk} [Sr R] Ó9{ps:İ}{F:Al}(G:xO á x k ps (zR R F)):FD á x k ps (zR R (aJ F)):=by
 let#[#[f,fd,h1,h2],hm]:=G.fd;exact#[#[f,fd,h1.imp λ vs H Q E #[ds,S,r1,r2,Z,ys,y,a1,a2,a3,a4]=>#[ds,S,r1,r2,?_],h2],zR.mo];let#[z,b1,b2]:=Ak.mp a3;split at b2
 .cases b2
 .rename_i hy;cases b2;show#[Z,ys,y,a1,a2,b1,λ d S' s r=>#[by rw[pC (Sr.sn r)];simpa using hy,a4 d S' s r]]
end
end L5
namespace L3
open ţ ě L2
open Ă hiding St
structure Vk ŕ (cn:Str) (D:Addr):Prop where
 top:Ĉ K Ŭ cn=↑↑(É D)
 own:∃ bm N,jR K cn D bm N
def JD (o:Obj):Ĭ Str:=match o.data with
 | .cls cd=>↑cd.name
 | _=>none
def jR.nm À2{c:Str}{C N:Addr}{bm:Ai}(h:jR K c C bm N):(K.lookup C).bind JD=↑c:=by
 let#[Ů,_]:=h;rw[e];rfl
def Ha À2{c cn:Str}{C P N NP D:Addr}(E:Ň) (G:Vk K cn D):Î0=(ŋ):=by
 let#[bm,N',g]:=G.own;by_cases h1:cn=c
 .subst h1;have:=G.top.symm.trans E.top;cases this;simp
 .by_cases h2:cn="PurseError"
  .subst h2;have:=G.top.symm.trans E.Ta;cases this;simp
  .have d1:D≠C:=λ z=>by
    subst z;have:=g.nm.symm.trans E.own.nm;cases this;show h1 rfl
   have d2:D≠P:=λ z=>by
    subst z;have:=g.nm.symm.trans E.par.nm;cases this;show h2 rfl
   have b1:(Õ D == Õ C)=Þ:=by exists d1
   have b2:(Õ D == Õ P)=Þ:=by exists d2
   rw[BQ,BQ,b1,b2,za2 h1,za2 h2];rfl
inductive ZX ŕ (c:Str):V->Bool->Prop where
 | own {cn:Str}{D:Addr}(g:Vk K cn D):ZX K c (É D) (ŋ)
 | val:ZX K c (.ty "ValueError") true
theorem ED ū:xR X (Ñ2 "isinstance") (λ xs H Q=>∃ e C dx c k b,xs=[É e,k]/\Ì9/\lI X.K c C/\ZX X.K c k b/\Q (.bl b) H):=by
 intro gV s σ H xs us Q I r h;let#[e,C,dx,c,k,b,rfl,h1,#[P,N,NP,h2],h3,q]:=h;cases r with
 | cons ra rb=>
 cases rb with
 | cons rb rc=>
 cases rc;rename_i u1 u2;obtain rfl:u1=Õ e:=ra;let#[hh,g,d,t,os]:=s;let#[Î1,_]:=I.zv e _ h1;cases h3 with
 | @own cn D G=>
  obtain rfl:u2=Õ D:=rb;let#[bm,N',o]:=id G.own;let#[#[q1,bs,sn,sub,ab,col,dd,k0,k1,k2,k3,k5,hD],_]:=o.at I.yB;exact VM (b:=Î0) (λ prog w A Q' E hq=>OY (h2.VJ I.yB) he hc hD rfl rfl hq) λ t'=>#[.bl _,H,I.tok t',rfl,?_];rw[Ha h2 G];show q
 | val=>
  obtain rfl:u2=Value.type "ValueError":=rb;show VM (b:=true) (λ prog w A Q' E hq=>OX (T:="ValueError") (h2.VJ I.yB) he hc (by kernel_rfl) hq) λ t'=>#[.bl _,H,I.tok t',rfl,q]
def Z5 (k:Str->Bool) (te:zy):zy:=fun δ S Q=>te δ S λ x S1=>match x with
 | .err c õ=>Q (.bl (k c)) S1
 | _=>False
def Qm (f:Str) (te:zy):zy:=fun δ S Q=>te δ S λ x S1=>match x with
 | .err _ f' d=>f'=f/\Q d S1
 | _=>False
section
variable {ū}{Ð9}
def Tt {cn:Str}{V0:V}{k:Str->Bool}(hk:∀ c,ZX X.K c V0 (k c)) (hp:PE X (ĉ cn q) (tC V0)) (T:Bt X.mg) Ŕ Ĳ:
  PD X Ã6 (Z5 k te):=by
 exact#[Â6,PE.imp (mC ED hg T.isinstance boot_isinstance (lQ he.pe (lQ hp jj h3) h1) () () h1 h2) fun σ H Q hu=>?_]
 .split at z
  .show hq õ z
  .show z.elim
 .ext Ä8;exact zY.go he.mo ů;cases x with
  | err c f d=>
   simp![zj] at q1;let#[a,C,dx,w,rfl,Ò8,_]:=q1;show#[a,C,dx,c,V0,k c,rfl,h2,hE,hk c,h1 _ H1 (Ţ) e1 p1]
  | _=>show h1.elim
theorem tV {f:Str}Ŕ (hf:f∈w6) (hb:attributeBase e f ĵ (eval e ĵ)=eval e ĵ):PD X (É1 e f pos) (Qm f te):=by
 exact#[Â6,λ gV s σ H Q I hu=>?_]
 .split at z
  .show#[z.1,hq õ z.2]
  .show z.elim
 ext Ä8;exact Pg hb (zM (he.pe Ź (λ x H1=>∃ a C dx c w,x=É a/\lI X.K c C/\H1 a=↑(oH a C ↑dx)/\H1 dx=↑(.xd [(f,w)])/\Q w H1) I (zY.go he.mo ů)) λ u s1 #[x,H1,I1,rx,a,C,dx,c,w,ex,ń,h1,h2,q]=>?_)
 .cases x with
  | err c f' d=>
   simp![zj] at q1;let#[a,C,dx,w,rfl,Ò8,h4]:=q1;let#[rfl,h1]:=h1;cases dx with
   | none=>rw[h3.1] at hf;show absurd hf ()
   | some dx=>show#[a,C,dx,c,w,rfl,hE,h2,h3,h1 w H1 h4 e1 p1]
  | _=>show h1.elim
 .subst ex;obtain rfl:u=Õ a:=rx;let#[hh,g,d,t,os]:=s1;let#[Î1,_]:=I1.zv a _ h1;let#[mA,hns,hr]:=I1.zv dx _ h2;have hv:=hr f;simp![BF,beq_self_eq_true,if_true] at hv;obtain⟨u',hu',ru⟩:∃ u',mA f=↑u'/\RelV w u':=by
   cases z:mA f with
   | none=>rw[z] at hv;show hv.elim
   | some u'=>rw[z] at hv;show#[u',rfl,hv]
  let#[#[q1,bs,sn,sub,ab,col,dd,k0,k1,k2,k3,k5,hC],hN,hn]:=hE.own.at I1.yB;ext Ð1;have m1:("__getattribute__":Str)∈jm:=#[];have m2:("__getattr__":Str)∈jm:=#[];show OZ Ò4 hC hN À0 (hn _ m1) (hn' _ m1) (hn _ m2) (hn' _ m2) Ì1 he hc (λ c z=>by rw[hdt] at z;cases z) hdx hns hu' (PySem.W.handedOut_of (Rm ru)) #[w,H1,I1.tok _,ru,q]
end
end L3
namespace L5
open ţ ě L2 L3
open Ă hiding St
@[simp] def nq (k:Str->Bool) (g:Ae):Ae:=fun Y=>É5 λ x=>match x with
 | .err c õ=>↑(.bl (k c))
 | _=>none
@[simp] def iQ (f:Str) (g:Ae):Ae:=fun Y=>É5 λ x=>match x with
 | .err _ f' t=>if f'=f then ↑t else none
 | _=>none
def qv {k:Str->Bool}Ó8:vf (nq k g) (Z5 k te):=λ S Z δ Y y Q hE e hq=>by
 ext ś
 .cases e2;let#[d',rfl,_]:=Vw.err r1;show hq _ S1 s1 (Cl.of Ï7 oh)
 .cases e2
def xi {f:Str}Ó8:wY (iQ f g) (Qm f te):=λ S Z δ Y y Q hE e hq=>by
 ext ś
 .split at e2
  .rename_i h;cases e2;let#[d',rfl,h2]:=Vw.err r1;show#[h,hq _ S1 s1 h2]
  .cases e2
 .cases e2
end L5
namespace L3
open ţ ě L2
open Ă hiding St
def Ec ŕ (c:Str):Prop:=∃ C P N NP,Ň
def Ec.i À2{c:Str}{C P:Addr}Â:Ec K c:=#[C,P,_,_,Wr h]
def Ei ŕ Î3 Í4:Prop:=∃ (C P N NP fI:Addr) (fd:Æ2),Ň/\Ā
def Ei.i À2 Â4{C P fI:Addr}Â (k:Ê6) (n:Ĉ K c1.ns "__init__"=↑↑ Î4) (g:PySem.W.isFn K Î4=true)
  {oc:ò}{od an:à}{osl:Æ1}{kV doc pm Af ct:ò}(l:K.lookup fI=↑#[oc,od,.func (È1 Ä4 Ð7),osl])
  (cd:PySem.W.codeIn K Af (c++".__init__")=true) (k2:ę K Î4=true):Ei K c f st:=#[C,P,_,_,fI,_,Wr h,k,n,g,fK l cd k2]
def Og ŕ (mg:Aq) (cn:Str):Prop:=∃ D,Vk K cn D/\mg cn=↑(É D)
section
variable {À2}{mg:Aq}{Ñ6}{Â4}
def Ei.mk (H:Ei K c f st) ù (hf:f∈w6:=by simp):yF K mg c f st:=by
 let#[C,P,N,NP,fI,fd,e,k,n,g,F]:=H;show#[hf,C,P,N,NP,fI,fd,e,Ť X G e.top,k,n,g,F]
def Ec.mk (H:Ec K c) ù:Og K mg c:=by
 let#[C,P,N,NP,e]:=H;show#[C,#[e.top,_,_,e.own],Ť X G e.top]
end
def qJ (cn:Str) (c:Str):Bool:=ŋ
section
variable {ū}{Ð9}
def tP {cn:Str}(O:Og X.K X.mg cn) (T:Bt X.mg) Ŕ (hd:(cn == ø)=Þ) (hg2:Gl X cn) Ĳ:
  PD X Ã6 (Z5 (qJ cn) te):=by
 let#[D,o,hm]:=O;show Tt (V0:=É D) (λ c=>.own o) (Tq hg2 hm rfl hd) T he hg h1 h2 h3
def EV:bootBuiltins "ValueError"=↑ Î7:=Á8
def yY (hm:X.mg "ValueError"=none) (T:Bt X.mg) Ŕ (hg2:Gl X "ValueError") (hg:Gl X "isinstance") (h1:AA X e [Å2]) (h2:AH X pos [Å2]) (h3:AA X (Å2) []):
  PD X (.Call (ĉ "isinstance" p) [e,Å2] [] pos) (Z5 (λ _=>true) te):=
 Tt (V0:=.ty "ValueError") (λ c=>.val) (Ts hg2 hm EV rfl () ()) T he hg h1 h2 h3
end
end L3
namespace L5
open ţ ě L2 L3
open Ă hiding St
def Z7:Stmt->Ì8
 | .ClassDef õ _ b õ õ õ _=>b
 | _=>[]
end L5
namespace L2
open ţ ě Ă
def JE (i j c:Int):Nat:=if i<j then ((j-i-1)/c+1).toNat else 0
end L2
namespace L3
open ţ ě L2
open Ă hiding St
section
variable {ū}{À2}{e a b c:Expr}{es:List Expr}{tA:ya}{pos p:Pos}
def MO (lo c:Int) (n:Nat):List D:=(List.range n).map λ(k:Nat)=>D.int (lo+(k:Int)*c)
def zae (t:ya):pz:=fun δ S R=>t δ S λ ds S1=>match ds with
 | [Ŵ i,Ŵ j,Ŵ c]=>(-(2 ^ 31)<=i/\i<2 ^ 31/\-(2 ^ 31)<=j/\j<2 ^ 31/\0<c/\c<1000000)/\R #[MO i c (JE i j c),λ _=>True] S1
 | _=>False
def lZ:vm:=λ ds S Q=>match ds with
 | [Ŵ i]=>Q Æ6 S
 | _=>False
def lZ.mo:nG lZ:=λ ds S Q Q' hq h=>by
 unfold lZ at h ⊢;split at h
 .show hq õ h
 .show h.elim
def lZ.fits:mS K lZ (λ xs H Q=>∃ i,xs=[Ŵ i]/\Q Æ6 H):=λ xs ds H S Q h0 h2 h=>by
 unfold lZ at h;split at h
 .let#[x,rfl,h1]:=h0.one;simp![zj] at h1;subst h1;show#[_,rfl,h _ H (Ţ) (.refl H) h2]
 .show h.elim
def sv (hm:X.mg "abs"=none) À9 (hg:Gl X "abs") Ï1:PD X (.Call (ĉ "abs" p) (e::es) [] pos) (vj lZ tA):=
 mZ (mC EH hg hm boot_abs ha.pa () () he An) lZ.mo lZ.fits ha.mo
def gD (_ j:Int):Prop:=0<j/\j<2 ^ 200
def gC (i j:Int):Prop:=i.natAbs<2 ^ 200/\j.natAbs<2 ^ 200
instance (i j:Int):Decidable (gD i j):=by unfold gD;infer_instance
instance (i j:Int):Decidable (gC i j):=by unfold gC;infer_instance
def Si {n:Nat}(h:n<2 ^ 200):n.log2<200:=by
 rcases zbR n with h0 | hp
 .rw[h0];decide
 .show (Nat.log2_lt (BS hp)).mpr h
def QQ {i:Int}(h:i.natAbs<2 ^ 200):Builtin.Int.intBits i<=2 ^ 20:=by
 have:=Si h;unfold Builtin.Int.intBits;split <;> lia
def KJ:xo X (binaryOp .FloorDiv) (rI Å6):=g_ λ i j _ _ _ _ _ hc q=>by
 have h1:(0:Int)<j:=hc.1;have h2:j.natAbs<2 ^ 200:=by have:=hc.2;lia
 have h3:=Si h2;show floordiv_int ⋯ (by rw[Int.fdiv_eq_ediv_of_nonneg i ⋯];show q) (.inl (PyProof.noPylong_of_log2 ⋯))
def K7:xo X (binaryOp .Mult) (rI Å7):=g_ λ _ _ _ _ _ _ _ hc q=>mul_int q (PySem.IntMulOk.of_bits (QQ hc.1) (QQ hc.2))
variable {ta tb:zy}
def tW Ñ0:PD X (.BinOp a .FloorDiv b pos) (yT (fI Å6) ta tb):=ji KJ Ñ1
def tw Ñ0:PD X (.BinOp a .Mult b pos) (yT (fI Å7) ta tb):=ji K7 Ñ1
end
end L3
namespace L5
open ţ ě L2 L3
open Ă hiding St
structure Ox (mg:Aq):Prop extends Bq mg where
 abs:mg "abs"=none
@[simp] def ZL:Al
 | [Ŵ i]=>↑ Æ6
 | _=>none
def q_:nH zC ZL lZ:=λ S Z ys z ds Q hz hv e hq=>by
 unfold ZL at e;split at e
 .cases e;let#[d,rfl,h1]:=nI hv;cases h1.int;show È2
 .cases e
@[simp] def iT:T->T->Ĭ T:=j0 Å6
@[simp] def dI:T->T->Ĭ T:=j0 Å7
def qz Â9:vf (zb iT fa fb) (yT (fI Å6) ta tb):=Ç4
def qp Â9:vf (zb dI fa fb) (yT (fI Å7) ta tb):=Ç4
end L5
namespace L2
open ţ ě Ă
def E5 ū À3:xR X (Ñ2 "min") (λ xs H Q=>∃ (p:Addr) (a b:Int),xs=[É p]/\yJ X.K H p Í3/\Q (ħ) H):=by
 intro gV s σ H xs us Q I r h;let#[p,a,b,rfl,hq,q]:=h;let#[u,rfl,rx]:=vals1 r;cases rx;let#[Ab,r',ht,hz]:=I.tuple hq;let#[v1,v2,rfl,#[t1,rfl],#[t2,rfl]]:=vals2 r';have ht:s.heap.IsTuple p Ç8:=ht;have Au:p<ż:=by let#[_,e,_]:=ht;show Ar e
 exact call_min_walk (zd0 ht ?_);exact#[_,_,_,_,_,_,_,rfl,Walks.tuple (A:=X.A.in1) (I.ok.hd hc) ż p (AG Au) Ç8,#[#[_,AO _ rfl,rfl,rfl],ht.at λ o e=>za1 _ e],λ c hc=>?_,Nat.succ_pos _,CmpOf.ints_lt (λ i=>if i=0 then a else b) (λ i v hv=>?_),λ v h' tk hP hk=>?_]
 .rw[Heap.size_push];simp![Ao,A4,or_false] at hc;rcases hc with rfl | rfl
  .show zE2 _
  .show zaK Au
 .match i,hv with
  | 0,hv=>cases hv;show#[t1,rfl]
  | 1,hv=>cases hv;show#[t2,rfl]
  | i+2,hv=>simp at hv
 .have keep:∀ c o,Ĩ c=↑o->Ê9 c=↑o:=λ c o e=>hk c o (λ m=>by
   rw[AJ.mp m] at e;show zE1 _ (Ar e)) (za1 _ e)
  simp![argBest,AN,A7,zbD] at hP;by_cases hab:b<a
  .have:v=Ŵ b t2:=Ë4
   subst this;exact#[ħ,H,I.kept keep,#[t2,by rw[if_pos hab]],q]
  .have:v=Ŵ a t1:=Ë4
   subst this;exact#[ħ,H,I.kept keep,#[t1,by rw[if_neg hab]],q]
end L2
namespace L3
open ţ ě L2
open Ă hiding St
section
variable {ū}{À2}{Ñ9}{tA:ya}{p pos:Pos}
def jA:vm:=λ ds S Q=>∃ a b,ds=[.tup Í3]/\Q (ħ) S
def jA.mo:nG jA:=λ ds S Q Q' hq #[a,b,h1,h2]=>#[a,b,h1,hq õ h2]
def jA.fits:mS K jA (λ xs H Q=>∃ (p:Addr) (a b:Int),xs=[É p]/\yJ K H p Í3/\Q (ħ) H):=λ xs ds H S Q h0 h2 h=>by
 let#[a,b,rfl,h]:=h;let#[x,rfl,r]:=h0.one;simp![zj] at r;let#[c,ys,rfl,r1,r2]:=r;rw[zw.ints (ns:=[a,b]) r2] at r1;show#[c,a,b,rfl,r1,h _ H (Ţ) (.refl H) h2]
def t8 (hm:X.mg "min"=none) (ha:y6 X [e] tA) À3 (hg:Gl X "min") (he:AA X e []) (An:AH X pos []):PD X (.Call (ĉ "min" p) [e] [] pos) (vj jA tA):=
 mZ (mC (E5 hc) hg hm boot_min ha.pa () () he An) jA.mo jA.fits ha.mo
end
end L3
namespace L5
open ţ ě L2 L3
open Ă hiding St
@[simp] def X3:Al
 | [.tup Í3]=>↑(ħ)
 | _=>none
def qP:nH zC X3 jA:=λ S Z ys z ds Q hz r e hq=>by
 unfold X3 at e;split at e
 .cases e;let#[d,rfl,h1]:=nI r;let#[es,rfl,h2]:=h1.tup;simp![zq,Sn] at h2;let#[_,_,rfl,rfl,_,_,rfl,rfl,rfl]:=h2;show#[_,_,rfl,È2]
 .cases e
end L5
namespace ţ
section
variable {Ċ}{Ë}
variable {Ä2}{Á}{B newId initId:Ê2}
def OS Ü À8
  À4 (hi:mN "__init__"=none)
  (hq:∀ h' e,Ó<=e->Ľ->Q (.done (.ret Ď)) ĥ) ŀ:
  Ÿ:=by
 ext Ų
 ext Ú;have hget:É8:=by heap_get
 ext Ë9
 ext ķ
 ext Č;exact zaA (tp (wpAny_of_eq (F.init.bind _) ?_));exact tp (zcM (Œ F.init.plain F.initEntry (wpAny_check_init_subT F (T.keeps up) hC₁ hget rfl ?_)))
 wp_walk
 rw[if_neg (show ¬ ([].append rest).toArray.size>sizeLine from Nat.not_lt_of_le hrest)]
 wp_walk
 exact hq õ (zaX _) #[λ b o hb=>?_,zcT (zaX _),Ó+2,?_,zcT ⋯,?_]
 .rw[za9 õ (BS (zaK (Ar hb)))];show za1 _ (up õ hb)
 .rw[za8 _ (za1 _ hget) rfl];simp![Heap.size_push];rfl
 .rw[za9 õ (show Ó+1≠ Ó+2 by lia)];show Î5 (by simp![Heap.size_push]) rfl
def Nd Ü{Q:Aj}
  À4 (hi:mN "__init__"=none)
  (hq:∀ h' e,Ó<=e->Ľ->Q Ď ĥ) ŀ:
  é Ê A (call Ĥ rest) ŷ:=by
 ext ó
 ext Å3
 exact#[rfl,?_];show codeAny_call_builtin_at (Ã0 _ (AU)) entry_typeCall (wpAny_check_type_call_sub hC (OS F T hC hn hi hq hrest))
end
end ţ
namespace L3
open ţ ě L2
open Ă hiding St
def ZW ŕ (mg:Aq) (c:Str):Prop:=∃ C P N NP,Ň/\mg c=↑ Ĥ/\Ê6/\Î8=↑none
def Ez ŕ (c:Str):Prop:=∃ C P N NP,Ň/\Ê6/\Î8=↑none
def Ez.i À2{c:Str}{C P:Addr}Â (k:Ê6) (n:Ĉ K c1.ns "__init__"=↑none):Ez K c:=#[C,P,_,_,Wr h,k,n]
def Ez.mk À2{mg:Aq}Ñ6{c:Str}(H:Ez K c) ù:ZW K mg c:=by
 let#[C,P,N,NP,e,k,n]:=H;show#[C,P,N,NP,e,Ť X G e.top,k,n]
def Nj ū{c:Str}{p pos rpos:Pos}ċ{Q:þ}{R:Flow->Ø}
  (G:ZW X.K X.mg c) À3 Ó6
  Ã7 ä (h:∀ a H',fW H H'->ZT X.K c "" .zk a H'->Q a H'):
  é ô (exec (.Raise ↑(.Call (ĉ c p) [] [] pos) none rpos) ĵ) R W s:=by
 let#[C,P,N,NP,hE,hm,hk,hi]:=G;ext ģ;exact Ĝ
 exact Ç7;exact PySem.W.callWith_K0 I.yB hk ?_;let#[hh,g,d,t,os]:=s;have hC:=I.yB õ lk;let#[_,hN,hnn]:=hE.own.at I.yB;let#[Ï,hN',hn']:=hE.par.at I.yB;have T:OwnTail hh pY (É P::pY):=.own hP hN' (Í2 I.yB hN' hE.Tf) .base;exact Nd Ð0 (Í2 I.yB hN hi) (λ h' e hle M=>?_) ();let#[va,m1,m2,m3]:=M.there;have I2:Inv É0 (upd H e Ë1) ĥ:=I.laid Á3;have en:H e=none:=I.zv.fresh hle;let#[u3,dF]:=Uh (fs:=X.fs) (ψ:=λ h=>∃ oe vs,Å1/\Æ4/\Ñ7=none/\À5) I2.zv yD #[_,_,m1,rfl,rfl,rfl] Á2;have I4:=I2.un (t':=t) u3 dF;exact#[e,none,va,_,rfl,I2.yB õ lk,m1,hW õ #[e,gV,σ,_,rfl,nofun,I4,#[C,none,yD],.inl #[rfl,_,_,_,m1,rfl,rfl,rfl],h e _ (λ b o z=>?_) #[C,none,ń,yD,rfl,rfl]]];ext Ê7
 rw[zX b1,zX b1];show z
)
example:=`(
example À:=List Str
example Á:=Option
example Ų:=trivial
example ģ _:=x Af A outer s H E
example Ð3:=hbody
example Â _:=x Sc hn hb λ f Af A outer s H E hr=>Ð3 f ģ Ų Sc.nd rfl rfl hr
example ć _:=x _ _
example ĸ:=(e1.trans e2).trans
example Ã:=by let#[C,dx,vs,k1,k2,k3]:=p2 ć g1;let#[C',j1,j2,j3]:=hk c g2;cases k1.eq j1;have e4:Ext H2 (upd H2 p (.ins C dx (vq f v vs))):=.ins k2 _;exact#[p,C,dx,vs,rfl,k2,j2,j3 f (zcD hf),by rw[<- k3.length];show g3,?_];show g4 ć (r1.ext (ĸ e4)) (ĸ e4) (p2.ups e4 #[C,dx,_,k1,yD,(k3.put (zj.ext e2 d q1)).ext e4])
example Ä _:=x P w K mg base
example Ñ3:=(zW st)
example Å(Sc:vn N ps Ñ3:=by show lq) (hn:n=ps.length:=by rfl):=0
example Æ(Af:Value) (A:Around) (outer:List Env) (s:Shared) (H:Hp) (E:XK):=0
example Ç:=(.Call (.Attribute o m apos) (e::es) [] Ad)
example ų:=(xD X N' scope cl C s H fp)
example Ĳ(hc:X.calm=true):=0
example È(_:Hq scope N'=true) (hi:xW X tg iter ti) (hg:∀ cl C s H fp,N'.Nodup->nE ų tg g) (hf:∀ cl C s H fp,N'.Nodup->fX ų ifs tcc) (he:∀ cl C s H fp,N'.Nodup->PD ų elt te) (nd:N'.Nodup) Ĳ:=0
example É:=List Nat
example Ê:=λ gV s σ H D Q W hW I #[δ,S,r1,r2,z]=>?_
example Ë:=wB xP Ä N x Ñ3 f ģ
example Ì:=by simp![zj] at q1;subst q1;let#[C,dx,vs,j1,j2,j3]:=p1 ć g2;let#[C',j4,j5,j6]:=h3 c g3;cases j1.eq j4
example Í _:=x X.prog X.w X.K X.mg X.base
example Æ1:=List T
example Î:=Ev->Á (Æ1)
example Ï _:=x S Z δ Y
example Ð:=List Bd
example Ñ:=Int×Int
example Ò{P:Program}{w:World}{K:Ac}{mg:Aq}:=0
example Ó:=s.heap.objs.size
example Â5:=List (Á Nat)
example Ô:=List (À × Â5)
example À6:=X.env.scope
example À4:=X.fn y=true\/X.env.scope.names.lookup y=↑.local
example Õ(hi:X.N[i]?=↑y) (hx:Loc À6 y) (hf:À4):=0
example œ:=fresh
example Ö _:=x F last œ
example î:=X.env
example Ç1:=(keywordEach [] î)
example Ø:=callWith Ad f first (backTo Ad (starEach (e::es) î)) (backToKw Ad Ç1)
example Ù:=F.os.length
example Ú:=List W->Á T
example ê:=.ref
example Æ2:=PySem.W.findIn
example Û(c1:PySem.W.plainGet K C Str.empty=true) (c2:PySem.W.hasDictIn K C=true) (c3:PySem.W.plainOver K C=true) (c4:Æ2 K (ê C) "__setattr__"=↑↑(.builtin "object.__setattr__")):=0
example ę:=Ak.mp e
example Œ:=#[λ he=>?_,λ he=>?_]
example Ü:=by let#[ys,e1,e2]:=ę;let#[y,e3,e4]:=Ak.mp e2;exact h Ï ys _ Fr.er e1 λ ds S1 s1 r1=>#[Z,ys,y,(Fr.er.grow s1).zd,r1,e3,λ d S2 s2 r2=>Œ]
example Ý _:=x (pV st) (xA st) Ñ3 .none kV doc pm an Af
example Þ{st:Stmt}{N ps:À}{k n:Nat}{g:Sm}:=0
example ß(hn:∀ v s,¬ X.xe v s):=0
example à{fs:List (Str×D)}{vs:List (Str×V)}(h:mh K H fs vs):=0
example Á3:=yg k (A.deeper (envOfC qual Ñ3 Ó f Af))
example É6:=(wB xP Ä N qual Ñ3 f ģ).vb
example Ï9:=zJ pZ g t
example è:=false
example ū _:=x (xA st) t
example á(Ð3:∀ (f:Addr) Æ,Á3-> ∃ t,xI É6 è ū/\Ï9):=0
example â:=holding [ov] (getMethod ov m pl)
example Ê6:=(Sr.sn r2)
example Ā:=if_pos
example Â2:=(s1.trans s2)
example ŭ:=Aw.mp
example ã:=by .rw[pC Ê6] at he;rw[Ā he] at e4;let#[L,e5,rfl]:=ŭ e4;show P d S2 (Fr.sx.trans Â2) ((Fr.grow Â2).iz e5 Ê6)
example ä:=λ u s1 #[x,H1,I1,rx,a,C,dx,fs,ex,ea,c,me,l,q]=>?_
example å _:=x (.Attribute o m apos) [] []
example į:=.obj
example Ĝ:=.own
example æ:=Ĝ (į a c fs)
example ç:=by let#[t,h1,h2]:=Ð3 f ģ hr;show#[t,h1,λ ds S Q h=>WN h2 h]
example Ţ:=Á Addr
example é{oc:Value}{od an:Ţ}{osl:Array (Á Value)}{kV doc pm Af ct:Value}:=0
example Ç2:=[.int q.1,vk q.2]
example ë:=λ q=>T.tup Ç2
example ì(P:Program) (w:World) (K:Ac) (mg:Aq) (base:Heap):=0
example Ä0:=λ y=>hE.rt ć (q.1 y)
example í _:=x δ S ć (λ d S2 q=>#[Ä0,λ y=>hE.nx ć (q.2 y)]) z
example Ì1:=PySem.W.fnOf
example Î2:=PySem.W.keepIn K (ê f)=true
example Ľ(cd:PySem.W.codeIn K Af qual=true) (k2:Î2):=0
example ï(l:K.lookup f=↑#[oc,od,.func (Ì1 m qual Ý ct),osl]) Ľ:=0
example ð:=by rw[zX (ou q h (by intro z;cases z))];show q
example ñ _:=x (k+1) ps (xU (w_ N n is g))
example Ë2(cs:À):=0
example ò Ë2 (m:Str):=0
example ó _:=x pu zF give get
example ô _:=x F Sc (λ ds S Q h=>by rw[h.len,hn]) λ Af A outer s H E hr=>?_
example õ{last:Ð}{œ:É}(s:St Ö):=0
example ö:=PyProof.Rows
example ø:=List (Addr×C)
example À1(hr:yg k' X.A):=0
example ù{k' i:Nat}{y:Str}{py:Pos}(hN:X.N.Nodup) À1:=0
example ú:=by subst ex;obtain rfl:u=Value.ref a:=rx;exact XY I1 ea c me l ?_
example û _:=x Sc hc hi (λ cl C s H fp=>hg cl C s H fp nd) (λ cl C s H fp=>hf cl C s H fp nd) (λ cl C s H fp=>he cl C s H fp nd)
example ü:=("__debug__":Str)
example ý:=∃ w∈F.ws,w.f=p
example ţ:=List (Str×T)
example þ{fs:ţ}{ds:List (Str×D)}:=0
example ÿ(Sc:vn N ps Ñ3) (hn:n=ps.length):=0
example ā:=(f Y).bind
example Ñ6 _:=x r1 r2 z
example Í5:=λ y=>(q.1 y).2 y
example Ă _:=x hn ht hW I Ñ6 λ d S' q=>#[λ y v H' a1 a2 a3=>q.2 y _ H' ((r1.ext a2).set i a1) a2 a3,Í5]
example ă(F:zr):=0
example À2(ho:PD X o to):=0
example Å8(ha:y6 X (e::es) tA):=0
example Ą À2 Å8:=0
example ą:=fs.lookup
example Ć:=last.getD
example Ĉ:=by simp![Sn] at h;let#[ds,rfl,h]:=h;simp![zq] at h;let#[d1,m1,rfl,g1,d2,m2,rfl,g2,rfl]:=h
example Ż:=if_neg
example ĉ:=Ż (by rw[he];decide)
example Ċ:=ja I1 hN hi hx r (λ s2 I2=>#[_,H1,I2,q1]) hf
example ċ:=(.ListComp elt [#[tg,iter,ifs,0]] scope pos)
example Č:=(zY.go ho.mo Ñ6 λ x S1 v H1 g1 q1 e1 p1=>?_)
example č:=wV c=true
example ť:=.inr
example Ď:=xs.map ť
example Ä4{o e:Expr}{es:List Expr}{to:zy}{tA:ya}:=0
example Ä6{k:Nat}:=0
example Ë6{m:Str}:=0
example ł{cs:À}:=0
example ď{fl:Bool}{pos Ad apos:Pos}Ä4 ł Ë6 Ä6:=0
example Đ:=PySem.Spec
example đ:=(g Y).bind
example Ē:=List.range
example ē:=by cases e2;rcases r1 with ⟨_,n⟩ | ⟨p,c,ob,v',dv,h1,rfl,h3,h4,h5,h6,h7⟩
example Â1:=(vx is Y).map
example Ĕ:=Â1 λ L=>.rt (xM y L)
example ĕ(a:PySem.W.nsIn K mainGlobals c=↑↑(ê C)):=0
example À0:=Gd A B b
example ĵ{A B:Int}:=0
example Ė ĵ{b c:Bd}(h:À0) (h':Gd A B c):=0
example ė:=standAt apos.atName
example Ë8:=c∈cs
example Ž:=fs.length<1000
example Ę:=if Ë8/\Ž then ↑(.nx (Y.set i ↑(Ĝ (į a c (ot f y fs))))) else none
example Ě:=by rintro⟨p,hp,h1,h2⟩
example ě:=λ _ _ z=>(hn ć z).elim
example ĝ:=λ v _ H'=>∃ a,v=ê a/\Q a H'
example ŕ{is:É}:=0
example Ğ{N:À}{n:Nat}ŕ{g:Sm}:=0
example ğ:=Addr->Prop
example Ġ:=yg k (A.deeper (envOfC x Ñ3 Ó f Af))
example ġ:=callWith Ad f first (backTo Ad (starEach [] î)) (backToKw Ad Ç1)
example Ģ _:=x S0 Z0 Ï
example Å3:=by let#[ws',h1,rfl]:=ŭ h
example Ĥ:=by ext Å3;let#[g1,g2]:=WZ h1 r2;exact#[by simp[g1],λ i w e=>?_]
example ĥ:=List.cons.injEq
example Ħ:=by simp![zj]
example ħ:=(zK S' Z)
example Ĩ:=#[[],last,rfl,λ r hr=>by cases AJ.mp hr;show#[s.len,s.gd],rfl,A0 _]
example ĩ:=by let#[p,c,fs,rfl,g2,g3,g4,g5]:=g1
example Ī:=.inl
example ī _:=x qual st
example Ĭ _:=x (model X.prog X.w) X.A
example È5(I:Inv X gV σ H s):=0
example ĭ(hW:jN X gV σ fl Q W) È5 (r1:xv X.K H δ σ) (r2:yb X.K H S):=0
example Ê1(pu:Bool):=0
example Į Ê1 (zF give get:Int):=0
example İ:=by let#[i,hi]:=zaJ.mp hj;have Au:=(AM.mp hi).1
example ı:=slots ys
example ĳ(i:Nat):=0
example Ĵ _:=x F last p
example Ķ:=by let#[δ,S,r1,r2,z]:=hu
example À5:=by split <;> lia
example ķ:=by have p0:=hb p hp;have g0:0<=zZ s.pu p/\0<=yS s.pu p:=by unfold zZ yS;ext À5
example Ĺ:=.Name
example ĺ:=∃ C,kr K c C/\oW K C/\Meth K C m f
example Ļ:=(zK S Z)
example ļ _:=x cs m
example ľ{g:Î}{u:ya}(h:oE g u):=0
example Ò4{F:zr}:=0
example Ŀ Ò4{s:Sl}(hs:1<=s.gv/\0<=s.gt):=0
example ŀ _:=x s.pu (F.zF s.pu) s.gv s.gt
example Ł:=by .rintro⟨k,h1,_⟩;exfalso;have:0<=(k:Int)*give:=zb0 ⋯ ⋯;lia
example Ń:=ER S Z (ds.map some) (ws.map some)
example ń:=λ v s1 #[x,H1,I1,r,q1]=>?_
example Ņ _:=x e1 λ d S1 s1 r1=>?_
example ņ:=Ev->Á Bool
example Ň:=by let#[L,e3,rfl]:=ŭ e2
example ň:=by let#[x,hx,hp]:=zaL.mp hp
example ŉ(last:Ð):=0
example Ŋ(h0:Y[i]?=↑↑(æ)) (hc:Ë8):=0
example ŋ:=by rename_i p q ps qs _;let#[g,d']:=p;let#[g',v']:=q;let#[rfl,r2]:=r
example Ō:=by let#[#[f,fd,h1,h2,h3],hm]:=F
example ō:=by cases e2;rcases r1 with ⟨h,_⟩ | ⟨p,c,ob,v',dv,h1,_⟩
example Ò7:=by dsimp only at h1 h2
example Ŏ:=by ext Ò7;show#[p,hp,by dsimp only;lia,by dsimp only;lia]
example ŏ:=List Ag
example Ő:=#[q'.1,λ y a H' c1 c2 c3=>#[a,rfl,q'.2 y a H' c1 c2 c3]]
example ő:=(vi d=true->E.rt d S2)
example Ŕ{Y:Ev}:=0
example Ŗ{f:Ae}{te:zy}:=0
example ŗ(Ð3:eJ Ä N ī k hs λ X=>∃ t,xI X è ū/\Ï9):=0
example Ř:=wV q.2=true/\S0 q.1=none/\Z q.1/\∃ o,S q.1=↑o/\wQ Ļ q.2 o
example ř _:=x n (g+give) (wb (t-get))
example Ś:=λ v H'=>D.nx (σ.set i ↑v) H'
example Ð6:=decide
example ś:=Ð6 (y.2=.local)||Ð6 (y.2=.free)||Ð6 (y.2=.cell)
example Ŝ:=(nK N ws)
example ŝ:=Value.ref (Ó+1)
example Ş:=(.Call (Ĺ c p) (e::es) [] Ad)
example Ò3(An:AH X Ad es):=0
example ş(AB:AA X e es) Ò3:=0
example Š Ò4(ok:F.Ok):=0
example š _:=x hA hB hl' (λ x hx=>gb x (Ay _ hx)) (λ x hx=>gc x (Ay _ hx)) hs
example Ť(p:Nat):=0
example Ç6:=FR S0 Z0 S' Z δ Y'
example Ŧ:=∀ d S',Sx Ļ ħ->Ç6->Sn ħ y d->Q d S'
example ŧ(F:xX Í ļ k ps sp):=0
example Ũ:=absurd
example ũ:=(Ĝ c)
example Æ5{S:SS}:=0
example È3{ds:List D}:=0
example Ū È3 Æ5{Q:DK}(hs:xU (w_ N n is g) ds S Q):=0
example Ŭ:=.Attribute o f pos'
example Ů:=by change yq j δ S _;unfold yq;rw[h1]
example ů:=by have h3:(v9 a b q).1<=A/\(v9 a b q).2<=B:=by simpa [iR] using h2
example Ű _:=x F.A F.B
example ű:=(hr.mono hk)
example Ŵ{i:Nat}:=0
example ŵ(hb:ib x x st ps:=by show bA):=0
example Ŷ:=swapsWith
example ŷ:=ą m=none
example Ÿ:=ws.length
example Ź:=#[λ E E' δ S hE z=>nA.mo ho.mo F.mo ha.mo í,Ê]
example Ç7:=(Ć w.t [])
example ź Ò4{last:Ð}{w:Wy}(hb:Gd Ű Ç7):=0
example ż:=(.ins C dx fs)
example ž:=(ad j)
example ſ:=slot_mem
example À3:=by let#[c',a,b,d]:=YR h1 hj;show#[c',a,b,Ay _ d]
example À7:=#[p,c,fs,h1,h2,h3,h4,hE.nx ć h5]
example À8:=by let#[Z,ws,y,r,e,hq]:=hs;unfold w_ at e;split at e
example À9(kV doc pm:Value) (an:Ţ) (Af ct:Value) (us:Ai):=0
example Á0:=by let#[d,m,rfl,h1,h2]:=h
example Á1:=some ↑(Ĝ (į _ c fs))
example Í7 _:=x S1 (F.sx.trans s1)
example Á2:=P d Í7 ((F.grow s1).iz e3 r1)
example Á4:=(wK Ö).getD p []
example É2{f:Str}:=0
example Á5{cs fl:À}É2(hk:∀ c∈cs,Kl X.K c fl):=0
example Á6(hs:Ô) (F:Fy K mg x st):=0
example Á7:=by let#[w,hw,rfl]:=Ax.mp hc;let#[w1,w2]:=A9.mp hw
example Á8 _:=x ļ (xU F) (yq j) u
example Á9:=by change ā _=_;rw[h]
example Â0(hs:∀ x,foldedSetIterable iter î x=pure x):=0
example Â3:=(.Call å Ad)
example Â4:=(.new hp _)
example Â6(k:Nat) (ps:À) (sp:xE):=0
example Â7(F:Ú) (g:Î):=0
example Â8:=ys[i]?=↑(Ī j)
example Â9:=(upd (upd H1 dx (Ĝ x)) x (.ins C dx []))
example Ã0:=Ax.mpr #[w,hw,rfl]
example Ã1 _:=x ↑(Ĺ y py) pos.line î
example Ã2(sp:xE) (to:zy) (tA:ya):=0
example Ã3{ws:List W}:=0
example Ã4:=by unfold jG cT ma yq;rw[h1];exact hf Ï v _ F.er Ņ
example Ã5:=PySem.W.methodCall_KW
example Ã6:=λ a q=>q.imp (z a) id
example Ã7:=(λ a=>Z a/\¬ mD ws a)
example Ã8:=by change (c Y).bind _=o;rw[e];show e'
example Ã9:=vt h Ģ y Y1 _ Fr e1 λ d S' sx F' r=>Œ
example Ä1:=(zK S' λ a=>Z a\/a=p)
example Ä2:=[a,b,c,d]
example Ä3 _:=x ļ sp to
example Ä5{ps:À}{sp:xE}:=0
example Ä7 _:=x S0 Z0 S1 Z δ
example Ä8(hR:∀ d S',R d S'->ny X.K H RV Q d S'):=0
example Ð9:=last.length
example Ä9{last fo:Ð}(hl:fo.length=Ð9):=0
example Å0:=#[p,c,fs,h1,h2,h3,h4,h5]
example Å1:=FuncData
example Å2:=assignEach
example Å4:=by let#[j,hj,rfl]:=lA a q
example Å5(F:wg Í (ku X.prog X.w) k f fd ps sp):=0
example Å6:=(ups S1 p (į c []))
example Å7:=by unfold wb;ext À5
example Å9(h:vk c=vk c') (l:č) (l':wV c'=true):=0
example Æ0:=(ê p)
example Æ3:=(told++[last])
example Æ4:=(0<=q.1/\q.1<=F.A)/\0<=q.2/\q.2<=F.B
example Æ6(F:Fm K ļ ī):=0
example Æ7 _:=x (ch:=[]) os un zv bare (λ b z=>Ũ z #[])
example Æ8(_:Ht N' pick) (_:À6=esc) (_:X.N=N):=0
example Æ9:=by constructor
example Ç0(bs:Ð) (b:Bd):=0
example Ç3:=T.tup.injEq
example Ç4:=us.length=ps.length
example Ç5:=by change (g Y).map _=_;rw[h];rfl
example Ç8:=h w w1 (by exists w2)
example Ç9:=∀ i,wG (l.getD i []) (m.getD i [])
example È0:=by change (f Y).map _=_;rw[h];rfl
example È1:=by unfold v9 wb;dsimp only;ext À5
example È2(f:Str):=0
example È4(n:Nat):=0
example È6:=∀ d S',Sx S S'->Sn ħ y d->Q d S'
example È7:=wg Ä (ku P w) k f fd ps (il K sp)
example È8(X:K.In h) (G:h.Ns mainGlobals mg):=0
example È9:=eval o î
example É0:=ds.length
example É1:=and_true
example Ð1:=List C
example É3{js:É}{cs:Ð1}:=0
example É4:=by let#[d,m,rfl,r1,r2]:=r;unfold oX at h
example É5:=č/\vp c=none
example É7:=r.1<=p.1/\r.2<=p.2
example É8:=zZ s.pu q
example É9(hr:yg k X.A):=0
example Ê0 _:=x y d e H S Q h1 h2 h3
example Ê2:=(0<=p.1/\p.1<=A)/\0<=p.2/\p.2<=B
example Ê3:=by rw[q] at e;cases e
example Ê4{base:Heap}{x:Str}:=0
example Ê5:=mJ F Y (Ī j::Ď)
example Ê7:=(zR R (yd N n g))
example Ê8:=F.ws.filter λ w=>Ð6 (w.f=p)
example Ê9:=cx ć ć (by rw[s.len];show hp)
example Ë0(hk:k<=k'):=0
example Ë1 _:=x (Ĺ x p) (e::es) []
example Ë3(j:Nat):=0
example Ë4(is:É):=0
example Ë5(m2:PySem.W.isFn K (ê f)=true):=0
example Ë7 _:=x (EP X gV σ RV) W s
example Ë9:=Binds K fd ps []/\∀ c∈cs,ĺ
example Ì0:=ws[i]?=↑ ũ
example Ì2:=#[rfl,rfl]
example Ì3:=T->Ev->Á Ev
example Ì4:=xF.mpr #[p,hp,BC _,BC _]
example Ì5{X:Cx}:=0
example Ì6(AV:(x == ü)=è) (he:AA X e es):=0
example Ì7(f:Ae):=0
example Ì8{F:Ú}:=0
example Ì9:=by let#[xs,e1,e2]:=ę
example Í0:=by dsimp only at e2
example Í1(q:Ñ):=0
example Í2:=[.str q.1,q.2]
example Í3:=oX ad Y ys=↑ws
example Í4:=eG Ä ļ (k+1) ps (k7 N n f')
example Í6 _:=x Ä7 Y o Y' E (F.grow s1) e2 h1 h2
example Í8(ha:PD X a ta) (hb:PD X b tb):=0
example Í9 _:=x hs.1 hs.2 100
example Î0:=map_some
example Î1:=nomatch h
example Î3:=by change đ _=_;rw[h];rfl
example Î4:=v9 a b r
example Î5:=bs.foldl
example Î6:=by simp![vp] at h;subst h
example Î7{c:C}{p:Addr}(h:vp c=↑p):=0
example Î8:=by let#[y,e1,e2]:=ę
example Î9:=by ext ň;let#[y,hy,rfl]:=Ax.mp hp
example Ï0:=by unfold lY;exact BB.mpr #[w,w1,?_]
example Ï1:=PySem
example Ï2:=by simp![T.lst.injEq,ĥ,É1] at h1
example Ï3:=.cons
example Ï4:=pure è
example Ï5:=.Assign
example Ï6:=λ x S2 w H2 h2 q2 e2 p2=>?_
example Ï7:=[ê a]
example Ï8:=(g,x)::fs
example Ð0:=Nat->Addr
example Ð2:=Bc F Y ys r
example Ð4:=yx y=true
example Ð5:=[a,b,c]
example Ð7:=(jM A B a b bd)
example Ð8:=pX ó n g t
example Ñ0:=Ć p []
example Ñ1:=List (Ð)
example Ñ2:=mE last (wK Ö)
example Ñ4(AV:(c == ü)=è):=0
example Ñ5{α:Type}:=0
example Ñ7(i j:Nat):=0
example Ñ8{ys:ŏ}:=0
example Ñ9(st:Stmt):=0
example Ò0:=by rw[h0];dsimp only
example Ò1{u:Î}{xs:Æ1}:=0
example Ò2{b:Bool}(h:g Y=↑(.bl b)):=0
example Ò5:=by let#[h1,h2]:=kI (pu:=s.pu).mp cm
example Ò6{i j:Nat}:=0
def vO Ì5{c:Str}{p Ad pos:Pos}(G:ZW X.K X.mg c) (hg:Gl X c) Ĳ Ñ4:
  xH X è (.Raise ↑(.Call (Ĺ c p) [] [] Ad) none pos) (cU c "" (dC .zk)):=by
 exact#[λ E E' δ S hE z=>hE.rt ć z,Ê];exact Nj G hc hg AV hW.xp I λ a H' sm #[C,dx,hE,h2,h3]=>?_;exact z.2 rfl a H' ?_ (.same sm) (r2.same sm);simp![zj];show#[a,C,dx,.zk,rfl,#[hE,h2,h3],rfl]
end L3
namespace L3
open Ï1 Đ L2
open ö hiding St
section
variable {Ì5}{e:Expr}{es:List Expr}{tA:ya}{pos p:Pos}
def zg ĳ {x:Str}(hN:X.N[i]?=↑x:=by rfl) (hv:b7 À6 x:=by first | show Or.inl rfl | show Or.inr (Or.inl rfl) | show Or.inr (Or.inr rfl)) (hd:(x == ü)=è:=by decide) (BE:(x == ("__classdict__":Str))=è:=by decide):PD X (Ĺ x pos) (yq i):=Ku i (pv i hN hv hd BE)
def yZ {x:Str}{k k':Nat}Ä5(F:FD Í x k ps sp) À1 Å8 Ë0 (hg:Gl X x) Ì6 (An:AH X pos es):PD X (.Call Ë1 pos) (ba sp tA):=Ky F ű ha hg AV he An
end
def lq {N P:À}{sc:Scope}(h1:sc.kind=.function:=by rfl) (h2:sc.isCoroutine=è:=by rfl) (h3:sc.isGenerator=è:=by rfl) (h4:N.Nodup:=by decide +kernel) (h5:N.take P.length=P:=by rfl) (h6:∀ x∈P,sc.names.lookup x=↑.local\/sc.names.lookup x=↑.cell:=by decide +kernel) (h7:∀ y∈sc.names,y.2≠.free:=by decide +kernel):vn N P sc:=#[h1,h2,h3,h4,h5,h6,h7]
def ot Ñ5 È2 (y:α):List (Str × α)->List (Str × α)
 | []=>[(f,y)]
 | (g,x)::r=>if g=f then (g,y)::r else (g,x)::ot f y r
def Kl (K:Ac) (c:Str) (fl:À):Prop:=∃ C,kr K c C/\oW K C/\∀ f∈fl,jU K C f
def kr.eq {K:Ac}{c:Str}{C D:Addr}(h1:kr K c C) (h2:kr K c D):C=D:=by
 have:=h1.symm.trans h2;cases this;rfl
section
variable {K:Ac}{H:Hp}
def mh.get à:∀ É2{d:D},ą f=↑d->∃ v,vs.lookup f=↑v/\zj K H d v:=by
 induction h with
 | nil=>intro f d e;cases e
 | cons r _ ih=>
  ext ŋ;intro f d e;rw[BF] at e ⊢;dsimp only at e ⊢;cases q:f == g with
  | true=>ext Ê3;show#[v',rfl,r2]
  | è=>rw[q] at e;show ih e
def mh.put à É2{d:D}{v:V}(r:zj K H d v):mh K H (ot f d fs) (vq f v vs):=by
 induction h with
 | nil=>show Ï3 #[rfl,r] .nil
 | cons z hh ih=>
  rename_i p q ps qs;let#[g,d']:=p;let#[g',v']:=q;let#[e,r2]:=z;dsimp only at e;subst e;unfold ot vq;by_cases c:g=f
  .rw[Ā c,Ā c];show Ï3 #[rfl,r] hh
  .rw[Ż c,Ż c];show Ï3 #[rfl,r2] ih
theorem mh.length à:fs.length=vs.length:=Paired.length h
end
section
variable {Ì5}{e o value:Expr}{te to tv:zy}{pos pos':Pos}
def Ql Ë2 È2 (te:zy):zy:=fun δ S Q=>te δ S λ x S1=>∃ p c fs d,x=ê p/\S1 p=↑(į c fs)/\Ë8/\ą f=↑d/\Q d S1
def tT Á5 (he:PD X e te) (hf:fl.elem f=true) (hb:attributeBase e f î (eval e î)=eval e î):PD X (.Attribute e f pos) (Ql cs f te):=by
 exact#[fun δ S Q Q' hq z=>he.mo δ S ć (λ x S1 #[p,c,fs,d,h1,h2,h3,h4,h5]=>#[p,c,fs,d,h1,h2,h3,h4,hq ć h5]) z,PE.imp (Kb he.pe hb) fun σ H Q hu=>?_];ext Ķ;exact zY.go he.mo Ñ6 λ x S1 v H1 h1 q1 e1 p1=>?_;let#[p,c,fs,d,rfl,h2,h3,h4,h5]:=h1;simp![zj] at q1;subst q1;let#[C,dx,vs,g1,g2,g3]:=p1 ć h2;let#[C',k1,k2,k3]:=hk c h3;cases g1.eq k1;let#[w,w1,w2]:=g3.get h4;show#[p,C,dx,vs,w,rfl,g2,k2,k3 f (zcD hf),w1,h5 w H1 w2 e1 p1]
theorem Ext.ins {H:Hp}{p C dx:Addr}{fs:List (Str×V)}(h:H p=↑ ż) (o:HO):Ext H (upd H p o):=
 #[λ b ys q=>ð,λ b ob u q=>ð,λ b u q=>ð,λ b u q=>ð]
def Qf Ë2 È2 (to tv:zy):yw:=λ E δ S=>tv δ S λ d S1=>to δ S1 λ x S2=>∃ p c fs,x=ê p/\S2 p=↑(į c fs)/\Ë8/\Ž/\E.nx δ (ups S2 p (į c (ot f d fs)))
def u7 Á5 À2 (hv:PD X value tv) (hf:fl.elem f=true) (hs:Ŷ value ↑(Ŭ) pos.line î=Ï4):yt X (Ï5 [Ŭ] value pos) (Qf cs f to tv):=by
 exact#[λ E E' δ S hE z=>hv.mo δ S ć (λ d S1 z=>ho.mo δ S1 ć (λ x S2 Å0=>À7) z) z,λ gV s σ H D I hu=>Lk ho.pe hv.pe hs gV s σ H D I ?_];ext Ķ;exact zY.go hv.mo Ñ6 λ d S1 v H1 h1 q1 e1 p1=>?_;exact zY.go ho.mo (r1.ext e1) p1 h1 Ï6;let#[p,c,fs,rfl,g1,g2,g3,g4]:=h2;simp![zj] at q2;subst q2;ext Ã
structure eG ì ò Â6:Prop where
 ex:∃ (f:Addr) (fd:Å1),wg Ä xP k f fd ps (mv K sp)/\Ë9
 mo:mQ sp
def nA ò Ã2:zy:=fun δ S Q=>to δ S λ x S1=>∃ p c fs,x=ê p/\S1 p=↑(į c fs)/\Ë8/\ŷ/\tA δ S1 λ ds S2=>sp (x::ds) S2 Q
def nA.mo ł Ë6{sp:xE}{tA:ya}(h1:yG to) (h2:mQ sp) (h3:lE tA):yG (nA Ä3 tA):=fun δ S Q Q' hq z=>
 h1 δ S ć (λ x S1 #[p,c,fs,a1,a2,a3,a4,a5]=>#[p,c,fs,a1,a2,a3,a4,h3 δ S1 ć (λ ds S2 z=>h2 _ S2 ć hq z) a5]) z
theorem mh.none {K:Ac}{H:Hp}à:∀ É2,ą f=Option.none->vs.lookup f=Option.none:=by
 induction h with
 | nil=>intro f e;rfl
 | cons r _ ih=>
  ext ŋ;intro f e;rw[BF] at e ⊢;dsimp only at e ⊢;cases q:f == g with
  | true=>ext Ê3
  | è=>rw[q] at e;show ih e
section
variable {ł}{Ë6}{sp:xE}{Ä6}{ps:À}{apos:Pos}{pl:Sem Bool}
def yX {k':Nat}(F:eG Í ļ k ps sp) À1 À2 Ë0
  (ht:eval (.Call å pos) î=(do
   let ov <- È9
   ė
   let (f,first) <- â
   callWith pos f first (backTo pos (starEach [] î)) (backToKw pos Ç1))):
  PD X (.Call å pos) (nA Ä3 ly):=by
 ext Ō;exact#[nA.mo ho.mo hm (λ _ _ _ _ hq z=>hq ć z),λ gV s σ H Q I hu=>?_];ext Ķ;exact Ã5 (pl:=pl) (zM (ho.pe gV s σ H (λ x H1=>∃ a C dx fs,x=ê a/\H1 a=↑ ż/\oW X.K C/\Meth X.K C m f/\ŷ/\mv X.K sp Ï7 H1 Q E0) I Č) ä) ht
 .ext ĩ;have q1':=q1;ext Ì;show#[p,C,dx,vs,rfl,j2,j5,j6,j3.none g4,[ê p],S1,Ï3 (Ħ) .nil,p1,hm _ S1 ć (λ d S' q=>pH.ext e1 q) g5]
 .ext ú;show PySem.W.callWith_K0 (first:=Ï7) I1.yB me.kp (UC (us:=Ï7) (vs:=Ï7) (dvs:=[]) (E:=E0) h1 ű h2 .nil Tu I1 (Ï3 rfl .nil) (by rw[zaD];show q))
end
end
end L3
namespace L5
open Ï1 Đ L2 L3
open ö hiding St
@[simp] def wW Ë2 ĳ È2:Ae:=fun Y=>match Y[i]? with
 | Á1=>if Ë8 then ą f else none
 | _=>none
@[simp] def iB Ë2 ĳ È2 (g:Ae):Sm:=fun Y=>đ λ y=>match Y[i]? with
 | some ↑(æ)=>Ę
 | _=>none
def Vf {a:Ţ}{c c':Str}{fs fs':ţ}{p:Addr}(h:adr (į a c fs) p):adr (į a c' fs') p:=by cases a <;> show h
theorem yC.RA Æ5:∀ þ,yC S fs ds->∀ É2{t:T},ą f=↑t->∃ d,ds.lookup f=↑d/\Sn S t d
 | [],_,_,_,_,e=>by cases e
 | Ï8,ds,h,f,t,e=>by
  ext Á0;rw[BF] at e ⊢;cases q:f == g with
  | true=>ext Ê3;show#[d,rfl,h1]
  | è=>rw[q] at e;show yC.RA h2 e
theorem yC.Wh Æ5:∀ þ,yC S fs ds->∀ É2,ą f=none->ds.lookup f=none
 | [],_,h,_,_=>by cases h;rfl
 | Ï8,ds,h,f,e=>by
  ext Á0;rw[BF] at e ⊢;cases q:f == g with
  | true=>ext Ê3
  | è=>rw[q] at e;show yC.Wh h2 e
theorem yC.Wk Æ5:∀ þ,yC S fs ds->É0=fs.length
 | [],_,h=>by cases h;rfl
 | Ï8,ds,h=>by
  ext Á0;rw[A7,A7,yC.Wk h2]
theorem yC.Wg Æ5 É2{t:T}{d:D}(r:Sn S t d):∀ þ,yC S fs ds->yC S (ot f t fs) (ot f d ds)
 | [],_,h=>by cases h;show#[d,[],rfl,r,rfl]
 | Ï8,ds,h=>by
  let#[d',m,rfl,h1,h2]:=h;unfold ot;by_cases c:g=f
  .rw[Ā c,Ā c];show#[d,m,rfl,r,h2]
  .rw[Ż c,Ż c];show#[d',_,rfl,h1,yC.Wg r h2]
def dA Æ5{Z:ğ}{δ:yz}Ŕ(hE:ER Ï) Ŵ{a:Ţ}{c:Str}{fs:ţ}(h:Y[i]?=↑↑(æ)):∃ p b,δ[i]?=↑↑ Æ0/\S p=↑(į c b)/\yC Ļ fs b:=by
 let#[p,o,h1,h2,h3,_]:=hE.ow i _ h;cases o with
 | obj c' b=>let#[rfl,h3]:=h3;show#[p,b,h1,h2,h3]
 | _=>show h3.elim
section
variable {R:Rk}{g:Ae}{tg:zy}
def xh ł ĳ È2:wY (wW cs i f) (Ql cs f (yq i)):=λ S Z δ Y y Q hE e hq=>by
 unfold wW at e;split at e
 .rename_i a c fs h;split at e
  .rename_i hc;let#[p,b,h1,h2,h3]:=dA hE h;let#[d,d1,d2]:=h3.RA e;change yq i δ S _;unfold yq;rw[h1];show#[p,c,b,d,rfl,h2,hc,d1,hq d S (.refl S) d2]
  .cases e
 .cases e
def sR ł ĳ È2 (hg:wY g tg):zJ R (iB cs i f g) (Qf cs f (yq i) tg):=λ S0 Z0 S Z δ Y o E F e P=>by
 let#[z,e1,e3]:=ę;split at e3
 .rename_i a c fs h;split at e3
  .rename_i hl;cases e3;exact hg Ï z _ F.er e1 λ dz S1 s1 r1=>?_;have F1:=F.grow s1;let#[p,b,h1,h2,h3]:=dA F1.er h;change yq i δ S1 _;unfold yq;rw[h1];show#[p,c,b,rfl,h2,hl.1,by rw[h3.Wk];show hl.2,P _ Z δ (F1.mut (us:=į a c (ot f z fs)) (es:=į c (ot f dz b)) i h h1 #[rfl,h3.Wg r1] Vf)]
  .cases e3
 .cases e3
end
@[simp] def nK (N:À) (ws:List W):Ev:=ws.map some++List.replicate (N.length-Ÿ) none
theorem YJ {N:À}Ã3 Ŵ{w:W}(h:Ŝ[i]?=↑↑w):ws[i]?=↑w:=by
 unfold nK at h;have hi:i<Ÿ:=by
  rcases BV i Ÿ with q | q
  .show q
  .rw[zaM (by exists q),zb3] at h;split at h <;> cases h
 rw[zaN (by exists hi),AF] at h;cases q:ws[i]? with
 | none=>rw[q] at h;cases h
 | some y=>rw[q] at h;cases h;rfl
def Î0 Ñ5{l:List α}Ŵ{x:α}(h:l[i]?=↑x):(l.map some)[i]?=↑↑x:=by rw[AF,h];rfl
def jl Ñ5{l:List α}Ŵ{x:α}(h:(l.map some)[i]?=↑↑x):l[i]?=↑x:=by
 rw[AF] at h;cases q:l[i]? with
 | none=>rw[q] at h;cases h
 | some y=>rw[q] at h;cases h;rfl
def ER.start Æ5{Z:ğ}{N:À}Ã3 È3(h:Ń):ER S Z (oK N ds) Ŝ:=by
 exact#[h.zd,λ i t e=>?_,λ i c e=>?_]
 .let#[d,h1,h2]:=h.im i t (Î0 (YJ e));show#[d,ao (jl h1),h2]
 .let#[p,o,h1,h2]:=h.ow i c (Î0 (YJ e));show#[p,o,ao (jl h1),h2]
def k7 (N:À) È4 Ì7:xE:=λ ds S Q=>∃ Z ws y,Ń/\É0=n/\f Ŝ=↑y/\È6
def k7.mo {N:À}{n:Nat}{f:Ae}:mQ (k7 N n f):=λ _ _ _ _ hq #[Z,ws,y,h1,h2,h3,h4]=>#[Z,ws,y,h1,h2,h3,λ d S' s r=>hq ć (h4 d S' s r)]
@[simp] def pQ ò (N:À) Ì7 Ë3:Ae:=fun Y=>match Y[j]? with
 | some ↑(æ)=>if Ë8/\ŷ then f (nK N [æ]) else none
 | _=>none
def xf {cs N:À}Ë6{f:Ae}Ë3:wY (pQ ļ N f j) (nA ļ (k7 N 1 f) (yq j) ly):=λ S Z δ Y y Q hE e hq=>by
 unfold pQ at e;split at e
 .rename_i a c fs h;split at e
  .rename_i hc;let#[p,o,h1,h2,h3,h4]:=hE.ow j _ h;let#[p',b,h1',h2',h5]:=dA hE h;rw[h1] at h1';cases h1';ext Ů;exact#[p,c,b,rfl,h2',hc.1,h5.Wh hc.2,Z,[æ],y,#[hE.zd,λ i t q=>?_,λ i c' q=>?_],rfl,e,λ d S' s r=>hq d S' s r]
   .have:=jl q;cases i with
    | zero=>cases this
    | succ i=>cases this
   .have:=jl q;cases i with
    | zero=>cases this;show#[p,o,rfl,h2,h3,h4]
    | succ i=>cases this
  .cases e
 .cases e
def vp:C->Ţ
 | į a ć=>a
 | _=>none
@[simp] def oP (a:Ţ):C->C
 | į _ c fs=>į a c fs
 | c=>c
def wV:C->Bool
 | į ć _=>true
 | _=>è
def vk:C->T
 | į _ c fs=>.tup [.str c,.tup (fs.map λ q=>.tup Í2)]
 | _=>.zk
def xM (v:T) (L:ø):T:=.lst [v,.tup (L.map λ q=>.tup Ç2)]
theorem R4:∀ {a b:ţ},(a.map λ q=>T.tup Í2)=b.map (λ q=>T.tup Í2)->a=b
 | [],[],_=>rfl
 | [],_::_,h=>Î1
 | _::_,[],h=>Î1
 | (x,y)::a,(x',y')::b,h=>by
  simp![Az,ĥ,Ç3,T.str.injEq,É1] at h;rw[R4 h.2,h.1.1,h.1.2]
def W9 {c c':C}Å9:oP none c=oP none c':=by
 cases c with
 | obj a k fs=>
  cases c' with
  | obj a' k' fs'=>
   simp![vk,Ç3,ĥ,T.str.injEq,É1] at h;rw[oP,oP,h.1,R4 h.2]
  | _=>cases l'
 | _=>cases l
def aA Æ5{a:Ţ}{c:C}{o:O}:wQ S (oP a c) o↔wQ S c o:=by
 cases c <;> cases o <;> show Iff.rfl
def Qv Æ5{c c':C}{o:O}Å9 (r:wQ S c o):wQ S c' o:=by
 rw[<- aA (a:=none),<- W9 h l l',aA];show r
def az {c:C}(h:vp c=none):oP none c=c:=by
 cases c with
 | obj a k fs=>ext Î6;rfl
 | _=>rfl
def YE {a:Ţ}{c:C}(l:č):vp (oP a c)=a:=by
 cases c with
 | obj _ k fs=>rfl
 | _=>cases l
def Ih Î7:č:=by
 cases c with
 | obj a k fs=>rfl
 | _=>cases h
def Dw Î7:adr c p:=by
 cases c with
 | obj a k fs=>ext Î6;rfl
 | _=>cases h
def Dx {c c':C}{p:Addr}(h:adr c p):adr (oP (vp c) c') p:=by
 cases c' with
 | obj a' k' fs'=>
  cases c with
  | obj a k fs=>show Vf h
  | _=>show Ų
 | _=>show Ų
def Dy {c:C}{p q:Addr}(h:vp c=↑q) (h':adr c p):q=p:=by
 cases c with
 | obj a k fs=>ext Î6;show h'
 | _=>cases h
def LZ (Z:ğ) (L:ø):ğ:=λ a=>Z a\/∃ c,(a,c)∈L
def pZ:Rk:=λ S S' Z y d=>(∃ ts,y=.lst ts)->∃ v L,y=xM v L/\Sn (zK S' (LZ Z L)) v d/\∀ q∈L,wV q.2=true/\S q.1=none/\∃ o,S' q.1=↑o/\wQ (zK S' (LZ Z L)) q.2 o
instance:Cl pZ:=#[λ s h e=>by
 let#[v,L,h1,h2,h3]:=h e;show#[v,L,h1,h2,λ q hq=>#[(h3 q hq).1,s.none (h3 q hq).2.1,(h3 q hq).2.2]],λ n _ #[ts,e]=>Ũ e (n ts)]
instance:Lo pZ:=#[λ{S0 S S' Z0 Z y d} s z h e=>by
 let#[v,L,h1,h2,h3]:=h e;have le:∀ a,LZ Z0 L a->LZ Z L a:=Ã6;exact#[v,L,h1,Sn.sx (wM le) v h2,λ q hq=>?_];let#[g1,g2,o,g3,g4]:=h3 q hq;show#[g1,s.none g2,o,g3,wQ.sx (wM le) g4]]
def dU (Y:Ev) ĳ:Á (Addr×C):=match Y[i]? with
 | some ↑ ũ=>(vp c).map λ p=>(p,c)
 | _=>none
@[simp] def vx:É->Ev->Á (ø)
 | [],_=>↑[]
 | i::is,Y=>(dU Y i).bind λ q=>Â1 (q::·)
@[simp] def jg Ë4 Ì7:Sm:=fun Y=>ā λ y=>Ĕ
@[simp] def T3 Ë4:Á Out->Á T
 | some (.rt y)=>↑y
 | some (.nx Y)=>Â1 (xM .zk)
 | _=>none
@[simp] def w_ (N:À) È4 Ë4 (g:Sm):Ú:=λ ws=>if Ÿ=n then T3 is (g Ŝ) else none
section
variable {S0 S:SS}{Z0 Z:ğ}{δ:yz}{Ŕ}
theorem FR.dU Ŵ{q:Addr×C}(F:FR Ģ) (h:L5.dU Y i=↑q):Ř:=by
 unfold L5.dU at h;split at h
 .rename_i c hc;let#[p,hp,rfl]:=ŭ h;let#[p',o,h1,h2,h3,h4]:=F.er.ow i c hc;let#[f1,f2]:=F.fr i c p' hc h1;cases Dy hp f2;show#[Ih hp,f1,h4,o,h2,h3]
 .cases h
theorem FR.vx (F:FR Ģ):∀ ŕ{L:ø},L5.vx is Y=↑L->∀ q∈L,Ř
 | [],L,h,q,hq=>by cases h;cases hq
 | i::is,L,h,q,hq=>by
  let#[r,h1,h2]:=Ak.mp h;let#[L',h3,rfl]:=ŭ h2;rcases Ao.mp hq with rfl | hq
  .show F.dU h1
  .show FR.vx F h3 q hq
def FR.iz ŕ{L:ø}{v:T}{d:D}(F:FR Ģ) (h:L5.vx is Y=↑L) (hv:Sn Ļ v d):pZ S0 S Z0 (xM v L) d:=λ _=>by
 have f:=F.vx h;have le:∀ a,LZ Z0 L a->Z a:=λ a q=>q.elim (F.zz a) λ#[c,hc]=>(f _ hc).2.2.1;exact#[v,L,rfl,Sn.sx (wM le) v hv,λ q hq=>?_];let#[g1,g2,_,o,g3,g4]:=f q hq;show#[g1,g2,o,g3,wQ.sx (wM le) g4]
def sO Ŗ ŕ(hf:wY f te):zJ pZ (jg is f) (jG te):=λ S0 Z0 S Z δ Y o E F e P=>by
 ext Î8;ext Ň;show hf Ï y _ F.er e1 λ d S1 s1 r1=>Á2
end
structure DX (S:SS) (Z:ğ) (ws:List W) (ds:List D):Prop where
 er:Ń
 len:É0=Ÿ
 tg:∀ ĳ c p,Ì0->ds[i]?=↑ Æ0->vp c=↑p
 dj:∀ Ñ7 c c' p,i≠j->Ì0->ws[j]?=↑(Ĝ c')->ds[i]?=↑ Æ0->ds[j]?=↑ Æ0->False
def mD (ws:List W) (a:Addr):Prop:=∃ c,W.own c∈ws/\vp c=↑a
def xU (F:Ú):xE:=λ ds S Q=>∃ Z ws y,DX S Z ws ds/\F ws=↑y/\∀ d S',Sx (zK S (mD ws)) S'->pZ (zK S (mD ws)) S' Ã7 y d->Q d S'
def xU.mo Ì8:mQ (xU F):=λ _ _ _ _ hq #[Z,ws,y,h1,h2,h3]=>#[Z,ws,y,h1,h2,λ d S' s r=>hq ć (h3 d S' s r)]
theorem xU.len Ğ Ū:É0=n:=by
 ext À8
 .rename_i h;rw[r.len];show h
 .cases e
def WN Ğ{t:yw}(h:Ï9) Ū:t { nx:=λ _ S'=>Q .zk S',rt:=Q } (oK N ds) S:=by
 ext À8
 case isFalse=>cases e
 obtain⟨o,e1,e2⟩:∃ o,g Ŝ=↑o/\T3 is ↑o=↑y:=by
  cases q:g Ŝ with
  | none=>ext Ê3
  | some o=>show#[o,rfl,by rw[<- q];show e]
 have hA:∀ ĳ (c:C) (p:Addr),Ŝ[i]?=↑↑ ũ->(oK N ds)[i]?=↑↑ Æ0->Ì0/\ds[i]?=↑ Æ0:=λ i c p a b=>by
  have a':=YJ a;let#[p',o',k1,_]:=r.er.ow i c (Î0 a');have k2:=ao (N:=N) (jl k1);rw[b] at k2;cases k2;show#[a',jl k1]
 exact h (zK S (mD ws)) Ã7 S Z ć o _ #[r.er.start,?_,fE ć,λ a z=>?_,λ a z=>z.1,λ a z=>?_,λ i c p a b=>?_,λ i j c c' p n a a' b b'=>?_] e1 ?_
 .unfold oK nK;have:=r.len;simp[this]
 .rw[o7 z.2];show r.er.zd a z.1
 .by_cases q:mD ws a
  .show ť (cj q)
  .show Ī #[z,q]
 .let#[a',b']:=hA i c p a b;have tg:=r.tg i c p a' b';show#[cj #[c,A5 a',tg],Dw tg]
 .let#[a1,b1]:=hA i c p a b;let#[a2,b2]:=hA j c' p a' b';show r.dj i j c c' p n a1 a2 b1 b2
 .cases o with
  | rt y'=>cases e2;show λ d S' s r=>hq d S' s r
  | nx Y'=>
   ext Ň;show λ S' Z' δ' F=>hq .zk S' F.sx (F.iz e3 YQ)
  | _=>cases e2
abbrev Ag:=Nat ⊕ T
@[simp] def slots:ŏ->É
 | []=>[]
 | Ī j::r=>j::slots r
 | ť _::r=>slots r
@[simp] def oX (ad:Ð0) (Y:Ev):ŏ->Á (List W)
 | []=>↑[]
 | Ī j::r=>match Y[j]? with
  | some ↑ ũ=>if č then (oX ad Y r).map (Ĝ (oP ↑ ž c)::·) else none
  | _=>none
 | ť t::r=>(oX ad Y r).map (.im t::·)
@[simp] def gG (ad:Ð0):É->Ð1->ø
 | j::js,c::cs=>(ad j,c)::gG ad js cs
 | _,_=>[]
def Bc (F:Ú) (Y:Ev) (ys:ŏ) (r:T× Ð1):Prop:=(r.2.length=(ı).length/\∀ c∈r.2,É5)/\∀ ad,∃ ws,Í3/\F ws=↑(xM r.1 (gG ad (ı) r.2))
def mJ (F:Ú) (Y:Ev) (ys:ŏ):Á (T× Ð1):=open Classical in if h:∃ r,Ð2 then ↑h.choose else none
def Tw {v v':T}{L L':ø}(h:xM v L=xM v' L'):v=v'/\(L.map ë)=L'.map ë:=by
 simp![xM,T.lst.injEq,ĥ,Ç3,É1] at h;show h
def Tv {L L':ø}(h:(L.map ë)=L'.map ë) {q:Addr×C}(hq:q∈L'):∃ q'∈L,q'.1=q.1/\vk q'.2=vk q.2:=by
 have:=zbZ (f:=λ q:Addr×C=>T.tup Ç2) hq;rw[<- h] at this;let#[q',h1,h2]:=Ax.mp this;simp![Ç3,ĥ,T.int.injEq,É1] at h2;show#[q',h1,Int.ofNat.inj h2.1,h2.2]
theorem zip_inj {ad:Ð0}:∀ {js:É}{cs cs':Ð1},cs.length=js.length->cs'.length=js.length->(∀ c∈cs,É5)->(∀ c∈cs',É5)->
  ((gG ad js cs).map ë)=(gG ad js cs').map (ë)->cs=cs'
 | [],[],[],_,_,_,_,_=>rfl
 | [],_::_,_,h,_,_,_,_=>Î1
 | [],[],_::_,_,h,_,_,_=>Î1
 | _::_,[],_,h,_,_,_,_=>Î1
 | _::_,_::_,[],_,h,_,_,_=>Î1
 | j::js,c::cs,c'::cs',h,h',l,l',e=>by
  simp![gG,Az,ĥ,Ç3,T.int.injEq,É1,true_and] at e;have a:=W9 e.1 (l c Av).1 (l' c' Av).1;rw[az (l c Av).2,az (l' c' Av).2] at a;rw[a,zip_inj (Nat.succ.inj h) (Nat.succ.inj h') (λ x hx=>l x (Ay _ hx)) (λ x hx=>l' x (Ay _ hx)) e.2]
def QX Ì8 Ŕ Ñ8{r:T× Ð1}(h:Ð2):mJ F Y ys=↑r:=by
 have hx:∃ r,Ð2:=#[r,h];unfold mJ;rw[dif_pos hx];let#[#[h1,h2],h3]:=hx.choose_spec;let#[#[g1,g2],g3]:=h;let#[ws,w1,w2]:=h3 λ _=>0;let#[ws',w3,w4]:=g3 λ _=>0;rw[w1] at w3;cases w3;rw[w2] at w4;let#[e1,e2]:=Tw (BA w4);have e3:=zip_inj h1 g1 h2 g2 e2;show congrArg some (Prod.ext e1 e3)
def QW Ì8 Ŕ Ñ8{r:T× Ð1}(h:mJ F Y ys=↑r):Ð2:=by
 unfold mJ at h;split at h
 .rename_i hx;cases h;show hx.choose_spec
 .cases h
def mW (Y:Ev) Ë3:Ţ:=match Y[j]? with
 | some ↑ ũ=>vp c
 | _=>none
@[simp] def og:É->Ð1->Ev->Ev
 | j::js,c::cs,Y=>og js cs (Y.set j ↑(Ĝ (oP (mW Y j) c)))
 | _,_,Y=>Y
theorem Ub:∀ É3 Ŕ,(og js cs Y).length=Y.length
 | [],_,_=>#[]
 | _::_,[],_=>#[]
 | j::js,c::cs,Y=>by rw[og,Ub,zaT]
theorem bV:∀ É3 Ŕ Ä6{w:W},js.Nodup->(og js cs Y)[k]?=↑↑w->(∃ (c:C) (i:Nat),js[i]?=↑k/\cs[i]?=↑c/\w=Ĝ (oP (mW Y k) c))\/Y[k]?=↑↑w/\∀ i:Nat,js[i]?=↑k->cs.length<=i
 | [],_,Y,k,w,_,h=>ť #[by simpa using h,λ i e=>by simp at e]
 | _::_,[],Y,k,w,_,h=>ť #[by simpa using h,λ i e=>#[]]
 | j::js,c::cs,Y,k,w,nd,h=>by
  rw[og] at h;let#[nj,nd]:=BR.mp nd;rcases bV nd h with ⟨c',i,h1,h2,h3⟩ | ⟨h1,h2⟩
  .have kj:j≠k:=λ e=>nj (by rw[e];show A5 h1);exact Ī #[c',i+1,h1,h2,?_];rw[h3];unfold mW;rw[vz kj]
  .rcases xC h1 with ⟨rfl,hl,e⟩ | ⟨n,e⟩
   .cases e;show Ī #[c,0,rfl,rfl,rfl]
   .exact ť #[e,λ i q=>?_];cases i with
    | zero=>cases q;show Ũ rfl n
    | succ i=>show Nat.succ_le_succ (h2 i q)
def eM (S:SS) (Z:ğ) (δ:yz):ŏ->List D->Prop
 | [],ds=>ds=[]
 | Ī j::r,ds=>∃ d m,ds=d::m/\δ[j]?=↑↑d/\eM S Z δ r m
 | ť t::r,ds=>∃ d m,ds=d::m/\Sn Ļ t d/\eM S Z δ r m
section
variable {S0 S S':SS}{Z0 Z:ğ}{δ:yz}{Ŕ}{ad:Ð0}
theorem WZ:∀ Ñ8 Ã3 È3,Í3->eM S Z δ ys ds->É0=Ÿ/\∀ ĳ w,ws[i]?=↑w->∃ d,ds[i]?=↑d/\
  ((∃ t,w=.im t/\Sn Ļ t d)\/∃ j c,Â8/\Y[j]?=↑↑ ũ/\č/\w=Ĝ (oP ↑ ž c)/\δ[j]?=↑↑d)
 | [],ws,ds,h,r=>by
  cases h;have r:ds=[]:=r;subst r;show#[rfl,λ i w e=>nomatch e]
 | Ī j::ys,ws,ds,h,r=>by
  ext É4;split at h
  .rename_i c hc;split at h
   .rename_i hl;ext Ĥ;cases i with
    | zero=>cases e;show#[d,rfl,ť #[j,c,rfl,hc,hl,rfl,r1]]
    | succ i=>show g2 i w e
   .cases h
  .cases h
 | ť t::ys,ws,ds,h,r=>by
  ext É4;ext Ĥ;cases i with
  | zero=>cases e;show#[d,rfl,Ī #[t,rfl,r1]]
  | succ i=>show g2 i w e
theorem ſ:∀ Ñ8 Ò6,Â8->j∈ ı
 | Ī k::ys,i,j,h=>by
  cases i with
  | zero=>cases h;show Av
  | succ i=>show Ay _ (ſ (ys:=ys) h)
 | ť t::ys,i,j,h=>by
  cases i with
  | zero=>cases h
  | succ i=>show ſ (ys:=ys) h
theorem YS:∀ Ñ8{i i' j:Nat},(ı).Nodup->Â8->ys[i']?=↑(Ī j)->i=i'
 | Ī k::ys,i,i',j,nd,h,h'=>by
  let#[nk,nd]:=BR.mp nd;cases i with
  | zero=>
   cases h;cases i' with
   | zero=>rfl
   | succ i'=>show Ũ (ſ (ys:=ys) h') nk
  | succ i=>
   cases i' with
   | zero=>cases h';show Ũ (ſ (ys:=ys) h) nk
   | succ i'=>rw[YS nd h h']
 | ť t::ys,i,i',j,nd,h,h'=>by
  cases i with
  | zero=>cases h
  | succ i=>
   cases i' with
   | zero=>cases h'
   | succ i'=>rw[YS (ys:=ys) nd h h']
theorem YR:∀ Ñ8 Ã3{j:Nat},Í3->j∈ ı->∃ c,Y[j]?=↑↑ ũ/\č/\W.own (oP ↑ ž c)∈ws
 | Ī k::ys,ws,j,h,hj=>by
  unfold oX at h;split at h
  .rename_i c hc;split at h
   .rename_i hl;ext Å3;rcases Ao.mp hj with rfl | hj
    .show#[c,hc,hl,Av]
    .ext À3
   .cases h
  .cases h
 | ť t::ys,ws,j,h,hj=>by
  unfold oX at h;ext Å3;ext À3
theorem Yw:∀ É3 Ò6{c:C},js[i]?=↑j->cs[i]?=↑c->(ad j,c)∈gG ad js cs
 | k::js,c'::cs,i,j,c,h,h'=>by
  cases i with
  | zero=>cases h;cases h';show Av
  | succ i=>show Ay _ (Yw (js:=js) (cs:=cs) h h')
def WG Ì8 Ñ8 È3{r:T× Ð1}{Q:DK}(Fr:FR Ģ) (ar:eM S Z δ ys ds) (nd:(ı).Nodup) (h:mJ F Y ys=↑r)
  (hQ:∀ d S',Sx Ļ ħ->FR S0 Z0 S' Z δ (og (ı) r.2 Y)->Sn ħ r.1 d->Q d S'):xU F ds S Q:=by
 let#[#[hl,ht],hb]:=QW h;let#[ws,hw,hF]:=hb λ(j:Nat)=>match δ[j]? with
  | some ↑ Æ0=>p
  | _=>0
 generalize hA:(λ(j:Nat)=>match δ[j]? with
  | some ↑(D.ref p)=>p
  | _=>0)=ad at hw hF
 have ha:∀ Ë3 p,δ[j]?=↑↑ Æ0->ad j=p:=λ j p e=>by rw[<- hA];dsimp only;rw[e]
 let#[g1,g2]:=WZ hw ar;have st:∀ j∈ ı,∃ c o,Y[j]?=↑↑ ũ/\č/\δ[j]?=↑↑(ê ž)/\S ž=↑o/\Z ž/\S0 ž=none/\mD ws ž:=λ j hj=>by
  let#[c,a,b,m]:=YR hw hj;let#[p,o,h1,h2,h3,h4]:=Fr.er.ow j c a;cases ha j p h1;show#[c,o,a,b,h1,h2,h4,(Fr.fr j c _ a h1).1,_,m,YE b]
 have wo:∀ ĳ c,Ì0->∃ j c0,Â8/\Y[j]?=↑↑(Ĝ c0)/\c=oP ↑ ž c0/\ds[i]?=↑(ê ž)/\wV c0=true:=λ i c e=>by
  obtain⟨d,h1,⟨t,h2,_⟩ | ⟨j,c0,h2,h3,h4,h5,h6⟩⟩:=g2 i _ e
  .cases h2
  .let#[_,_,_,_,k,_]:=st j (ſ h2);rw[h6] at k;cases k;cases h5;show#[j,c0,h2,h3,rfl,h1,h4]
 have lA:∀ a,mD ws a->∃ j∈ ı,ad j=a:=λ a #[c,m,t]=>by
  let#[i,hi]:=zaJ.mp m;let#[j,c0,k1,k2,k3,_,k5]:=wo i c hi;rw[k3,YE k5] at t;cases t;show#[j,ſ k1,rfl]
 exact#[Z,ws,_,#[#[Fr.er.zd,λ i t e=>?_,λ i c e=>?_],g1,λ i c p e e'=>?_,λ i i' c c' p n e1 e2 e3 e4=>?_],hF,λ d S' s rk=>?_]
 .obtain⟨d,h1,⟨t',h2,h3⟩ | ⟨j,c,_,_,_,h5,_⟩⟩:=g2 i _ (jl e)
  .cases h2;show#[d,Î0 h1,h3]
  .cases h5
 .let#[j,c0,k1,k2,k3,k4,k5]:=wo i c (jl e);let#[p,o,h1,h2,h3,h4]:=Fr.er.ow j c0 k2;cases ha j p h1;subst k3;show#[_,o,Î0 k4,h2,aA.mpr h3,h4]
 .let#[j,c0,k1,k2,k3,k4,k5]:=wo i c e;rw[e'] at k4;cases k4;subst k3;show YE k5
 .let#[j,c0,k1,k2,k3,k4,k5]:=wo i c e1;let#[j',c0',k1',k2',k3',k4',k5']:=wo i' c' e2;rw[e3] at k4;rw[e4] at k4';have kk:ad j=ad j':=by
   simp![Option.some.injEq,D.ref.injEq] at k4 k4';rw[<- k4,<- k4']
  have nj:j≠j':=λ e=>n (YS nd k1 (e▸k1'));let#[_,_,_,_,d1,_]:=st j (ſ k1);let#[_,_,_,_,d2,_]:=st j' (ſ k1');rw[<- kk] at d2;show Fr.dj j j' c0 c0' _ nj k2 k2' d1 d2
 .let#[v,L,p1,p2,p3]:=rk #[_,rfl];let#[q1,q2]:=Tw p1.symm;subst q1;have zl:∀ a,Z a->LZ Ã7 L a:=λ a z=>by
   by_cases q:mD ws a
   .ext Å4;ext İ;let#[q',m1,m2,_]:=Tv q2 (Yw (ad:=ad) hi (c:=r.2[i]'(by rw[hl];show Au)) (by simp[hl,Au]));dsimp only at m2;show ť #[q'.2,by rw[<- m2];show m1]
   .show Ī #[z,q]
  have sx:Sx Ļ ħ:=λ a o q=>by
   let#[n,e]:=lj q;rw[o7 n];exact s a o ?_;rw[o7]
   .show e
   .intro q;ext Å4;let#[_,_,_,_,_,_,z,_]:=st j hj;show n z
  have keep:∀ a o,¬ mD ws a->S a=↑o->S' a=↑o:=λ a o n e=>s a o (by rw[o7 n];show e);have nw:∀ Ñ7 c,(ı)[i]?=↑j->r.2[i]?=↑c->∃ o,S' ž=↑o/\wQ ħ c o:=λ i j c hi hc=>by
   let#[q',m1,m2,m3]:=Tv q2 (Yw (ad:=ad) hi hc);let#[k1,k2,o,k3,k4]:=p3 q' m1;dsimp only at m2 m3;show#[o,by rw[<- m2];show k3,Qv m3 k1 (ht c (A5 hc)).1 (wQ.sx (wM zl) k4)]
  have old:∀ (k:Nat) c,Y[k]?=↑↑ ũ->∃ p o,δ[k]?=↑↑ Æ0/\S p=↑o/\wQ Ļ c o/\Z p:=λ k c e=>Fr.er.ow k c e;have was:∀ (k:Nat) c,(og (ı) r.2 Y)[k]?=↑↑ ũ->∃ c0,Y[k]?=↑↑(Ĝ c0)/\∀ p,δ[k]?=↑↑ Æ0->adr c0 p->adr c p:=λ k c e=>by
   rcases bV nd e with ⟨c1,i,h1,h2,h3⟩ | ⟨h1,_⟩
   .let#[c0,o,a1,a2,a3,_]:=st k (A5 h1);cases h3;exact#[c0,a1,λ p _ q=>?_];have:mW Y k=vp c0:=by unfold mW;rw[a1]
    rw[this];show Dx q
   .show#[c,h1,λ _ _ q=>q]
  exact hQ d S' sx #[#[λ a z=>?_,λ k t e=>?_,λ k c e=>?_],by rw[Ub];show Fr.len,λ b o e=>?_,Fr.z0,Fr.zz,Fr.zn,λ k c p e e'=>?_,λ k k' c c' p n e1 e2 e3 e4=>?_] (Sn.sx (wM zl) _ p2)
  .by_cases q:mD ws a
   .ext Å4;ext İ;let#[o,k1,_]:=nw i j (r.2[i]'(by rw[hl];show Au)) hi (by simp[hl,Au]);rw[k1];nofun
   .cases w:S a with
    | none=>show Ũ w (Fr.er.zd a z)
    | some o=>rw[keep a o q w];nofun
  .rcases bV nd e with ⟨c1,i,_,_,h3⟩ | ⟨h1,_⟩
   .cases h3
   .let#[d,a,b]:=Fr.er.im k t h1;show#[d,a,Sn.sx sx t b]
  .rcases bV nd e with ⟨c1,i,h1,h2,h3⟩ | ⟨h1,h2⟩
   .let#[c0,o,a1,a2,a3,a4,a5,_]:=st k (A5 h1);let#[o',b1,b2]:=nw i k c1 h1 h2;cases h3;show#[_,o',a3,b1,aA.mpr b2,a5]
   .let#[p,o,a1,a2,a3,a4]:=Fr.er.ow k c h1;exact#[p,o,a1,keep p o (λ q=>?_) a2,wQ.sx sx a3,a4];let#[j,hj,rfl]:=lA p q;let#[c0,o',b1,b2,b3,_]:=st j hj;ext İ;by_cases kj:k=j
    .subst kj;show Ũ (h2 i hi) (by rw[hl];show Nat.not_le.mpr Au)
    .show Fr.dj k j c c0 _ kj h1 b1 a1 b3
  .exact keep b o (λ q=>?_) (Fr.sx b o e);let#[j,hj,rfl]:=lA b q;let#[_,_,_,_,_,_,_,z,_]:=st j hj;rw[z] at e;cases e
  .let#[c0,k1,k2]:=was k c e;let#[f1,f2]:=Fr.fr k c0 p k1 e';show#[f1,k2 p e' f2]
  .let#[c0,k1,_]:=was k c e1;let#[c0',k1',_]:=was k' c' e2;show Fr.dj k k' c0 c0' p n k1 k1' e3 e4
end
theorem ix:∀ (xs:Æ1),slots (Ď)=[]
 | []=>rfl
 | _::xs=>ix xs
theorem WY Æ5{Z:ğ}{δ:yz}:∀ {xs:Æ1}È3,zq Ļ xs ds->eM S Z δ (Ď) ds
 | [],ds,h=>by simp![zq] at h;show h
 | x::xs,ds,h=>by
  simp![zq] at h;let#[c,m,rfl,h1,h2]:=h;show#[c,m,rfl,h1,WY h2]
@[simp] def aV ò Ë3 Â7 (k:T->Ev->Ev):Sm:=fun Y=>match Y[j]? with
 | Á1=>if Ë8/\ŷ then đ λ xs=>(Ê5).map λ r=>.nx (k r.1 (og [j] r.2 Y)) else none
 | _=>none
section
variable {ł}{Ë6}{Ì8}{g:Î}{u:ya}
def JQ {j:Nat}{kk:T->Ev->Ev}(h:oE g u) {S0 S:SS}{Z0 Z:ğ}{δ:yz}Ŕ{o:Out}{Q:DK}(Fr:FR Ģ) (e:aV ļ j F g kk Y=↑o)
  (hQ:∀ y Y',o=.nx (kk y Y')->Ŧ):nA Á8 δ S Q:=by
 unfold aV at e;split at e
 .rename_i a c fs hj;split at e
  .rename_i hc;ext Ì9;let#[r,e3,rfl]:=ŭ e2;let#[p,b,h1,h2,h3]:=dA Fr.er hj;ext Ů;exact#[p,c,b,rfl,h2,hc.1,h3.Wh hc.2,h Ï xs _ Fr.er e1 λ ds S1 s1 r1=>?_];have sl:slots (Ī j::Ď)=[j]:=by rw[slots,ix]
   exact WG (ys:=Ī j::Ď) (Fr.grow s1) #[ê p,ds,rfl,h1,WY r1] (by rw[sl];simp) e3 λ d S' sx F' rr=>?_;rw[sl] at F';show hQ ć rfl d S' ((vy s1).trans sx) F' rr
  .cases e
 .cases e
end
def Vm Ì7 (t:yw):Prop:=∀ S Z δ Y y Q,ER Ï->f Y=↑y->(È6)->t { nx:=λ _ S'=>Q .zk S',rt:=Q } δ S
def rn Ŗ(h:wY f te):Vm f (jG te):=λ S Z δ Y y Q hE e hq=>h Ï y _ hE e hq
section
variable {Ò}{base h:Heap}{c m qual:Str}{ł}{st:Stmt}
def Ck (K:Ac) (m:Str) (f:Addr) (c:Str):Prop:=ĺ
def Ck.i {C f:Addr}ĕ (b:Æ2 K (ê C) m=↑↑(ê f)) Û Ë5 (m3:Î2):Ck K m f c:=#[C,a,#[c1,c2,c3,c4],b,m2,m3]
def Fm (K:Ac) Ë2 (m qual:Str) Ñ9:Prop:=∃ (f:Addr) (fd:Å1),pM K m ī f fd/\∀ c∈cs,Ck K m f c
def Fm.i1 {f:Addr}é(k:Ck K m f c) ï:Fm K [c] m ī:=#[f,_,fK l cd k2,λ x hx=>by cases AJ.mp hx;show k]
def Fc (K:Ac) (c qual:Str) Ñ9:Prop:=∃ (C f:Addr) (fd:Å1),pM K "__init__" ī f fd/\kr K c C/\Mk K C f
def Fc.i {C f:Addr}é ĕ (b:Æ2 K (ê C) "__init__"=↑↑(ê f)) (l:K.lookup f=↑#[oc,od,.func (Ì1 "__init__" qual Ý ct),osl])
  Ľ (m1:PySem.W.makesIn K C=true) Ë5 (m3:PySem.W.keepIn K (ê C)=true):Fc K c ī:=#[C,f,_,fK l cd k2,a,m1,b,m2,m3]
def Kl.i {fl:À}{C:Addr}ĕ Û (n:fl.all (λ f=>Æ2 K (ê C) f == ↑none)=true):Kl K c fl:=#[C,a,#[c1,c2,c3,c4],λ f hf=>beq_iff_eq.mp (zE4.mp n f hf)]
abbrev Ys Ñ9 (m qual:Str) (ps:À):Prop:=∀ À9,Ç4->bindArgs (Ì1 m qual Ý ct) #[us,[]]=pure (ps.zip us)
variable {N ps:À}{k n:Nat}
def GW {f':Ae}Æ6 ÿ (hb:Ys st m qual ps)
  (Ð3:∀ (f:Addr) Æ,Á3->
   ∃ t,xw É6 ū/\Vm f' t):Í4:=by
 let#[f,fd,F,hc]:=F;exact#[#[f,fd,Wd F Sc (λ ds S Q h=>?_) λ Af A outer s H E hr=>?_,F.binds hb,hc],k7.mo]
 .let#[Z,ws,y,h1,h2,_]:=h;rw[h2,hn]
 .let#[t,h1,h2]:=Ð3 f ģ hr;exact#[t,h1,λ ds S Q h=>?_];let#[Z,ws,y,r1,r2,r3,r4]:=h;show h2 S Z ć y Q r1.start r3 r4
end
def Ea:Stmt->List Stmt
 | .ClassDef ć _ b ć ć ć _=>b
 | _=>[]
end L5
namespace L5
open Ï1 L2 L3
theorem Yz (ad:Ð0) (Y:Ev):∀ xs:Æ1,oX ad Y (Ď)=↑(xs.map .im)
 | []=>rfl
 | x::xs=>by rw[Az,oX,Yz ad Y xs];rfl
def ZF Ì8 Ŕ{j:Nat}{t:Ţ}{c c':Str}{fs fs':ţ}{xs:Æ1}{v:T}(h0:Y[j]?=↑↑(Ĝ (į t c fs))) (h:∀ a,F (Ĝ (į ↑a c fs)::xs.map .im)=↑(xM v [(a,į none c' fs')])):
  Ê5=↑(v,[į none c' fs']):=by
 exact QX #[#[by rw[slots,ix];rfl,λ x hx=>by cases AJ.mp hx;show Ì2],λ ad=>#[Ĝ (į ↑ ž c fs)::xs.map .im,?_,?_]]
 .rw[oX,h0];change (if wV (į t c fs)=true then _ else none)=_;rw[Ā (show wV (į t c fs)=true from rfl),Yz];rfl
 .rw[h ž,slots,ix];rfl
section
variable {ł}{Ŵ}{É2}{g h:Ae}{Ŕ}{a:Ţ}{c:Str}{fs fs':ţ}{x y:T}
def dk Ŋ (hl:Ž) (hg:g Y=↑y) (hp:ot f y fs=fs'):iB cs i f g Y=↑(.nx (Y.set i ↑(Ĝ (į a c fs')))):=by
 change đ _=_;rw[hg];dsimp only[Option.bind];ext Ò0;rw[Ā #[hc,hl],hp]
def j8 Ŋ (hl:ą f=↑y):wW cs i f Y=↑y:=by
 unfold wW;ext Ò0;rw[Ā hc,hl]
def F5 (h:g Y=↑y):Zx g Y=↑(.nx Y):=Ç5
def zA {F:Al}Ò1(h:u Y=↑xs) (hF:F xs=↑y):zu F u Y=↑y:=by change (u Y).bind _=_;rw[h];show hF
def zm Ò1(h:g Y=↑x) (hu:u Y=↑xs):za g u Y=↑(x::xs):=by change đ _=_;rw[h];change (u Y).bind _=_;rw[hu];rfl
theorem xJ Ò1(hu:u Y=↑xs) (hl:xs.length<=100):tupS u Y=↑(.tup xs):=by change (u Y).bind _=_;rw[hu];show Ā (BH hl ())
def zt Ò2:zE g Y=↑b:=Î3
theorem kN {ts:Æ1}(h0:Y[i]?=↑↑(Ĝ (.lst ts))) (h:g Y=↑y) (hl:ts.length<=10000):oV i g Y=↑(.nx (Y.set i ↑(Ĝ (.lst (ts++[y]))))):=by
 unfold oV;ext Ò0;rw[h];show Ā (zc5 hl ())
def eY Ğ Ã3{Y':Ev}{L:ø}(h:g Ŝ=↑(.nx Y')) (hL:vx is Y'=↑L) (hn:Ÿ=n):w_ N n is g ws=↑(xM .zk L):=by unfold w_;rw[Ā hn,h];change (vx is Y').map _=_;rw[hL];rfl
def om Ğ Ã3{y:T}(h:g Ŝ=↑(.rt y)) (hn:Ÿ=n):w_ N n is g ws=↑y:=by unfold w_;rw[Ā hn,h];rfl
def YZ ŕ{f:Ae}Ŕ{y:T}{L:ø}(h:f Y=↑y) (hL:vx is Y=↑L):jg is f Y=↑(.rt (xM y L)):=by ext Á9;change Â1 _=_;rw[hL];rfl
def zo {a b:Sm}{Y Y':Ev}{o:Á Out}(h:a Y=↑(.nx Y')) (h':b Y'=o):zp a b Y=o:=by change (a Y).bind _=o;rw[h];show h'
def yQ {a b:Sm}Ŕ{y:T}(h:a Y=↑(.rt y)):zp a b Y=↑(.rt y):=by change (a Y).bind _=_;rw[h];rfl
def zT {c:ņ}{g h:Sm}Ŕ{o:Á Out}(e:c Y=↑ è) (e':h Y=o):zQ c g h Y=o:=Ã8
def yy {c:ņ}{g h:Sm}Ŕ{o:Á Out}(e:c Y=↑true) (e':g Y=o):zQ c g h Y=o:=Ã8
def pj ŕ{f:Î}{g:Ì3}{b:Sm}Ŕ{ts:Æ1}{o:Á Out}(h:f Y=↑ts) (h':vw is g b ts Y=o):vG is f g b Y=o:=by change ā _=o;rw[h];show h'
def zO Ŵ{f:Ae}Ŕ{y:T}(h:f Y=↑y):zI i f Y=↑(.nx (Y.set i ↑(.im y))):=È0
def NH {f:Ae}{g:Ì3}{Y Y':Ev}{y:T}(h:f Y=↑y) (h':g y Y=↑Y'):YD f g Y=↑(.nx Y'):=by ext Á9;change (g y Y).map _=_;rw[h'];rfl
def zN {N:À}{n:Nat}{g:Sm}{ys:Æ1}{y:T}(h:g (jb N ys)=↑(.rt y)) (hn:ys.length=n):yd N n g ys=↑y:=by unfold yd;rw[Ā hn,h];rfl
abbrev im (t:T):Á W:=↑(.im t)
abbrev nT È4:T:=.int (n:Int)
def yN (h:g Y=↑y):retS g Y=↑(.rt y):=Ç5
def xq Ò2:xr g Y=↑b:=Î3
def wa {f:ņ}{b:Bool}(h:f Y=↑b):w9 f Y=↑(!b):=È0
def xY {f g:ņ}{b:Bool}(h:f Y=↑ è) (h':g Y=↑b):xN f g Y=↑b:=by ext Á9;show h'
def kg {f g:ņ}{b:Bool}(h:f Y=↑true) (h':g Y=↑b):nv f g Y=↑b:=by ext Á9;show h'
def fR {f g:ņ}(h:f Y=↑ è):nv f g Y=↑ è:=by ext Á9;rfl
def gW Ë6{N:À}{k:Ae}Ŋ (hl:ŷ) (h:k (nK N [æ])=↑y):pQ ļ N k i Y=↑y:=by
 unfold pQ;ext Ò0;rw[Ā #[hc,hl],h]
end
end L5
namespace L5
open Ï1 Đ L2 L3
open ö hiding St
abbrev Xm:=Ev->Á (T×Ev)
abbrev Xt:=Ev->Á (Bool×Ev)
def ZO (f:Xm) (t:zy):Prop:=∀ S0 Z0 S Z δ Y y Y' Q,FR Ģ->f Y=↑(y,Y')->(Ŧ)->t δ S Q
def ZN (f:Xt) (t:xn):Prop:=∀ S0 Z0 S Z δ Y b Y' Q,FR Ģ->f Y=↑(b,Y')->(∀ S',Ç6->Q b S')->t δ S Q
@[simp] def YB (f:Xm):Xt:=fun Y=>ā λ r=>match r.1 with
 | .bl b=>↑(b,r.2)
 | _=>none
@[simp] def notM (f:Xt):Xt:=fun Y=>(f Y).map λ r=>(!r.1,r.2)
@[simp] def fh ò Ë3 Â7:Xm:=fun Y=>match Y[j]? with
 | Á1=>if Ë8/\ŷ then đ λ xs=>(Ê5).map λ r=>(r.1,og [j] r.2 Y) else none
 | _=>none
abbrev Ga:=Ev->Á (ŏ)
def f_ (g:Ga) (u:ya):Prop:=∀ S Z δ Y ys Q,ER Ï->g Y=↑ys->(∀ ds S',Sx S S'->eM S' Z δ ys ds->Q ds S')->u δ S Q
@[simp] def aK:Ga:=λ _=>↑[]
@[simp] def kx Ì7 (g:Ga):Ga:=fun Y=>ā λ x=>(g Y).map (ť x::·)
@[simp] def dS Ë3 (g:Ga):Ga:=fun Y=>match Y[j]? with
 | some ↑(Ĝ _)=>(g Y).map (Ī j::·)
 | _=>none
@[simp] def jL (F:Ú) (g:Ga):Xm:=fun Y=>đ λ ys=>if (ı).Nodup then (mJ F Y ys).map λ r=>(r.1,og (ı) r.2 Y) else none
section
variable {R:Rk}{f:Ae}{t u:zy}{e:Xm}{Ì8}{ł}{Ë6}{j:Nat}
def rX:f_ aK ly:=λ S Z δ Y ys Q hE e hq=>by cases e;show hq [] S (.refl S) rfl
def rW {g:Ga}{u:ya}(h:wY f t) (h':f_ g u):f_ (kx f g) (ma t u):=λ S Z δ Y ys Q hE e hq=>by
 let#[x,e1,e2]:=ę;let#[xs,e3,rfl]:=ŭ e2;show h Ï x _ hE e1 λ d S1 s1 r1=>h' S1 Z δ Y xs _ (hE.grow s1) e3 λ ds S2 s2 r2=>hq _ S2 Â2 #[d,ds,rfl,Sn.sx (vy s2) x r1,r2]
def rY {g:Ga}{u:ya}(h':f_ g u):f_ (dS j g) (ma (yq j) u):=λ S Z δ Y ys Q hE e hq=>by
 unfold dS at e;split at e
 .rename_i c hc;let#[xs,e3,rfl]:=ŭ e;let#[p,o,h1,_]:=hE.ow j c hc;ext Ů;show h' Ï xs _ hE e3 λ ds S2 s2 r2=>hq _ S2 s2 #[_,ds,rfl,h1,r2]
 .cases e
def vt ľ:ZO (fh ļ j F g) (nA Á8):=λ S0 Z0 S Z δ Y y Y' Q Fr e hq=>by
 have:aV ļ j F g (λ y Y=>Y++[↑(.im y)]) Y=↑(.nx (Y'++[↑(.im y)])):=by
  unfold fh at e;unfold aV;split at e
  .rename_i h0;split at e
   .rename_i hc
    try rw[h0]
    dsimp only;rw[Ā hc];ext Ì9;let#[r,e3,e4]:=ŭ e2;cases e4;rw[e1,AI,e3];rfl
   .cases e
  .cases e
 exact JQ h Fr this λ y' Y'' q d S' sx F' r=>?_;have:=Out.nx.inj q;let#[a,b]:=List.append_inj' this rfl;cases b;subst a;show hq d S' sx F' r
def r0 {g:Ga}{u:ya}(h:f_ g u):ZO (jL F g) (ba (xU F) u):=λ S0 Z0 S Z δ Y y Y' Q Fr e hq=>by
 let#[ys,e1,e2]:=ę;split at e2
 .rename_i nd;let#[r,e3,e4]:=ŭ e2;cases e4;exact h Ï ys _ Fr.er e1 λ ds S1 s1 r1=>?_;show WG (Fr.grow s1) r1 nd e3 λ d S' sx F' rr=>hq d S' ((vy s1).trans sx) F' rr
 .cases e2
def rp (h:ZO e t):ZN (YB e) (Ww t):=λ S0 Z0 S Z δ Y b Y' Q Fr e hq=>by
 let#[x,e1,e2]:=ę;let#[x,Y1]:=x;exact h Ģ x Y1 _ Fr e1 λ d S1 s1 F1 r1=>?_;ext Í0;split at e2
 .cases e2;simp![Sn] at r1;subst r1;show hq S1 F1
 .cases e2
def rq {f:Xt}{t:xn}(h:ZN f t):ZN (notM f) (fN t):=λ S0 Z0 S Z δ Y b Y' Q Fr e hq=>by
 let#[#[x,Y1],e1,e2]:=ŭ e;cases e2;show h Ģ x Y1 _ Fr e1 λ S1 F1=>hq S1 F1
@[simp] def XQ (c:Xt) (g h:Sm):Sm:=fun Y=>(c Y).bind λ r=>if r.1=true then g r.2 else h r.2
def sU {c:Xt}{tc:xn}{g h:Sm}{t u:yw}(hc:ZN c tc) (hg:zJ R g t) (hh:zJ R h u):zJ R (XQ c g h) (cY tc t u):=λ S0 Z0 S Z δ Y o E F e P=>by
 let#[#[b,Y1],e1,e2]:=ę;exact hc Ģ b Y1 _ F e1 λ S1 F1=>?_;ext Í0;split at e2
 .rename_i hb;rw[Ā hb];show hg Ä7 Y1 o E F1 e2 P
 .rename_i hb;rw[Ż hb];show hh Ä7 Y1 o E F1 e2 P
end
section
variable {Ò}{Ê4}{Þ}{ŕ}
def GV (F:Fy K mg x st) ÿ (hb:Ys st x x ps)
  (Ð3:∀ (f:Addr) Æ,Ġ->
   ∃ t,xw (Ë).vb ū/\Ï9):FD Ä x ñ:=by
 let#[f,fd,F,hm]:=F;exact#[#[f,fd,Wd ô,hm,F.kp,F.binds hb],xU.mo];ext ç
end
end L5
namespace L3
open Ï1 Đ L2
open ö hiding St
structure xX ì ò Â6:Prop where
 ex:∃ (f:Addr) (fd:Å1),È7/\Ë9
 mo:mQ sp
section
variable {Ì5}{ď}{Ä5}{pl:Sem Bool}
 {gV:Am}{s:Shared}{σ:St}{H:Hp}{Q:Addr->Hp->Prop}{W:Aj}{R:DK}{RV:VK}{δ:yz}{Æ5}
def UL {f:Addr}{fd:Å1}{sp:Sp}{us:Ai}{vs:List V}Å5 É9 (hb:Binds X.K fd ps []) (hW:∀ v s',XP X gV fl σ Q v s'->W v s') È5 (r:Vals vs us)
  (q:sp vs H RV ĝ):wpAny Ĭ (call (ê f) us) Ë7:=by
 have hl:Ç4:=by rw[<- r.length];show F.len ć ć q
 have BP:=hb s us I.yB (by rw[zaD];show hl);rw[zaD] at BP;exact zcM (codeAny_mono (F.run X.A X.stack s H #[us,[]] us vs RV _ hr I.cH BP r q) λ r s' hq=>?_);cases r with
 | error v=>
  let#[a,H',rfl,os,bare,un,zv,ie,f1,a',ea,z]:=hq;cases ea;show hW ć #[a,gV,σ,H',rfl,λ _=>Ì2,I.ZA Æ7,ie,ť f1,z]
 | ok fl=>
  cases fl with
  | ret u=>show I.after hq
  | _=>show False.elim hq
def VS ŧ É9 Ą
  ş ß
  (ht:eval Ç î=(do
   let ov <- È9
   ė
   let (f,first) <- â
   Ø))
  ĭ (z:nA Ä3 tA δ S R) Ä8:
  wpAny Ĭ (eval Ç î) Ë7:=by
 ext Ō;exact Ã5 (pl:=pl) (za6 (ho.pe gV s σ H (λ x H1=>∃ a C dx fs,x=ê a/\H1 a=↑ ż/\oW X.K C/\Meth X.K C m f/\ŷ/\vo X.K tA σ H1 λ vs H2=>il X.K sp (ê a::vs) H2 RV ĝ) I Č) (ä) ě) ht
 .ext ĩ;ext Ì;exact#[p,C,dx,vs,rfl,j2,j5,j6,j3.none g4,δ,S1,r1.ext e1,p1,ha.mo δ S1 ć (λ ds S2 z xs H2 a1 a2 a3=>#[ê p::ds,S2,Ï3 (Ħ) a1,a3,hm _ S2 ć (λ d S' q=>?_) z]) g5];have q':=ny.ext (e1.trans a2) (hR d S' q);show Ő
 .ext ú;exact PySem.W.callWith_K (first:=Ï7) (h₀:=X.base) I.ok.mod.jv me.kp (za6 (ha.pa Ad gV s1 σ H1 _ I1 q) (λ us s2 #[vs,H2,I2,r,q2]=>#[I2.yB,?_]) ě) AB An;show UL (us:=ê a::us) (vs:=ê a::vs) h1 hr h2 hW.xp I2 (Ï3 rfl r) q2
def Nk ŧ É9 À2 ß
  (ht:eval Â3 î=(do
   let ov <- È9
   ė
   let (f,first) <- â
   ġ))
  ĭ (z:nA Ä3 ly δ S R) Ä8:
  wpAny Ĭ (eval Â3 î) Ë7:=by
 ext Ō;exact Ã5 (pl:=pl) (za6 (ho.pe gV s σ H (λ x H1=>∃ a C dx fs,x=ê a/\H1 a=↑ ż/\oW X.K C/\Meth X.K C m f/\ŷ/\il X.K sp Ï7 H1 RV ĝ) I Č) (ä) ě) ht
 .ext ĩ;ext Ì;exact#[p,C,dx,vs,rfl,j2,j5,j6,j3.none g4,[ê p],S1,Ï3 (Ħ) .nil,p1,hm _ S1 ć (λ d S' q=>?_) g5];have q':=ny.ext e1 (hR d S' q);show Ő
 .ext ú;show PySem.W.callWith_K0 (first:=Ï7) I1.yB me.kp (UL (us:=Ï7) (vs:=Ï7) h1 hr h2 hW.xp I1 (Ï3 rfl .nil) q)
def Qi ò Ã2:yw:=λ E δ S=>nA Ä3 tA δ S λ d S2=>ő/\(vi d=è->E.nx δ S2)
variable {ŧ}
include F
theorem vU {k':Nat}À1 Ą Ë0
  ş ß
  (ht:eval Ç î=(do
   let ov <- È9
   ė
   let (f,first) <- â
   Ø))
  (hs:Ŷ Ç none pos.line î=Ï4):
  xH X fl (.Expr Ç pos) (Qi Ä3 tA):=by
 exact Ź;exact wpAny_Expr_any (zM (VS (RV:=λ _ H'=>D.nx σ H') F ű ho ha AB An hn ht hW I Ñ6 λ d S' q=>#[λ y v H' a1 a2 a3=>q.2 y σ H' (r1.ext a2) a2 a3,Í5]) λ v s1 #[x,H1,I1,_,q1]=>#[σ,H1,I1,q1]) I.quiet hs
end
end L3
namespace L5
open Ï1 Đ L2 L3
open ö hiding St
@[simp] def UA Ë4 (c:Str):Sm:=fun Y=>Â1 λ L=>.rt (xM (.err c "" .zk) L)
@[simp] def dh Ë4 Ì7:Sm:=fun Y=>ā λ y=>if Ð4 then none else Ĕ
@[simp] def nN Ë4 ò Ë3 Â7:Sm:=fun Y=>(fh ļ j F g Y).bind λ r=>if yx r.1=true then (vx is r.2).map λ L=>.rt (xM r.1 L) else ↑(.nx r.2)
abbrev Xf:=Ev->Á (Á T×Ev)
@[simp] def nS (c:ņ) (g h:Xf):Xf:=fun Y=>(c Y).bind λ b=>if b=true then g Y else h Y
@[simp] def iq Ñ7 (g:Xf):Sm:=fun Y=>đ λ r=>match r.1 with
 | none=>↑(.nx r.2)
 | some y=>if Ð4 then ↑(.nx (((r.2.set i none).set j ↑(.im y)).set i none)) else none
section
variable {Ŗ}{Ì8}{ł}{m c:Str}{ŕ}{j:Nat}
def sI:zJ pZ (UA is c) (cU c "" (dC .zk)):=λ S0 Z0 S Z δ Y o E F e P=>by
 let#[L,e3,rfl]:=ŭ e;show P _ S F.sx (F.iz e3 (by simp![Sn];show#[.zk,rfl,rfl]))
def sN (hf:wY f te):zJ pZ (dh is f) (W5 te):=λ S0 Z0 S Z δ Y o E F e P=>by
 ext Î8;split at e2
 .cases e2
 .rename_i hy;ext Ň;show hf Ï y _ F.er e1 λ d S1 s1 r1=>#[by rw[pC (show Sn (zK S1 Z) y d from r1)];simpa using hy,Á2]
def sS ľ:zJ pZ (nN is ļ j F g) (Qi Á8):=λ S0 Z0 S Z δ Y o E Fr e P=>by
 let#[#[y,Y1],e1,e2]:=ę;exact Ã9
 .rw[pC r] at he;ext Í0;rw[Ā he] at e2;ext Ň;show P d S' F'.sx (F'.iz e3 r)
 .rw[pC r] at he;ext Í0;rw[ĉ] at e2;cases e2;show P S' Z δ F'
end
section
variable {Ò}{base:Heap}{m qual:Str}{ł}{Þ}{ŕ}
def GX Æ6 ÿ (hb:Ys st m qual ps)
  á:xX Ä ļ ñ:=by
 let#[f,fd,F,hc]:=F;exact#[#[f,fd,fnX ô,F.binds hb,hc],xU.mo];ext ç
def Fm.i2 {c d:Str}{f:Addr}é(k:Ck K m f c) (k':Ck K m f d) ï:Fm K [c,d] m ī:=#[f,_,fK l cd k2,λ x hx=>by
 rcases Ao.mp hx with rfl | hx
 .show k
 .cases AJ.mp hx;show k']
end
end L5
namespace L3
open Ï1 Đ L2
open ö hiding St
section
variable {Ì5}{ď}{Ä5}{pl:Sem Bool}
def W7 ĳ ò Ã2:yw:=λ E δ S=>nA Ä3 tA δ S λ d S2=>ő/\(vi d=è->E.nx (δ.set i ↑d) S2)
variable {ŧ}
include F
theorem vW ù Ą Õ Ë0
  ş ß
  (ht:eval Ç î=(do
   let ov <- È9
   ė
   let (f,first) <- â
   Ø))
  (hs:Ŷ Ç Ã1=Ï4):
  xH X fl (Ï5 [Ĺ y py] Ç pos) (W7 i Ä3 tA):=by
 exact Ź;exact zcX (zM (VS (RV:=Ś) F ű ho ha AB An Ă) ń) hs;show Ċ
theorem vV ù À2 Õ Ë0 ß
  (ht:eval Â3 î=(do
   let ov <- È9
   ė
   let (f,first) <- â
   ġ))
  (hs:Ŷ Â3 Ã1=Ï4):
  xH X fl (Ï5 [Ĺ y py] Â3 pos) (W7 i Ä3 ly):=by
 exact#[λ E E' δ S hE z=>nA.mo (tA:=ly) ho.mo F.mo (λ _ _ _ _ hq z=>hq ć z) í,Ê];exact zcX (zM (Nk (RV:=Ś) F ű ho Ă) ń) hs;show Ċ
end
end L3
namespace L5
open Ï1 Đ L2 L3
open ö hiding St
def fZ (g:Xf) (t:yw):Prop:=∀ S0 Z0 S Z δ Y o Y' E,FR Ģ->g Y=↑(o,Y')->(o=none->∀ S' Z' δ',FR S0 Z0 S' Z' δ' Y'->E.nx δ' S')->(∀ y,o=↑y->Ð4->∀ d S',Ç6->Sn ħ y d->E.rt d S')->t E δ S
@[simp] def nM ò Ñ7 Â7:Xf:=fun Y=>(fh ļ j F g Y).map λ r=>if yx r.1=true then (↑r.1,r.2) else (none,r.2.set i ↑(.im r.1))
section
variable {R:Rk}{Ì8}{ł}{Ë6}{Ò6}
def rL ľ:fZ (nM ļ i j F g) (W7 i Á8):=λ S0 Z0 S Z δ Y o Y' E Fr e h1 h2=>by
 let#[#[y,Y1],e1,e2]:=ŭ e;ext Í0;exact Ã9
 .rw[pC r] at he;rw[Ā he] at e2;cases e2;show h2 y rfl he d S' F' r
 .rw[pC r] at he;rw[ĉ] at e2;cases e2;show h1 rfl S' Z _ (F'.mX i r)
def rN {c:ņ}{tc:xn}{g h:Xf}{t u:yw}(hc:oB c tc) (hg:fZ g t) (hh:fZ h u):fZ (nS c g h) (cY tc t u):=λ S0 Z0 S Z δ Y o Y' E F e h1 h2=>by
 let#[b,e1,e2]:=ę;exact hc Ï b _ F.er e1 λ S1 s1=>?_;split at e2
 .rename_i hb;rw[Ā hb];show hg Í6
 .rename_i hb;rw[Ż hb];show hh Í6
def sC {g:Xf}{t:yw}(hg:fZ g t):zJ R (iq i j g) (W4 i j t):=λ S0 Z0 S Z δ Y o E F e P=>by
 let#[#[o1,Y1],e1,e2]:=ę;exact hg Ģ o1 Y1 _ F e1 (λ h S' Z' δ' F'=>?_) λ y h he d S' F' r=>?_
 .subst h;cases e2;show P S' Z' δ' F'
 .subst h;ext Í0;rw[Ā he] at e2;cases e2;show#[by rw[pC r];show he,P S' Z _ (((F'.hole i ↑d).mX j r).hole i none)]
end
end L5
namespace L3
open Ï1 Đ L2
open ö hiding St
section
variable {Ì5}{Ä6}{f C:Addr}{fd:Å1}{ps:À}{sp:Sp}{ds:Ai}{dvs:List V}{fl:Bool}{W:Aj}{Qx:Addr->Hp->Prop}
def MC {gV:Am}{σ:St}{H:Hp}{s:Shared}{Q:VK}{us:Ai}{vs:List V}(M:Mk X.K C f) Å5 (hr:yg (k+1) X.A) (hb:Binds X.K fd ps ds) (hd:Vals dvs ds) (hW:∀ v s',XP X gV fl σ Qx v s'->W v s') È5 (r:Vals vs us)
  (h:∀ x dx,H x=none->H dx=none->dx≠x->sp (ê x::(vs++dvs)) (upd (upd H dx (Ĝ x)) x (.ins C dx [])) (λ v H2=>v=.zk/\Q (ê x) H2) λ v _ H'=>∃ a,v=ê a/\Qx a H'):
  wpAny Ĭ (call (ê C) us) (EP X gV σ Q) W s:=by
 have hq:=h (Ó+1) Ó (I.zv.fresh (zaX _)) (I.zv.fresh (Ap _)) (AG (zE2 _));have I2:=Inv.made (C:=C) I;have r2:Vals (V.ref (Ó+1)::(vs++dvs)) (ŝ::(us++ds)):=Ï3 rfl (r.append hd);have hl:(ŝ::us++ds).length=ps.length:=by
  have e:=r2.length;rw[F.len ć ć hq] at e;show e.symm
 exact zcM (JT (f:=f) I.yB M.makes M.init (beq_iff_eq.mp M.fn) (codeAny_mono (F.run _ X.stack ć #[ŝ::us,[]] (ŝ::(us++ds)) ć _ (hr.make C us [])
  (I2.cH.make C us []) (hb _ (ŝ::us) I2.yB hl) r2 hq) λ r s' hq'=>?_))
 cases r with
 | error v=>
  let#[a,H',rfl,os,bare,un,zv,ie,f1,a',ea,z]:=hq';cases ea;show hW ć #[a,gV,σ,H',rfl,λ _=>Ì2,I2.ZA Æ7,ie,ť f1,z]
 | ok fl=>
  cases fl with
  | ret u=>
   let#[v,H',I3,rv,ev,q3]:=I2.after hq';subst ev;show#[rv,#[V.ref (Ó+1),H',I3,rfl,q3]]
  | _=>show False.elim hq'
end
structure bM ì (c:Str) Â6:Prop where
 ex:∃ (C f:Addr) (fd:Å1),È7/\Binds K fd ps []/\kr K c C/\Mk K C f/\mg c=↑(ê C)
 mo:mQ sp
def Qh ĳ (c:Str) (sp:xE) (tA:ya):yw:=λ E δ S=>tA δ S λ ds S1=>∀ p,S1 p=none->sp (ê p::ds) Å6 λ d S2=>ő/\(vi d=è->d=.zk/\E.nx (δ.set i ↑ Æ0) S2)
def vT Ì5{fl:Bool}{pos Ad p:Pos}{e:Expr}{es:List Expr}{tA:ya}{c:Str}Ä6 Ä5(F:bM Í c k ps sp) ù Å8 Õ (hk:k+1<=k') (hg:Gl X c) Ñ4
  (he:AA X e es) Ò3 ß (hs:Ŷ Ş Ã1=Ï4):
  xH X fl (Ï5 [Ĺ y py] Ş pos) (Qh i c sp tA):=by
 let#[#[C,f,fd,h1,h2,h3,h4,h5],hm]:=F;exact#[λ E E' δ S hE z=>ha.mo δ S ć (λ ds S1 z p hp=>hm ć ć (λ d S2 q=>#[Ä0,λ y=>#[(q.2 y).1,hE.nx ć (q.2 y).2]]) (z p hp)) z,Ê];have hc:wpAny Ĭ (eval Ş î) (EP X gV σ Ś) W s:=by
  exact zcS (iJ I hg h5 ?_ AV);exact PySem.W.callWith_K (h₀:=X.base) I.ok.mod.jv h4.kp (za6 (ha.pa Ad gV s σ H (λ vs H1=>∀ x dx,H1 x=none->H1 dx=none->dx≠x->il X.K sp (ê x::(vs++[])) Â9 (λ v H2=>v=.zk/\D.nx (σ.set i ↑(ê x)) H2) ĝ) I (vo.go ha.mo Ñ6 λ ds S1 xs H1 z1 q1 e1 p1 x dx hx hdx AD=>?_)) (λ us s1 #[vs,H1,I1,r,q]=>#[I1.yB,?_]) ě) he An
  .have e0:Ext (upd H1 dx (Ĝ x)) Â9:=.new (by rw[zX (Ne.symm AD)];show hx) _;have e2:=(Ext.new hdx (Ĝ x)).trans e0;rw[zaD];exact#[ê x::ds,ups S1 x (į c []),Ï3 (Ħ) (zw.ext e2 ds q1),(p1.new hdx).ups e0 #[C,dx,[],h3,yD,.nil],hm ć ć (λ d S2 q=>#[λ y v H2 a1 a2 a3=>?_,λ y a H2 a1 a2 a3=>#[a,rfl,(q.1 y).2 y a H2 a1 (ĸ a2) a3]]) (z1 x (p1.none hx))];let#[rfl,q']:=q.2 y;simp![zj] at a1;show#[a1,q' _ H2 ((r1.ext (ĸ a2)).set i (Ħ)) (ĸ a2) a3]
  .show MC (dvs:=[]) h4 h1 ű h2 .nil hW.xp I1 r q
 exact zcX (zM hc ń) hs;show Ċ
end L3
namespace L5
open Ï1 Đ L2 L3
open ö hiding St
@[simp] def lS (c:Str) ĳ Â7:Xf:=fun Y=>đ λ xs=>(mJ F [↑(Ĝ (į none c []))] (Ī 0::Ď)).bind λ r=>if yx r.1=true then ↑(↑r.1,Y) else match r with
 | (.zk,[c'])=>↑(none,Y.set i ↑(Ĝ c'))
 | _=>none
def rM {c:Str}Ŵ Ì8 ľ:fZ (lS c i F g) (Qh i c (xU F) u):=λ S0 Z0 S Z δ Y o Y' E Fr e hN hX=>by
 ext Ì9;let#[r,e3,e4]:=Ak.mp e2;exact h Ï xs _ Fr.er e1 λ ds S1 s1 r1 p hp=>?_;have F1:=Fr.grow s1;have nz:¬ Z p:=λ z=>F1.er.zd p z hp;have sn:Sx S1 Å6:=.new hp _;have FF:FR S1 Z Å6 (λ a=>Z a\/a=p) [↑ Æ0] [↑(Ĝ (į none c []))]:=by
  exact#[#[λ a z=>?_,λ k t q=>?_,λ k c' q=>?_],rfl,sn,F1.er.zd,λ a z=>Ī z,λ a z=>z.imp id λ e=>by rw[e];show hp,λ k c' q a b=>?_,λ k k' c' c'' q n a b d f=>?_]
  .rcases z with z | rfl
   .show λ q=>F1.er.zd a z (sn.none q)
   .rw[lK];nofun
  .cases k with
   | zero=>cases q
   | succ k=>cases q
  .cases k with
   | zero=>cases q;show#[p,į c [],rfl,lK,Ì2,ť rfl]
   | succ k=>cases q
  .cases k with
   | zero=>cases a;cases b;show#[hp,Ų]
   | succ k=>cases a
  .cases k with
   | zero=>
    cases k' with
    | zero=>show n rfl
    | succ k'=>cases b
   | succ k=>cases a
 have sl:slots (Ī 0::Ď)=[0]:=by rw[slots,ix]
 have htag:=(QW e3).1.2;exact WG (ys:=Ī 0::Ď) FF #[ê p,ds,rfl,rfl,WY (zq.sx (iO sn hp) xs r1)] (by rw[sl];simp) e3 λ d S' _ F' rr=>Œ
 .rw[pC rr] at he;rw[Ā he] at e4;cases e4;show hX _ rfl he d S' (F1.grow F'.sx) (Sn.sx (wM λ a z=>Ī z) _ rr)
 .rw[pC rr] at he;rw[ĉ] at e4;split at e4
  .rename_i c';cases e4;rw[sl] at F';have ht:=htag c' #[];let#[q,ob,k1,k2,k3,_]:=F'.er.ow 0 (oP none c') rfl;cases k1;rw[az ht.2] at k3;have rr:Sn Ä1 .zk d:=rr;simp![Sn] at rr;exact#[rr,hN rfl S' ć (F1.aw F'.sx i hp k2 k3 ?_)];cases c' with
   | obj a k fs=>
    have:=ht.2;simp![vp] at this;subst this;show Ų
   | _=>show Ų
  .cases e4
section
variable {Ò}{base h:Heap}{c qual:Str}{Þ}{ŕ}
def GY (F:Fc K c ī) È8 ÿ (hb:Ys st "__init__" qual ps)
  á:bM Ä c ñ:=by
 let#[C,f,fd,F,hc,hk]:=F;exact#[#[C,f,fd,fnX ô,F.binds hb,hc,hk,PySem.W.mg_of X G hc],xU.mo];ext ç
end
def yL:Rk:=λ S S' Z y d=>(Sn ħ y d/\∀ ts,y≠.lst ts)\/∃ p c o v dv,y=.lst [vk c,v]/\d=.tup [ê p,dv]/\č/\S p=none/\S' p=↑o/\wQ Ä1 c o/\Sn Ä1 v dv
instance:Lo yL where
 cl:=λ s h=>h.imp id λ#[p,c,o,v,dv,h1,h2,h3,h4,h5]=>#[p,c,o,v,dv,h1,h2,h3,s.none h4,h5]
 of:=λ n h=>Ī #[h,n]
 lo:=λ s z h=>h.imp (λ#[a,b]=>#[Sn.sx (wM z) _ a,b]) λ#[p,c,o,v,dv,h1,h2,h3,h4,h5,h6,h7]=>#[p,c,o,v,dv,h1,h2,h3,s.none h4,h5,wQ.sx (wM Ã6) h6,Sn.sx (wM Ã6) _ h7]
@[simp] def YY ĳ Ì7:Sm:=fun Y=>match Y[i]? with
 | some ↑ ũ=>if č then (f Y).map λ v=>.rt (.lst [vk c,v]) else none
 | some ↑(.im t)=>(f Y).map λ v=>.rt (.tup [t,v])
 | _=>none
def sL Ŵ Ŗ(hf:wY f te):zJ yL (YY i f) (jG (cT (ma (yq i) (ma te ly)))):=λ S0 Z0 S Z δ Y o E F e P=>by
 unfold YY at e;split at e
 .rename_i c h;split at e
  .rename_i hl;let#[v,e1,rfl]:=ŭ e;let#[p,ob,h1,h2,h3,h4]:=F.er.ow i _ h;have hn:=(F.fr i _ p h h1).1;ext Ã4;have le:∀ a,Z0 a\/a=p->Z a:=λ a q=>q.elim (F.zz a) λ q=>q▸h4;show#[show 2<=sizeLine by decide,P _ Í7 (ť #[p,c,ob,v,d,rfl,rfl,hl,hn,s1 ć h2,wQ.sx ((vy s1).trans (wM le)) h3,Sn.sx (wM le) _ r1])]
  .cases e
 .rename_i t h;let#[v,e1,rfl]:=ŭ e;let#[d0,h1,h2]:=F.er.im i _ h;ext Ã4;show#[show 2<=sizeLine by decide,P _ Í7 (Ī #[Sn.sx (wM F.zz) _ (gQ (Ï3 (Sn.sx (vy s1) t h2) (Ï3 r1 .nil))),λ _=>nofun])]
 .cases e
@[simp] def ag Ñ7 Ì7:Sm:=fun Y=>ā λ y=>open Classical in match y with
 | .lst [k,v]=>if h:∃ c,k=vk c/\É5 then ↑(.nx ((Y.set i ↑(Ĝ h.choose)).set j ↑(.im v))) else none
 | .tup [t,v]=>↑(.nx ((Y.set i ↑(.im t)).set j ↑(.im v)))
 | _=>none
def sD {R:Rk}Ò6 Ŗ(hf:zP yL f te):zJ R (ag i j f) (pW te (j7 2 (ck (hName i) (ck (hName j) Zn)))):=λ S0 Z0 S Z δ Y o E F e P=>by
 ext Î8;exact hf Ï y _ F.er Ņ;split at e2
 .rename_i k v;split at e2
  .rename_i hx;ext ē
   .show Ũ rfl (n _)
   .ext Ï2;let#[g1,g2,g3]:=hx.choose_spec;have F2:=F.aw s1 i h4 h5 (Qv (h1.1.symm.trans g1) h3 g2 h6) (by
     cases w:hx.choose with
     | obj a k fs=>
      rw[w] at g3;simp![vp] at g3;subst g3;show Ų
     | _=>show Ų)
    exact#[rfl,rfl,?_];rw[<- h1.2] at h7;show P S1 ć (F2.mX j h7)
  .cases e2
 .rename_i t v;ext ō
  .ext Ĉ;show#[rfl,rfl,P S1 Z _ (((F.grow s1).mX i g1).mX j g2)]
  .cases h1
 .cases e2
@[simp] def dY Ì7:Ae:=fun Y=>ā λ y=>match y with
 | .lst [_,v]=>↑v
 | .tup [_,v]=>↑v
 | _=>none
def xg Ŗ(hf:zP yL f te):wY (dY f) (yT pG te (dC (.int 1))):=λ S Z δ Y y Q hE e hq=>by
 let#[z,e1,e2]:=ę;exact hf Ï z _ hE Ņ;split at e2
 .ext ē
  .show Ũ rfl (n _)
  .ext Ï2;rw[<- h1.2] at h7;show hq dv S1 s1 (Sn.sx (wM λ a z=>Ī z) _ h7)
 .ext ō
  .ext Ĉ;show hq d2 S1 s1 g2
  .cases h1
 .cases e2
@[simp] def eR (f:Xm) (g:Ì3):Sm:=fun Y=>ā λ r=>(g r.1 r.2).map .nx
def sE {R:Rk}{f:Xm}{te:zy}{g:Ì3}{tg:wO}(hf:ZO f te) (hg:fY g tg):zJ R (eR f g) (pW te tg):=λ S0 Z0 S Z δ Y o E F e P=>by
 let#[#[y,Y1],e1,e2]:=ę;let#[Y',e3,rfl]:=ŭ e2;show hf Ģ y Y1 _ F e1 λ d S1 s1 F1 r1=>hg Ä7 Y1 Y' y d _ F1 r1 e3 fun δ' F'=>P S1 Z δ' F'
end L5
namespace L3
open Ï1 Đ L2
open ö hiding St
def Qe Ë2 È2 (to:zy) (sp:xE) (tA:ya):yw:=λ E δ S=>tA δ S λ ds S1=>sp ds S1 λ d S2=>ő/\(vi d=è->to δ S2 λ x S3=>∃ p c fs,x=ê p/\S3 p=↑(į c fs)/\Ë8/\Ž/\E.nx δ (ups S3 p (į c (ot f d fs))))
def vP Ì5{fl:Bool}{pos Ad pos' p:Pos}Ä4{x f:Str}Ä6{ps cs fs:À}{sp:xE}(F:xO Í x k ps sp) {k':Nat}(hk:∀ c∈cs,Kl X.K c fs) À1 Ą (hkk:k<=k') (hg:Gl X x) (hf:fs.elem f=true) Ì6 Ò3 ß (hs:Ŷ (.Call Ë1 Ad) ↑(Ŭ) pos.line î=Ï4):
  xH X fl (Ï5 [Ŭ] (.Call Ë1 Ad) pos) (Qe cs f to sp tA):=by
 exact#[λ E E' δ S hE z=>ha.mo δ S ć (λ ds S1 z=>F.mo ds S1 ć (λ d S2 q=>#[Ä0,λ y=>ho.mo δ S2 ć (λ x S3 Å0=>À7) (q.2 y)]) z) z,Ê];exact plainObj_wpAny_Assign_Attribute (zM (Y0 (RV:=λ y H1=>zY X.K to σ H1 λ x H2=>∃ a C dx fs,x=ê a/\H2 a=↑ ż/\oW X.K C/\jU X.K C f/\Ž/\D.nx σ (upd H2 a (.ins C dx (vq f y fs)))) F (hr.mono hkk) ha hg AV he An hn hW I Ñ6 λ d S' q=>#[λ y v H1 q1 e1 p1=>?_,Í5]) λ u s1 #[y,H1,I1,ry,q]=>za6 (ho.pe gV s1 σ H1 _ I1 q) (λ ov s2 #[x,H2,I2,rx,a,C,dx,fs,ex,ea,c,n,l,q2]=>?_) ě) hs
 .exact zY.go ho.mo (r1.ext e1) p1 (q.2 y) Ï6;let#[p,c,gs,rfl,g1,g2,g3,g4]:=h2;simp![zj] at q2;subst q2;ext Ã
 .subst ex;obtain rfl:ov=Value.ref a:=rx;show U7 I2 ea c n l ry λ s3 I3=>#[σ,_,I3,q2]
end L3
namespace L5
open Ï1 Đ L2 L3
open ö hiding St
@[simp] def ic Ë4 (F:Al) (g:Î):Sm:=fun Y=>đ λ ys=>(F ys).bind λ y=>if Ð4 then Ĕ else ↑(.nx Y)
@[simp] def gX Ë4 Ë2 ĳ È2 (F:Al) (g:Î):Sm:=fun Y=>đ λ ys=>(F ys).bind λ y=>if Ð4 then Ĕ else match Y[i]? with
 | some ↑(æ)=>Ę
 | _=>none
section
variable {R:Rk}[Sr R] {ŕ}{F:Al}{g:Î}{u:ya}
def sy (h:oE g u):zJ pZ (ic is F g) (W3 (zR R F) u):=λ S0 Z0 S Z δ Y o E Fr e P=>by
 ext Ü
 ext ã
 .rw[pC Ê6] at he;rw[ĉ] at e4;cases e4;show P S2 Z δ (Fr.grow Â2)
def sQ ł Ŵ É2(h:oE g u):zJ pZ (gX is cs i f F g) (Qe cs f (yq i) (zR R F) u):=λ S0 Z0 S Z δ Y o E Fr e P=>by
 ext Ü
 ext ã
 .rw[pC Ê6] at he;rw[ĉ] at e4;have F1:=Fr.grow Â2;split at e4
  .rename_i a c fs hi;split at e4
   .rename_i hl;cases e4;let#[p,b,h1,h2,h3]:=dA F1.er hi;change yq i δ S2 _;unfold yq;rw[h1];show#[p,c,b,rfl,h2,hl.1,by rw[h3.Wk];show hl.2,P _ Z δ (F1.mut (us:=į a c (ot f y fs)) (es:=į c (ot f d b)) i hi h1 #[rfl,h3.Wg Ê6] Vf)]
   .cases e4
  .cases e4
end
section
variable {Ì5}{K:Ac}{e lo a b:Expr}{te ta tb:zy}{pos p2:Pos}
def Qd (te:zy):zy:=fun δ S Q=>te δ S λ x S1=>∃ a b ds,x=.tup (a::b::ds)/\Q (.tup ds) S1
theorem uX (he:PD X e te) (hl:PD X lo (dC (.int 2))):PD X (.Subscript e (.Slice ↑lo none none p2) pos) (Qd te):=by
 exact#[fun δ S Q Q' hq z=>he.mo δ S ć (λ x S1 #[a,b,ds,h,z]=>#[a,b,ds,h,hq ć z]) z,PE.imp (LP Mz he.pe (Lr hl.pe) Ls) fun σ H Q hu=>?_];ext Ķ;exact zY.go he.mo Ñ6 λ x S1 v H1 h1 q1 e1 p1=>#[δ,S1,r1.ext e1,p1,λ w H2 g1 g2 g3=>?_];simp![zj] at g1;exact#[2,g1,?_];let#[a,b,ds,rfl,h]:=h1;have q2:=zj.ext g2 _ q1;simp![zj,zw] at q2;let#[c,_,rfl,k1,y,_,rfl,_,u,ys,rfl,_,k3]:=q2;have e2:HT.yM (y::u::ys).length 0 ↑2=2:=by simp[HT.yM]
 exact#[c,_,rfl,k1,λ q=>by rw[e2] at q;show Ũ q.1 (),λ p hp=>h ć ?_ ((e1.trans g2).trans Â4) (g3.new hp)];simp![zj];exact#[p,_,rfl,yJ.of yD,zw.ext Â4 _ ?_];unfold bf;rw[e2];simpa [HT.yM] using k3
@[simp] def Qr:T->Á T
 | .tup (_::_::ts)=>↑(.tup ts)
 | _=>none
@[simp] def U3 Ì7:Ae:=fun Y=>ā Qr
def qh {f:Ae}(h:xx f te):vf (U3 f) (Qd te):=λ S Z δ Y y Q hE e hq=>by
 let#[x,e1,e]:=ę;exact h Ï x _ hE Ņ;unfold Qr at e;split at e
 .cases e;let#[ds,rfl,h2]:=r1.tup;let#[a,_,rfl,_,b,ds,rfl,_,h3]:=h2;show#[a,b,ds,rfl,hq _ S1 s1 (Cl.of (λ _=>nofun) (gQ h3))]
 .cases e
def RD:wx:=λ x y S Q=>fI mU (λ i j=>.int (i*j)) x y S Q\/Zs x y S Q
def wq:T->T->Á T
 | .lst ts,.int k=>if ts≠[]/\0<=k/\k<=1000000/\ts.length*k.toNat<=sizeLine then ↑(.lst (List.replicate k.toNat ts).flatten) else none
 | x,y=>j0 mU (λ i j=>.int (i*j)) x y
def Xy Æ5{Z:ğ}{ts:Æ1}{d:D}(h:Vw S Z (.lst ts) d):Ze d=è:=by
 obtain⟨_,q | ⟨_,q,_⟩,_⟩:=h.lst <;> subst q <;> rfl
def qO:Good2 zC wq RD:=λ S Z x y z d e Q hz hx hy ef hq=>by
 unfold wq at ef;split at ef
 .rename_i ts k;split at ef
  .rename_i hc;cases ef;let#[ds,g1,g2]:=hx.seq (ts:=ts) rfl;cases hy.int;have hl:=g2.len;show ť #[_,ds,rfl,Xy hx,g1,#[λ q=>hc.1 (by subst q;exists hl.symm),hc.2.1,hc.2.2.1,by rw[hl];show hc.2.2.2],λ p hp=>hq ć Â4 (jf hz hp (zq.rep g2 _))]
  .cases ef
 .show Ī (fG (λ _ _ _=>pO) (λ _ _ _=>nofun) S Z x y z d e Q hz hx hy ef hq)
def tu Í8:PD X (.BinOp a .Mult b pos) (yT RD ta tb):=ji (K8.or K6) (λ x y d e H S Q h1 h2 h3 h=>h.imp (fI.fits (λ _ _ _=>Ħ) x Ê0) (Zs.fits x Ê0)) (λ x y S Q Q' hq h=>h.imp (fI.mo x y S Q Q' hq) λ#[k,ds,h1,h2,h3,h4,h5]=>#[k,ds,h1,h2,h3,h4,λ p hp=>hq ć (h5 p hp)]) ha hb
@[simp] def yI:T->T->Á T
 | .int i,.int j=>↑(.int (i+j))
 | .lst ts,.lst us=>if ts.length+us.length<=sizeLine then ↑(.lst (ts++us)) else none
 | _,_=>none
def cC:wx:=λ x y S Q=>ye (λ i j=>.int (i+j)) x y S Q\/∃ ds es,yu x S=↑ds/\yu y S=↑es/\Ze x=è/\Ze y=è/\É0+es.length<=sizeLine/\∀ r,S r=none->Q (ê r) (ups S r (.lst (ds++es)))
def qZ:Good2 zC yI cC:=λ S Z x y z d e Q hz hx hy ef hq=>by
 unfold yI at ef;split at ef
 .cases ef;cases hx.int;cases hy.int;show Ī (hq _ S (.refl S) (Cl.of (λ _=>nofun) pO))
 .split at ef
  .rename_i h;cases ef;let#[ds,h1,h2]:=hx.seq rfl;let#[es,h3,h4]:=hy.seq rfl;show ť #[ds,es,h1,h3,Xy hx,Xy hy,by rw[h2.len,h4.len];show h,λ r hr=>hq ć (.new hr _) (jf hz hr (h2.append h4))]
  .cases ef
 .cases ef
theorem cC.fits:vB K cC (λ x y H Q=>nh (λ i j=>.int (i+j)) x y H Q\/UY K x y H Q):=λ x y d e H S Q h1 h2 h3 h=>h.imp (ye.fits (λ _ _ _=>Ħ) x Ê0) λ#[ds,es,q1,q2,n1,n2,h4,h5]=>by
 let#[a,xs,rfl,g1,g2]:=iy h1 h3 q1 λ ts z=>by subst z;cases n1
 let#[b,ys,rfl,g3,g4]:=iy h2 h3 q2 λ ts z=>by subst z;cases n2
 show#[a,b,xs,ys,rfl,rfl,g1,g3,by rw[<- g2.length,<- g4.length];show h4,λ p hp=>h5 p (h3.none hp) ć (Ħ) Â4 (h3.ups Â4 #[_,yD,zw.ext Â4 _ (g2.append g4)])]
def su Í8:PD X (.BinOp a .Add b pos) (yT cC ta tb):=ji (KO.or KN) cC.fits (λ x y S Q Q' hq h=>h.imp (ye.mo x y S Q Q' hq) λ#[ds,es,a,b,c,d,i,j]=>#[ds,es,a,b,c,d,i,λ r hr=>hq ć (j r hr)]) ha hb
def yk:Good2 zC ltI Wn:=cq (λ _ _ _=>oh) λ _ _ _=>nofun
end
end L5
namespace L5
open Ï1 Đ L2 L3
open ö hiding St
def Cm (mg:Aq) (x:Str) (t:V):Prop:=∃ u,mg x=↑u/\L2.RelV t u
def Hs (_:Ô):Prop:=True
def Hq (s:Scope) (n:À):Bool:=s.names.all (λ y=>!(ś)||y.1 == ".0"||n.elem y.1)&&(s.names.filter λ y=>ś).length == n.length+1
def Ht (_:À) (_:Â5):Prop:=True
section
variable {n:À}{p:Â5}{x:À × Â5}{r:Ô}
def Hs.a (_:Hs ((n,p)::r)):Ht n p:=Ų
def Hs.b (_:Hs (x::(n,p)::r)):Ht n p:=Ų
end
section
variable {Ì5}{N' N:À}{pick:Â5}{scope esc:Scope}{tg iter elt:Expr}{ifs:List Expr}{ti:pz}{g:wO}{tcc:xn}{te:zy}{pos:Pos}
def pl Æ8 (Sc:kW X N' pick scope) È Â0:
  PD X ċ (l4 pick ti g tcc te):=Kv û hs
def vL {a b:Expr}Ä6{t:p7}(h:gh X [a,b] t) Ĳ (hn:(Å2 [a,b] î).length=2) (AB:(Å2 [a,b] î).findIdx? (·.1)=none):nE X (.Tuple [a,b] k pos) (j7 2 t):=Xj h hc hn AB
def vK {a b c:Expr}Ä6{t:p7}(h:gh X Ð5 t) Ĳ (hn:(Å2 Ð5 î).length=3) (AB:(Å2 Ð5 î).findIdx? (·.1)=none):nE X (.Tuple Ð5 k pos) (j7 3 t):=Xj h hc hn AB
def vJ {a b c d:Expr}Ä6{t:p7}(h:gh X Ä2 t) Ĳ (hn:(Å2 Ä2 î).length=4) (AB:(Å2 Ä2 î).findIdx? (·.1)=none):nE X (.Tuple Ä2 k pos) (j7 4 t):=Xj h hc hn AB
def tS {x y:Str}(h:Cm X.mg x (.str y)) (hg:Gl X x:=by rfl) (hd:(x == ü)=è:=by decide):PD X (Ĺ x pos) (dC (.str y)):=let #[_,a,b]:=h;Kw a b hg hd
def vM {c f:Str}{si:Stmt}{p Ad rpos:Pos}Ä6{e:Expr}(h:yF X.K X.mg c f si/\mR f si) É9 (he:PD X e te) (hk:2<=k) (hg:Gl X c) Ĳ Ñ4
  (hs:AA X e []) (An:AH X Ad []) ß:xH X è (.Raise ↑(.Call (Ĺ c p) [e] [] Ad) none rpos) (cU c f te):=Km h.1 h.2 hr he hk hg hc AV hs An hn
def u4 {t:yw}Ò6{n c:Str}{body:List Stmt}{p1 p2 p3 p4 hpos:Pos}(hN:X.N.Nodup) (hb:xI X true body t) (hi:X.N[i]?=↑n) (hj:X.N[j]?=↑c) (A_:i≠j)
  (hg:Gl X "PurseError") (B2:X.env.kindOf n=↑.local) (hxj:Loc À6 c) (hfj:X.fn c=true\/X.env.scope.names.lookup c=↑.local) (hnd:(n == ü)=è) (hnc:(n == ("__classdict__":Str))=è) (hsw:Ŷ (Ĺ n p3) ↑(Ĺ c p2) p4.line î=Ï4)
  (AB:X.stack=î::X.outer) (AR:X.env.frame=↑X.env.locals) ß:yt X (.Try body [.ExceptHandler ↑(Ĺ "PurseError" p1) ↑n [Ï5 [Ĺ c p2] (Ĺ n p3) p4] hpos] [] [] pos) (W4 i j t):=Kn i j hN hb A_ hi hj hg B2 hxj hfj hnd hnc hsw AB AR hn
def yU Ŵ{y:Str}{py BN:Pos}Æ8 (hn:X.N.Nodup) (Sc:kW X N' pick scope)
  (hsw:Ŷ ċ ↑(Ĺ y py) BN.line î=pure true) È (hy:X.N[i]?=↑y) (hx:Loc À6 y)
  (hfn:À4) Â0:
  yt X (Ï5 [Ĺ y py] ċ BN) (pW (l4 pick ti g tcc te) (hName i)):=Kp û hn hy hx hsw hfn hs
end
abbrev eJ ì (N:À) (x:Str) Ñ9 (k:Nat) (hs:Ô) (Φ:Cx->Prop):Prop:=
 ∀ (f:Addr) Æ,Hs hs->N.Nodup->(Ë).vb.N=N->(Ë).vb.env.scope=zW st->Ġ->Φ (Ë).vb
abbrev ib (x q:Str) Ñ9 (ps:À):Prop:=∀ À9,Ç4->bindArgs (Ì1 x q Ý ct) #[us,[]]=pure (ps.zip us)
def bA {x q:Str}{st:Stmt}{ps:À}(h:ib x q st ps:=by intro _ _ _ _ _ _;first | show Dr λ _=>rfl | show bz λ _ _=>rfl | show Dq λ _ _ _=>rfl | show Dp λ _ _ _ _=>rfl | show Dn λ _ _ _ _ _=>rfl):ib x q st ps:=h
section
variable {Ò}{Ê4}{Þ}{R:Rk}[Lo R]
def yH Á6
  (Ð3:eJ Ä N x st k hs λ X=>∃ t,xw X ū/\zJ R g t)
  Å
  ŵ:FD Ä x (k+1) ps Ê7:=
 G_ F Â
def cA Á6
  (Ð3:eJ Ä N x st k hs λ X=>∃ t,xI X è ū/\zJ R g t)
  Å
  ŵ:xO Ä x (k+1) ps Ê7:=
 GZ F Â
def GF {f:Addr}{fd:Å1}(hs:Ô) (F:pM K x x st f fd)
  (Ð3:∀ Æ,Hs hs->N.Nodup->(Ë).vb.N=N->(Ë).vb.env.scope=zW st->Ġ->
   ∃ t,xw (Ë).vb ū/\zJ R g t)
  Å:wg Ä xP (k+1) f fd ps (mv K Ê7):=
 R0 F Sc hn λ Af A outer s H E hr=>Ð3 ģ Ų Sc.nd rfl rfl hr
end
section
variable {Ò}{base:Heap}{m qual:Str}{ł}{Þ}{ŕ}{f':Ae}
def Wm (hs:Ô) Æ6
  (Ð3:eJ Ä N ī k hs λ X=>∃ t,xw X ū/\Vm f' t)
  Å
  (hb:ib m ī ps:=by show bA):Í4:=
 GW F Â
def RC (hs:Ô) (F:Fc K m ī) {h:Heap}È8
  ŗ
  Å
  (hb:ib "__init__" ī ps:=by show bA):bM Ä m ñ:=
 GY F X G Â
def fM (hs:Ô) Æ6
  ŗ
  Å
  (hb:ib m ī ps:=by show bA):xX Ä ļ ñ:=
 GX F Â
end
section
variable {Ò}{Ê4}{Þ}{ŕ}
def RB Á6
  (Ð3:eJ Ä N x st k hs λ X=>∃ t,xw X ū/\Ï9)
  Å
  ŵ:FD Ä x ñ:=
 GV F Â
end
end L5
namespace RN
open L5
abbrev Bd:=List (Ñ)
def wG (b c:Bd):Prop:=∀ q,z_ b q=true->z_ c q=true
def wG.refl (b:Bd):wG b b:=λ _ h=>h
def wG.of {b c:Bd}(h:∀ p∈b,∃ r∈c,É7):wG b c:=λ q x=>by
 let#[p,hp,h1,h2]:=xF.mp x;let#[r,hr,h3,h4]:=h p hp;show xF.mpr #[r,hr,⋯,⋯]
def wG.at {b c:Bd}(h:wG b c) {p:Ñ}(hp:p∈b):∃ r∈c,É7:=xF.mp (h p (Ì4))
structure Gd (A B:Int) (b:Bd):Prop where
 d_:mj b
 qK:∀ p∈b,Ê2
def vA:Bd:=[(0,0)]
def Qs {q:Ñ}:z_ vA q=true↔0<=q.1/\0<=q.2:=by
 rw[xF];unfold vA;simp
theorem Gd.vA ĵ(hA:0<=A) (hB:0<=B):Gd A B vA:=#[by unfold RN.vA mj;simp,λ p hp=>by
 unfold RN.vA at hp;cases AJ.mp hp;show#[#[BC _,hA],BC _,hB]]
def Gd.Io ĵ{b:Bd}(h:À0):wG b RN.vA:=wG.of λ p hp=>#[(0,0),by unfold RN.vA;simp,(h.qK p hp).1.1,(h.qK p hp).2.1]
theorem Gd.eq Ė (x:wG b c) (y:wG c b):b=c:=mj.eq h.d_ h'.d_ λ q=>by
 rw[BK];show#[x q,y q]
def Gd.least ĵ{ps:Bd}(h:∀ p∈ps,Ê2):Gd A B (oQ ps):=#[XC ps,λ p hp=>h p (Ik hp)]
def Su {ps qs:Bd}(h:∀ p∈ps,∃ r∈qs,É7):wG (oQ ps) (oQ qs):=λ q x=>by
 rw[fq] at x ⊢;show wG.of h q x
theorem SO:∀ {b:Bd}{lo hi:Int},mj b->(∀ p∈b,lo<=p.1/\p.1<=hi)->(b.length:Int)<=hi+1-lo\/b=[]
 | [],_,_,_,_=>ť rfl
 | p::b,lo,hi,h,hb=>by
  have h1:=BU.mp h;have hp:=hb p Av;exact Ī ?_;rcases SO (lo:=p.1+1) (hi:=hi) h1.2 (λ q hq=>#[by have:=(h1.1 q hq).1;lia,(hb q (Ay _ hq)).2]) with x | x
  .rw[A7];lia
  .subst x;simp;lia
def Gd.jr ĵ{b:Bd}(h:À0) (hA:0<=A):(b.length:Int)<=A+1:=by
 rcases SO (lo:=0) (hi:=A) h.d_ (λ p hp=>(h.qK p hp).1) with x | x
 .lia
 .subst x;simp;lia
def wb (x:Int):Int:=if x>0 then x else 0
def aO (x:Int):0<=wb x:=Å7
def Xz {x y:Int}(h:x<=y):wb x<=wb y:=by unfold wb;split <;> split <;> lia
def JF {x g:Int}(h:0<=x) (hg:0<=g):wb (x-g)<=x:=Å7
def v9 (a b:Int) (p:Ñ):Ñ:=(wb (p.1-a),wb (p.2-b))
def iR (A B:Int) (p:Ñ):Bool:=Ð6 (p.1<=A)&&Ð6 (p.2<=B)
def jM (A B a b:Int) (bd:Bd):Bd:=oQ ((bd.map (v9 a b)).filter (iR A B))
def Dt (A B a b:Int) (bd:Bd):Gd A B Ð7:=Gd.least λ p hp=>by
 let#[h1,h2]:=A9.mp hp;let#[q,_,rfl]:=Ax.mp h1;ext ů
 show#[#[aO _,h3.1],aO _,h3.2]
def Pp (A B a b:Int) {bd bd':Bd}(h:wG bd bd'):wG Ð7 (jM A B a b bd'):=Su λ p hp=>by
 let#[h1,h2]:=A9.mp hp;let#[q,hq,rfl]:=Ax.mp h1;let#[r,hr,r1,r2]:=h.at hq;ext ů
 have m1:(Î4).1<=(v9 a b q).1:=Xz ⋯;have m2:(Î4).2<=(v9 a b q).2:=Xz ⋯;show#[Î4,A9.mpr #[Ax.mpr #[r,hr,rfl],by simp[iR];lia],m1,m2]
def ka (b c:Bd):Bd:=oQ (b++c)
def Fw (b c:Bd) Í1:z_ (ka b c) q=(z_ b q||z_ c q):=by unfold ka;rw[fq,FT]
def Fv Ė:Gd A B (ka b c):=Gd.least λ p hp=>by
 rcases A8.mp hp with x | x
 .show h.qK p x
 .show h'.qK p x
def aX (p q:Ñ):Ñ:=(if q.1>p.1 then q.1 else p.1,if q.2>p.2 then q.2 else p.2)
def l8 (b c:Bd):Bd:=oQ (b.flatMap λ p=>c.map (aX p))
def QK (b c:Bd) Í1:z_ (l8 b c) q=(z_ b q&&z_ c q):=by
 unfold l8;rw[fq,BK,zE5,xF,xF,xF];ext Æ9
 .ext Ě;ext Î9;unfold aX at h1 h2;ext Ò7;exact#[#[x,hx,?_,?_],#[y,hy,?_,?_]] <;> (first | (split at h1 <;> lia) | (split at h2 <;> lia))
 .rintro⟨⟨x,hx,h1,h2⟩,⟨y,hy,h3,h4⟩⟩;exact#[aX x y,zaL.mpr #[x,hx,Ax.mpr #[y,hy,rfl]],?_,?_]
  .change (if y.1>x.1 then y.1 else x.1)<=q.1;ext À5
  .change (if y.2>x.2 then y.2 else x.2)<=q.2;ext À5
def EU Ė:Gd A B (l8 b c):=Gd.least λ p hp=>by
 ext Î9;have a1:=h.qK x hx;have a2:=h'.qK y hy;unfold aX;dsimp only;exact#[#[?_,?_],?_,?_] <;> split <;> lia
def lr (bs:Ð):Bd:=Î5 ka []
def bq (bs:Ð):Bd:=Î5 l8 vA
theorem Wv:∀ Ç0 Í1,z_ (Î5 ka b) q=true↔z_ b q=true\/∃ c∈bs,z_ c q=true
 | [],b,q=>#[]
 | c::bs,b,q=>by
  rw[zbV,Wv bs,Fw,zcE];ext Æ9
  .rintro ((h | h) | ⟨d,hd,h⟩)
   .show Ī h
   .show ť #[c,Av,h]
   .show ť #[d,Ay _ hd,h]
  .rintro (h | ⟨d,hd,h⟩)
   .show Ī (Ī h)
   .rcases Ao.mp hd with e | e
    .subst e;show Ī (ť h)
    .show ť #[d,e,h]
theorem cJ ĵ:∀ Ç0,À0->(∀ c∈bs,Gd A B c)->Gd A B (Î5 ka b)
 | [],b,h,_=>h
 | c::bs,b,h,hb=>cJ bs _ (Fv h (hb c Av)) λ d hd=>hb d (Ay _ hd)
def Gd.nil ĵ:Gd A B []:=#[by unfold mj;simp,λ p hp=>by cases hp]
theorem WM:∀ Ç0 Í1,z_ (Î5 l8 b) q=true↔z_ b q=true/\∀ c∈bs,z_ c q=true
 | [],b,q=>#[]
 | c::bs,b,q=>by
  rw[zbV,WM bs,QK,zE5];ext Æ9
  .rintro⟨⟨h1,h2⟩,h3⟩;show#[h1,λ d hd=>by
    rcases Ao.mp hd with e | e
    .subst e;show h2
    .show h3 d e]
  .rintro⟨h1,h2⟩;show#[#[h1,h2 c Av],λ d hd=>h2 d (Ay _ hd)]
theorem WL ĵ:∀ Ç0,À0->(∀ c∈bs,Gd A B c)->Gd A B (Î5 l8 b)
 | [],b,h,_=>h
 | c::bs,b,h,hb=>WL bs _ (EU h (hb c Av)) λ d hd=>hb d (Ay _ hd)
def wJ Ê1 (g t:Int):Ñ:=if pu=true then (t,g) else (g,t)
def zZ Ê1 (p:Ñ):Int:=if pu=true then p.2 else p.1
def yS Ê1 (p:Ñ):Int:=if pu=true then p.1 else p.2
def pX Į:Nat->Int->Int->Bd
 | 0,_,_=>[]
 | n+1,g,t=>if g<=zF then wJ pu g t::pX ó ř else []
def Ln {pu:Bool}{g t g' t':Int}(h:g'<=g) (h':t'<=t):(wJ pu g' t').1<=(wJ pu g t).1/\(wJ pu g' t').2<=(wJ pu g t).2:=by
 cases pu
 .show#[h,h']
 .show#[h',h]
theorem Q4 Į:∀ È4 (g t g' t':Int),g'<=g->t'<=t->∀ e∈ Ð8,∃ r∈pX ó n g' t',r.1<=e.1/\r.2<=e.2
 | 0,_,_,_,_,_,_,e,he=>by cases he
 | n+1,g,t,g',t',h1,h2,e,he=>by
  unfold pX at he ⊢;split at he
  .rw[Ā ⋯];rcases Ao.mp he with x | x
   .subst x;show#[_,Av,Ln h1 h2]
   .let#[r,hr,r1]:=Q4 ó n ć (g' + give) (wb (t'-get)) ⋯ (Xz ⋯) e x;show#[r,Ay _ hr,r1]
  .cases he
theorem WB Ê1 (zF give get most:Int) (hg:1<=give) (hgt:0<=get):∀ È4 (g t:Int),0<=g->0<=t->t<=most->∀ e∈ Ð8,(0<=zZ pu e/\zZ pu e<=zF)/\0<=yS pu e/\yS pu e<=most
 | 0,_,_,_,_,_,e,he=>by cases he
 | n+1,g,t,h1,h2,h3,e,he=>by
  unfold pX at he;split at he
  .rcases Ao.mp he with x | x
   .subst x;cases pu <;> show#[#[h1,by assumption],h2,h3]
   .show WB ó most hg hgt n ć ⋯ (aO _) (Int.le_trans (JF h2 hgt) h3) e x
  .cases he
theorem Q5 Į (hg:1<=give):∀ È4 (g t:Int),g<=zF+1->((Ð8).length:Int)<=zF+1-g
 | 0,g,t,h=>by simp[pX];lia
 | n+1,g,t,h=>by
  unfold pX;split
  .rw[A7];by_cases hh:g+give<=zF+1
   .have:=Q5 ó hg ř hh;lia
   .have e:pX ó ř=[]:=by
     cases n with
     | zero=>rfl
     | succ n=>unfold pX;rw[Ż ⋯]
    rw[e];simp;lia
  .simp;lia
structure Wy where
 f:Nat
 t:Nat
 a:Int
 b:Int
structure Sl where
 p:Nat
 pu:Bool
 gv:Int
 gt:Int
structure zr where
 A:Int
 B:Int
 os:List Bool
 ws:List Wy
 ss:List Sl
structure zr.Ok ă:Prop where
 a0:0<=F.A
 a1:F.A<=12
 b0:0<=F.B
 b1:F.B<=12
 n1:1<=Ù
 n8:Ù<=8
 ws:∀ w∈F.ws,w.f<Ù/\w.t<Ù
 mV:F.ws.length<=60
 ss:∀ s∈F.ss,1<=s.gv/\0<=s.gt
 sl:F.ss=[]\/F.A<=8/\F.B<=8
 s8:F.ss.length<=60
def zr.zF ă Ê1:Int:=if pu=true then F.B else F.A
def kM ă (s:Sl) (p:Ñ):Bd:=pX ŀ 100 (zZ s.pu p) (yS s.pu p)
def iY ă (s:Sl) (bd:Bd):Bd:=oQ (bd.flatMap (kM F s))
def Eg ă (s:Sl) {b c:Bd}(h:wG b c):wG (iY F s b) (iY F s c):=Su λ p hp=>by
 ext ň;let#[r,hr,r1,r2]:=h.at hx;let#[e,he,e1]:=Q4 ŀ 100 (zZ s.pu x) (yS s.pu x) (zZ s.pu r) (yS s.pu r) (by unfold zZ;split <;> assumption) (by unfold yS;split <;> assumption) p hp;show#[e,zaL.mpr #[r,hr,he],e1]
def Ef Ŀ {p:Ñ}(hp:(0<=p.1/\p.1<=F.A)/\0<=p.2/\p.2<=F.B):∀ e∈kM F s p,(0<=e.1/\e.1<=F.A)/\0<=e.2/\e.2<=F.B:=λ e he=>by
 let#[p,pu,gv,gt]:=s;unfold kM zr.zF at he;cases pu with
 | true=>show (WB true F.B gv gt F.A Í9 ć hp.2.1 hp.1.1 hp.1.2 e he).symm
 | è=>show WB è F.A gv gt F.B Í9 ć hp.1.1 hp.2.1 hp.2.2 e he
def Eh Ŀ {b:Bd}(h:Gd Ű b):Gd Ű (iY F s b):=Gd.least λ p hp=>by
 ext ň;show Ef hs (h.qK x hx) p hp
def vI ă ŉ Ť:Ð:=(Ê8).map λ w=>jM Ű w.a w.b Ç7
def zr.stall ă Ť:Á Sl:=F.ss.find? λ s=>Ð6 (s.p=p)
def wU ă ŉ Ť:Bd:=
 if F.os.getD p è=true then match F.stall p with
  | none=>lr (vI Ĵ)
  | some s=>iY F s (lr (vI Ĵ))
 else bq (vI Ĵ)
def ZK ă ŉ Ť:∀ c∈vI Ĵ,Gd Ű c:=λ c hc=>by
 let#[w,_,rfl]:=Ax.mp hc;show Dt ..
def TR Š ŉ Ť:Gd Ű (wU Ĵ):=by
 unfold wU;have h1:Gd Ű (lr (vI Ĵ)):=cJ ć Gd.nil (ZK Ĵ);split
 .split
  .show h1
  .rename_i s e;show Eh (ok.ss s (zaZ e)) h1
 .show WL ć (Gd.vA ok.a0 ok.b0) (ZK Ĵ)
theorem JA ă {l m:Ð}Ť (h:∀ w∈F.ws,w.f=p->wG (l.getD w.t []) (m.getD w.t [])):wG (wU F l p) (wU F m p):=by
 have h1:wG (lr (vI F l p)) (lr (vI F m p)):=λ q hq=>by
  unfold lr at hq ⊢;rw[Wv] at hq ⊢;rcases hq with x | ⟨c,hc,x⟩
  .show Ī x
  .ext Á7;show ť #[_,Ã0,Pp ć ć (Ç8) q x]
 unfold wU;split
 .split
  .show h1
  .show Eg F _ h1
 .intro q hq;unfold bq at hq ⊢;rw[WM] at hq ⊢;exact#[hq.1,λ c hc=>?_];ext Á7;show Pp ć ć (Ç8) q (hq.2 _ (Ã0))
theorem J9 ă {l m:Ð}Ť (h:∀ w∈F.ws,w.f=p->l.getD w.t []=m.getD w.t []):wU F l p=wU F m p:=by
 have:vI F l p=vI F m p:=by
  unfold vI;exact zbE λ w hw=>?_;let#[w1,w2]:=A9.mp hw;rw[Ç8]
 unfold wU;rw[this]
def box:List (Ñ):=(Ē 13).flatMap λ(i:Nat)=>(Ē 13).map λ(j:Nat)=>((i:Int),(j:Int))
def mu (b:Bd):Nat:=box.countP (z_ b)
theorem EN {p:Ñ}(h:(0<=p.1/\p.1<=12)/\0<=p.2/\p.2<=12):p∈box:=by
 let#[x,y]:=p;dsimp only at h;exact zaL.mpr #[x.toNat,AL.mpr ⋯,Ax.mpr #[y.toNat,AL.mpr ⋯,?_]];rw[Int.toNat_of_nonneg h.1.1,Int.toNat_of_nonneg h.2.1]
theorem Qt Ñ5{p q:α->Bool}:∀ {l:List α},(∀ x,q x=true->p x=true)->(∃ x∈l,p x=true/\q x=è)->l.countP q<l.countP p
 | [],_,#[x,hx,_]=>by cases hx
 | a::l,h,#[x,hx,h1,h2]=>by
  have hle:l.countP q<=l.countP p:=List.countP_mono_left λ y _=>h y;rw[List.countP_cons,List.countP_cons];rcases Ao.mp hx with e | e
  .subst e;rw[Ż (by rw[h2];decide),Ā h1];lia
  .have:=Qt h #[x,e,h1,h2];by_cases c:q a=true
   .rw[Ā c,Ā (h a c)];lia
   .rw[Ż c];ext À5
theorem JH ĵ(hA:A<=12) (hB:B<=12) {b c:Bd}(hb:À0) (hc:Gd A B c) (h:wG b c) (AD:b≠c):mu b<mu c:=by
 exact Qt h ?_;by_cases x:∃ p∈c,z_ b p=è
 .let#[p,hp,e]:=x;have q:=hc.qK p hp;show#[p,EN #[#[q.1.1,⋯],q.2.1,⋯],Ì4,e]
 .show Ũ (hb.eq hc h (wG.of λ p hp=>by
   cases e:z_ b p with
   | true=>show xF.mp e
   | è=>show Ũ #[p,hp,e] x)) AD
theorem JI (b:Bd):mu b<=169:=by
 have:box.length=169:=()
 rw[<- this];show List.countP_le_length
def nP (l:Ð):Nat:=(l.map mu).sum
theorem TV:∀ (l:Ð),nP l<=169*l.length
 | []=>by simp[nP]
 | b::l=>by
  have h1:=TV l;have h2:=JI b;unfold nP at h1 ⊢;rw[Az,List.sum_cons,A7];lia
theorem X2 ĵ(hA:A<=12) (hB:B<=12):∀ {l m:Ð},l.length=m.length->(∀ b∈l,À0)->(∀ b∈m,À0)->(Ç9)->l≠m->nP l<nP m
 | [],[],_,_,_,_,h=>Ũ rfl h
 | [],_::_,h,_,_,_,_=>by simp at h
 | _::_,[],h,_,_,_,_=>by simp at h
 | b::l,c::m,hl,gb,gc,h,AD=>by
  have hl':l.length=m.length:=by exists hl
  have h0:wG b c:=h 0;have hs:Ç9:=λ i=>by exists h (i+1)
  have key:nP l<=nP m:=by
   by_cases e:l=m
   .rw[e];show Ap _
   .show B8 (X2 š e)
  change (List.map mu (b::l)).sum<(List.map mu (c::m)).sum;rw[Az,List.sum_cons,Az,List.sum_cons];by_cases e:b=c
  .subst e;have:l≠m:=λ q=>AD (by rw[q]);have:=X2 š this;unfold nP at this;lia
  .have:=JH hA hB (gb b Av) (gc c Av) h0 e;unfold nP at key;lia
def lY ă (œ:É) Ť:Bool:=F.ws.any λ w=>Ð6 (w.f=p)&&fresh.contains w.t
def wK ă ŉ (œ:É):Ð:=(Ē Ð9).map λ p=>if lY F œ p=true then wU Ĵ else Ñ0
def mE (last following:Ð):É:=(Ē following.length).filter λ p=>Ð6 (following.getD p []≠ Ñ0)
def je ă:Nat->Ñ1->Ð->É->Á (Ñ1)
 | 0,_,_,_=>none
 | n+1,told,last,œ=>if œ=[] then ↑ Æ3 else
   let fo:=wK Ö
   let fr:=mE last fo
   if fr=[] then ↑ Æ3 else je F n Æ3 fo fr
structure St ă ŉ (œ:É):Prop where
 len:Ð9=Ù
 gd:∀ b∈last,Gd Ű b
 fr:∀ p<Ù,lY F œ p=è->(ý)->wU Ĵ=Ñ0
 le:∀ p<Ù,(ý)->wG (wU Ĵ) (Ñ0)
def cx Ñ5(f:Nat->α) (n p:Nat) (d:α) (h:p<n):((Ē n).map f).getD p d=f p:=by
 rw[BI,AF,zcB h];rfl
def jo ă ŉ (œ:É):(wK Ö).length=Ð9:=by unfold wK;simp
theorem St.at Ò4 õ {p:Nat}(hp:p<Ù) (hw:ý):Á4=wU Ĵ:=by
 unfold wK;rw[Ê9];split
 .rfl
 .rename_i h;show (s.fr p hp (by exists h) hw).symm
def HE Ò4{œ:É}{p:Nat}(h:lY F œ p=true):ý:=by
 unfold lY at h;let#[w,h1,h2]:=BB.mp h;show#[w,h1,by simp at h2;show h2.1]
theorem St.no Ò4 õ {p:Nat}(hp:p<Ù) (hw:¬ ý):Á4=Ñ0:=by
 unfold wK;rw[Ê9,Ż (λ h=>hw (HE h))]
theorem St.Qz Ò4 õ Ť:wG (Á4) (Ñ0):=by
 by_cases hp:p<Ù
 .by_cases hw:ý
  .rw[s.at hp hw];show s.le p hp hw
  .rw[s.no hp hw];show wG.refl _
 .have h1:Á4=[]:=by
   rw[BI,zb8 (by rw[jo,s.len];lia)];rfl
  rw[h1];intro q x;cases x
def St.next Š õ:St F (wK Ö) (Ñ2) where
 len:=by rw[jo,s.len]
 gd:=λ b hb=>by
  unfold wK at hb;let#[p,hp,rfl]:=Ax.mp hb;split
  .show TR ok last p
  .have Au:=AL.mp hp;rw[BI,A2 Au];show s.gd _ (B9 Au)
 fr:=λ p hp hn hw=>by
  rw[s.at hp hw];exact J9 F p λ w w1 w2=>?_;have hwt:=(ok.ws w w1).2;by_cases e:(wK Ö).getD w.t []=Ć w.t []
  .show e
  .have:lY F (Ñ2) p=true:=by
    ext Ï0;have:w.t∈ Ñ2:=by
     unfold mE;show A9.mpr #[AL.mpr (by rw[jo,s.len];show hwt),by exists e]
    simp[w2,this]
   rw[this] at hn;cases hn
 le:=λ p hp hw=>by
  rw[s.at hp hw];show JA F p λ w w1 w2=>s.Qz w.t
def GA Ä9 (h:mE last fo≠[]):fo≠last:=λ e=>h (by
 subst e;unfold mE;simp)
def start ă:Ð:=List.replicate Ù vA
theorem St.start Š:St F (start F) (Ē Ù) where
 len:=by unfold RN.start;simp
 gd:=λ b hb=>by rw[List.eq_of_mem_replicate hb];show Gd.vA ok.a0 ok.b0
 fr:=λ p hp hn #[w,w1,w2]=>by
  have:lY F (Ē Ù) p=true:=by
   ext Ï0;have:=(ok.ws w w1).2;simp[w2,this]
  rw[this] at hn;cases hn
 le:=λ p hp hw=>by
  have e:(RN.start F).getD p []=vA:=by
   unfold RN.start;rw[BI,zb3,Ā hp];rfl
  rw[e];show (TR ok _ p).Io
theorem UI Š:∀ È4 (told:Ñ1) ŉ (œ:É),St Ö->nP last<n->
  ∃ more last',je F n told last œ=↑(told++last::more)/\(∀ r∈last::more,r.length=Ù/\∀ b∈r,Gd Ű b)/\(last::more).getLast?=↑last'/\more.length<=nP last
 | 0,_,_,_,_,h=>⋯
 | n+1,told,last,œ,s,h=>by
  unfold je;split
  .show Ĩ
  .dsimp only;split
   .show Ĩ
   .rename_i hf;have s':=s.next ok;have Au:nP (wK Ö)<nP last:=X2 ok.a1 ok.b1 (jo ..) s'.gd s.gd s.Qz (GA (jo ..) hf);let#[more,last',e1,e2,e3,e4]:=UI ok n Æ3 ć s' ⋯;exact#[wK Ö::more,last',by rw[e1];simp,λ r hr=>?_,by rw[List.getLast?_cons_cons];show e3,by rw[A7];lia];rcases Ao.mp hr with e | e
    .subst e;show#[s.len,s.gd]
    .show e2 r e
theorem Du {A B a b:Int}{bd:Bd}(h0:∀ p∈bd,0<=p.1/\0<=p.2) {q:Ñ}(hq:(0<=q.1/\q.1<=A)/\0<=q.2/\q.2<=B):z_ Ð7 q=true↔z_ bd (q.1+a,q.2+b)=true:=by
 unfold jM;rw[fq,xF,xF];ext Æ9
 .ext Ě;let#[hp,_]:=A9.mp hp;let#[r,hr,rfl]:=Ax.mp hp;exact#[r,hr,?_,?_]
  .unfold v9 wb at h1;dsimp only at h1 ⊢;split at h1 <;> lia
  .unfold v9 wb at h2;dsimp only at h2 ⊢;split at h2 <;> lia
 .rintro⟨r,hr,h1,h2⟩;ext Ò7;have e1:(Î4).1<=q.1:=È1
  have e2:(Î4).2<=q.2:=È1
  exact#[Î4,A9.mpr #[Ax.mpr #[r,hr,rfl],?_],e1,e2];unfold iR;rw[za3 ⋯,za3 ⋯];rfl
theorem WC Į (hg:1<=give) (hgt:0<=get):∀ È4 (g t:Int),0<=t->zF-g<n->∀ (G T:Int),G<=zF->
  ((∃ e∈ Ð8,zZ pu e<=G/\yS pu e<=T)↔∃ k:Nat,g+k*give<=G/\wb (t-k*get)<=T)
 | 0,g,t,ht,hn,G,T,hG=>by
  ext Æ9
  .rintro⟨e,he,_⟩;cases he
  ext Ł
 | n+1,g,t,ht,hn,G,T,hG=>by
  have gv:∀ x y,zZ pu (wJ pu x y)=x:=λ x y=>by cases pu <;> rfl
  have gt:∀ x y,yS pu (wJ pu x y)=y:=λ x y=>by cases pu <;> rfl
  have ih:=WC ó hg hgt ř (aO _) ⋯ G T hG;have mm:∀ k:Nat,wb (wb (t-get)-k*get)=wb (t-(k+1:Nat)*get):=λ k=>by
   have:0<=(k:Int)*get:=zb0 ⋯ hgt;have e:((k+1:Nat):Int)*get=k*get+get:=by rw[zaS,zb1];lia
   rw[e];unfold wb;split <;> split <;> (try split) <;> lia
  have gg:∀ k:Nat,g+give+k*give=g+(k+1:Nat)*give:=λ k=>by
   rw[zaS,zb1];lia
  unfold pX;split
  .rename_i hgb;ext Æ9
   .rintro⟨e,he,h1,h2⟩;rcases Ao.mp he with rfl | he
    .rw[gv] at h1;rw[gt] at h2;exact#[0,by simpa using h1,?_];unfold wb;split <;> simp at * <;> lia
    .let#[k,k1,k2]:=ih.mp #[e,he,h1,h2];show#[k+1,by rw[<- gg];show k1,by rw[<- mm];show k2]
   .rintro⟨k,k1,k2⟩;cases k with
    | zero=>
     exact#[_,Av,by rw[gv];simpa using k1,?_];rw[gt];unfold wb at k2;split at k2 <;> simp at * <;> lia
    | succ k=>
     let#[e,he,h1]:=ih.mpr #[k,by rw[gg];show k1,by rw[mm];show k2];show#[e,Ay _ he,h1]
  .rename_i hgb;ext Æ9
   .rintro⟨e,he,_⟩;cases he
   ext Ł
def kI {pu:Bool}{p q:Ñ}:(p.1<=q.1/\p.2<=q.2)↔zZ pu p<=zZ pu q/\yS pu p<=yS pu q:=by
 cases pu
 .show Iff.rfl
 .show And.comm
def Ej Ŀ (hA:F.A<=12) (hB:F.B<=12) {b:Bd}(hb:∀ p∈b,0<=p.1/\0<=p.2) {q:Ñ}(hq:Æ4):
  z_ (iY F s b) q=true↔∃ k:Nat,z_ b (wJ s.pu (É8-k*s.gv) (yS s.pu q+k*s.gt))=true:=by
 have hbr:F.zF s.pu<=12:=by unfold zr.zF;split <;> assumption
 have hqb:É8<=F.zF s.pu:=by unfold zZ zr.zF;ext À5
 have hq0:0<=É8/\0<=yS s.pu q:=by unfold zZ yS;ext À5
 have gv:∀ x y,zZ s.pu (wJ s.pu x y)=x:=λ x y=>by cases s.pu <;> rfl
 have gt:∀ x y,yS s.pu (wJ s.pu x y)=y:=λ x y=>by cases s.pu <;> rfl
 unfold iY;rw[fq,xF];ext Æ9
 .rintro⟨e,he,cm⟩;let#[p,hp,he]:=zaL.mp he;ext Ò5;ext ķ
  let#[k,k1,k2]:=(WC ŀ Í9 ć g0.2 ⋯ ć hqb).mp #[e,he,h1,h2];exact#[k,xF.mpr #[p,hp,kI (pu:=s.pu).mpr #[by rw[gv];lia,?_]]];rw[gt];unfold wb at k2;split at k2 <;> lia
 .rintro⟨k,hk⟩;let#[p,hp,cm]:=xF.mp hk;ext Ò5;rw[gv] at h1;rw[gt] at h2;ext ķ
  let#[e,he,h3]:=(WC ŀ Í9 (zZ s.pu p) (yS s.pu p) g0.2 ⋯ (É8) (yS s.pu q) hqb).mpr #[k,⋯,Å7];show#[e,zaL.mpr #[p,hp,he],kI (pu:=s.pu).mpr h3]
def yr ă:Nat->Ð
 | 0=>start F
 | k+1=>(Ē Ù).map λ p=>wU F (yr F k) p
theorem f9 ă:∀ k,(yr F k).length=Ù
 | 0=>by unfold yr start;simp
 | k+1=>by unfold yr;simp
theorem J8 Ò4 õ (hw:∀ p<Ù,ý):wK Ö=(Ē Ù).map λ p=>wU Ĵ:=by
 exact zbA (by rw[jo,s.len];simp) λ i h1 h2=>?_;have hi:i<Ù:=by exists h2
 have e:=s.at hi (hw i hi);rw[BI,A2 h1] at e;exists e
def GB Ä9 (h:mE last fo=[]):fo=last:=by
 exact zbA hl λ i h1 h2=>?_;have:i∉mE last fo:=by rw[h];simp
 unfold mE at this;rw[A9] at this;have e:fo.getD i []=Ć i []:=Classical.byContradiction λ AD=>this #[AL.mpr h1,by exists AD];rw[BI,A2 h1,BI,A2 h2] at e;exists e
theorem UJ Š (hw:∀ p<Ù,ý):∀ È4 (told:Ñ1) (k:Nat) (œ:É) (res:Ñ1),St F (yr F k) œ->œ ≠[]->told=(Ē k).map (yr F)->
  je F n told (yr F k) œ=↑res->∃ m,res=(Ē (m+1)).map (yr F)/\yr F (m+1)=yr F m
 | 0,_,_,_,_,_,_,_,h=>by cases h
 | n+1,told,k,œ,res,s,hf,ht,h=>by
  unfold je at h;rw[Ż hf] at h;dsimp only at h;have e:wK F (yr F k) œ=yr F (k+1):=J8 s hw;have et:told++[yr F k]=(Ē (k+1)).map (yr F):=by rw[ht,List.range_succ,B7];rfl
  rw[e,et] at h;split at h
  .rename_i AR;cases h;show#[k,rfl,GB (by rw[f9,f9]) AR]
  .rename_i AR;have s':=s.next ok;rw[e] at s';show UJ ok hw n _ (k+1) _ res s' AR rfl h
def yF ă Í1:Prop:=Æ4
def kz ă Í1 (w:Wy):Á (Ñ):=if q.1+w.a<0\/q.2+w.b<0 then none else ↑(min (q.1+w.a) F.A,min (q.2+w.b) F.B)
def wc ă ŉ Í1 (w:Wy):Bool:=match kz F q w with
 | none=>è
 | some r=>z_ Ç7 r
def ij ă Ť:List Wy:=Ê8
def mf ă (s:Sl):Nat->Ñ->List (Ñ)
 | 0,q=>[q]
 | n+1,q=>q::if s.gv<=É8 then mf F s n (wJ s.pu (É8-s.gv) (min (yS s.pu q+s.gt) (F.zF (!s.pu)))) else []
def x_ ă Ť Í1:List (Ñ):=match F.stall p with
 | none=>[q]
 | some s=>mf F s 20 q
def cu ă ŉ Ť Í1:Bool:=
 if F.os.getD p è=true then (x_ F p q).any λ r=>(ij F p).any (wc F last r) else (ij F p).all (wc F last q)
def FQ ĵ{b:Bd}(hb:À0) (x y:Int):z_ b (min x A,min y B)=z_ b (x,y):=by
 rw[BK,xF,xF];ext Æ9
 .ext Ě;ext Ŏ
 .ext Ě;have:=hb.qK p hp;ext Ŏ
def Im ź Í1:wc F last q w=z_ Ç7 (q.1+w.a,q.2+w.b):=by
 unfold wc kz;by_cases h:q.1+w.a<0\/q.2+w.b<0
 .rw[Ā h]
  symm
  rw[<- Bool.not_eq_true,xF];ext Ě;have:=hb.qK p hp;ext Ò7;lia
 .rw[Ż h];show FQ hb ć
def Za ź {q:Ñ}(hq:yF F q):z_ (jM Ű w.a w.b Ç7) q=wc F last q w:=by
 rw[Im hb,BK];show Du (λ p hp=>#[(hb.qK p hp).1.1,(hb.qK p hp).2.1]) hq
def Wu Ò4{last:Ð}(hg:∀ p,Gd Ű (Ñ0)) {p:Nat}{q:Ñ}(hq:yF F q):z_ (lr (vI Ĵ)) q=(ij F p).any (wc F last q):=by
 rw[BK,lr,Wv,BB];ext Æ9
 .rintro (h | ⟨c,hc,h⟩)
  .cases h
  .unfold vI at hc;let#[w,hw,rfl]:=Ax.mp hc;show#[w,hw,by rw[<- Za (hg w.t) hq];show h]
 .rintro⟨w,hw,h⟩;show ť #[_,Ã0,by rw[Za (hg w.t) hq];show h]
)
example:=`(
example À _:=x rfl rfl
example Á:=(zc À rfl)
example Â:=["Keeper","Taker"]
example Ã:=(cI 0)
example Ä:=Int×Int
example Å:=(cI 1)
example Æ:=.int
example Ç:=false
example È:=(ze 0)
example É:=F.os.length
example Ê:=(ze 1)
example Â3:=fr.contains w.t
example Ë:=(F.ws.filter λ w=>Â3).map λ w=>(w.f:Int)
example Ì:=(ze 3)
example Í:=(cS .zk)
example Î:=(zc (zc À (pU ())) rfl (yO ()))
example Ï:=(of_decide_eq_true rfl)
example é:=(cI 2)
example Ð:=(zb zh È é)
example Ñ:=(ze 2)
example Ò:=Option
example Ó:=(by simp;lia)
example Ô:=(zD Ç)
example Õ:=(qs.getLast?.map (·.2))
example Ö:=(zi 0)
example Ç5:=vC F p
example Ø:=(Ç5).find? (λ wi=>wc F l r wi.1)
example ö:=(zi 1)
example ĭ:=(zi 2)
example Ù:=(za ö (za ĭ zf))
example Ú:=(k:Int)
example Û:=(zb zh Ê Ã)
example Ü:=.lst
example Ý _:=x none none
example Þ:=if_pos
example ß:=T.int
example à:=List Bd
example á:=congrArg
example â:=List.range
example ã:=(zb zh È Ã)
example Ē:=(.bl Ç)
example ä _:=x (retS (cS Ē)) zS
example È7:=(za ö zf)
example å:=(za Ö È7)
example ę{F:zr}:=0
example æ ę(ok:F.Ok):=0
example ç:=List (Ä)
example ś:=eq_int
example Ì9:=F.ws.map yi
example À4:=L2.yc
example ĥ:=À4 (Ì9) (i:Int)
example į:=wX (by rw[AF,hw];rfl)
example ı:=(p:Int)
example è:=by have h1:=Ym F (nT i) (V9 (AM.mp hw).1);have h2:ĥ=↑(yi w):=į;have h4:=ś (w.f:Int) ı true
example ü:=zB F
example ň:=F.ss.Pairwise (λ a b=>a.p≠b.p)
example Í7:=eB [Æ c,nT most,nT zF]
example ê:=∃ F:zr,Í7=↑(ü)/\F.Ok/\(∀ x<É,∃ w∈F.ws,w.f=x)/\ň/\∀ s∈F.ss,s.gv<=4
example ë:=(zb zh Ì Ã)
example ì:=(zb zh Ì Å)
example í:=(.str "keeper")
example î:=pT (pu:=s.pu).mp
example ï(F:zr):=0
example Á4 _:=x (Æ c) (nT most) (nT zF)
example ð _:=x Á4 xs (1+r) (os.map kt)
example Ë8:=yS s.pu q
example Ã8:=(F.zF (!s.pu))
example ý:=zZ s.pu q
example ñ:=(wJ s.pu (ý-s.gv) (min (Ë8+s.gt) Ã8))
example ò:=(zb zh Ê Å)
example ă:=.tup
example ó:=ă [Æ F.A,Æ F.B]
example ô:=by obtain⟨m,rfl⟩:∃ k,m=k+1:=#[m-1,⋯]
example õ:=List Int
example Ŀ:=(zi 3)
example ø:=(za Ŀ zf)
example ù:=k8 [Ü (ws3.map yi)]=↑(Ü (ws4.map yi))->ws4.length<=24->Í7=↑(zB #[A,B,os,ws4,ss])
example ú:=by have e1:((k+1:Nat):Int)*s.gv=k*s.gv+s.gv:=by rw[zaS,zb1];lia
example û:=told.getD k []
example þ:=by rw[h,AI,h',Option.map_some,he];rfl
example ÿ:=(ze 4)
example Ā:=(.bl true)
example ā:=(cI 3)
example Ă _:=x pR (cI 10)
example Ą:=(zD true)
example ą:=(by rw[e];simp)
example É6:=(zi 4)
example Ć:=(za É6 zf)
example ľ:=(zi 5)
example ć _:=x (zE (zb Ô (Zz 3) é)) (oV 4 (tupS (za ľ (za (zu fj (za (cP 3 Ã) (za (cP 3 Å) zf))) zf)))) zS
example Ĉ _:=x F last
example ĉ _:=x (zc (zc (zc À hv0) rfl (pU ())) rfl (yO ())) rfl
example Æ8:=(Option.bind · _)
example Ċ _:=x (á Æ8 (zA rfl (ZZ F p hp mV))) (BH (zbJ _ _) (by rw[List.length_zipIdx];lia))
example ċ:=(zb zh È Å)
example Č:=ß (wi.2:Int)
example Å8:=(zu xV (za Ð zf))
example č:=(za Ã (za (zb xS Å8 Å) zf))
example Í8 _:=x F l p
example Ď:=iV Í8 q k (zx r)
example ď(p:Nat):=0
example À5:=F.zF s.pu
example Đ:=by have:=î hq;have:À5<=12:=by have:=ok.a1;have:=ok.b1;unfold zr.zF;split <;> assumption
example đ:=(retS Í)
example Ŧ:=ni (l s) x.2
example ē:=∃ w∈kA (l (!s)) sh x.1 (Ŧ),(w.1<=y.1\/w.1<=z.1)/\(w.2<=y.2\/w.2<=z.2)
example Ĕ:=(za Ã zf)
example ĕ:=List W->Ò T
example Ä6:=(ps.map zx)
example Ė:=(.im (Ü Ä6))
example ė:=(λ z=>↑(T.bl z))
example Ę:=RN.start F
example Á2:=(za (zi 6) (za ľ zf))
example Ê2:=(tupS (za ľ (za (zi 6) zf)))
example Ě _:=x (zE (zb Ô Ì Ã)) Ê2 (tupS Á2)
example ě:=by cases pu <;> rfl
example Ĝ:=(À5+1-zZ s.pu x).toNat
example ĝ:=p.length
example Ğ(h:g Y=↑ys) (h':F ys=↑y):=0
example ğ:=im (nT p)
example Ō:=zx q
example Í5:=im (Ō)
example ŏ:=im (nT k)
example Ġ:=∀ o,_->VF [im (ó),im (xK s),Í5,ŏ,none,none,none]=o
example ġ:=if_neg
example Ģ:=(ze 5)
example ģ:=decide
example Å2 _:=x 0 "stand"
example Ĥ:=(wW Â Å2)
example Ħ:=λ wi=>!wc F (yr F j) q wi.1
example ħ{p:Nat}:=0
example Ĩ:=(yE (zG 5) (yE (zG 6) (yE (zG 7) pD)))
example ĩ:=(za Ö zf)
example Ī:=List T
example ī _:=x zh Ñ
example İ _:=x F.A F.B
example Ĭ:=Gd İ b
example Į:=l.length
example Ë7:=yF F q
example Ç7{q:Ä}:=0
example Ĳ Ç7(hq:Ë7):=0
example ĳ:=p++[rk s x]
example Ĵ:=(ws.map yi)
example ĵ:=fr.map λ(k:Nat)=>ß Ú
example Ķ:=ws.length
example ķ:=(ss.map xK)
example Ś:=(zG 0)
example ĸ:=(vE 2 (yE Ś (yE (zG 1) pD)))
example Ĺ:=by rw[nU,kH] at h2;show#[p,hp,kI (pu:=s.pu).mpr (by rw[nU,kH];lia)]
example ĺ _:=x [0] Â "check_turn" 0 jZ
example Ļ _:=x (Æ i) (Æ j)
example ļ _:=x c mo br xs many (os.map kt++[kt b])
example Ľ:=F.os.getD p Ç
example ŀ:=(za (zi 7) zf)
example Ł:=.own
example ł:=Bool->Ò Int
example Ń:=by dsimp only;lia
example ń:=Ü (bs.map bT)
example Ņ:=(n:Int)
example ņ:=List Wy
example Ň:=x_ F p q
example ŉ _:=x "NoChange" "times"
example Ŋ _:=x ((û).getD p []) q
example ŋ:=∀ r,qs++xZ r Õ=xZ (p++r) none
example ō:=(za Ê zf)
example Ŏ:=(λ z=>↑(ß z))
example Ő:=wH F m
example ő(q:Ä):=0
example Œ:=by have h2:=kI (pu:=s.pu).mp h1;have h3:=î (show yF F p from hb.qK p hp)
example œ(hp:p<É):=0
example Ŕ(told:List (à)):=0
example ŕ:=[↑a0,↑a1,none,none,none,none,none,none]
example Ŗ:=F.ws[i]?=↑w
example ŗ _:=x [0] Â "step_on" 0 gA
example Ř:=by have e2:((k+1:Nat):Int)*s.gt=k*s.gt+s.gt:=by rw[zaS,zb1];lia
example ř:=(cI 4)
example Ŝ:=λ w=>ģ (w.f=p)
example ŝ:=(zc À (yO ()))
example Ş:=(zt (zc (zc À hix) rfl t1))
example ş:=by simpa [dm] using hk
example Š:=λ wi=>ģ (wi.1.f=p)
example Ì0:=(ze 6)
example š _:=x 3 Ì0 (zu oy (za (ze 7) (za (W0 3 Ì0 (zi 7)) zf)))
example Ţ:=(w9 (xr (zu pA (za Ö (za Û (za ò (za ë zf)))))))
example ţ:=(za (cS (.str "taker")) zf)
example Ť{s:Sl}(hs:1<=s.gv/\0<=s.gt):=0
example ť:=by have g2:Gd A B x:=h x ą;have l1:=g1.jr hA.1;have l2:=g2.jr hA.1
example ŧ:=(zt Á)
example Ũ:=im (ü)
example ũ(n:Nat):=0
example Ū:=F.stall p
example ū:=(wt true)
example Ŭ:=(zu xV (za È zf))
example ŭ:=b.length
example Ů:=List Nat
example ů:=[ă [Æ 0,Æ 0]]
example Ű:=λ k:Nat=>ß (0+Ú)
example ű:=((ws++new).map yi)
example Ų:=by rw[pT (pu:=s.pu),nU,kH];lia
example ų _:=x (is:=[2]) (g:=zG 2)
example Ŵ:=(za (tupS (za Ã Ĕ)) zf)
example ŵ:=m x<=k/\(g x).length<=m x
example Ŷ:=1<=s.gv/\0<=s.gt/\s.gv<=4
example ŷ:=(wa (xq (zA (zm (zc À (dX _ p hlen)) rfl) e2)))
example Ÿ:=(wt Ç)
example Ź:=(zA rfl h1)
example ź:=pre++[last]
example Ż:=(xs.map ß)
example ż{k:Nat}:=0
example Ž:=(zb zh Ê é)
example ž:=(cI 6)
example ſ{f:Ae}{Y:Ev}:=0
example À0:=by subst h2;show zN (zo (zO rfl) (zo (pj rfl h1) rfl)) rfl
example À1 _:=x (zc (zc Á rfl h2) À) rfl
example À2:=instS
example À3:=á List.length e
example À6:=((r::rs).map wj)
example À7:=bK [ü,nT p,v]=↑(.err "NoWay" "way" v)
example À8:=[im (mw told),ğ,Í5,none,none]
example À9 _:=x yI (zb Ă (cI 45)) (cI 9)
example Á0{last:à}(hg:∀ p,Gd İ (last.getD p [])):=0
example Á1{g:T->Ev->Ò Ev}:=0
example Á3{g:Ä->Bd}{m:Ä->Nat}:=0
example Á5:=(zE (zb Ą (zb zh (zb zh Ð ì) Ã) Û))
example Á6:=ă [ă [Æ 0,Æ A],ă [Æ 0,Æ B]]
example Á7:=(za (zb zh ã Ã) zf)
example Á8:=(za (zb zh ã Å) zf)
example Á9:=oy [Æ y,(wR d (.inl k)).getD (Æ y)]
example Â0:=[↑(.im (ü)),↑(.im (Æ p)),none]
example Â1:=#[⋯,⋯]
example Â2:=by simp[zB]
example Â4:=(v*52027+v/q22+13*Ú)
example Â5(pu:Bool):=0
example Â6{α:Type}(enc:α->T):=0
example Â7 _:=x rfl (zc À (WJ F s.pu))
example Â8:=(za ò zf)
example Â9:=["Keeper"]
example Ã0:=(b.map zx)
example Ã1:=ă [Æ w.f,Æ w.t,Æ w.a,Æ w.b]
example Ã2:=if Ú*s.gv<=ý then ↑(l7 F s q k) else none
example Ã3:=bF [ü,nT p,Ō,t]=↑(.err ŉ t)
example Ã4:=(b.flatMap g).length
example Ã5:=λ(k:Nat)=>ß (0+Ú)
example Ã6 _:=x Â "steps" ["self"] eK
example Ã7{a0 a1 a2:W}{d:List (Key×T)}{S:Ī}:=0
example Ã9:=(ni (l s) y.2)
example Ä0:=zh (ü) (Æ 3)=↑(ă (F.ss.map xK))
example Ä1:=zN (zo (zO Ź) (yQ (yy ŧ rfl))) rfl
example Ä2:=by change (f Y).bind _=_;rw[h];rfl
example Ä3:=â told.length
example Ä4:=(xJ (zm rfl (zm (zc Á À) rfl)) Ï)
example Ä5:=by constructor
example Ä7:=xZ (p++[x]++r) none
example Ä8:=bd.map (v9 w.a w.b)
example Ä9:=[ü,Æ p]
example Å0:=(zO Á)
example Å1:=lu (Ő) p q
example Å3(k:Nat):=0
example Å4:=(za (zb ī Ã) (za (zb ī Å) zf))
example Å5:=λ c hc=>h c (by rw[e];simp[hc])
example Å6:=[Ũ,ğ,im (rT l),none,none]
example Å7:=(wL (zb zh È ā))
example Å9:=(zb xS Ã Å)
example Æ0:=(zE (zb Ÿ Ê Í))
example Æ1:=["borders","joined","border"]
example Æ2:=(zE (zb Ÿ ÿ Í))
example Æ3:=(za ö (za ĭ ø))
example Æ4:=(pQ Â "first_way" ["self"] eL 0)
example Æ5:=["Taker"]
example Æ6:=List (õ)
example Æ7:=(rows.map wj)
example Æ9:=(xy is Y)
example Ç0:=xs.length
example Ç1:=(F.os.map kt)
example Ç2:=(λ wi:Wy×Nat=>Č)
example Ç3:=wK Ĉ fr
example Ç4:=ws.map kY
example Ç6:=yr F m
example Ç8{i j:Int}:=0
example Ç9 _:=x 2000 [] (Ę) (â É)
example È0:=λ k:Nat=>T.tup [Æ Ú,rT (û)]
example È1:=by have:=(hm x hx).2.2;have:=(hm y hy).2.2
example È2:=(xQ zf)
example È3:=(zb xS Å (ze 7))
example È4:=vE 2 (yE (zG 3) (yE (zG 4) pD))
example È5:=[8,9,10,11]
example È6:=(wW Â 0 "floor")
example È8:=L4.vF rows
example È9:=(Ü ((o.map (rk true)).map wj))
example É0:=List α
example É1:=oz is c b (n+1) Y
example É2:=T.tup [Æ (wi.2:Int),yi wi.1]
example É3:=(zt (zc (zc Á rfl ho) rfl tk))
example É4 _:=x [] (zE (zb jt Ģ (zb zh È Ì))) QZ
example É5 _:=x (jg [1] (cS Ē)) zS
example É7:=(Ł (.yp d))
example É8:=(Ü ((F.ws.filter Ŝ).map yi))
example É9:=0<q/\q<2 ^ 200
example Ê0:=(zT (wa (xq (zA rfl h6))) rfl)
example Ê1(bs:à) (h:∀ b∈bs,Gd A B b):=0
example Ê3:=(Ü ((b.map (rk Ç)).map wj))
example Ê4:=by rw[List.foldl_append];rfl
example Ê5:=w.f=pl/\w.t<many
example Ê6:=(yN (xJ rfl Ï))
example Ê7 _:=x pk (ze 9)
example Ê8 _:=x [3,4] (xr Ñ) ZH
example Ê9:=(w9 (xr (zu ki (za ì č))))
example Ë0:=λ wi=>Č
example Ë1:=(zo (pj (jw rfl ⋯) e) rfl)
example Ë2 _:=x ["self","times","way"] 3 [0]
example Ë3(b o:ç) (hl:ŭ+o.length<64):=0
example Ë4(b c:Bd) (hl:ŭ+c.length<64):=0
example Ë5 _:=x ķ (ŏ) (im (Æ v)) (im (nT sz))
example Ë6 _:=x c mo br xs many (os.map kt) Ĵ ķ
example Ë9:=(À2 "bool" È)
example Ì1:=(cI 5)
example Ì2:=(cI 8)
example Ì3:=["_law_one","_law_other"]
example Ì4:=(cS (.str "0"))
example Ì5:=(za (zi 13) zf)
example Ì6:=nofun
example Ì7:=l true
example Ì8:=(zt (zc À ht))
example Í0:=(p.foldl ka [])
example Í1:=(zA rfl (Yb F))
example Í2:=b.Pairwise (λ x y=>m x<m y)
example Í3:=(zT ŧ rfl)
example Í4:=(kg Ş (zt (zc Î rfl t2)))
example Í6:=zN (yN (fS (zA rfl h))) rfl
example Í9(m:Nat):=0
example Î0:=(p.foldl l8 vA)
def ET ę Á0 ħ Ĳ:z_ (bq (vI Ĉ p)) q=(ij F p).all (wc Ĉ q):=by
 rw[BK,bq,WM,zE4];ext Ä5
 .rintro⟨_,h⟩ w hw;rw[<- Za (hg w.t) hq];show h _ (Ax.mpr #[w,hw,rfl])
 .intro h;exact#[Qs.mpr #[hq.1.1,hq.2.1],λ c hc=>?_];unfold vI at hc;let#[w,hw,rfl]:=Ax.mp hc;rw[Za (hg w.t) hq];show h w hw
def nU Â5 (x y:Int):zZ pu (wJ pu x y)=x:=ě
def kH Â5 (x y:Int):yS pu (wJ pu x y)=y:=ě
def dm Â5 ő:wJ pu (zZ pu q) (yS pu q)=q:=ě
def pT ę{pu:Bool}Ç7:Ë7 ↔(0<=zZ pu q/\zZ pu q<=F.zF pu)/\0<=yS pu q/\yS pu q<=F.zF (!pu):=by
 unfold yF zr.zF;cases pu
 .show Iff.rfl
 .show And.comm
theorem Z8 ę Ť:∀ ũ Ç7,Ë7->∀ r∈mf F s n q,yF F r
 | 0,q,h,r,hr=>by cases AJ.mp hr;show h
 | n+1,q,h,r,hr=>by
  unfold mf at hr;rcases Ao.mp hr with rfl | hr
  .show h
  .split at hr
   .rename_i hg;exact Z8 hs n ?_ r hr;have h':=î h;ext Ų
   .cases hr
theorem Q3 ę Ť {b:Bd}(hb:Ĭ):∀ ũ Ç7,Ë7->ý<n->
  ((∃ k:Nat,z_ b (wJ s.pu (ý-k*s.gv) (Ë8+k*s.gt))=true)↔(mf F s n q).any (z_ b)=true)
 | 0,q,h,hn=>by
  have:=(î h).1.1;lia
 | n+1,q,h,hn=>by
  have h':=î h;have cut:∀ x y,z_ b (wJ s.pu x y)=z_ b (wJ s.pu x (min y Ã8)):=λ x y=>by
   rw[BK,xF,xF];ext Ä5
   .rintro⟨p,hp,h1⟩;ext Œ;ext Ĺ
   .rintro⟨p,hp,h1⟩;have h2:=kI (pu:=s.pu).mp h1;ext Ĺ
  unfold mf;rw[B5,zcE];by_cases hg:s.gv<=ý
  .rw[Þ hg];have hi:yF F ñ:=by
    ext Ų
   have ih:=Q3 hs hb n hi (by rw[nU];lia);rw[nU,kH] at ih;have sh:∀ k:Nat,z_ b (wJ s.pu (ý-s.gv-k*s.gv) (min (Ë8+s.gt) Ã8+k*s.gt))=z_ b (wJ s.pu (ý-(k+1:Nat)*s.gv) (Ë8+(k+1:Nat)*s.gt)):=λ k=>by
    ext ú
    ext Ř
    have k0:0<=Ú*s.gt:=zb0 ⋯ hs.2;rw[e1,e2,cut,cut (ý-(k*s.gv+s.gv))];congr 2
    .lia
    .lia
   rw[<- ih];ext Ä5
   .rintro⟨k,hk⟩;cases k with
    | zero=>show .inl (ş)
    | succ k=>show .inr #[k,by rw[sh];show hk]
   .rintro (hk | ⟨k,hk⟩)
    .show#[0,ş]
    .show#[k+1,by rw[<- sh];show hk]
  .rw[ġ hg];ext Ä5
   .rintro⟨k,hk⟩;cases k with
    | zero=>show .inl (ş)
    | succ k=>
     exfalso;let#[p,hp,h1]:=xF.mp hk;ext Œ;rw[nU] at h2;ext ú
     have k0:0<=Ú*s.gv:=zb0 ⋯ ⋯;rw[e1] at h2;lia
   .rintro (hk | hk)
    .show#[0,ş]
    .cases hk
theorem TQ æ Á0 ď Ĳ:z_ (wU Ĉ p) q=cu Ĉ p q:=by
 have ge:Gd İ (lr (vI Ĉ p)):=cJ _ _ Gd.nil (ZK Ĉ p);unfold wU cu x_;by_cases ho:Ľ=true
 .rw[Þ ho,Þ ho];cases hs:Ū with
  | none=>simp![B5,List.any_nil,Bool.or_false];show Wu hg hq
  | some s=>
   have hs':=ok.ss s (zaZ hs);have hgv:ý<20:=by
    ext Đ
    lia
   rw[BK];dsimp only;rw[Ej hs' ok.a1 ok.b1 (λ p hp=>#[(ge.qK p hp).1.1,(ge.qK p hp).2.1]) hq,Q3 hs' ge 20 hq ⋯,BB,BB];ext Ä5
   .rintro⟨r,hr,h⟩;show#[r,hr,by rw[<- Wu hg (Z8 hs' 20 hq r hr)];show h]
   .rintro⟨r,hr,h⟩;show#[r,hr,by rw[Wu hg (Z8 hs' 20 hq r hr)];show h]
 .rw[ġ ho,ġ ho];show ET hg hq
end RN
namespace zU
open PySem L2 L3 L5
abbrev VE:Sm:=
 (retS (lB (À2 "int" È) (dH Ë9)))
def lG:Al:=yd ["thing"] 1 VE
abbrev O0:Sm:=
 (retS (zu xV (za ċ zf)))
def ez:Al:=yd ["floor"] 1 O0
abbrev OC:Sm:=
 (retS (lB (zb Zo ã Û) (zb Zo ċ ò)))
def bL:Al:=yd ["pair","other"] 2 OC
abbrev bw:Sm:=
 (zQ (xN (w9 (xr Ê)) (zE (zb ltI (zb ī Å) (zb zh (zb zh Ê (aL Å)) Å)))) (oV 1 ĭ) zS)
abbrev O2:Sm:=
 (zp (nC 1 È2)
 (zp (vG [2] (wL (zu gO (za È zf))) (zG 2) bw)
 (retS (zu ip ō))))
def gq:Al:=yd ["pairs","least","pair"] 1 O2
abbrev QZ:Sm:=
 (zp (oV 4 (XO Ě))
 (zp (zI 5 (zb yI Ģ Ž))
 (zI 6 (zu fj (za Ã (za (zb xS Ì0 (zb zh Ê ā)) zf))))))
abbrev CK:Sm:=
 (zp (zI 3 ò)
 (zp (nC 4 È2)
 (zp (zI 5 (zb ī Ì))
 (zp (zI 6 (zb ī (zb xS Å Ì)))
 (zp (bU 1000000 É4)
 (i8 4))))))
def Vu:Al:=yd ["brims","stall","pair","purse","pairs","given","got"] 3 CK
abbrev Oy:Sm:=
 (zp (zI 3 (U3 (zb zh Ð Ñ)))
 (zp (zI 4 (zb yI Û ë))
 (zp (zI 5 (zb yI ò ì))
 (zp (zQ (xN (zE (zb ltI ÿ Ã)) (zE (zb ltI Ģ Ã))) đ zS)
 (retS (tupS (za (zu oy (za ÿ Á7)) (za (zu oy (za Ģ Á8)) zf))))))))
def bE:Al:=yd ["floor","pair","way","coins","first","second"] 3 Oy
abbrev VF:Sm:=
 (zp (zI 4 ò)
 (zp (zI 5 (zb xS (zb ī ÿ) (zb wq Ì Ž)))
 (zp (zQ (zE (zb ltI Ģ Ã)) đ zS)
 (zp (zI 6 (zu oy (za (zb yI (zb ī (zb xS Å ÿ)) (zb wq Ì (zb zh Ê ā))) (za (zb zh È (zb xS Å ÿ)) zf))))
 (zp (zQ (zE (zb Ô ÿ Ã)) (retS Ê2) zS)
 (retS (tupS Á2)))))))
def eD:Al:=yd ["brims","stall","pair","times","purse","left","got"] 4 VF
abbrev O5:Sm:=
 (zp (zQ (zE (zb ltI Ê Ŭ)) (retS (zb zh È Ê)) zS)
 (retS Ã))
def jW:Al:=yd ["_law_script","_law_k"] 2 O5
abbrev Pa:Sm:=
 (zp (oV 2 (zb yv Ì (zb Ă ž)))
 (zI 3 (zb iT Ì (zb Ă ž))))
abbrev WT:Sm:=
 (zp (zI 3 (zb yv (zb yI (zb yI (zb dI Ì (cI 52027)) (zb iT Ì (zb Ă (cI 22)))) (zb dI (cI 13) ÿ)) (zb À9)))
 (oV 2 (zb iT (zb dI Ì (zb yI (zb iT Ì (zb Ă (cI 23))) (cI 7))) (zb Ă (cI 9)))))
abbrev O4:Sm:=
 (zp (nC 2 È2)
 (zp (zI 3 (zu ZL (za (zb iT È é) zf)))
 (zp (zQ (zE (zb Ô (zb yv È é) Å)) (zp (vG [4] (vh oO ō) (zG 4) Pa)
 (i8 2)) zS)
 (zp (zI 3 (zb yI (zb yv Ì (zb À9)) (cI 77003)))
 (zp (vG [4] (vh oO ō) (zG 4) WT)
 (i8 2))))))
def e9:Al:=yd ["_law_cell","_law_count","_law_found","_law_number","_law_k"] 2 O4
abbrev Be:Sm:=
 (retS (zu oy (za (cI 12) (za (zb yI (zb xS (zb yv (zb yv È (cI 25)) (zb yI (zb wq é Ê) Å)) Ê) (zb yv (zb pk È (cI 25)) é)) zf))))
def Yk:Al:=yd ["_law_number","_law_most"] 2 Be
abbrev CQ:Sm:=
 (retS (zb zh (xQ (za (tupS (za ř (za Ì1 zf))) (za (tupS (za ā (za Ì1 zf))) (za (tupS (za ř (za ř zf))) (za (tupS (za é (za ž zf))) (za (tupS (za Ì1 (za ā zf))) (za (tupS (za ā (za ř zf))) (za (tupS (za Å (za Ì2 zf))) (za (tupS (za ř (za ā zf))) (za (tupS (za Ì2 (za é zf))) (za (tupS (za é (za Ì1 zf))) zf))))))))))) (zb yv È (cI 10))))
def Yg:Al:=yd ["_law_number"] 1 CQ
abbrev CZ:Sm:=
 (zp (zI 1 (xQ (za (nq (qJ "NoFloor") È) (za (nq (qJ "NoPlace") È) (za (nq (qJ "NoWay") È) zf)))))
 (zp (zI 1 (zb yI Ê (xQ (za (nq (qJ "NoPair") È) (za (nq (qJ "NoCount") È) (za (nq (qJ "NoMore") È) zf))))))
 (retS (zb yI Ê (xQ (za (nq (qJ "NoChange") È) (za (nq (qJ "NoName") È) (za (nq (qJ "NoRow") È) zf))))))))
def Yh:Al:=yd ["_law_caught","_law_some"] 1 CZ
abbrev CW:Sm:=
 (zp (zQ (xN (zE (zb Ą Ë9 (À2 "bool" Ê))) (zE (zb Ą (À2 "int" È) (À2 "int" Ê)))) ä)
 (retS (zb Ô È Ê)))
def jV:Al:=yd Ì3 2 CW
abbrev O3:Sm:=
 (retS (lB (À2 "int" È) (lB (dH Ë9) (lB (zb jt Ê È) (zb jt È Ñ)))))
def ki:Al:=yd ["_law_thing","_law_least","_law_most"] 3 O3
abbrev ZI:Sm:=
 (zQ (nv (zE (zb Ô Ì0 Ê)) (zE (zb fF Ì Ã))) (zp (dR 5 (ze 7) (zb xS (zb ī (ze 7)) (zb wq Ì (ze 8))))
 (dR 5 È3 (zu oy (za (zb zh ã È3) (za (zb yI (zb ī È3) (zb wq Ì (ze 9))) zf))))) zS)
abbrev O6:Sm:=
 (zp (nC 5 (zu listS (za Ñ zf)))
 (zp (vG [6,7,8,9] Å7 (vE 4 (yE (zG 6) (yE (zG 7) (yE (zG 8) (yE (zG 9) pD))))) ZI)
 (zp (nC 5 (tupS (za (zb yI (zb zh Ģ Ã) (zb zh (zb zh Ð ÿ) é)) (za (zb yI (zb zh Ģ Å) (zb zh (zb zh Ð ÿ) ā)) zf))))
 (zp (zQ (zE (zb ltI (zu X3 (za Ģ zf)) Ã)) đ zS)
 (retS (tupS (za (zb zh (zb zh Ð ÿ) Å) (za (tupS (za (zu oy (za (zb zh Ģ Ã) Á7)) (za (zu oy (za (zb zh Ģ Å) Á8)) zf))) zf))))))))
def Yj:Al:=yd ["_law_floor_here","_law_place","_law_pair","_law_times","_law_way_here","_law_held","_law_start","_law_purse","_law_give","_law_get"] 5 O6
abbrev bx:Sm:=
 (zQ (zE (zb Ô ÿ Ê)) (retS (zb jt (zb wq Ì Ì0) (zb ī Ģ))) zS)
abbrev VC:Sm:=
 (zp (zQ (xN (w9 (xr (À2 "int" Ì))) (xN (xr (À2 "bool" Ì)) (zE (zb ltI Ì Ã)))) ä)
 (zp (vG [4,5,6,7] Å7 (vE 4 (yE (zG 4) Ĩ)) bx)
 (retS (zb Ô Ì Ã))))
def pA:Al:=yd ["_law_floor_here","_law_place","_law_pair","_law_times","_law_start","_law_purse","_law_give","_law_get"] 4 VC
abbrev QH:Ae:=
 vg [none,↑0,↑1] (wL Ì) Ś (zE (zb Ô (zb zh (zb zh Ž È) Ã) (zb ī Ã))) Ö
abbrev Ba:Sm:=
 (zp (zI 3 (zu fk (za Å8 zf)))
 (zp (zQ (nv (zE (zb ū Ê Í)) (zE (zb fF (zb yv (zb ī Ã) ř) Ã))) (zI 3 QH) zS)
 (zp (zI 4 (zb zh Ì (zb yv (zb ī Å) (zu xV (za Ì zf)))))
 (zp (zQ (zE (zb Ô (zb yv (zb ī é) ž) Å)) (zI 4 (zb zh (xQ (za Å8 (za Å9 (za (cS Ā) (za (cS Ē) (za Í (za Ì4 Ŵ))))))) (zb yv (zb pk (zb ī é) ž) (cI 7)))) zS)
 (zp (zI 5 (zb zh (xQ (za Ã (za Ã (za Å (za (zb yv (zb pk (zb ī ā) (cI 9)) Ì1) zf))))) (zb yv (zb ī ā) ř)))
 (zp (zQ (zE (zb Ô (zb yv (zb ī ř) ž) Å)) (zI 5 (zb zh (xQ (za Å9 (za (cS Ā) (za (cS Ē) (za Í (za Ì4 (za (zb Ă (cI 20)) (za (tupS Ĕ) zf)))))))) (zb yv (zb pk (zb ī ř) ž) (cI 7)))) zS)
 (retS (tupS (za ľ Ć)))))))))
def Yi:Al:=yd ["_law_floor_here","_law_here","_law_xs","_law_ways","_law_way_here","_law_times"] 3 Ba
abbrev Yv:Ae:=
 Ĥ
abbrev eK:Ae:=
 (wW Â 0 "done")
abbrev VD:Sm:=
 (retS (lB (zu lG ĩ) (Q6 jt jt Ê È Ñ)))
def oa:Al:=yd ["thing","least","most"] 3 VD
abbrev Yt:Sm:=
 (retS (lB (zu lG ĩ) (zb Zo È Ã)))
def jX:Al:=yd ["thing"] 1 Yt
abbrev ZC:Ae:=
 vg [none,↑1] (wL È) Ś o9 (zu bL (za ö ĩ))
abbrev O8:Sm:=
 (retS (zu (i_ λ bs=>bs.any id) (za ZC zf)))
def bI:Al:=yd ["border","pair"] 2 O8
abbrev QJ:Ae:=
 vg [none] (wL È) Ś o9 (tupS (za ã (za Ã (za ċ zf))))
abbrev QB:Ae:=
 vg [none] (wL Ê) Ś o9 (tupS (za ã (za Å (za ċ zf))))
abbrev Pc:Sm:=
 (zp (Wz š)
 (zQ ć))
abbrev Bl:Sm:=
 (zp (zI 2 (zb yI QJ QB))
 (zp (RU 3)
 (zp (nC 4 È2)
 (zp (vG [5,6,7] (wL (zu gO (za Ñ zf))) (vE 3 Ĩ) Pc)
 (Wb 4 (retS (zu gq Ć)))))))
def Yq:Al:=yd ["border","other","steps","lows","shared","first","side","second"] 2 Bl
abbrev O9:Sm:=
 (retS (zu gq (za (zb yI (zu listS (za È zf)) (zu listS ō)) zf)))
def bJ:Al:=yd ["border","other"] 2 O9
abbrev WI:Ae:=
 vg [none,↑1] (wL Ñ) Ś o9 (tupS (za (zu fj (za Ã (za (zb xS ã Ž) zf))) (za (zu fj (za Ã (za (zb xS ċ (zb zh Ê ā)) zf))) zf)))
abbrev EI:Ae:=
 vg [none,↑0] (wL Ì) Ś (xr (zu bL (za ö ĩ))) Ö
abbrev Bo:Sm:=
 (zp (zI 3 WI)
 (retS (zu gq (za EI zf))))
def V7:Al:=yd ["brims","way","border","pairs"] 3 Bo
abbrev CO:Sm:=
 (retS (tupS (za Ö (za (zb yv (zb yv Ñ Ì2) Ê) (za (zu Yk (za (zb yv (zb pk Ñ Ì2) (cI 50)) ø)) (za (zu Yk (za (zb yv (zb pk Ñ (cI 400)) (cI 50)) ø)) zf))))))
def Yf:Al:=yd ["_law_place","_law_many","_law_number","_law_size"] 4 CO
abbrev QG:Ae:=
 vg [none,↑0,↑1] (vh oO (za Ŭ zf)) Ś o9 (zu jV (za (zb zh Ê È) (za (zb ī È) zf)))
abbrev CV:Sm:=
 (zp (zQ (nv (xr (À2 "tuple" È)) (nv (xr (À2 "tuple" Ê)) (zE (zb Ô Ŭ (zu xV ō))))) (retS (zu (i_ λ bs=>bs.all id) (za QG zf))) zS)
 (retS (zu jV å)))
def gu:Al:=yd Ì3 2 CV
abbrev C_:Sm:=
 (zp (zQ (xN Æ0 (zE (zb Ą (zb Ô (zb zh ċ Û) (cS í)) (kC (zb Ô Ñ Ã) (zb Ô Ñ ā))))) (retS (tupS (za Ì1 (za Í zf)))) zS)
 (zp (zQ (xN (zE (zb Ô Ñ Ã)) (zE (zb Ô Ñ é))) đ zS)
 (zp (zQ (xN Ê9 Á5) (retS (tupS (za é (za ì zf)))) zS)
 (zp (zQ (nv (zE (zb Ô Ñ ā)) Ţ) (retS (tupS (za ž (za ë zf)))) zS)
 đ))))
def mT:Al:=yd ["_law_floor_here","_law_here","_law_way_here","_law_deed_here"] 4 C_
abbrev CP:Sm:=
 (zp (zQ (zE (zb Ô Ñ Å)) (zI 3 (tupS (za Ã (za ì zf)))) zS)
 (zp (zQ (zE (zb Ô Ñ é)) (zI 3 (tupS (za Ã Ć))) zS)
 (zp (zQ (zE (zb Ô Ñ Ã)) (zI 3 É6) zS)
 (zp (zQ (xN (w9 (xr (À2 "tuple" Ì))) (xN (zE (zb Ą (zu xV (za Ì zf)) é)) Ê9)) đ zS)
 (zp (zQ (xN Á5 Ţ) đ zS)
 (zp (zQ (nv (zE (zb Ô (zb yv Ñ é) Å)) (zE (zb ū ÿ Í))) đ zS)
 (retS Ŀ)))))))
def gr:Al:=yd ["_law_floor_here","_law_here","_law_way_here","_law_deed_here","_law_found"] 5 CP
abbrev bo:Ae:=
 vg [none,none] (vh Yx (za È ō)) ĸ o9 (zu oa (za Ö (za Û Â8)))
abbrev O7:Sm:=
 (zp (zQ (xN (w9 (xr (À2 "tuple" È))) (zE (zb Ą Ŭ (zu xV ō)))) ä)
 (retS (zu (i_ λ bs=>bs.all id) (za bo zf))))
def kl:Al:=yd ["thing","bounds"] 2 O7
abbrev Bj:Sm:=
 (zQ (w9 (xr (zu oa (za ö (za Ã (za (zb xS (zu ez ĩ) Å) zf)))))) (jd "NoPlace" "place" ö) zS)
def jY:Al:=yd ["floor","place"] 2 Bj
abbrev Pd:Sm:=
 (zI 1 (zu bJ Ù))
abbrev Bm:Sm:=
 (zp (zI 1 (tupS zf))
 (zp (vG [2] (wL Ö) (zG 2) Pd)
 (retS ö)))
def V5:Al:=yd Æ1 1 Bm
abbrev Pe:Sm:=
 (zI 1 (zu Yq Ù))
abbrev Bn:Sm:=
 (zp (zI 1 (tupS Ŵ))
 (zp (vG [2] (wL Ö) (zG 2) Pe)
 (retS ö)))
def V6:Al:=yd Æ1 1 Bn
abbrev Pb:Sm:=
 (zQ (w9 (xr (zu bI (za (zb zh ÿ Ê) (za ĭ zf))))) (retS Ŀ) zS)
abbrev Bh:Sm:=
 (zp (vG [3,4] (vh jD ĩ) (È4) Pb)
 đ)
def V2:Al:=yd ["told","place","pair","number","held"] 3 Bh
abbrev Bg:Sm:=
 (retS (zu oa (za ö č)))
def Yl:Al:=yd ["floor","thing"] 2 Bg
abbrev CN:Sm:=
 (zp (zI 4 (zu bE (za Ö Ù)))
 (retS (lB (zb ū ÿ Í) (zu bI (za (zb zh Ì (zb zh (zb zh Ð Ñ) Å)) Ć)))))
def Yd:Al:=yd ["floor","pair","way","held","behind"] 4 CN
abbrev WV:Sm:=
 (oV 6 (zu Yf (za (zi 8) (za É6 (za (zb zh Ì (zb yI (zb yI ā (zb wq ř (ze 8))) (ze 11))) (za (zi 10) zf))))))
abbrev ZG:Sm:=
 (zp (zI 9 (zb zh Ì (zb yI é (zb wq ř (ze 8)))))
 (zp (oV 5 (zb zh (xQ (za (cS í) ţ)) (zb yv (ze 9) é)))
 (zp (zI 10 (zb zh (xQ (za é (za ā (za ā (za (cI 12) zf))))) (zb yv (zb Ê7 é) ř)))
 (zp (vG [11] (vh oO (za (zb yI Å (zb yv (zb Ê7 Ì2) ā)) zf)) (zG 11) WV)
 (zQ (nv (zE (zb Ô (zb zh Ģ (ze 8)) (cS í))) (zE (zb Ô (zb yv (zb Ê7 (cI 24)) ā) Ã))) (oV 7 (tupS (za (zi 8) (za (zb yv (zb Ê7 (cI 72)) é) (za (zb yI Å (zb yv (zb Ê7 (cI 144)) ř)) (za (zb yv (zb Ê7 (cI 576)) Ì1) zf)))))) zS)))))
abbrev WR:Sm:=
 (oV 6 (zu Yf (za (zb yv (zb yv (zb pk ë (cI 64)) Ì2) ÿ) (za É6 (za (zb zh Ì (zb yI (cI 34) (ze 11))) (za ā zf))))))
abbrev CY:Sm:=
 (zp (zI 3 (zu e9 (za Ö (za (cI 43) zf))))
 (zp (zI 4 (zb yI Å (zb yv ë Ê)))
 (zp (nC 5 È2)
 (zp (nC 6 È2)
 (zp (nC 7 È2)
 (zp (vG È5 (vh oO (za ÿ zf)) (zG 8) ZG)
 (zp (zQ (zE (zb Ô (zb yv (zb pk ë Ì2) Ì2) Å)) (vG [11] (vh oO (za (zu oy (za (cI 9) (za (zb xS (cI 24) (zu xV (za Ì0 zf))) zf))) zf)) (zG 11) WR) zS)
 (zp (zI 12 (tupS (za (zb yv ì (zb yI Ñ Å)) (za (zb yv (zb pk ì (cI 13)) (zb yI Ñ Å)) zf))))
 (retS (tupS (za (zi 12) (za (zu ip (za Ģ zf)) (za (zu ip (za (zu k8 (za Ì0 zf)) zf)) (za (zu ip (za (ze 7) zf)) zf))))))))))))))
def eB:Al:=yd ["_law_cell","_law_most","_law_brim","_law_xs","_law_many","_law_owners","_law_ways","_law_stalls","_law_place","_law_number","_law_size","_law_k","_law_brims"] 3 CY
abbrev WH:Ae:=
 vg [none,↑1] (vh oO (za (cI 9) zf)) Ś o9 (zb Ô Û È)
abbrev CS:Sm:=
 (zp (zQ (xN (w9 (xr (nq (λ _=>true) È))) (zE (zb Ą (zu Yh ĩ) WH))) ä)
 (zp (zQ (zE (zb Ô Û Å)) (retS (zu jV (za (iQ "place" È) Â8))) zS)
 (zp (zQ (zE (zb Ô Û é)) (retS (zu jV (za (iQ "way" È) Â8))) zS)
 (zp (zQ (zE (zb Ô Û ā)) (retS (zu gu (za (iQ "pair" È) Â8))) zS)
 (retS (kC (zb Ô Û Ì1) (zu jV (za (iQ "times" È) Â8))))))))
def lF:Al:=yd ["_law_caught","_law_due_here"] 2 CS
abbrev Bx:Sm:=
 (zQ (xN (zE (zb Ÿ Ĥ Í)) (zE (zb Ą (zb zh (zb zh È6 Å) (zb zh Ĥ Ã)) Ê))) (UA [0] "NoMore") zS)
def jZ:ĕ:=w_ ["self","owner"] 2 [0] Bx
abbrev Bk:Sm:=
 (zQ (w9 (xr (zu kl (za ö (za (tupS (za (tupS (za Ã Á7)) (za (tupS (za Ã Á8)) zf))) zf))))) (jd "NoPair" "pair" ö) zS)
def Yn:Al:=yd ["floor","pair"] 2 Bk
abbrev EJ:Ae:=
 vg [none,none,↑1] (vh jD (za Ð zf)) ĸ (zE (zb Ô Û Ñ)) Ö
abbrev CH:Sm:=
 (zp (Zx (zu (aJ jY) å))
 (retS EJ))
def ei:Al:=yd ["floor","place"] 2 CH
abbrev bu:Sm:=
 (zQ (zE (zb Ô (zb ī Ã) Ê)) (retS ĭ) zS)
abbrev Oz:Sm:=
 (zp (Zx (zu (aJ jY) å))
 (zp (vG [2] Å7 (zG 2) bu)
 đ))
def gm:Al:=yd ["floor","place","stall"] 2 Oz
abbrev Bi:Sm:=
 (zQ (xN (w9 (xr (zu Yl (za Ö (za ĭ zf))))) (zE (zb Ą (zb zh (zb zh Ð Ñ) Ã) Ê))) (jd "NoWay" "way" ĭ) zS)
def bK:Al:=yd ["floor","place","way"] 3 Bi
abbrev Pf:Sm:=
 (Zu 4 (zu Vu (za ã (za Ŀ (za ľ zf)))))
abbrev Bp:Sm:=
 (zp (zI 3 (zu gm å))
 (zp (zQ (zE (zb Ÿ Ì Í)) (retS ĭ) zS)
 (zp (nC 4 È2)
 (zp (vG [5] (wL ĭ) (zG 5) Pf)
 (Wb 4 (retS (zu gq Ć)))))))
def V8:Al:=yd ["floor","place","border","stall","pairs","pair"] 3 Bp
abbrev Yu:Sm:=
 (zp (zQ (zE (zb Ô Ì Ã)) (retS (tupS Å4)) zS)
 (zp (zI 4 (zu gm å))
 (zp (zQ Æ2 đ zS)
 (retS (zu eD (za ã (za É6 (za ĭ ø))))))))
def kS:Al:=yd ["floor","place","pair","times","stall"] 4 Yu
abbrev QC:Ae:=
 vg [none,↑0,↑2,↑3,↑4] (wL (zu ei å)) Ś (w9 (xr (zu Yd (za ö (za ĭ (za Ö (za (zb zh Ì (zb xS ÿ Å)) zf))))))) Ö
abbrev CI:Sm:=
 (zp (zI 4 (zu V2 (za Ŀ Ù)))
 (zp (zQ Æ2 đ zS)
 (retS (zb zh QC Ã))))
def Vr:Al:=yd ["floor","place","pair","told","steps"] 4 CI
abbrev eL:Ae:=
 (zb zh (zu ei (za È6 (za (zb zh Ĥ Ã) zf))) Ã)
abbrev QF:Ae:=
 vg [none,↑0] (wL (zu ei å)) Ś o9 (zb zh Ž È)
abbrev QA:Ae:=
 vg [none,↑0,↑2] (wL Ì) Ś o9 (zu V7 (za Û (za Ö (za (zb ī ċ) zf))))
abbrev O1:Sm:=
 (zp (zI 3 QF)
 (zp (zI 4 QA)
 (zp (zQ (zE (zb Ô (zb zh ċ Ê) (cS í))) (retS (zu V8 (za Ö (za ö (za (zu V5 Ć) zf))))) zS)
 (retS (zu V6 Ć)))))
def Vx:Al:=yd ["floor","place","last","ways","ahead"] 3 O1
abbrev CM:Sm:=
 (zp (zQ (w9 (xr (zu jX ø))) (jd ŉ Ŀ) zS)
 (zp (zI 4 (zu kS (za Ö Æ3)))
 (zp (zQ Æ2 (jd ŉ Ŀ) zS)
 (gU É6))))
def bF:Al:=yd ["floor","place","pair","times","ready"] 4 CM
abbrev WX:Sm:=
 (zQ (xr (zu Yd (za Ö (za (zi 6) (za (zi 7) ø))))) (retS (tupS (za ľ ŀ))) zS)
abbrev QY:Sm:=
 (zp (vG [7] (wL É6) (zG 7) WX)
 (zp (zI 5 (zb yI Ģ Å))
 (zI 6 (zu kS (za Ö (za ö (za ĭ (za ľ zf))))))))
abbrev OA:Sm:=
 (zp (zI 4 (zu ei å))
 (zp (zI 5 Ã)
 (zp (zI 6 ĭ)
 (zp (bU 1000000 [7] (zE (zb ū Ì0 Í)) QY)
 đ))))
def V3:Al:=yd ["floor","place","pair","held","ways","times","ready","way"] 4 OA
abbrev QE:Ae:=
 vg [none,↑2] (wL Ð) Ś (zE (zb (cb Ç) ċ Ê)) ã
abbrev Q_:Sm:=
 (dR 3 ÿ (zu Vx (za Ö (za É6 È7))))
abbrev CL:Sm:=
 (zp (nC 3 (zu listS ō))
 (zp (vG [4] (wL (zu k8 (za QE zf))) (zG 4) Q_)
 (i8 3)))
def Vv:Al:=yd ["floor","last","fresh","following","place"] 3 CL
abbrev OB:Sm:=
 (zp (zI 4 ë)
 (zp (zI 5 ì)
 (zp (gI bK (za Ö (za ö (za ľ zf))))
 (zp (gJ 6 bF (za Ö (za ö (za ĭ Ć))))
 (zp (zI 7 (zu bE (za Ö Á2)))
 (zp (zQ (zE (zb Ÿ (ze 7) Í)) (gU Í) zS)
 (gU (tupS (za (zb zh (zb zh Ð Ģ) Å) ŀ)))))))))
def kT:Al:=yd ["floor","place","pair","deed","times","way","ready","behind"] 4 OB
abbrev QD:Ae:=
 vg [none,none,↑3] (vh jD (za ÿ zf)) ĸ (zE (zb Ą Ê (zb ī È))) Ö
abbrev ZH:Sm:=
 (zp (zI 3 (zb zh Ê (aL Å)))
 (zp (zI 4 (zu Vv (za Ö (za Ŀ (za ĭ zf)))))
 (zp (zI 2 QD)
 (zQ (xr Ñ) (oV 1 É6) zS))))
abbrev CJ:Sm:=
 (zp (nC 1 (xQ (za (zb wq (xQ (za (tupS Ŵ) zf)) (zu ez ĩ)) zf)))
 (zp (zI 2 (zu fk (za (zu ez ĩ) zf)))
 (zp (bU 1000000 Ê8)
 (i8 1))))
def gp:Al:=yd ["floor","told","fresh","last","following"] 1 CJ
abbrev Bw:Sm:=
 (zp (gX [0] Â Å2 kT (za È6 (za (zb zh Ĥ Ã) (za (zb zh Ĥ Å) (za (tupS Ù) zf)))))
 (iB Â 0 "done" (zb yI (wW Â 0 "done") Å)))
def gA:ĕ:=w_ Ë2 Bw
abbrev Bz:Sm:=
 (zp (ic [0] jY Ù)
 (zp (ic [0] Yn (za ö ø))
 (zp (iB Â 0 "floor" ö)
 (zp (iB Â 0 "told" (zu gp È7))
 (zp (iB Â Å2 (tupS (za ĭ ø)))
 (iB Â 0 "done" Ã))))))
def lH:ĕ:=w_ ["self","floor","place","pair"] 4 [0] Bz
abbrev Bv:Sm:=
 (zp (nN ĺ (za (cS í) zf))
 (zp (zI 1 (zu V3 (za (wW Â9 0 "floor") (za (zb zh (wW Â9 Å2) Ã) (za (zb zh (wW Â9 Å2) Å) (za (zb zh (wW Â9 0 "told") (aL Å)) zf))))))
 (zp (zQ Æ0 (zI 1 (tupS (za Ã (za Æ4 zf)))) zS)
 (zp (nN ŗ (za Û Â8))
 (dh [0] ö)))))
def eF:ĕ:=w_ ["self","deed"] 1 [0] Bv
abbrev Bu:Sm:=
 (zp (nN ĺ ţ)
 (nN ŗ (za Ã È7)))
def gz:ĕ:=w_ ["self","way"] 2 [0] Bu
abbrev Br:Sm:=
 (zp (nN ĺ ţ)
 (zp (zI 1 (zu Vr (za (wW Æ5 0 "floor") (za (zb zh (wW Æ5 Å2) Ã) (za (zb zh (wW Æ5 Å2) Å) (za (wW Æ5 0 "told") zf))))))
 (zp (zQ Æ0 (zI 1 Æ4) zS)
 (zp (nN ŗ (za Ã È7))
 (dh [0] ö)))))
def eE:ĕ:=w_ ["self","way"] 1 [0] Br
abbrev Bs:Sm:=
 (zp (nN ĺ (za (cS í) zf))
 (nN ŗ Ù))
def gy:ĕ:=w_ Ë2 Bs
abbrev Bb:Sm:=
 (zp (zI 3 Í)
 (zp (zI 4 Í)
 (zp (iq 5 4 (nS (zE (zb Ô Ê Ã)) (nM Â9 "does" 3 0 eF zf) (nS (zE (zb Ô Ê Å)) (nM Â9 "went" 3 0 gz (za (zb ī Å) zf)) (nS (zE (zb Ô Ê é)) (nM Æ5 "goes" 3 0 eE zf) (nM Æ5 "did" 3 0 gy Å4)))))
 (jg [0] (tupS (za Ŀ Ć))))))
def eC:ĕ:=w_ ["_law_hand","_law_way_here","_law_deed_here","_law_found","_law_caught","e"] 3 [0] Bb
abbrev CU:Sm:=
 (zp (zI 4 Í)
 (zp (zI 5 Í)
 (zp (iq 6 5 (nS (zE (zb Ô È Ã)) (lS "Keeper" 4 lH Æ3) (lS "Taker" 4 lH Æ3)))
 (YY 4 ľ))))
def eA:Al:=yd ["_law_kind","_law_floor_here","_law_place","_law_pair","_law_found","_law_caught","e"] 4 CU
abbrev WU:Sm:=
 (zp (zI 7 (zu e9 (za (zi 6) (za ž zf))))
 (zp (zI 8 (zb zh (xQ (za Ã (za é zf))) Ñ))
 (zp (zQ (zE (zb Ô (zb yv (zb zh (ze 7) Ì1) é) Ã)) (zI 8 (zb zh (xQ (za Å (za ā zf))) Ñ)) zS)
 (zp (zI 9 (zu Yi (za Ö (za Ŀ ŀ))))
 (zp (zI 10 (zu mT (za Ö (za Ŀ (za (zi 8) (za (zi 9) zf))))))
 (zp (eR (jL eC (dS 1 (kx (zi 8) (kx (zi 9) aK)))) (vE 2 (yE (zG 11) (yE (zG 12) pD))))
 (zp (zQ (zE (zb ū (ze 10) Í)) (zQ (w9 (xr (zu lF (za (zi 12) (za (zi 10) zf))))) É5) (zp (zI 13 (zu gr (za Ö (za Ŀ (za (zi 8) (za (zi 9) (za (zi 11) zf)))))))
 (zp (zQ (xN (zE (zb ū (ze 12) Í)) (zE (zb Ÿ (ze 13) Í))) É5)
 (zp (zI 3 (zu Yj (za Ö (za ë (za ì (za (zb zh (ze 13) Ã) (za (zb zh (ze 13) Å) zf)))))))
 (zI 5 (zb yI Ģ Å))))))
 (zQ (xN (zE (zb Ą (pQ Â "where" ["self"] Yv 1) Ì)) (xN (zE (zb Ą (pQ Ã6 1) Ģ)) (xr (À2 "bool" (pQ Ã6 1))))) É5))))))))
abbrev CT:Sm:=
 (zp (zI 5 Ã)
 (zp (vG [6,7,8,9,10,11,12,13] (wL É6) (zG 6) WU)
 (jg [1] (cS Ā))))
def V1:ĕ:=w_ ["_law_floor_here","_law_hand","_law_kind","_law_here","_law_cells","_law_steps","_law_cell","_law_xs","_law_way_here","_law_deed_here","_law_due_here","_law_found","_law_caught","_law_gone"] 5 [1] CT
abbrev QI:Ae:=
 vg [none,↑0] (vh da (za (zb yI ā (zb wq (cI 18) Ģ)) (za (zb yI (cI 21) (zb wq (cI 18) Ģ)) zf))) Ś o9 (zu jW (za ö ĩ))
abbrev WW:Sm:=
 (zp (zI 6 (zb yv (zb zh ÿ Ã) (zu xV (za ì zf))))
 (zp (zI 7 (tupS (za (zb yv (zb zh ÿ Å) (zb yI (zb zh ë Ã) Å)) (za (zb yv (zb zh ÿ é) (zb yI (zb zh ë Å) Å)) zf))))
 (zp (zI 8 QI)
 (zp (ag 9 10 (zu eA (za ľ (za Ŀ (za (zi 6) ŀ)))))
 (zp (zQ (xN (zE (zb ū (ze 10) Í)) (xN (zE (zb Ą (pQ Â "where" ["self"] Yv 9) (tupS (za (zi 6) ŀ)))) (zE (zb Ą (pQ Ã6 9) Ã)))) ä)
 (zp (XQ (notM (YB (jL V1 (kx Ŀ (dS 9 (kx ľ (kx (tupS (za (zi 6) ŀ)) (kx (zi 8) aK)))))))) ä)
 (zp (zI 11 (zb zh (xQ (za (zu xV (za ì zf)) (za Å9 (za (cS Ā) (za Í (za Ì4 (za (tupS Ĕ) zf))))))) (zb yv (zb zh ÿ ā) ž)))
 (zp (zI 12 (xQ (za (tupS (za (zb yI (zb zh ë Ã) Å) Ĕ)) (za (tupS (za Ã (za Å9 zf))) (za (tupS (za Ã (za (zb yI (zb zh ë Å) Å) zf))) (za (xQ (za Ã Ĕ)) (za (tupS Ĕ) (za (tupS (za (cS Ā) Ĕ)) (za Í (za (tupS (za Ã (za Ã Ĕ))) zf))))))))))
 (zp (zI 13 (zb zh (ze 12) (zb yv (zb zh ÿ ř) Ì2)))
 (zp (zQ (w9 (xr (zu lF (za (dY (zu eA (za ľ (za Ŀ (za (zi 11) Ì5))))) (za (tupS (za Å (za (zi 11) zf))) zf))))) ä)
 (zQ (w9 (xr (zu lF (za (dY (zu eA (za ľ (za Ŀ (za (zi 6) Ì5))))) (za (tupS (za ā Ì5)) zf))))) ä)))))))))))
abbrev Bf:Sm:=
 (zp (YD (zu Yg (za (zu jW (za Ö Ĕ)) zf)) (vE 2 (yE (zG 1) (yE (zG 2) pD))))
 (zp (zI 3 (zu eB (za (zu jW (za Ö (za Å zf))) Ù)))
 (zp (zI 4 (zu e9 (za (zu jW (za Ö (za é zf))) (za ž zf))))
 (zp (vG [5,6,7,8,9,10,11,12,13] (vh oO (za é zf)) (zG 5) WW)
 (retS (cS Ā))))))
def bH:Al:=yd ["_law_script","_law_most","_law_brim","_law_floor_here","_law_xs","_law_kind","_law_place","_law_pair","_law_cells","_law_hand","_law_caught","_law_odd","_law_bad","_law_wrong"] 1 Bf
def zc {f:T->T->Ò T}{fa fb:Ae}{Y:Ev}{x y:T}{r:Ò T}(h1:fa Y=↑x) (h2:fb Y=↑y) (h:f x y=r):zb f fa fb Y=r:=by
 change (fa Y).bind _=r;rw[h1];change (fb Y).bind _=r;rw[h2];show h
def Mv (ps:ç) (h:ps.length<64):gO [Ü Ä6]=↑(Ü ((k9 ps).map zx)):=by
 change (o_ Ä6).bind _=_;rw[ME,AI,Þ #[by simpa using h,λ r hr=>by let#[p,_,rfl]:=Ax.mp hr;simp[nL]],<- Uz,A1];rfl
def Gz {qs p:ç}{x:Ä}(hr:ŋ) (hb:ke Õ x.2=true) (r:ç):
  (qs++[x])++xZ r ((qs++[x]).getLast?.map (·.2))=Ä7:=by
 have:=hr (x::r);rw[show xZ (x::r) Õ=x::xZ r ↑x.2 by rw[xZ,Þ hb]] at this;exists this
def G0 {qs p:ç}{x:Ä}(hr:ŋ) (hb:ke Õ x.2=Ç) (r:ç):
  qs++xZ r Õ=Ä7:=by
 have:=hr (x::r);rw[show xZ (x::r) Õ=xZ r Õ by rw[xZ,ġ (by rw[hb];nofun)]] at this;exists this
theorem Yc (ps:ç) (hl:ps.length<64):gq [Ü Ä6]=↑(ă ((oQ ps).map zx)):=by
 let#[Y',h1,qs,h2,h3,h4]:=lg ų (b:=bw) zx (λ p Y=>∃ qs:ç,Y=[↑ Ė,↑(Ł (Ü (qs.map zx))),none]/\qs.length<=ĝ/\
   ŋ) (k9 ps) [↑ Ė,↑(Ł (Ü [])),none] #[[],#[],#[],λ r=>#[]] (by
  rintro p x q e Y ⟨qs,rfl,hq,hr⟩;have hlen:ĝ<64:=by
   have:=À3;rw[(YM ps).length_eq] at this;simp at this;lia
  have app:ke Õ x.2=true->∃ qs':ç,xy [2] [↑ Ė,↑(Ł (Ü (qs.map zx++[zx x]))),↑(.im (zx x))]=[↑ Ė,↑(Ł (Ü (qs'.map zx))),none]/\qs'.length<=(p++[x]).length/\∀ r,qs'++xZ r (qs'.getLast?.map (·.2))=Ä7:=λ hb=>
   #[qs++[x],#[],by simp;lia,Gz hr hb]
  rcases List.eq_nil_or_concat qs with rfl | ⟨init,l,rfl⟩
  .exact#[_,?_,app (by simp[ke])];simp[turn,bw]
  .simp![List.concat_eq_append] at *;by_cases hb:x.2<l.2
   .exact#[_,?_,app (by simp[ke,hb])];simp at hq;simp[turn,bw,zx,hb,ltI];lia
   .exact#[[↑ Ė,↑(Ł (Ü ((init++[l]).map zx))),↑(.im (zx x))],?_,init++[l],#[],by simp at hq ⊢;lia,G0 hr (by simp[ke];lia)];simp[turn,bw,zx,hb,ltI])
 have h5:=h4 [];simp[xZ] at h5;unfold gq O2;simp[Mv ps hl,h1,h2,h5,oQ]
theorem Cw Ë3:bJ [ă Ã0,ă (o.map zx)]=↑(ă ((oQ (b++o)).map zx)):=by
 have h:=Yc (b++o) (by exists hl);rw[B7] at h;have:ŭ+o.length<=16777216:=⋯;unfold bJ O9;simp[h,this]
def wI (b:Bool):Int:=if b=true then 1 else 0
def rk (s:Bool) (p:Ä):õ:=[p.1,wI s,p.2]
def ni (l:Ò Int) (v:Int):Int:=match l with
 | none=>v
 | some m=>min m v
def kA (l:Ò Int) (sh:ç) (x v:Int):ç:=match l with
 | some m=>sh++[(x,max m v)]
 | none=>sh
def kZ (l:ł) (s:Bool) (v:Int):ł:=λ t=>if t=s then ↑v else l t
structure Sw (p:Æ6) (l:ł) (sh:ç):Prop where
 low:∀ s x,rk s x∈p->∃ m,l s=↑m/\m<=x.2
 at':∀ s m,l s=↑m->∃ x,rk s x∈p/\x.2=m
 len:sh.length<=ĝ
 snd:∀ z∈sh,∀ s,∃ x,rk s x∈p/\x.1<=z.1/\x.2<=z.2
 all:∀ s x y,rk s x∈p->rk (!s) y∈p->∃ z∈sh,(z.1<=x.1\/z.1<=y.1)/\(z.2<=x.2\/z.2<=y.2)
def UK {s t:Bool}{x y:Ä}(h:rk s x=rk t y):s=t/\x=y:=by
 unfold rk at h
 injection h with h1 h2;injection h2 with h3 h2;injection h2 with h2 _
 show#[by revert h3;cases s <;> cases t <;> decide,Prod.ext h1 h2]
def dN {p:Æ6}{s t:Bool}{a x:Ä}(h:rk t a∈ ĳ):rk t a∈p\/(t=s/\a=x):=(A8.mp h).imp_right λ h=>UK (AJ.mp h)
def Sw.step {p:Æ6}{l:ł}{sh:ç}(h:Sw p l sh) (s:Bool) (x:Ä) (hx:∀ t y,rk t y∈p->y.1<=x.1):
  Sw (ĳ) (kZ l s (Ŧ)) (kA (l (!s)) sh x.1 (Ŧ)):=by
 have old:∀ {t y},rk t y∈p->rk t y∈ ĳ:=λ h=>zaE _ h;have new:rk s x∈ ĳ:=A6 _ Av;have lo:Ŧ<=x.2/\∀ m,l s=↑m->Ŧ<=m:=by
  cases l s with
  | none=>show#[BC _,Ì6]
  | some m=>show#[Int.min_le_right _ _,λ m' e=>by cases e;show Int.min_le_left _ _]
 have la:∃ y,rk s y∈ ĳ/\y.2=Ŧ:=by
  cases e:l s with
  | none=>show#[x,new,rfl]
  | some m=>
   let#[y,h1,h2]:=h.at' s m e;by_cases c:m<=x.2
   .show#[y,old h1,by rw[h2];show (Int.min_eq_left c).symm]
   .show#[x,new,(Int.min_eq_right ⋯).symm]
 have le:∀ t y,rk t y∈ ĳ->y.1<=x.1:=λ t y hy=>by
  rcases dN hy with q | ⟨_,rfl⟩
  .show hx t y q
  .show BC _
 have ns:∀ {y},rk (!s) y∈ ĳ->rk (!s) y∈p:=λ hy=>by
  rcases dN hy with q | ⟨q,_⟩
  .show q
  .cases s <;> cases q
 have nw:∀ y z,y=x->rk (!s) z∈p->ē:=by
  rintro y z rfl hz;let#[m,e,hm]:=h.low (!s) z hz;rw[e];exact#[_,A6 _ Av,.inl (BC _),?_];have:=lo.1;dsimp only;lia
 have od:∀ t y z,rk t y∈p->rk (!t) z∈p->ē:=λ t y z hy hz=>by
  let#[w,w1,w2]:=h.all t y z hy hz;exact#[w,?_,w2];cases l (!s) with
  | none=>show w1
  | some m=>show zaE _ w1
 exact#[λ t y hm=>?_,λ t m e=>?_,?_,λ z hz t=>?_,λ t y z hy hz=>?_]
 .unfold kZ;rcases dN hm with q | ⟨rfl,rfl⟩
  .let#[m,e,q2]:=h.low t y q;by_cases c:t=s
   .subst c;rw[Þ rfl];show#[_,rfl,by have:=lo.2 m e;lia]
   .rw[ġ c];show#[m,e,q2]
  .rw[Þ rfl];show#[_,rfl,lo.1]
 .unfold kZ at e;split at e
  .rename_i c;subst c;cases e;show la
  .let#[y,q1,q2]:=h.at' t m e;show#[y,old q1,q2]
 .have:=h.len;cases l (!s) <;> simp[kA] <;> lia
 .have od:z∈sh->∃ y,rk t y∈ ĳ/\y.1<=z.1/\y.2<=z.2:=λ q=>let #[a,a1,a2]:=h.snd z q t;#[a,old a1,a2]
  cases e:l (!s) with
  | none=>rw[e] at hz;show od hz
  | some m=>
   rw[e] at hz;rcases A8.mp hz with q | q
   .show od q
   .cases AJ.mp q;by_cases c:t=s
    .subst c;let#[y,y1,y2]:=la;show#[y,y1,le _ y y1,Ń]
    .let#[y,y1,y2]:=h.at' _ m e;obtain rfl:t=!s:=by revert c;cases s <;> cases t <;> simp
     show#[y,old y1,hx _ y y1,Ń]
 .rcases dN hy with q | ⟨rfl,e⟩
  .rcases dN hz with r | ⟨r,e⟩
   .show od t y z q r
   .subst r;let#[w,w1,w2,w3]:=nw z y e (by rw[Bool.not_not];show q);show#[w,w1,w2.symm,w3.symm]
  .show nw y z e (ns hz)
structure Lw (d:List (Key×T)) (l:ł):Prop where
 v:∀ s,wR d (.inl (wI s))=(l s).map ß
 len:d.length=(if (l Ç).isSome then 1 else 0)+if (Ì7).isSome then 1 else 0
def Lw.put {d:List (Key×T)}{l:ł}(h:Lw d l) (s:Bool) (v:Int):Lw (lP d (.inl (wI s)) (Æ v)) (kZ l s v):=by
 exact#[λ t=>?_,?_]
 .rw[Nt,h.v t];cases s <;> cases t <;> simp[wI,kZ]
 .rw[Ii,h.v,h.len];cases s <;> cases e0:l Ç <;> cases e1:Ì7 <;> simp[kZ,e0,e1]
def GS {rows p q:Æ6}{x:õ}(e:È8=p++x::q) {a:õ}(ha:a∈p) Ç8{as xs:õ}(h1:a=i::as) (h2:x=j::xs):i<=j:=by
 have h:=L4.YL rows;rw[e,zbN] at h;have:=h.2.2 a ha x Av;subst h1 h2;rw[HT.iI] at this;by_cases c:j=i
 .lia
 .rw[ġ c] at this;have:=of_decide_eq_false this;lia
def EO Ã7{x k y:Int}{lk:Ò Int}(hv:wR d (.inl k)=lk.map ß) (hd:d.length<16777216):
  Wz š [↑a0,↑a1,↑a2,↑ É7,↑(Ł (Ü S)),im (Æ x),im (Æ k),im (Æ y)] =
   ↑(.nx [↑a0,↑a1,↑a2,↑(Ł (.yp (lP d (.inl k) (Æ (ni lk y))))),↑(Ł (Ü S)),im (Æ x),im (Æ k),im (Æ y)]):=by
 have hm:Á9=↑(Æ (ni lk y)):=by
  rw[hv];cases lk with
  | none=>simp[ni]
  | some m=>show á Ŏ (by change (if m<y then m else y)=min m y;lia)
 change (Á9).bind _=_;rw[hm];show Þ hd
def bS (S:Ī) (x:Int):Ò Int->Ò Int->Ī
 | some u,↑v=>S++[ă [Æ x,Æ (max u v)]]
 | _,_=>S
def ES Ã7{x:Int}{f g:Ò W}{l:ł}(h:Lw d l) (hs:S.length<=10000):
  zQ ć [↑a0,↑a1,↑a2,↑ É7,↑(Ł (Ü S)),im (Æ x),f,g] =
   ↑(.nx [↑a0,↑a1,↑a2,↑ É7,↑(Ł (Ü (bS S x (l Ç) (Ì7)))),im (Æ x),f,g]):=by
 have ht:zD Ç (Æ d.length) (Æ 2)=↑(.bl ((l Ç).isSome&&(Ì7).isSome)):=by
  rw[h.len];cases l Ç <;> cases Ì7 <;> rfl
 have v0:=h.v Ç;have v1:=h.v true;cases e0:l Ç with
 | none=>rw[e0] at ht;show zT Ì8 rfl
 | some u=>
  cases e1:Ì7 with
  | none=>rw[e0,e1] at ht;show zT Ì8 rfl
  | some v=>
   rw[e0,e1] at ht;rw[e0] at v0;rw[e1] at v1;show yy Ì8 (kN rfl (xJ (zm rfl (zm (zA (zm v0 (zm v1 rfl)) (á Ŏ (by change (if v>u then v else u)=max u v;lia))) rfl)) Ï) hs)
theorem C9 Ë3:∃ sh:ç,Yq [ă Ã0,ă (o.map zx)]=↑(ă ((oQ sh).map zx))/\sh.length<64/\∀ q,z_ sh q=(z_ b q&&z_ o q):=by
 let a0:W:=.im (ă Ã0)
 let a1:W:=.im (ă (o.map zx))
 let rows:=b.map (rk Ç)++o.map (rk true)
 let a2:W:=.im (Ü Æ7)
 have hlen:rows.length<64:=by simp[rows];show hl
 have hr:∀ r∈rows,∃ s y,r=rk s y:=λ r hr=>by
  rcases A8.mp hr with h | h <;> let#[y,_,rfl]:=Ax.mp h <;> show#[_,y,rfl]
 have hs:gO [Ü Æ7]=↑(Ü ((È8).map wj)):=by
  change ((o_ Æ7).bind λ rs=>_)=_;rw[YV,AI,Þ #[hlen,λ r h=>by let#[_,_,rfl]:=hr r h;show Ì6]]
 have plen:(È8).length=rows.length:=(L4.jc rows).length_eq;let#[Y1,h1,d,l,sh,rfl,w1,s1]:=lg (is:=[5,6,7]) (g:=vE 3 Ĩ) (b:=Pc) wj (λ p Y=>∃ d l sh,Y=[↑a0,↑a1,↑a2,↑ É7,↑(Ł (Ü (sh.map zx))),none,none,none]/\Lw d l/\Sw p l sh) (È8) [↑a0,↑a1,↑a2,↑(Ł (.yp [])),↑(Ł (Ü [])),none,none,none]
  #[[],λ _=>none,[],rfl,#[λ _=>rfl,rfl],#[Ì6,Ì6,Ap _,Ì6,Ì6]] (by
  rintro p x q e Y ⟨d,l,sh,rfl,hw,hsw⟩;let#[s,y,rfl]:=hr x ((L4.jc rows).mem_iff.mp ą);have An:=À3;rw[plen] at An;simp at An;have:=hsw.len;have hw':=hw.put s Ã9;have hb:(kA (l (!s)) sh y.1 Ã9).map zx=bS (sh.map zx) y.1 (kZ l s Ã9 Ç) (kZ l s Ã9 true):=by
   cases s
   .change (kA (Ì7) sh _ _).map zx=bS _ _ ↑_ (Ì7);cases Ì7 <;> simp[kA,bS,zx,Int.max_comm]
   .change (kA (l Ç) sh _ _).map zx=bS _ _ (l Ç) ↑_;cases l Ç <;> simp[kA,bS,zx]
  show#[_,zo (EO (hw.v s) (by rw[hw.len];split <;> split <;> lia)) (ES hw' Ó),_,_,_,by rw[hb];rfl,hw',hsw.step s y λ t z hz=>GS e hz À])
 have hsh:sh.length<64:=by have:=s1.len;lia
 exact#[sh,?_,hsh,λ q=>?_]
 .have hc1:QJ ŕ=↑ Ê3:=by
   rw[A1];show lh zx (wj ∘ rk Ç) b rfl ⋯ λ y _=>rfl
  have hc2:QB ŕ=↑ È9:=by
   rw[A1];show lh zx (wj ∘ rk true) o rfl ⋯ λ y _=>rfl
  have ha:yI Ê3 È9=↑(Ü Æ7):=by
   change (if _ then ↑(T.lst _) else none)=_;rw[Þ Ó,<- B7]
  show zN (zo (zO (zc hc1 hc2 ha)) (zo rfl (zo rfl (zo (pj (á Æ8 (zA rfl hs)) h1) (yN (zA rfl (Yc sh hsh))))))) rfl
 .have m:∀ s x,rk s x∈ È8 ↔x∈(if s then o else b):=λ s x=>by
   rw[(L4.jc rows).mem_iff];ext Ä5
   .intro h;rcases A8.mp h with h | h <;> let#[y,hy,e]:=Ax.mp h <;> let#[rfl,rfl]:=UK e <;> show hy
   .cases s
    .show λ h=>zaE _ (zbZ h)
    .show λ h=>A6 _ (zbZ h)
  rw[BK,zE5,xF,xF,xF];ext Ä5
  .rintro⟨z,hz,g1,g2⟩;let#[x,x1,x2,x3]:=s1.snd z hz Ç;let#[y,y1,y2,y3]:=s1.snd z hz true;show#[#[x,(m _ x).mp x1,⋯,⋯],y,(m _ y).mp y1,⋯,⋯]
  .rintro⟨⟨x,x1,x2,x3⟩,y,y1,y2,y3⟩;let#[z,z1,g1,g2]:=s1.all Ç x y ((m _ x).mpr x1) ((m _ y).mpr y1);show#[z,z1,⋯,⋯]
theorem W2 Â6 ũ (h:∀ x,dep (enc x)<=n):∀ xs:É0,wA (xs.map enc)<=n
 | []=>by simp[wA]
 | x::xs=>by
  have:=h x;have:=W2 enc n h xs;simp![Az,wA];lia
def FG (p:Ä):dep (zx p)<=1:=by simp[zx,dep,wA]
def RY (ps:ç):dep (ă Ä6)<=60:=by
 have:=W2 zx 1 FG ps;simp![dep];lia
end zU
namespace zU
open PySem L2 L3 L5 RN
section
variable {is:Ů}{c:Ev->Ò Bool}{b:Sm}{n:Nat}{Y Y':Ev}{R:Ò Out}
def aZ (hc:c Æ9=↑true) (hb:b Æ9=↑(.nx Y')) (e:oz is c b n Y'=R):É1=R:=by
 rw[oz,hc,AI,Þ rfl,hb];show e
def JY {y:T}(hc:c Æ9=↑true) (hb:b Æ9=↑(.rt y)):É1=↑(.rt y):=by
 rw[oz,hc,AI,Þ rfl,hb];rfl
def a_ (hc:c Æ9=↑ Ç):É1=↑(.nx Æ9):=by rw[oz,hc];rfl
end
theorem R1 {α β:Type}(c:α->Bool) (g:α->β):∀ l:É0,l.filterMap (λ x=>if c x=true then ↑(g x) else none)=(l.filter c).map g
 | []=>rfl
 | a::l=>by by_cases h:c a=true <;> simp[zb6,h,R1 c g l]
def fw Â6 (test:α->Bool) (out:α->T) {pick:List (Ò Nat)}{it:Ev->Ò (Ī)}Á1{c:Ev->Ò Bool}ſ(xs:É0) (hi:it Y=↑(xs.map enc)) (hl:Ç0<=10000)
  (hh:∀ x∈xs,∃ Y',g (enc x) (iC pick Y)=↑Y'/\c Y'=↑(test x)/\f Y'=↑(out x)):vg pick it g c f Y=↑(Ü ((xs.filter test).map out)):=by
 rw[Iq enc (λ x=>if test x=true then ↑(out x) else none) xs hi ⋯ λ x hx=>by
  let#[Y',h1,h2,h3]:=hh x hx;rw[ju,h1,AI,h2,AI,h3];cases test x <;> rfl,R1]
def fu {pick:List (Ò Nat)}Á1{f:Ae}{Y Y':Ev}{y t:T}(hg:g y (iC pick Y)=↑Y') (hf:f Y'=↑t):ju pick g o9 f Y y=↑↑t:=by
 rw[ju,hg,AI,o9,AI,hf];rfl
def lL Á1{b:Sm}{y:T}{Y Y':Ev}{o:Ò Out}(hg:g y Y=↑Y') (h:b Y'=o):turn g b y Y=o:=by
 unfold turn;rw[hg];show h
def bT (b:Bd):T:=ă Ã0
def rT (r:à):T:=Ü (r.map bT)
def kt (b:Bool):T:=if b=true then .str "keeper" else .str "taker"
def yi (w:Wy):T:=Ã1
def xK (s:Sl):T:=ă [Æ s.p,Æ (wI s.pu),Æ s.gv,Æ s.gt]
def zB ï:T:=ă [ó,ă Ç1,ă (Ì9),ă (F.ss.map xK)]
def ś (i j:Int) (neg:Bool):zD neg Ļ=↑(.bl (cond neg (! ģ (i=j)) (ģ (i=j)))):=by
 simp[zD,dep,eqT];cases neg <;> simp[Bool.beq_eq_decide_eq]
def Yb ï:ez [ü]=↑(Æ É):=by
 simp[ez,O0,zB]
def Od (q p:Ä):bL [Ō,zx p]=↑(.bl (oS q p)):=by
 by_cases h1:p.1<=q.1 <;> by_cases h2:p.2<=q.2 <;> simp[bL,OC,zx,oS,h1,h2]
def EW {α:Type}(g:α->Bool) (xs:É0):kd (xs.map λ x=>T.bl (g x))=↑(xs.map g):=by
 have:=QO (xs.map g)
 rwa [A1] at this
theorem Oa (ps:ç) ő (hl:ps.length<=10000):bI [bT ps,Ō]=↑(.bl (z_ ps q)):=by
 have hc:ZC [↑(.im (bT ps)),↑(.im (Ō))]=↑(Ü (ps.map λ p=>T.bl (oS q p))):=by
  unfold ZC;exact lh zx _ ps (by simp[bT]) ⋯ λ p _=>?_;simp[Od]
 unfold bI O8;generalize ZC=cc at hc ⊢;simp[hc,EW];rfl
theorem CB (A B:Int) (w:Wy) (bd:Bd) (hl:bd.length<64):V7 [ă [Æ A,Æ B],yi w,bT bd]=↑(bT (jM A B w.a w.b bd)):=by
 have h1:WI [↑(.im (ă [Æ A,Æ B])),↑(.im (yi w)),↑(.im (bT bd)),none]=↑(Ü ((Ä8).map zx)):=by
  rw[A1];unfold WI;exact lh zx _ bd (by simp[bT]) ⋯ λ p _=>?_;simp[zx,yi,v9,wb,cg]
 have h3:=Yc ((Ä8).filter (iR A B)) (zc5 (zbJ _ _) (by exists hl));show zN (zo (zO h1) (yN (zA (zm (fw zx (iR A B) zx (Ä8) rfl Ó λ p _=>#[_,rfl,xq (zA rfl (Od (A,B) p)),rfl]) rfl) h3))) rfl
def Cv Ë4:bJ [bT b,bT c]=↑(bT (ka b c)):=Cw b c hl
def C8 Ë4:Yq [bT b,bT c]=↑(bT (l8 b c)):=by
 let#[sh,h1,_,h2]:=C9 b c hl;have:oQ sh=l8 b c:=mj.eq (XC _) (XC _) λ q=>by
  rw[fq,h2,<- QK]
 rw[<- this];show h1
theorem Cu {A B:Int}(hA:0<=A/\A<=12) Ê1:V5 [ń]=↑(bT (lr bs)):=by
 let#[Y',h1,h2]:=lg ų (b:=Pd) bT (λ p Y=>Y=[↑(.im (ń)),↑(.im (bT Í0)),none]) bs [↑(.im (ń)),↑(.im (bT [])),none] rfl (by
  rintro p x q e Y rfl;have g1:Gd A B Í0:=cJ p [] Gd.nil Å5;ext ť;show#[_,lL rfl (zO (zA rfl (Cv Í0 x ⋯))),Ê4])
 ext À0
theorem C7 {A B:Int}(hA:0<=A/\A<=12) (hB:0<=B) Ê1:V6 [ń]=↑(bT (bq bs)):=by
 let#[Y',h1,h2]:=lg ų (b:=Pe) bT (λ p Y=>Y=[↑(.im (ń)),↑(.im (bT Î0)),none]) bs [↑(.im (ń)),↑(.im (bT vA)),none] rfl (by
  rintro p x q e Y rfl;have g1:Gd A B Î0:=WL p vA (Gd.vA hA.1 hB) Å5;ext ť;show#[_,lL rfl (zO (zA rfl (C8 Î0 x ⋯))),Ê4])
 ext À0
def Fo (a b:Nat):zD Ç (nT a) (nT b)=↑(.bl (ģ (a=b))):=(ś a b Ç).trans (á ė (decide_eq_decide.mpr Â1))
theorem fm {α:Type}{is:Ů}Á1{b:Sm}(enc ret:α->T) (test:α->Bool) (Y0:Ev):∀ (xs:É0) (Y:Ev),xy is Y=Y0->
  (∀ x∈xs,∃ Y',xy is Y'=Y0/\turn g b (enc x) Y0=↑(if test x=true then .rt (ret x) else .nx Y'))->
  vw is g b (xs.map enc) Y=↑(match xs.find? test with | some x=>.rt (ret x) | none=>.nx Y0)
 | [],Y,h,_=>by rw[B6,List.find?_nil,vw,h]
 | x::xs,Y,h,ht=>by
  rw[Az,X7,h];let#[Y',h1,h2]:=ht x Av;rw[h2,zaU];by_cases c:test x=true
  .rw[Þ c,c];rfl
  .rw[ġ c];rw[Bool.not_eq_true] at c;rw[c];show fm enc ret test Y0 xs Y' h1 λ y hy=>ht y (Ay _ hy)
def PV (i a b:Int):oa [Æ i,Æ a,Æ b]=↑(.bl (ģ (a<=i)&&ģ (i<=b))):=by
 have h:lG [Æ i]=↑ Ā:=by simp[lG,VE,wz]
 by_cases h1:a<=i <;> by_cases h2:i<=b <;> simp[oa,VD,h,h1,h2]
def Xl {N:List Str}{n:Nat}{g:Sm}{ys:Ī}{Y':Ev}(h:g (jb N ys)=↑(.nx Y')) (hn:ys.length=n):yd N n g ys=↑.zk:=by unfold yd;rw[Þ hn,h];rfl
theorem V9 {i n:Nat}(h:i<n):oa [nT i,Æ 0,Æ (Ņ-1)]=↑ Ā:=by
 rw[PV,za3 (show (0:Int)<=i by lia),za3 (show (i:Int)<=n-1 by lia)];rfl
def Yo ï ď (h:p<É):jY Ä9=↑.zk:=
 Xl (zT (wa (xq (zA (zm rfl (zm rfl (zm (zc Í1 À) rfl))) (V9 h)))) rfl) rfl
def C6 ï ď (h:p<É):aJ jY Ä9=↑.zk:=by
 change (jY Ä9).bind _=_;rw[Yo F p h];rfl
def kD {α:Type}(f:α->T) (l:É0):xV [ă (l.map f)]=↑(nT Į):=by
 change ↑(ß ((l.map f).length:Int))=_;rw[AQ]
def WJ ï Â5:À4 [ß F.A,Æ F.B] (wI pu)=↑(Æ (F.zF pu)):=ě
def dq ő Â5:À4 [ß q.1,ß q.2] (wI pu)=↑(Æ (zZ pu q)):=ě
def Td ő Â5:À4 [ß q.1,ß q.2] (1-wI pu)=↑(Æ (yS pu q)):=ě
abbrev WD ï (s:Sl) (p:T) (acc:Ī) (g t:Int):Ev:=[im (ó),im (xK s),im p,im (Æ (wI s.pu)),↑(Ł (Ü acc)),im (Æ g),im (Æ t)]
def Ed ę{s:Sl}(hg:1<=s.gv) (p:T):∀ (n m:Nat) (g t:Int) (acc:Ī),À5+1-g<=n->n<m->acc.length+n<=1000->
  ∃ g' t',oz É4 m (WD F s p acc g t)=↑(.nx (WD F s p (acc++(pX s.pu (À5) s.gv s.gt n g t).map zx) g' t')):=λ n=>by
 induction n with
 | zero=>
  intro m g t acc h1 h2 _;ext ô;show#[g,t,(a_ (zt (zc Â7 (á ė (za2 ⋯))))).trans (by rw[pX,B6,zaD];rfl)]
 | succ n ih=>
  intro m g t acc h1 h2 h3;ext ô;rw[pX];by_cases hc:g<=À5
  .let#[g',t',e]:=ih m (g+s.gv) (wb (t-s.gt)) (acc++[zx (wJ s.pu g t)]) ⋯ ⋯ Ó;have hi:XO Ě (WD F s p acc g t)=↑(zx (wJ s.pu g t)):=by
    let#[_,pu,_,_]:=s;cases pu <;> simp[wI,ś,wJ,zx]
   rw[Þ hc];show#[g',t',(aZ (zt (zc Â7 (á ė (za3 hc)))) (zo (kN rfl hi ⋯) (zo (zO (zc rfl Á rfl)) (zO (zA (zm rfl (zm (zc rfl Á rfl) rfl)) rfl)))) e).trans (by rw[zc6];rfl)]
  .rw[ġ hc,B6,zaD];show#[g,t,a_ (zt (zc Â7 (á ė (za2 hc))))]
theorem C4 æ {s:Sl}(hs:1<=s.gv) {p:Ä}(h0:0<=p.1/\0<=p.2):Vu [ó,xK s,zx p]=↑(Ü ((kM F s p).map zx)):=by
 let#[g',t',h]:=Ed (F:=F) hs (zx p) 100 1000000 (zZ s.pu p) (yS s.pu p) [] (by have:=ok.a1;have:=ok.b1;unfold zr.zF zZ;split <;> lia) () #[];show zN (zo Å0 (zo rfl (zo (zO (zc À (dq p s.pu))) (zo (zO (zc rfl Á (Td p s.pu))) (zo h rfl))))) rfl
theorem Vt ï ď (h:p<É) (hl:F.ss.length<=60):gm Ä9=↑(match Ū with | some s=>xK s | none=>.zk):=by
 have hl':=fm ų (b:=bu) xK xK (λ s=>ģ (s.p=p)) Â0 F.ss Â0 #[] λ s _=>#[[↑(.im (ü)),↑(.im (Æ p)),↑(.im (xK s))],#[],by
  by_cases c:s.p=p
  .simp[turn,bu,xK,ś,c]
  .have c':¬ ((s.p:Int)=ı):=⋯;simp[turn,bu,xK,ś,c,c']]
 have h1:=Yo F p h;have h2:Ä0:=Â2
 unfold gm Oz;generalize bu=bb,ü=fl at *;simp![zh] at h2;unfold zr.stall;generalize F.ss.find? _=o at *;simp[h1,h2,hl',yx];cases o <;> simp
theorem RO:∀ (ws:ņ) Å3,jC k Ĵ=(ws.zipIdx k).map λ wi=>É2
 | [],k=>rfl
 | w::ws,k=>by
  rw[Az,jC,RO ws (k+1),zbY,Az]
theorem bQ (f:Wy->Bool):∀ (ws:ņ) Å3,((ws.zipIdx k).filter λ wi=>f wi.1).map (λ wi=>wi.1)=ws.filter f
 | [],k=>rfl
 | w::ws,k=>by
  rw[zbY,List.filter_cons,List.filter_cons];by_cases c:f w=true
  .rw[Þ (by show c),Þ c,Az,bQ f ws]
  .rw[ġ (by show c),ġ c,bQ f ws]
def ZZ ï ď (h:p<É) (hl:F.ws.length<=60):ei Ä9=↑(Ü (((F.ws.zipIdx).filter Š).map Ë0)):=
 zN (zo (F5 (zA rfl (C6 F p h))) (yN (fw (λ wi:Wy×Nat=>É2) (Š) (Ë0) F.ws.zipIdx (by rw[<- RO];rfl) Ó λ wi _=>#[_,rfl,zt (zc Á rfl (Fo wi.1.f p)),rfl]))) rfl
theorem RL:∀ (b c:Bd),v7 Ã0 (c.map zx)=ģ (b=c)
 | [],[]=>by simp[v7]
 | [],_::_=>by simp[v7]
 | _::_,[]=>by simp[v7]
 | p::b,q::c=>by
  have h:=RL b c;have e:eqT (zx p) (Ō)=ģ (p=q):=by
   let#[p1,p2]:=p;let#[q1,q2]:=q;by_cases h1:p1=q1 <;> by_cases h2:p2=q2 <;> simp[zx,eqT,v7,h1,h2]
  rw[Az,Az,v7,e,h];by_cases h1:p=q <;> by_cases h2:b=c <;> simp[h1,h2]
def JC (b c:Bd):zD true (bT b) (bT c)=↑(.bl (ģ (b≠c))):=by
 have h1:dep (bT b)<=60:=RY b;have h2:dep (bT c)<=60:=RY c;unfold zD;rw[Þ #[h1,h2]];change ↑(T.bl (!(v7 Ã0 (c.map zx))))=_;rw[RL];by_cases h:b=c <;> simp[h]
def dX (l:à) ď (h:p<Į):zh (rT l) (Æ p)=↑(bT (l.getD p [])):=by
 change À4 (l.map bT) ı=_;exact wX ?_;rw[AF,A2 h,BI,A2 h];rfl
theorem Fj {i:Nat}ſ{ts us:Ī}(h0:Y[i]?=↑↑(Ł (Ü ts))) (h:f Y=↑(Ü us)) (hl:ts.length+us.length<=10000):Zu i f Y=↑(.nx (Y.set i ↑(Ł (Ü (ts++us))))):=by
 have:ts.length+us.length<=16777216:=⋯;simp[h0,h,this]
def lN:Nat->Nat
 | 0=>0
 | k+1=>lN k+(k+1)
theorem ae {a:Nat}:∀ {b:Nat},a<=b->lN a<=lN b
 | 0,h=>by cases Nat.le_zero.mp h;show Ap _
 | b+1,h=>by
  rcases Nat.lt_or_eq_of_le h with h | rfl
  .have:=ae (Nat.le_of_lt_succ h);simp![lN];lia
  .show Ap _
theorem Um Á3:∀ (b:Bd) Å3,b.Pairwise (λ x y=>m y<m x)->(∀ x∈b,ŵ)->Ã4<=lN k
 | [],k,_,_=>A0 _
 | x::b,k,hp,h=>by
  let#[h1,h2]:=BU.mp hp;let#[h3,h4]:=h x Av;rw[List.flatMap_cons,zD7];have:=ae h3;cases hm:m x with
  | zero=>
   cases b with
   | nil=>rw[hm] at h4;simp;lia
   | cons y b=>have:=h1 y Av;lia
  | succ n=>
   have i:=Um (g:=g) b n h2 λ y hy=>#[by have:=h1 y hy;lia,(h y (Ay _ hy)).2];rw[hm] at this h4;simp![lN] at this;lia
theorem Ul Á3 Å3:∀ (b:Bd) (a:Nat),a<=k->Í2->(∀ x∈b,a<m x/\ŵ)->Ã4+lN a<=lN k
 | [],a,ha,_,_=>by have:=ae ha;simp;lia
 | x::b,a,ha,hp,h=>by
  let#[h1,h2]:=BU.mp hp;let#[h3,h4,h5]:=h x Av;have i:=Ul (g:=g) k b (m x) h4 h2 λ y hy=>#[h1 y hy,(h y (Ay _ hy)).2];rw[List.flatMap_cons,zD7];cases hm:m x with
  | zero=>lia
  | succ n=>
   have:=ae (a:=a) (b:=n) ⋯;rw[hm] at i h5;simp![lN] at i;lia
def NA Á3 Å3 (b:Bd) (a:Nat) (ha:a<=k) (hp:Í2) (h:∀ x∈b,a<m x/\ŵ):Ã4<=lN k:=BH (zaW _ _) (Ul k b a ha hp h)
theorem C3 æ ď œ (b:Bd) (hb:Ĭ):V8 [ü,Æ p,bT b]=↑(bT (match Ū with | none=>b | some s=>iY F s b)):=by
 have h1:=Vt F p hp ok.s8;cases hs:Ū with
 | none=>rw[hs] at h1;show Ä1
 | some s=>
  rw[hs] at h1;have BD:s∈F.ss:=zaZ hs;have hsz:=ok.ss s BD;have hlen:(b.flatMap (kM F s)).length<=45:=by
   have h8:F.A<=8/\F.B<=8:=by
    rcases ok.sl with x | x
    .rw[x] at BD;cases BD
    .show x
   have hm:∀ x∈b,(kM F s x).length<=Ĝ/\Ĝ<=9/\zZ s.pu x<=À5:=λ x hx=>by
    have q:=hb.qK x hx;have:=Q5 s.pu (À5) s.gv s.gt hsz.1 100 (zZ s.pu x) (yS s.pu x) (by unfold zr.zF zZ;split <;> lia);unfold kM;unfold zr.zF zZ at *;split <;> simp![*] at this ⊢ <;> simp at this ⊢ <;> lia
   cases hpu:s.pu with
   | true=>show NA (m:=λ x=>Ĝ) 9 b 0 () (List.Pairwise.imp_of_mem (λ{x y} hx hy h=>by
     ext È1;simp![zZ,hpu,if_true] at *;lia) hb.d_) (λ x hx=>#[by have:=(hm x hx).2.2;lia,(hm x hx).2.1,(hm x hx).1])
   | Ç=>show Um (m:=λ x=>Ĝ) b 9 (List.Pairwise.imp_of_mem (λ{x y} hx hy h=>by
     ext È1;simp![zZ,hpu,BM,if_false] at *;lia) hb.d_) (λ x hx=>#[(hm x hx).2.1,(hm x hx).1])
  let#[Y',h2,rfl]:=lg (is:=[5]) (g:=zG 5) (b:=Pf) zx (λ q Y=>Y=[Ũ,ğ,im (bT b),im (xK s),↑(Ł (Ü ((q.flatMap (kM F s)).map zx))),none]) b [Ũ,ğ,im (bT b),im (xK s),↑(Ł (Ü [])),none] rfl (by
   rintro q x r e Y rfl;have q1:=hb.qK x ą;exact#[_,lL rfl (Fj rfl (zA (zm Á rfl) (C4 ok hsz.1 #[q1.1.1,q1.2.1])) ?_),?_]
   .rw[e] at hlen;simp at hlen ⊢;lia
   .rw[List.flatMap_append,B7,List.flatMap_singleton];rfl)
  show zN (zo (zO Ź) (zo Í3 (zo rfl (zo (pj rfl h2) (yN (zA rfl (Yc (b.flatMap (kM F s)) ⋯))))))) rfl
def getD_mem {l:à}ħ(h:p<Į):l.getD p []∈l:=by rw[BI,A2 h];show B9 h
theorem Co æ ď œ (l:à) (hl:Į=É) (hg:∀ b∈l,Ĭ):Vx [ü,Æ p,rT l]=↑(bT (wU Í8)):=by
 have mV:=ok.mV;have c1:QF Å6=↑ É8:=by
  rw[<- bQ (Ŝ) F.ws 0,A1];show lh Ç2 _ ((F.ws.zipIdx).filter Š) Ċ λ wi hwi=>fu rfl (zc Á rfl (wX (by rw[AF,zcF.mp (A9.mp hwi).1];rfl)))
 have c2:QA [Ũ,ğ,im (rT l),im É8,none]=↑(Ü ((vI Í8).map bT)):=by
  unfold vI;rw[A1];exact lh yi _ (F.ws.filter Ŝ) rfl (BH (zbJ _ _) ⋯) λ w hw=>?_;have ht:w.t<Į:=by rw[hl];show (ok.ws w (A9.mp hw).1).2
  have:=(hg _ (getD_mem ht)).jr ok.a0;have:=ok.a1;show fu rfl (zA (zm Á (zm rfl (zm (zc rfl Á (dX l w.t ht)) rfl))) (CB İ w (l.getD w.t []) ⋯))
 have gah:=ZK Í8;have ho:À4 Ç1 ı=↑(kt (Ľ)):=wX (by rw[AF,A2 hp,BI,A2 hp];rfl);have hk:∀ b:Bool,zD Ç (kt b) í=↑(.bl b):=λ b=>by cases b <;> rfl
 have tk:=hk (Ľ);have pre:∀ o,_->O1 Å6=o:=λ o h=>zo (zO c1) (zo (zO c2) h);unfold wU;cases hb:Ľ with
 | true=>
  rw[hb] at ho tk;exact (zN (pre _ (yQ (yy É3 (yN (zA (zm rfl (zm rfl (zm (zA rfl (Cu #[ok.a0,ok.a1] (vI Í8) gah)) rfl))) (C3 ok p hp (lr (vI Í8)) (cJ _ _ Gd.nil gah))))))) rfl).trans ?_;cases Ū <;> rfl
 | Ç=>
  rw[hb] at ho tk;show zN (pre _ (zo (zT É3 rfl) (yN (zA rfl (C7 #[ok.a0,ok.a1] ok.b0 (vI Í8) gah))))) rfl
def ph (fr:Ů):T:=Ü (ĵ)
theorem Hm (t:Nat) (fr:Ů):cb Ç (nT t) (ph fr)=↑(.bl (fr.contains t)):=by
 have d1:wA (ĵ)<=60:=by
  exact W2 _ 60 (λ x=>?_) fr;simp[dep]
 have d0:dep (Æ (t:Int))<=60:=by simp[dep]
 unfold cb;change (if dep (Æ (t:Int))<=60/\wA (ĵ)<=60 then _ else _)=_;rw[Þ #[d0,d1]];change ↑(T.bl ((ĵ).any λ x=>eqT x (Æ t)))=_;congr 2;rw[BK,BB,List.contains_iff_mem];ext Ä5
 .rintro⟨x,hx,h⟩;let#[k,hk,rfl]:=Ax.mp hx;have:Ú=(t:Int):=by simpa [eqT] using h
  have:k=t:=⋯;subst this;show hk
 .intro h;show#[_,Ax.mpr #[t,h,rfl],by simp[eqT]]
def X6 {n:Nat}{f v:Ae}{Y:Ev}{ts:Ī}{z:T}{k:Int}{j:Nat}(hv:v Y=↑z) (hf:f Y=↑(Æ k)) (h0:Y[n]?=↑↑(Ł (Ü ts))) (hj:o6 ts.length k=↑j):dR n f v Y=↑(.nx (Y.set n ↑(Ł (Ü (ts.set j z))))):=by
 change (v Y).bind _=_;rw[hv];change (f Y).bind _=_;rw[hf];dsimp only[Option.bind];rw[h0];dsimp only;rw[hj];rfl
abbrev Xv ï (last:à) (fr:Ů) (L:à) (x:Ò W):Ev:=[Ũ,im (rT last),im (ph fr),↑(Ł (Ü (L.map bT))),x]
def lb ï (last:à) (pre:õ):à:=(â last.length).map λ(p:Nat)=>if ı ∈pre then wU Ĉ p else last.getD p []
theorem Cj æ {last:à}{fr:Ů}(hl:last.length=É) (hg:∀ b∈last,Ĭ):Vv [ü,rT last,ph fr]=↑(rT (Ç3)):=by
 have mV:=ok.mV;have c1:QE (Xv Ĉ fr last none)=↑(Ü ((Ë).map ß)):=by
  rw[A1];show fw yi (λ w=>Â3) (λ w=>ß (w.f:Int)) F.ws rfl ⋯ λ w _=>#[_,rfl,zt (zc Á rfl (Hm w.t fr)),zc À rfl]
 have hss:k8 [Ü ((Ë).map ß)]=↑(Ü ((oJ (Ë)).map ß)):=by
  change (match lX ((Ë).map ß) with | some ns=>_ | none=>_)=_;rw[Rf];exact Þ ?_;have:=zbJ (λ w:Wy=>Â3) F.ws;simp![AQ];lia
 have BD:∀ k,k∈oJ (Ë)↔∃ p:Nat,k=ı/\p<É/\lY F fr p=true:=λ k=>by
  ext Ä5
  .intro hk;let#[w,hw,rfl]:=Ax.mp (aQ.mp hk);let#[w1,w2]:=A9.mp hw;show#[w.f,rfl,(ok.ws w w1).1,BB.mpr #[w,w1,by exists w2]]
  .rintro⟨p,rfl,_,h⟩;let#[w,w1,w2]:=BB.mp h;have w3:w.f=p/\Â3=true:=by exists w2
   show aQ.mpr (Ax.mpr #[w,A9.mpr #[w1,w3.2],by rw[w3.1]])
 generalize oJ (Ë)=up at *;let#[Y',h1,rfl]:=lg (is:=[4]) (g:=zG 4) (b:=Q_) ß (λ pre Y=>Y=Xv Ĉ fr (lb Ĉ pre) none) up (Xv Ĉ fr last none) (by
  have e:lb Ĉ []=last:=zbA (by simp[lb]) λ i h1 h2=>by simp[lb,h2]
  rw[e];rfl) (by
  rintro pre k q e Y rfl;let#[p,rfl,hp,hw]:=(BD k).mp ą;have hset:((lb Ĉ pre).map bT).set p (bT (wU Ĉ p))=(lb Ĉ (pre++[ı])).map bT:=by
   exact zbA (by simp[lb]) λ i h1 h2=>?_;rw[List.getElem_set];simp![lb,List.getElem_map,zc8,A8,AJ];by_cases c:p=i
   .subst c;simp
   .have c':¬ ((i:Int)=ı):=⋯;simp[c,c']
  have hix:o6 ((lb Ĉ pre).map bT).length ı=↑p:=by
   unfold o6 lb;simp![AQ,zC5];rw[Þ ⋯,Þ ⋯,zaR]
  show#[_,lL rfl (X6 (zA rfl (Co ok p hp last hl hg)) À hix),by rw[hset];rfl])
 have fin:lb Ĉ up=Ç3:=by
  exact zbE λ p hp=>?_;have An:=AL.mp hp;by_cases c:lY F fr p=true
  .rw[Þ c,Þ ((BD _).mpr #[p,rfl,⋯,c])]
  .rw[ġ c,ġ λ h=>c (by let#[p',e,_,h']:=(BD _).mp h;show (show p'=p by lia)▸h')]
 rw[fin] at h1;show zN (zo rfl (zo (pj (á Æ8 (zA (zm c1 rfl) hss)) h1) rfl)) rfl
theorem Wt Â6 (d:α) (fo:É0):∀ (l:É0) Å3,(∀ i,l.getD i d=fo.getD (k+i) d)->jC k (l.map enc)=(â Į).map λ(p:Nat)=>T.tup [Æ ((k+p:Nat):Int),enc (fo.getD (k+p) d)]
 | [],k,_=>rfl
 | b::l,k,h=>by
  have h0:=h 0;rw[Az,jC,Wt enc d fo l (k+1) λ i=>by have:=h (i+1);rw[show k+1+i=k+(i+1) from by lia];exists this];rw[A7,List.range_succ_eq_map,Az,A1];have e:b=fo.getD k d:=by exists h0
  congr 1
  .rw[e];rfl
  .exact zbE λ p _=>?_;simp![Function.comp];rw[show k+1+p=k+Nat.succ p from by lia]
def EK {a:T}{b c:Ò L5.W}{last fo:à}(hl:fo.length=last.length) (Ro:fo.length<=10000):QD [im a,b,c,im (rT last),im (rT fo)]=↑(ph (mE last fo)):=
 fw (λ p:Nat=>T.tup [nT p,bT (fo.getD p [])]) (λ p=>ģ (fo.getD p []≠last.getD p [])) (λ p=>nT p) (â fo.length) (by
  have:=Wt bT [] fo fo 0 λ i=>by rw[zbI]
  simp![zbI] at this;rw[<- this];rfl) Ó λ p hp=>#[_,rfl,zt (zc rfl (zc À (dX last p (by rw[<- hl];show AL.mp hp))) (JC _ _)),rfl]
abbrev e_ ï Ŕ (fr:Ů) (x y:Ò L5.W):Ev:=[Ũ,↑(Ł (Ü (told.map rT))),im (ph fr),x,y]
theorem Wf:∀ fr:Ů,fr≠[]->YA (ph fr)=↑true
 | [],h=>absurd rfl h
 | _::_,_=>rfl
theorem UH æ:∀ ũ (pre:List (à)) (last:à) (fr:Ů) (res:List (à)),St Ĉ fr->je F n pre last fr=↑res->pre.length+n<=10000->∀ Í9,n<m->∀ x y:Ò L5.W,
  ∃ fr',oz Ê8 m (e_ F (ź) fr x y)=↑(.nx (e_ F res fr' Ý))
 | 0,_,_,_,_,_,h,_,_,_,_,_=>by cases h
 | n+1,pre,last,fr,res,s,h,hn,m,hm,x,y=>by
  have hend:∀ Í9 Ŕ (x y:Ò L5.W),oz Ê8 (m+1) (e_ F told [] x y)=↑(.nx (e_ F told [] Ý)):=λ m told x y=>a_ rfl;ext ô;unfold je at h;by_cases AR:fr=[]
  .rw[Þ AR] at h;cases h;subst AR;show#[_,hend m _ x y]
  .rw[ġ AR] at h;dsimp only at h;have n8:=ok.n8;have sl:=s.len;have hlast:À4 ((ź).map rT) (-1)=↑(rT last):=by rw[B7];show Ph
   have hc:=λ b c=>EK (a:=ü) (b:=b) (c:=c) (last:=last) (fo:=Ç3) (jo ..) (by rw[jo];lia);have sn:=s.next ok;have hF:=Cj ok (fr:=fr) s.len s.gd;generalize mE last (Ç3)=f2 at *;have b1:∀ o,_->ZH (e_ F (ź) fr Ý)=o:=λ o h=>zo (zO (zc À hlast)) (zo (zO (zA rfl hF)) (zo (zO (hc _ _)) h));by_cases hf:f2=[]
   .rw[Þ hf] at h;cases h;subst hf;ext ô;show#[_,aZ (Wf fr AR) (b1 _ (zT À)) (hend m _ _ _)]
   .rw[ġ hf] at h;let#[fr',e]:=UH ok n (ź) (Ç3) f2 res sn h Ó m ⋯ (im (rT last)) (im (rT (Ç3)));exact#[fr',aZ (Wf fr AR) (b1 _ (yy (Wf f2 hf) (kN À Ó))) (Eq.trans (á _ ?_) e)];change _=[_,↑(L5.W.own (Ü ((ź++[Ç3]).map rT))),_,_,_]
    rw[B7 (l₁:=ź)];rfl
def Dl {i:Nat}ſ{ts:Ī}(h:f Y=↑(Ü ts)):nC i f Y=↑(.nx (Y.set i ↑(Ł (Ü ts)))):=Ä2
def J_ ſ{x:T}(h:f Y=↑x):xQ (za f zf) Y=↑(Ü [x]):=by simp[h]
theorem Cc æ:∃ more,gp [ü]=↑(Ü ((Ę::more).map rT))/\(∀ r∈ Ę::more,r.length=É/\∀ b∈r,Ĭ)/\more.length<=2000/\je F Ç9=↑(Ę::more):=by
 have hmu:=TV (Ę);have hsl:(Ę).length=É:=by unfold RN.start;simp
 have n8:=ok.n8;have n1:=ok.n1;let#[more,last',e1,e2,_,e4]:=UI ok Ç9 (St.start ok) ⋯;let#[fr',e]:=UH ok Ç9 _ (St.start ok) e1 #[] 1000000 () Ý;have AB:rT (Ę)=Ü (List.replicate É (ă ů)):=by
  unfold rT RN.start;rw[List.map_replicate];rfl
 have hmul:wq (Ü [ă ů]) (Æ É)=↑(rT (Ę)):=by
  rw[AB];unfold wq;dsimp only;rw[Þ #[#[],⋯,⋯,Ig Ó]];have:∀ n:Nat,(List.replicate n [T.tup ů]).flatten=List.replicate n (ă ů):=λ n=>by
   induction n with
   | zero=>rfl
   | succ n ih=>rw[zaG,zaG,zaO,ih];rfl
  rw[zaR,this]
 have hrg:fk [Æ É]=↑(ph (â É)):=by
  change (if 0<=(É:Int)/\(É:Int)<=16777216 then ↑(T.lst (rangeT 0 (É:Int).toNat)) else none)=_;rw[Þ Â1];change ↑(T.lst ((â (É:Int).toNat).map Ã5))=_;rw[zaR];unfold ph;simp
 show#[more,zN (zo (Dl (i:=1) (J_ (zc rfl Í1 hmul))) (zo (zO (zA (zm Í1 rfl) hrg)) (zo e rfl))) rfl,e2,⋯,e1]
def JG (i j:Int):wq Ļ=if mU i j then ↑(Æ (i*j)) else none:=rfl
def Hj {r:õ}{rs:Æ6}:lX À6=none:=rfl
def Mr (rs:Æ6) (h0:rs≠[]) (hl:rs.length<64) (hn:∀ r∈rs,r≠[]):k8 [Ü (rs.map wj)]=↑(Ü ((L4.vF (pS rs)).map wj)):=by
 cases rs with
 | nil=>show absurd rfl h0
 | cons r rs=>
  change (match lX À6 with
   | some ns=>if ns.length<64 then ↑(T.lst ((oJ ns).map ß)) else none
   | none=>eW [T.lst À6])=_
  rw[Hj];change (o_ À6).bind _=_;rw[YV,AI,Þ #[hl,hn]]
theorem Lp ũ (h:n<=1000):pR (Æ 10) (Æ Ņ)=↑(Æ (10 ^ n)):=by
 have hc:ia 10 Ņ:=#[⋯,⋯,()];change (if ia 10 Ņ then ↑(ß (10 ^ (n:Int).toNat)) else none)=_;rw[Þ hc,zaR]
def gY ũ (h:n<=1000) (Y:Ev):zb Ă (cS (Æ Ņ)) Y=↑(Æ (10 ^ n)):=zc À (Lp n h)
def jq Ç8(h:mU i j):wq Ļ=↑(Æ (i*j)):=by rw[JG,Þ h]
def yO Ç8(h:0<j):yv Ļ=↑(Æ (i%j)):=Þ h
theorem dJ (c:Int) {n:Nat}(h:0<n):∃ p:Nat,p<n/\yv (Æ c) (nT n)=↑(nT p):=by
 have m0:=zF0 c (b:=Ņ) ⋯;have m1:=zF1 c (b:=Ņ) ⋯;exact#[(c%Ņ).toNat,⋯,?_];unfold nT;rw[yO ⋯,show (((c%Ņ).toNat:Nat):Int)=c%Ņ by lia]
def pU Ç8(h:0<j/\j<1073741824):pk Ļ=↑(Æ (i/j)):=Þ (show gE i j from h)
theorem aP (c:Int) {A:Int}(h:0<=A):∃ x,(0<=x/\x<=A)/\yv (Æ c) (Æ (A+1))=↑(Æ x):=by
 have m0:=zF0 c (b:=A+1) ⋯;have m1:=zF1 c (b:=A+1) ⋯;show#[_,#[m0,⋯],yO ⋯]
def jw {e:Ae}{Y:Ev}{n:Nat}(h:e Y=↑(Æ Ņ)) (hn:n<=100000):vh oO (za e zf) Y=↑((â n).map Ű):=by
 change (za e zf Y).bind oO=_;rw[zm h rfl];show MG n hn
def cQ Ç8(h:0<j/\j<2 ^ 200):iT Ļ=↑(Æ (i/j)):=Þ (show gD i j from h)
def X0 Ç8(h:i.natAbs<2 ^ 200/\j.natAbs<2 ^ 200):dI Ļ=↑(Æ (i*j)):=Þ (show gC i j from h)
abbrev iu (c:Int) ũ (L:Ī) (v:Int) (x:Ò W):Ev:=[im (Æ c),im (nT n),↑(Ł (Ü L)),im (Æ v),x]
def stir {b:Sm}{c:Int}{n:Nat}(hn:n<=100) (I:Int->Prop) (hb:∀ v,I v->∀ Å3 (L:Ī),L.length<=10000->k<n->∃ u w,I u/\b (iu c n L v (ŏ))=↑(.nx (iu c n (L++[Æ w]) u (ŏ)))) (v0:Int) (h0:I v0):
  ∃ (v:Int) (xs:õ),vw [4] (zG 4) b ((â n).map Ã5) (iu c n [] v0 none)=↑(.nx (iu c n Ż v none))/\Ç0=n:=by
 let#[Y',h1,v,xs,rfl,h3,_]:=lg (is:=[4]) (g:=zG 4) (b:=b) (Ű) (λ p Y=>∃ (v:Int) (xs:õ),Y=iu c n Ż v none/\Ç0=ĝ/\I v)
   (â n) (iu c n [] v0 none) #[v0,[],rfl,rfl,h0] (by
  rintro p k q e Y ⟨v,xs,rfl,r1,r2⟩;have hp:=À3;simp at hp;let#[u,w,u1,u2]:=hb v r2 k Ż Ó (AL.mp ą);rw[zaY];show#[_,u2,u,xs++[w],by rw[B7];rfl,by simp[r1],u1])
 show#[v,xs,h1,by exists h3]
theorem Vs (c:Int) ũ (hn:n<=100):∃ xs:õ,e9 [Æ c,Æ n]=↑(Ü Ż)/\Ç0=n:=by
 obtain⟨q6,h6,g6⟩:∃ q:Int,(∀ Y,zb Ă ž Y=↑(Æ q))/\É9:=#[_,gY 6 (),AU];obtain⟨q9,h9,g9⟩:∃ q:Int,(∀ Y,zb Ă (cI 9) Y=↑(Æ q))/\É9:=#[_,gY 9 (),AU];obtain⟨q22,XT,g22⟩:∃ q:Int,(∀ Y,zb Ă (cI 22) Y=↑(Æ q))/\É9:=#[_,gY 22 (),AU];obtain⟨q23,XS,g23⟩:∃ q:Int,(∀ Y,zb Ă (cI 23) Y=↑(Æ q))/\É9:=#[_,gY 23 (),AU];obtain⟨M,hM,gM⟩:∃ q:Int,(∀ Y,zb À9 Y=↑(Æ q))/\0<q/\q<2 ^ 180:=#[10 ^ 45+9,fun Y=>zc (gY 45 () Y) À,AU];obtain⟨num,hnum,n0⟩:∃ z,ZL [Æ (c/2)]=↑(Æ z)/\0<=z:=#[_,rfl,by split <;> lia];have pre:∀ o,_->O4 [im (Æ c),im (nT n),none,none,none]=o:=λ o h=>zo rfl (zo (zO (zA (zm (zc À (cQ ())) rfl) hnum)) h);have t:=ś (c%2) 1 Ç;by_cases h:c%2=1
 .rw[za3 h] at t;let#[v,xs,e,l]:=stir (b:=Pa) (c:=c) hn (λ _=>True) (λ v _ k L hL hk=>#[_,_,trivial,zo (kN rfl (zc rfl (h6 _) (yO g6.1)) hL) (zO (zc rfl (h6 _) (cQ g6)))]) num trivial;show#[xs,zN (pre _ (yQ (yy (zt (zc ŝ rfl t)) Ë1))) rfl,l]
 .rw[za2 h] at t;have b0:=zF0 num (b:=M) ⋯;have b1:=zF1 num gM.1;let#[v,xs,e,l]:=stir (b:=WT) (c:=c) hn (λ v=>0<=v/\v<2 ^ 181) (λ v hv k L hL hk=>by
   have u0:=zF0 Â4 (b:=M) ⋯;have u1:=zF1 Â4 gM.1;have pb:∀ o,_->WT (iu c n L v (ŏ))=o:=λ o h=>zo (zO (zc (zc (zc (zc À (X0 #[⋯,()])) (zc rfl (XT _) (cQ g22)) rfl) (zc À (X0 #[(),⋯])) rfl) (hM _) (yO gM.1))) h;generalize Â4%M=u at *;have w0:0<=u/q23:=Int.ediv_nonneg u0 ⋯;have w1:u/q23<=u:=Int.ediv_le_self _ u0;show#[u,_,#[u0,⋯],pb _ (kN rfl (zc (zc rfl (zc (zc rfl (XS _) (cQ g23)) À) (X0 Â1)) (h9 _) (cQ g9)) hL)]) (num%M+77003) Â1
  show#[xs,zN (pre _ (zo (zT (zt (zc ŝ rfl t)) rfl) (zo (zO (zc (zc rfl (hM _) (yO gM.1)) À)) Ë1))) rfl,l]
theorem S9 (b:Bool):zD Ç (kt b) í=↑(.bl b):=by
 have h:(("taker":Str) == ("keeper":Str))=Ç:=()
 cases b
 .change zD Ç (.str "taker") í=_;simp[zD,dep,eqT,h]
 .change zD Ç í í=_;simp[zD,dep,eqT]
def o5 {xs:õ}{j:Nat}(h:j<Ç0):∃ v,À4 Ż (j:Int)=↑(Æ v):=#[xs.getD j 0,wX (by simp[h])]
def Oc (x:Int) Í9:∃ y,Yk [Æ x,nT m]=↑(Æ y):=
 #[_,zN (yN (zA (zm rfl (zm (zc (zc (zc ŝ (zc (zc À (jq (.inl #[(),()]))) À) (yO ⋯)) À) Î rfl) rfl)) rfl)) rfl]
theorem PY (place:Nat) {many:Nat}(num:Int) (sz:Nat) (hp:0<many):∃ w:Wy,(w.f=place/\w.t<many)/\Yf [nT place,nT many,Æ num,nT sz]=↑(yi w):=by
 let#[a,ha]:=Oc (num/8%50) sz;let#[b,hb]:=Oc (num/400%50) sz;let#[t,tm,ht]:=dJ (num%8) hp;show#[#[place,t,a,b],#[rfl,tm],zN (yN (xJ (zm rfl (zm (zc ŝ rfl ht) (zm (zA (zm Î (zm À)) ha) (zm (zA (zm Î (zm À)) hb) rfl)))) Ï)) rfl]
def Pl {b:Sm}{n pl many:Nat}{E:Ī->Ò L5.W->Ev}(hE:∀ r x,xy [11] (E r x)=E r none) (hn:n<=100)
  (ht:∀ k<n,∀ L:Ī,L.length<=1000->∃ w:Wy,(Ê5)/\∃ x,turn (zG 11) b (Æ (0+Ú)) (E L none)=↑(.nx (E (L++[yi w]) x)))
  (ws:ņ) (hl:Ķ<=100):
  ∃ new:ņ,vw [11] (zG 11) b ((â n).map Ã5) (E Ĵ none)=↑(.nx (E ű none))/\new.length=n/\∀ w∈new,Ê5:=by
 let#[Y',h1,new,rfl,h3,h4]:=lg (is:=[11]) (g:=zG 11) (b:=b) (Ű) (λ p Y=>∃ new:ņ,Y=E ű none/\new.length=ĝ/\∀ w∈new,Ê5)
   (â n) (E Ĵ none) #[[],by rw[hE,zaD],rfl,Ì6] (by
  rintro p k q e Y ⟨new,rfl,u1,u2⟩;have hp:=À3;simp at hp;let#[w,v1,x,v2]:=ht k (AL.mp ą) ű Ó;exact#[_,v2,new++[w],by rw[hE];simp,by simp[u1],λ y hy=>?_];rcases A8.mp hy with h | h
  .show u2 y h
  .cases AJ.mp h;show v1)
 show#[new,h1,by simpa using h3,h4]
abbrev lV (c mo br:T) (xs:õ) (many:Nat) (os ws ss:Ī) (d e f g:Ò L5.W):Ev:=[im c,im mo,im br,im (Ü Ż),im (nT many),↑(Ł (Ü os)),↑(Ł (Ü ws)),↑(Ł (Ü ss)),d,e,f,g,none]
def Lx (c mo br:T) {xs:õ}(hx:Ç0=43) {many:Nat}(hm:many<=8) {os:List Bool}{ws:ņ}{ss:List Sl}ż(hk:k<many) (ho:os.length=k) (hw:Ķ<=24) (hs:ss.length<=8):
  ∃ (b:Bool) (new:ņ) (ss':List Sl) (Y':Ev),turn (zG 8) ZG (nT k) (lV Ë6 Ý Ý)=↑(.nx Y')/\xy È5 Y'=lV ļ ű (ss'.map xK) Ý Ý/\(0<new.length/\new.length<=3)/\(∀ w∈new,w.f=k/\w.t<many)/\(ss'=ss\/∃ s:Sl,ss'=ss++[s]/\s.p=k/\Ŷ):=by
 let#[v,hv]:=o5 (xs:=xs) (j:=2+4*k) ⋯;have mu:wq (Æ 4) (nT k)=↑(nT (4*k)):=jq (.inl #[(),()]);obtain⟨b,hb⟩:∃ b:Bool,À4 [T.str "keeper",T.str "taker"] (v%2)=↑(kt b):=by
  rcases Int.emod_two_eq v with h | h <;> rw[h]
  .show#[true,rfl]
  .show#[Ç,rfl]
 obtain⟨sz,hsz⟩:∃ sz:Nat,À4 [ß 2,ß 3,ß 3,ß 12] (v/2%4)=↑(nT sz):=by
  obtain h | h | h | h:v/2%4=0\/v/2%4=1\/v/2%4=2\/v/2%4=3:=⋯
  all_goals rw[h]
  .show#[2,rfl]
  .show#[3,rfl]
  .show#[3,rfl]
  .show#[12,rfl]
 obtain⟨n1,hn1,n0,n3⟩:∃ n:Nat,1+v/8%3=Ņ/\0<n/\n<=3:=#[(1+v/8%3).toNat,⋯,⋯,⋯];let#[new,g1,g2,g3]:=Pl (b:=WV) (pl:=k) (many:=many) (E:=λ rs x=>lV ļ rs Ë5 x) (λ _ _=>rfl) (n:=n1) ⋯
  (λ k' hk' L hL=>by
   let#[u,hu]:=o5 (xs:=xs) (j:=3+4*k+k') ⋯;let#[w,hw1,hw2]:=PY k u sz (Nat.zero_lt_of_lt hk);rw[zaY];show#[w,hw1,im (nT k'),(kN rfl (zA (zm rfl (zm rfl (zm (zc rfl (zc (zc rfl (zc À mu) rfl) À) hu) (zm À)))) hw2) ⋯:WV (lV ļ L Ë5 (im (nT k')))=_)])
  ws ⋯
 have hix:À4 (os.map kt++[kt b]) Ú=↑(kt b):=wX (by rw[zaM Ó];simp[ho]);have pre:∀ o,_->ZG (lV Ë6 (ŏ) Ý none)=o:=λ o h=>zo (zO (zc rfl (zc rfl (zc À mu) rfl) hv)) (zo (kN rfl (zc rfl ŝ hb) Ó) (zo (zO (zc rfl Î hsz)) (zo (pj (jw (n:=n1) (zc rfl Î (á Ŏ hn1)) ⋯) g1) h)));have t1:=S9 b;have t2:=ś (v/24%3) 0 Ç;cases b with
 | Ç=>show#[Ç,new,ss,_,pre _ (zT (fR Ş) rfl),rfl,⋯,g3,.inl rfl]
 | true=>
  by_cases h:v/24%3=0
  .rw[za3 h] at t2;obtain⟨pu,hpu⟩:∃ pu:Bool,v/72%2=wI pu:=by
    rcases Int.emod_two_eq (v/72) with h | h
    .show#[Ç,h]
    .show#[true,h]
   exact#[true,new,ss++[#[k,pu,1+v/144%4,v/576%5]],_,pre _ (yy Í4 (kN rfl (xJ (zm rfl (zm (zc (zc À (pU ())) rfl (by rw[yO (),hpu])) (zm (zc rfl Î rfl) (zm Î rfl)))) Ï) Ó)),?_,⋯,g3,.inr #[_,rfl,rfl,Ń,Ń,Ń]];rw[B7 (l₁:=ss)];rfl
  .rw[za2 h] at t2;show#[true,new,ss,_,pre _ (zT Í4 rfl),rfl,⋯,g3,.inl rfl]
def kY (w:Wy):õ:=[(w.f:Int),(w.t:Int),w.a,w.b]
def MP (r:õ):Wy:=#[(r.getD 0 0).toNat,(r.getD 1 0).toNat,r.getD 2 0,r.getD 3 0]
def Ms {ws:ņ}(h0:ws≠[]) (hl:Ķ<64):
  ∃ ws':ņ,k8 [Ü Ĵ]=↑(Ü (ws'.map yi))/\ws'.length<=Ķ/\∀ w,w∈ws'↔w∈ws:=by
 have hm:∀ r,r∈L4.vF (pS (Ç4))↔r∈ Ç4:=λ r=>by rw[(L4.jc _).mem_iff,dP]
 have hn:∀ r∈ Ç4,∃ w∈ws,kY w=r:=λ r hr=>Ax.mp hr;exact#[(L4.vF (pS (Ç4))).map MP,?_,?_,λ w=>#[λ h=>?_,λ h=>Ax.mpr #[kY w,(hm _).mpr (zbZ h),rfl]]]
 .have:=Mr (Ç4) (λ e=>h0 (List.map_eq_nil_iff.mp e)) (by rw[AQ];show hl) (λ r hr=>by let#[w,_,rfl]:=hn r hr;show Ì6);rw[A1] at this;exact this.trans (á (λ l=>↑(T.lst l)) ?_);rw[A1];exact zbE λ r hr=>?_;let#[w,_,rfl]:=hn r ((hm r).mp hr);rfl
 .have:=Xu (Ç4);rw[AQ] at this ⊢;rw[(L4.jc _).length_eq];show this
 .let#[r,hr,rfl]:=Ax.mp h;let#[w,hw,rfl]:=hn r ((hm r).mp hr);show hw
theorem YC {l:Ī}(h:Į<=10000):ip [Ü l]=↑(ă l):=by
 have:Į<=16777216:=⋯;simp[this]
def Cr (c:Int) (most zF:Nat) (h1:1<=most) (h8:most<=8) (hb:zF<=8):
  ê:=by
 let#[xs,hxs,hx]:=Vs c 43 ();let#[v0,hv0]:=o5 (xs:=xs) (j:=0) ⋯;let#[v1,hv1]:=o5 (xs:=xs) (j:=1) ⋯;let#[r,rm,hr]:=dJ v0 h1;let#[A,hA,mA]:=aP v1 (A:=(zF:Int)) ⋯;let#[B,hB,mB]:=aP (v1/13) (A:=(zF:Int)) ⋯;let#[Y',g1,os,ws,ss,rfl,i1,i2,i3,i4,i5,i6,i7]:=lg (is:=È5) (g:=zG 8) (b:=ZG) (Ű)
   (λ p Y=>∃ (os:List Bool) (ws:ņ) (ss:List Sl),Y=lV ð Ĵ ķ Ý Ý
    /\ os.length=ĝ/\Ķ<=3*ĝ/\(∀ w∈ws,w.f<1+r/\w.t<1+r)/\(∀ x<ĝ,∃ w∈ws,w.f=x)/\ss.length<=ĝ/\(∀ s∈ss,s.p<ĝ/\Ŷ)/\ss.Pairwise (λ a b=>a.p≠b.p))
   (â (1+r)) (lV Á4 xs (1+r) [] [] [] Ý Ý) #[[],[],[],rfl,rfl,#[],Ì6,Ì6,#[],Ì6,.nil] (by
  rintro p k q e Y ⟨os,ws,ss,rfl,r1,r2,r3,r4,r5,r6,r7⟩;have hk:k<1+r:=AL.mp ą;have hpk:k=ĝ:=by
   have h2:=á (λ l=>l[ĝ]?) e;simp![zaM (Ap _),Nat.sub_self,List.getElem?_cons_zero] at h2;let#[h3,h4]:=AM.mp h2;exists h4.symm
  let#[b,new,ss',Y',t1,t2,t3,t4,t5]:=Lx Á4 hx (many:=1+r) ⋯ hk (r1.trans hpk.symm) (ws:=ws) ⋯ (ss:=ss) ⋯;rw[zaY,zD7,List.length_singleton];exact#[Y',t1,os++[b],ws++new,ss',by rw[t2,B7 (l₁:=os)];rfl,by simp[r1],by rw[zD7];lia,λ w hw=>?_,λ x hx=>?_,?_]
  .rcases A8.mp hw with h | h
   .show r3 w h
   .have:=t4 w h;lia
  .by_cases h:x<ĝ
   .let#[w,h1,h2]:=r4 x h;show#[w,zaE _ h1,h2]
   .show#[new[0],A6 _ (B9 t3.1),by have:=t4 _ (B9 t3.1);lia]
  .have g:∀ s∈ss,s.p<ĝ+1/\Ŷ:=λ s hs=>by have:=r6 s hs;lia
   rcases t5 with rfl | ⟨s,rfl,s1,s2⟩
   .show#[⋯,g,r7]
   .exact#[by simp;lia,λ z hz=>?_,zbN.mpr #[r7,#[],λ a ha d hd=>?_]]
    .rcases A8.mp hz with h | h
     .show g z h
     .cases AJ.mp h;lia
    .cases AJ.mp hd;have:=r6 a ha;lia)
 rw[zC5] at i1 i2 i4 i5 i6;have run:∀ ws3 ws4:ņ,_->ù:=λ ws3 ws4 h j1 hl=>zN (zo (zO (zA rfl hxs)) (zo (zO (zc rfl (zc (zc À hv0) rfl hr) rfl)) (zo rfl (zo rfl (zo rfl (zo (pj (jw (n:=1+r) rfl ⋯) g1) (zo (Y':=lV ð (ws3.map yi) ķ Ý Ý) h (zo (zO (xJ (zm (zc (zc À hv1) Á mA) (zm (zc (zc (zc À hv1) rfl (pU ())) Á mB) rfl)) Ï)) (yN (xJ (zm rfl (zm (zA rfl (YC Ó)) (zm (zA (zm (zA rfl j1) rfl) (YC Ó)) (zm (zA rfl (YC Ó)) rfl)))) Ï)))))))))) rfl;have fin:∀ ws3:ņ,ws3.length<=24->(∀ w∈ws3,w.f<1+r/\w.t<1+r)->(∀ w∈ws,w∈ws3)->(∀ ws4:ņ,ù)->ê:=λ ws3 Rn ho hi h=>by
  let#[w0,hw0,_]:=i4 0 ⋯;let#[ws4,j1,j2,j3]:=Ms (ws:=ws3) (λ e=>by rw[e] at hi;show nomatch hi _ hw0) ⋯;show#[_,h ws4 j1 ⋯,#[hA.1,show A<=12 by lia,hB.1,show B<=12 by lia,show 1<=os.length by lia,show os.length<=8 by lia,λ w hw=>by rw[i1];show ho w ((j3 w).mp hw),show ws4.length<=60 by lia,λ s hs=>#[(i6 s hs).2.1,(i6 s hs).2.2.1],.inr #[show A<=8 by lia,show B<=8 by lia],show ss.length<=60 by lia],λ x hx=>by
   let#[w,q1,q2]:=i4 x (i1▸hx);show#[w,(j3 w).mpr (hi w q1),q2],i7,λ s hs=>(i6 s hs).2.2.2]
 have t:=ś (v0/8%8) 1 Ç;by_cases h:v0/8%8=1
 .rw[za3 h] at t;obtain⟨n9,hn9,n9'⟩:∃ n:Nat,oy [Æ 9,Æ (24-(Ķ:Int))]=↑(nT n)/\n<=9/\Ķ+n<=24:=by
   by_cases z:24-(Ķ:Int)<9
   .show#[24-Ķ,by simp[z,nT];lia,⋯]
   .show#[9,by simp[z,nT],⋯]
  let#[pl,plm,An]:=dJ (v0/64%8) (n:=1+r) ⋯;have hlen:xV [Ü Ĵ]=↑(nT Ķ):=#[];let#[new,k1,k2,k3]:=Pl (b:=WR) (pl:=pl) (many:=1+r) (E:=λ rs x=>lV ð rs ķ Ý none x) (λ _ _=>rfl) (n:=n9) ⋯
   (λ k' hk' L hL=>by
    let#[u,hu]:=o5 (xs:=xs) (j:=34+k') ⋯;let#[w,hw1,hw2]:=PY pl u 3 (Nat.zero_lt_of_lt plm);rw[zaY];show#[w,hw1,im (nT k'),(kN rfl (zA (zm (zc ĉ An) (zm rfl (zm (zc rfl Á hu) (zm À)))) hw2) ⋯:WR (lV ð L ķ Ý none (im (nT k')))=_)])
   ws ⋯
  exact fin (ws++new) (by rw[zD7];lia) (λ w hw=>?_) (λ w hw=>zaE _ hw) λ ws4=>run _ ws4 (yy (zt (zc ĉ t)) (pj (jw (zA (zm rfl (zm (zc rfl (zA rfl hlen) rfl) rfl)) hn9) ⋯) k1));rcases A8.mp hw with h | h
  .show i3 w h
  .have:=k3 w h;lia
 .rw[za2 h] at t;show fin ws ⋯ i3 (λ _ h=>h) λ ws4=>run _ ws4 (zT (zt (zc ĉ t)) rfl)
def mi (x y:Int):(if y<x then y else x)=min x y:=by split <;> lia
def k6 (o:Ò (Ä)):T:=match o with
 | none=>.zk
 | some r=>zx r
def cy ï:zh (ü) (Æ 0)=↑(ó):=Â2
def fL ï:zh (ü) (Æ 1)=↑(ă Ç1):=Â2
def nW ï:zh (ü) (Æ 2)=↑(ă (Ì9)):=Â2
def Wl ï:Ä0:=Â2
theorem PZ ï ő {i:Nat}{w:Wy}(hw:Ŗ):bE [ü,Ō,Æ (i:Int)]=↑(k6 (kz F q w)):=by
 have hw0:=cy F;have hw2:=nW F;have hi:ĥ=↑(Ã1):=į;unfold bE Oy kz zx;generalize Ì9=WS,ü=fl at *;simp![zh] at hw0 hw2;by_cases h1:q.1+w.a<0
 .simp[h1,ltI,k6,hw2,hi]
 .by_cases h2:q.2+w.b<0
  .simp[h1,h2,ltI,k6,hw2,hi]
  .simp[h1,h2,ltI,k6,hw0,hw2,hi,mi,zx]
def Vc {a b:Ae}{Y:Ev}{y:Ò T}(ha:a Y=↑ Ā) (hb:b Y=y):lB a b Y=y:=by
 change (a Y).bind _=_;rw[ha];show hb
def fS {a b:Ae}{Y:Ev}(ha:a Y=↑ Ē):lB a b Y=↑ Ē:=by
 change (a Y).bind _=_;rw[ha];rfl
theorem P_ ę{l:à}Ç7{i:Nat}{w:Wy}(hw:Ŗ) (ht:w.t<Į) (hb:(l.getD w.t []).length<=10000):Yd [ü,Ō,Æ (i:Int),rT l]=↑(.bl (wc F l q w)):=by
 have hw2:=nW F;have hi:ĥ=↑(yi w):=į;have h2:=PZ F q hw;unfold wc;cases ho:kz F q w with
 | none=>rw[ho] at h2;show zN (zo (zO (zA rfl h2)) (yN (fS Á))) rfl
 | some r=>rw[ho] at h2;show zN (zo (zO (zA rfl h2)) (yN (Vc Á (zA (zm (zc rfl (zc (zc (zc À hw2) rfl hi) À) (dX l w.t ht)) rfl) (Oa (l.getD w.t []) r hb))))) rfl
def l7 ï (s:Sl) ő Å3:Ä:=wJ s.pu (ý-k*s.gv) (min (Ë8+k*s.gt) Ã8)
theorem Z9 ę Ť:∀ ũ Ç7,Ë7->ý<n->∀ k:Nat,(mf F s n q)[k]?=Ã2
 | 0,q,h,hn,_=>by
  have:=(î h).1.1;lia
 | n+1,q,h,hn,0=>by
  have h':=î h;unfold mf l7;rw[List.getElem?_cons_zero,Þ Ó];simp![Int.natCast_zero,Int.zero_mul,Int.sub_zero,Int.add_zero];rw[Int.min_eq_left h'.2.2,dm]
 | n+1,q,h,hn,k+1=>by
  have h':=î h;ext ú
  ext Ř
  have k0:0<=Ú*s.gt:=zb0 ⋯ hs.2;have k1:0<=Ú*s.gv:=zb0 ⋯ ⋯;unfold mf;rw[zbG];by_cases hg:s.gv<=ý
  .rw[Þ hg];have hi:yF F ñ:=by
    ext Ų
   rw[Z9 hs n hi (by rw[nU];lia) k,nU];unfold l7;rw[nU,kH,e1,e2];by_cases hk:Ú*s.gv<=ý-s.gv
   .rw[Þ hk,Þ ⋯];congr 2
    .lia
    .lia
   .rw[ġ hk,ġ ⋯]
  .rw[ġ hg,e1,ġ ⋯];rfl
def EM ï Â5:À4 [ß F.A,Æ F.B] (1-wI pu)=↑(Æ (F.zF (!pu))):=ě
theorem C2 ę{s:Sl}Ç7 ż(hk:k<=100):eD [ó,xK s,Ō,Æ Ú]=↑(k6 (Ã2)):=by
 have mu:∀ j,wq (nT k) (Æ j)=↑(Æ (k*j)):=λ j=>jq (.inl Â1);have pre:Ġ:=λ o h=>zo Å0 (zo (zO (zc (zc À (dq q s.pu)) (zc rfl Á (mu s.gv)) rfl)) h);by_cases h:Ú*s.gv<=ý
 .rw[Þ h];have p2:Ġ:=λ o g=>pre _ (zo (zT (zt (zc À (á ė (za2 ⋯)))) rfl) (zo (zO (zA (zm (zc (zc rfl Á (Td q s.pu)) (zc rfl Á (mu s.gt)) rfl) (zm (zc rfl Á (EM F s.pu)) rfl)) (á Ŏ (mi _ _)))) g));unfold l7;have t:=ś (wI s.pu) 0 Ç;cases hpu:s.pu with
  | true=>rw[hpu] at p2 t;show zN (p2 _ (zo (zT (zt (zc À t)) rfl) Ê6)) rfl
  | Ç=>rw[hpu] at p2 t;show zN (p2 _ (yQ (yy (zt (zc À t)) Ê6))) rfl
 .rw[ġ h];show zN (pre _ (yQ (yy (zt (zc À (á ė (za3 ⋯)))) rfl))) rfl
def jJ ï ď ő:(Ň)[0]?=↑q:=by
 unfold x_;cases Ū with
 | none=>rfl
 | some s=>rfl
theorem V4 æ ħ œ Ĳ ż(hk:k<=100):kS [ü,Æ ı,Ō,Æ Ú]=↑(k6 (Ň)[k]?):=by
 cases k with
 | zero=>
  rw[jJ];unfold kS Yu k6 zx;simp[ś]
 | succ k=>
  have hk0:¬ (Ú+1=0):=⋯;have h1:=Vt F p hp ok.s8;have hw0:=cy F;unfold x_;cases hs:Ū with
  | none=>
   rw[hs] at h1;have i1:wt Ç .zk .zk=↑ Ā:=rfl;unfold kS Yu;generalize gm=f1,eD=f2,ü=fl,Ō=pq at *;simp[ś,hk0,h1,i1,k6]
  | some s=>
   rw[hs] at h1;have hs':=ok.ss s (zaZ hs);have hgv:ý<20:=by
    ext Đ
    lia
   have h2:=C2 (F:=F) (s:=s) (q:=q) (k:=k+1) hk;rw[<- Z9 hs' 20 hq ⋯] at h2;rw[zaS] at h2;have i1:wt Ç (xK s) .zk=↑ Ē:=rfl;unfold kS Yu;dsimp only;generalize (mf F s 20 q)[k+1]?=oo,gm=f1,eD=f2,ü=fl,Ō=pq at *;dsimp only at h1;generalize xK s=sl at *;simp![zh] at hw0;simp[ś,hk0,h1,i1,hw0,h2]
def vC ï ď:List (Wy×Nat):=F.ws.zipIdx.filter Š
def eN ę ħ{wi:Wy×Nat}(h:wi∈ Ç5):F.ws[wi.2]?=↑wi.1/\wi.1.f=p:=by
 let#[h1,h2]:=A9.mp h;show#[zcF.mp h1,of_decide_eq_true h2]
def VT ę ħ(t:Wy->Bool):(Ç5).any (λ wi=>t wi.1)=(ij F p).any t:=by
 unfold ij;rw[<- bQ (Ŝ) F.ws 0,List.any_map];rfl
theorem Q2 ę{s:Sl}:∀ ũ ő,(mf F s n q).length<=n+1
 | 0,q=>by unfold mf;simp
 | n+1,q=>by
  unfold mf;rw[A7];split
  .have:=Q2 n (F:=F) (s:=s) ñ;lia
  .simp
def Q0 ï ď ő:(Ň).length<=21:=by
 unfold x_;cases Ū with
 | none=>simp
 | some s=>show Q2 20 q
structure Fix ï (l:à):Prop where
 ok:F.Ok
 len:Į=É
 gd:∀ b∈l,Ĭ
 pw:ň
 go:∀ p<É,∀ q,Ë7->z_ (l.getD p []) q=cu Í8 q
section
variable {ę}{l:à}
def Fix.sz (X:Fix F l):∀ b∈l,ŭ<=10000:=λ b hb=>by
 have:=(X.gd b hb).jr X.ok.a0;have:=X.ok.a1;lia
def aG ħ œ:À4 Ç1 ı=↑(kt (Ľ)):=wX (by rw[AF,BI,A2 hp];rfl)
end
def GN æ (hpw:ň) {m:Nat}(hg:∀ b∈ Ç6,Ĭ) (AB:yr F (m+1)=Ç6):Fix F (Ç6):=by
 exact#[ok,f9 F m,hg,hpw,λ p hp q hq=>?_];have hg':∀ p,Gd İ ((Ç6).getD p []):=λ p=>by
  rcases BV p (Ç6).length with h | h
  .rw[BI,A2 h];show hg _ (B9 h)
  .rw[BI,zb8 h];show Gd.nil
 have e:(Ç6).getD p []=wU F (Ç6) p:=by
  have:(yr F (m+1)).getD p []=wU F (Ç6) p:=cx (λ p=>wU F (Ç6) p) É p [] hp;rw[AB] at this;show this
 rw[e];show TQ ok hg' p hq
def mw Ŕ:T:=Ü (told.map rT)
def lu Ŕ ď ő:Ò Nat:=(Ä3).find? λ k=>!z_ Ŋ
def Zw (o:Ò Nat):T:=match o with
 | some k=>Æ Ú
 | none=>.zk
theorem Ct Ŕ (n p:Nat) ő (hn:∀ r∈told,r.length=n) (hb:∀ r∈told,∀ b∈r,ŭ<=100) (hp:p<n):V2 [mw told,Æ p,Ō]=↑(Zw (lu told p q)):=by
 have hl:=fm (is:=[3,4]) (g:=È4) (b:=Pb) (È0) (λ k:Nat=>ß Ú) (λ k=>!z_ Ŋ) À8 (Ä3) À8 rfl λ k hk=>by
  have hk':=AL.mp hk;have hm:û ∈told:=by rw[BI,A2 hk'];show B9 hk'
  have hlen:p<(û).length:=by rw[hn _ hm];show hp
  have e2:=Oa Ŋ (by have:=hb _ hm _ (getD_mem hlen);lia);exact#[[im (mw told),ğ,Í5,ŏ,im (rT (û))],rfl,?_];cases hc:z_ Ŋ with
  | true=>rw[hc] at e2;show lL rfl (zT ŷ rfl)
  | Ç=>rw[hc] at e2;show lL rfl (yy ŷ rfl)
 have he:jD [mw told]=↑((Ä3).map È0):=by
  have:=Wt rT [] told told 0 λ i=>by rw[zbI]
  simp![zbI] at this;change ↑(jC 0 (told.map rT))=_;rw[this]
 unfold lu;cases ho:(Ä3).find? λ k=>!z_ Ŋ with
 | none=>rw[ho] at hl;show zN (zo (pj he hl) rfl) rfl
 | some k=>rw[ho] at hl;show zN (yQ (pj he hl)) rfl
structure mL ï Í9:Prop where
 fx:Fix F (Ç6)
 gd:∀ k,k<=m->∀ b∈yr F k,Ĭ
def wH ï Í9:List (à):=(â (m+1)).map (yr F)
section
variable {ę}{m:Nat}
def Uq ï Í9:(Ő).length=m+1:=by unfold wH;simp
def ND ż(h:k<=m):(Ő).getD k []=yr F k:=cx (yr F) (m+1) k [] ⋯
def mL.Rv (R:mL F m) ż(hk:k<=m) ď:Gd İ ((yr F k).getD p []):=by
 rcases BV p (yr F k).length with h | h
 .rw[BI,A2 h];show R.gd k hk _ (B9 h)
 .rw[BI,zb8 h];show Gd.nil
theorem RT ħ Ç7 ż(h:Å1=↑k):k<=m/\z_ ((yr F k).getD p []) q=Ç:=by
 unfold lu at h;have h1:=AL.mp (zaZ h);rw[Uq] at h1;have h2:=zcG h;rw[ND ⋯] at h2;show#[⋯,by exists h2]
def Fz ħ œ Ĳ:Å1 ≠↑0:=λ h=>by
 let#[_,h2]:=RT h;have e1:(yr F 0).getD p []=vA:=by
  change (Ę).getD p []=vA;unfold RN.start;rw[BI,zb3,Þ hp];rfl
 rw[e1,Qs.mpr #[hq.1.1,hq.2.1]] at h2;cases h2
def NB:À4 ((Ő).map rT) (-1)=↑(rT (Ç6)):=by
 unfold wH;rw[List.range_succ,B7,B7];show Ph
def NC ż(h:k<=m):À4 ((Ő).map rT) Ú=↑(rT (yr F k)):=wX (by
 unfold wH;rw[A1,AF,zcB ⋯];rfl)
theorem Uo (R:mL F m):(∀ r∈ Ő,r.length=É)/\∀ r∈ Ő,∀ b∈r,ŭ<=100:=by
 ext Ä5
 .intro r hr;let#[k,hk,rfl]:=Ax.mp hr;show f9 F k
 .intro r hr b hb;let#[k,hk,rfl]:=Ax.mp hr;have:=AL.mp hk;have h1:=(R.gd k ⋯ b hb).jr R.fx.ok.a0;have:=R.fx.ok.a1;lia
theorem Ci (R:mL F m) ħ œ Ĳ (ho:Ľ=Ç):∃ o:Ò Nat,Vr [ü,Æ ı,Ō,mw (Ő)]=↑(Zw o)/\(Å1=none->o=none)/\∀ k,Å1=↑k->∃ (i:Nat) (w:Wy),o=↑i/\Ŗ/\w.f=p/\wc F (yr F (k-1)) q w=Ç:=by
 have h1:=Ct (Ő) É p q (Uo R).1 (Uo R).2 hp;cases hd:Å1 with
 | none=>rw[hd] at h1;show#[none,Ä1,λ _=>rfl,Ì6]
 | some k=>
  rw[hd] at h1;let#[k1,k2]:=RT hd;have k0:k≠0:=λ h=>Fz hp hq (by rw[hd,h]);obtain⟨j,rfl⟩:∃ j,k=j+1:=#[k-1,⋯];have hjm:j<=m:=⋯;have mV:=R.fx.ok.mV;have ha:(Ç5).any (Ħ)=true:=by
   have e:(yr F (j+1)).getD p []=wU F (yr F j) p:=cx (λ p=>wU F (yr F j) p) É p [] hp;rw[e,TQ R.fx.ok (R.Rv hjm) p hq] at k2;unfold cu at k2;rw[ġ (by rw[ho];decide)] at k2;rw[VT (λ v=>!wc F (yr F j) q v),<- List.not_all_eq_any_not,k2];rfl
  have hc:QC [Ũ,ğ,Í5,im (mw (Ő)),im (nT (j+1))]=↑(Ü (((Ç5).filter Ħ).map Ë0)):=
   fw Ç2 (Ħ) (Ë0) (Ç5) Ċ λ wi hw=>by
    have q1:=(eN hw).1;show#[_,rfl,wa (xq (zA (zm rfl (zm rfl (zm rfl (zm (zc rfl (zc À (á Ŏ (show ((j+1:Nat):Int)-1=j by lia))) (NC hjm)) rfl)))) (P_ q1 (by rw[f9];show (R.fx.ok.ws wi.1 (A5 q1)).2) (by have:=(R.Rv hjm wi.1.t).jr R.fx.ok.a0;have:=R.fx.ok.a1;lia)))),rfl]
  cases hwl:(Ç5).filter (Ħ) with
  | nil=>
   rw[List.filter_eq_nil_iff] at hwl;let#[wi,a1,a2]:=BB.mp ha;show absurd a2 (hwl wi a1)
  | cons wi rest=>
   let#[m1,m2]:=A9.mp (show wi∈(Ç5).filter _ by rw[hwl];show Av);let#[g1,g2]:=eN m1;rw[hwl,Az] at hc;show#[↑wi.2,zN (zo (zO Ź) (zo Í3 (yN (zc hc rfl (by simp[Zw]))))) rfl,Ì6,λ k hk=>by cases hk;show#[wi.2,wi.1,rfl,g1,g2,by exists m2]]
end
section
variable {F:Al}{g:Ev->Ò (Ī)}{ſ}{ys:Ī}{y:T}{i:Nat}{c x:Str}
def VI Ğ (he:yx y=Ç):gI F g Y=↑(.nx Y):=by unfold gI;ext þ
def OQ Ğ (he:yx y=true):gI F g Y=↑(.rt y):=by unfold gI;ext þ
def Nh Ğ (he:yx y=Ç):gJ i F g Y=↑(.nx (Y.set i ↑(.im y))):=by unfold gJ;ext þ
def Ng Ğ (he:yx y=true):gJ i F g Y=↑(.rt y):=by unfold gJ;ext þ
def gS (h:f Y=↑y):jd c x f Y=↑(.rt (.err c x y)):=by unfold jd;rw[h];rfl
def YX (h:f Y=↑y) (he:yx y=Ç):gU f Y=↑(.rt y):=by unfold gU;rw[h,AI,he];rfl
end
def jk {f g:Ev->Ò Bool}{Y:Ev}(h:f Y=↑true):xN f g Y=↑true:=Ä2
abbrev Sd:=Ò (Nat×(Ä))
def yP (o:Sd):T:=match o with
 | none=>.zk
 | some x=>ă [Æ (x.1:Int),zx x.2]
def nB ï (r:Ä) (w:Wy):Sd:=(kz F r w).map λ x=>(w.t,x)
def hF ï Í9 (st:Sd) ũ:List (Str×T):=[("floor",ü),("told",mw (Ő)),("stand",yP st),("done",Æ Ņ)]
theorem Cb (A B:Int) ő (h:(0<=q.1/\q.1<=A)/\0<=q.2/\q.2<=B):kl [Ō,Á6]=↑ Ā:=by
 have hc:bo [↑(.im (Ō)),↑(.im (Á6))]=↑(Ü ([(q.1,A),(q.2,B)].map λ x:Ä=>T.bl true)):=by
  unfold bo;exact lh (λ x:Ä=>T.tup [Æ x.1,ă [Æ 0,Æ x.2]]) _ [(q.1,A),(q.2,B)] (by simp[zx]) #[] λ x hx=>?_;have hx':0<=x.1/\x.1<=x.2:=by
   simp![Ao,zc0,or_false] at hx;rcases hx with rfl | rfl
   .show h.1
   .show h.2
  simp[PV,hx']
 unfold kl O7;have it:wz "tuple" "tuple"=true:=()
 generalize bo=cc at *;simp[zx] at hc;simp[zx,it,ś,hc,kd]
def C5 ï ő (h:(0<=q.1/\q.1<=F.A)/\0<=q.2/\q.2<=F.B):Yn [ü,Ō]=↑.zk:=
 Xl (zT (wa (xq (zA (zm rfl (zm (xJ (zm Ä4 (zm Ä4 rfl)) Ï) rfl)) (Cb İ q h)))) rfl) rfl
def gK {v a b:T}(h:lG [v]=↑ Ē):oa [v,a,b]=↑ Ē:=
 Í6
def bR (n:Int):lG [Æ n]=↑ Ā:=by simp[lG,VE,wz]
def within_int (n a b:Int):oa [Æ n,Æ a,Æ b]=↑(.bl (ģ (a<=n/\n<=b))):=by
 by_cases h:a<=n <;> by_cases h':n<=b <;> simp[oa,VD,bR,h,h']
def Pr ï ď (v:T) (i:Nat) (w:Wy):Prop:=v=nT i/\Ŗ/\w.f=p
inductive ee ï ď:T->Prop where
 | odd {v:T}(h:lG [v]=↑ Ē):ee F p v
 | out {n:Int}(h:n<0\/(F.ws.length:Int)<=n):ee F p (Æ n)
 | off {i:Nat}{w:Wy}(h:Ŗ) (hf:w.f≠p):ee F p (nT i)
def Ym ï (v:T) {b:Bool}(h:oa [v,Æ 0,Æ ((F.ws.length:Int)-1)]=↑(.bl b)):Yl [ü,v]=↑(.bl b):=
 zN (yN (zA (zm rfl (zm rfl (zm (zc (zA (zm Á rfl) (kD yi F.ws)) À) rfl))) h)) rfl
theorem PX ę{p i:Nat}{v:T}{w:Wy}(h:Pr F p v i w):bK [ü,nT p,v]=↑.zk:=by
 let#[rfl,hw,hf]:=h;ext è;rw[hf,za3 rfl] at h4;show Xl (zT (xY (wa (xq Ź)) (zt (zc À1 (by rw[hf];show h4)))) rfl) rfl
theorem DZ ę ħ{v:T}(h:ee F p v):À7:=by
 have no:Yl [ü,v]=↑ Ē->À7:=λ h=>
  zN (yy (jk (wa (xq (zA rfl h)))) (gS rfl)) rfl
 cases h with
 | odd h=>show no (Ym F v (gK h))
 | out h=>
  rename_i n;show no (Ym F (Æ n) (by rw[within_int,za2 ⋯]))
 | off hw hf=>
  rename_i i w;ext è;rw[za2 ⋯] at h4;show zN (yy (xY (wa (xq Ź)) (zt (zc À1 h4))) (gS rfl)) rfl
def Yr æ ħ œ {q r:Ä}(hq:Ë7) {k i:Nat}{w:Wy}(hk:k<=100) (hr:(Ň)[k]?=↑r) (hw:Ŗ) (hf:w.f=p):
  kT [ü,Æ ı,Ō,ă [Æ Ú,Æ (i:Int)]]=↑(yP (nB F r w)):=by
 have h2:ĥ=↑(yi w):=į;have h3:=PX (v:=nT i) #[rfl,hw,hf];have h5:=V4 ok hp hq hk;rw[hr] at h5;have h6:jX [nT k]=↑ Ā:=by
  simp[jX,Yt,bR]
 have h7:bF [ü,nT p,Ō,nT k]=↑(zx r):=zN (zo Ê0 (zo (zO (zA rfl h5)) (zo Í3 (YX À)))) rfl;have h8:=PZ F r hw;have pre:∀ o,_->OB [Ũ,ğ,Í5,im (ă [nT k,nT i]),none,none,none,none]=o:=λ o h=>zo Å0 (zo Å0 (zo (VI rfl h3 rfl) (zo (Nh rfl h7 rfl) (zo (zO (zA rfl h8)) h))));unfold nB;cases hs:kz F r w with
 | none=>rw[hs] at pre;show zN (pre _ (yQ (yy ŧ (YX À)))) rfl
 | some x=>rw[hs] at pre;show zN (pre _ (zo Í3 (YX (xJ (zm À1) Ï) rfl))) rfl
def Ob ę ħ{q t v:T}(h:ee F p v):kT [ü,nT p,q,ă [t,v]]=↑(.err "NoWay" "way" v):=
 zN (zo Å0 (zo Å0 (yQ (OQ rfl (DZ h) rfl)))) rfl
inductive eg ï ď ő:T->Prop where
 | odd {t:T}(h:lG [t]=↑ Ē):eg F p q t
 | neg {n:Int}(h:n<0):eg F p q (Æ n)
 | off {n:Int}(h:0<=n) (hc:kS [ü,nT p,Ō,Æ n]=↑.zk):eg F p q (Æ n)
theorem Cd ę ħ Ç7{t:T}(h:eg F p q t):Ã3:=by
 have no:jX [t]=↑ Ē->Ã3:=λ h=>
  zN (yQ (yy (wa (xq (zA rfl h))) (gS rfl))) rfl
 cases h with
 | odd h=>show no (Í6)
 | neg h=>
  rename_i n;show no (by simp[jX,Yt,bR];lia)
 | off h hc=>
  rename_i n;have h6:jX [Æ n]=↑ Ā:=by simp[jX,Yt,bR,h]
  show zN (zo Ê0 (zo (zO (zA rfl hc)) (yQ (yy ŧ (gS rfl))))) rfl
def CA ę{p i:Nat}Ç7{t v:T}{w:Wy}(h:Pr F p v i w) (ht:eg F p q t):kT [ü,nT p,Ō,ă [t,v]]=↑(.err ŉ t):=
 zN (zo Å0 (zo Å0 (zo (VI rfl (PX h) rfl) (yQ (Ng rfl (Cd ht) rfl))))) rfl
def lx ï (l:à) ď:Nat->ç->Ò (Nat×Nat)
 | _,[]=>none
 | k,r::cs=>match Ø with
  | some wi=>↑(k,wi.2)
  | none=>lx Í8 (k+1) cs
def dT (o:Ò (Nat×Nat)):T:=match o with
 | none=>.zk
 | some x=>ă [Æ (x.1:Int),Æ (x.2:Int)]
theorem R_ ę{l:à}ħ:∀ {cs:ç}ż{x:Nat×Nat},lx Í8 k cs=↑x->k<=x.1/\∃ r w,cs[x.1-k]?=↑r/\F.ws[x.2]?=↑w/\w.f=p/\wc F l r w=true
 | [],k,x,h=>by cases h
 | r::cs,k,x,h=>by
  unfold lx at h;cases ho:Ø with
  | some wi=>
   rw[ho] at h;cases h;let#[h1,h2]:=eN (zaZ ho);show#[Ap _,r,wi.1,#[],h1,h2,by exists zcG ho]
  | none=>
   rw[ho] at h;let#[h1,r',w,h2,h3]:=R_ h;exact#[⋯,r',w,?_,h3];rw[show x.1-k=(x.1-(k+1))+1 by lia,zbG];show h2
theorem Qa ę{l:à}ħ:∀ {cs:ç}ż,(cs.any λ r=>(ij F p).any (wc F l r))=true->∃ x,lx Í8 k cs=↑x
 | [],k,h=>by cases h
 | r::cs,k,h=>by
  unfold lx;cases ho:Ø with
  | some wi=>show#[_,rfl]
  | none=>
   exact Qa ?_;rw[B5,<- VT,zcE] at h;rcases h with h | h
   .rw[List.find?_eq_none] at ho;let#[wi,h1,h2]:=BB.mp h;show absurd h2 (ho wi h1)
   .show h
abbrev iV ï (l:à) ď ő Å3 (r:T):Ev:=[Ũ,ğ,Í5,im (rT l),im (Ü ((Ç5).map Ë0)),ŏ,im r,none]
section
variable {æ}{l:à}(hl:Į=É)(hb:∀ b∈l,ŭ<=10000) {ħ}{Ç7}
include ok hl hb
theorem FH {r:Ä}ż:vw [7] (zG 7) WX ((Ç5).map Ë0) (Ď)=↑(match Ø with | some wi=>.rt (ă [nT k,nT wi.2]) | none=>.nx (Ď)):=
 (fm (is:=[7]) (g:=zG 7) (b:=WX) Ç2 (λ wi=>ă [nT k,nT wi.2]) (λ wi=>wc F l r wi.1) (Ď) (Ç5) (Ď) rfl λ wi hw=>by
  let#[h1,h2]:=eN hw;have ht:wi.1.t<Į:=by rw[hl];show (ok.ws wi.1 (A5 h1)).2
  have h3:=P_ (F:=F) (q:=r) h1 ht (hb _ (getD_mem ht));cases hc:wc F l r wi.1 with
  | true=>rw[hc] at h3;show#[Ď,rfl,lL rfl (yy (xq (zA rfl h3)) Ê6)]
  | Ç=>rw[hc] at h3;show#[(Ď).set 7 (im (nT wi.2)),rfl,lL rfl (zT (xq (zA rfl h3)) rfl)]).trans (by cases Ø <;> rfl)
theorem RZ œ (hq:Ë7):∀ (cs:ç) (k m:Nat),(Ň).drop k=cs->k+cs.length<=21->cs.length<m->
  ∃ Y',oz [7] (zE (zb ū Ì0 Í)) QY m (iV Í8 q k (k6 (Ň)[k]?))=↑(match lx Í8 k cs with | some x=>.rt (dT ↑x) | none=>.nx Y')
 | [],k,m+1,h,_,_=>by
  have:=á List.length h;simp at this;rw[zb8 ⋯];show#[_,a_ ŧ]
 | r::cs,k,m+1,h,hk,hm=>by
  have hr:(Ň)[k]?=↑r:=by
   have:=á (λ x=>x[0]?) h;exists this
  have hd:(Ň).drop (k+1)=cs:=by
   have:=á List.tail h;rw[List.tail_drop] at this;exists this
  rw[A7] at hk hm;have hf:=FH ok hl hb (p:=p) (q:=q) (k:=k) (r:=r);rw[hr];unfold lx;cases ho:Ø with
  | some wi=>rw[ho] at hf;show#[[],JY ŧ (yQ (pj rfl hf))]
  | none=>
   rw[ho] at hf;let#[Y',e]:=RZ hp hq cs (k+1) m hd ⋯ ⋯;show#[Y',aZ ŧ (zo (pj rfl hf) (zo Å0 (zO (zA rfl (V4 ok hp hq (k:=k+1) ⋯))))) e]
theorem C0 œ (hq:Ë7):V3 [ü,Æ ı,Ō,rT l]=↑(dT (lx Í8 0 (Ň))):=by
 have hl21:=Q0 F p q;let#[Y',hw]:=RZ ok hl hb hp hq (Ň) 0 1000000 rfl ⋯ ⋯;rw[jJ] at hw;have pre:∀ o,_->OA [Ũ,ğ,Í5,im (rT l),none,none,none,none]=o:=λ o h=>zo (zO (zA rfl (ZZ F p hp ok.mV))) (zo (zO rfl) (zo (zO rfl) h));cases hd:lx Í8 0 (Ň) with
 | some x=>rw[hd] at hw;show zN (pre _ (yQ hw)) rfl
 | none=>rw[hd] at hw;show zN (pre _ (zo hw rfl)) rfl
)
example:=`(
example À _:=x rfl rfl
example Ĕ _:=x none none
example Á _:=x Ĕ Ĕ
example Ŀ:=(zc À rfl)
example Â:=(zt Ŀ)
example Ã:=(of_decide_eq_true rfl)
example Ŷ(hc:c∈cs) (hl:fs.lookup m=none) (hg:g Y=↑xs):=0
example ù:=.obj
example É6:=(ù t c fs)
example Č(h0:Y[j]?=↑↑(.own É6)):=0
example Ē:=.own (ù ↑a c fs)::xs.map .im
example ä:=ù none c' fs'
example Ż:=(xM v [(a,ä)])
example Ä Č Ŷ (h:∀ a,F (Ē)=↑ Ż):=0
example É:=F.os.length
example ö(gw:∀ x<É,∃ w∈F.ws,w.f=x):=0
example Ă(pw:F.ss.Pairwise (λ a b=>a.p≠b.p)):=0
example Å(R:mL F m) ö Ă (h4:∀ s∈F.ss,s.gv<=4):=0
example Ê3:=wI s.pu
example Ê:=.int
example Æ _:=x (im (nT s.p)) (im (Ê (Ê3))) (im (Ê s.gv)) (im (Ê s.gt))
example Ç:=false
example È _:=x F m ↑(p,q)
example Ë:=(zc À xB)
example Ĩ:=(zA (zm (zc À (nW F)) rfl) (kD yi F.ws))
example ŭ:=(zc À wC)
example Ì:=(zm ŭ (zm rfl (zm (zc Ĩ À) rfl)))
example É2:=.bl true
example Í:=(É2)
example Î _:=x F m st n
example Ï:=List.range
example Ċ:=F.ws[i]?=↑w
example Ð(hw:Ċ) (hf:w.f=p):=0
example Ũ:=(vc kind)
example Ñ _:=x F m a Ũ kind cells
example Ò:=Int×Int
example Ó:=F.ws.length
example Ô:=F.os.getD p Ç
example Õ:=(zm ŭ rfl)
example Ö:=.tup
example Æ1:=L2.yc
example ņ:=by have h2:Æ1 (F.ws.map yi) (i:Int)=↑(yi w):=wX (by rw[AF,hw];rfl)
example ļ:=eq_int
example Ø:=by ext ņ;have h4:=ļ (w.f:Int) (p:Int) true
example Ù:=Y.set j ↑(.own (ù t c' fs'))
example Ú:=by let#[v0,hv0]:=o5 (xs:=xs) (j:=0) ⋯;let#[v1,hv1]:=o5 (xs:=xs) (j:=1) ⋯;let#[v2,hv2]:=o5 (xs:=xs) (j:=2) ⋯;let#[v3,hv3]:=o5 (xs:=xs) (j:=3) ⋯;let#[v4,hv4]:=o5 (xs:=xs) (j:=4) ⋯
example Û:=Option
example Ü:=(k:Int)
example Æ5:=(zc Ë À)
example Ý:=(zT (zt Æ5) rfl)
example Þ{st st':Sd}{n n' k:Nat}{t v y:T}(h:gF Î k t v y st' n'):=0
example ß:=yP ↑(p,q)
example Ľ:=(λ b=>↑(T.bl b))
example Œ:=congrArg
example à:=((ļ _ _ _).trans (Œ Ľ (decide_eq_decide.mpr ⋯)))
example Ê4:=vD v=↑s
example Ç3{v:T}:=0
example á Ç3{s:String}(ht:Ê4):=0
example â:=(.bl Ç)
example ã:=inst_at rfl ht
example å(a:Addr):=0
example æ:=zB F
example ç:=Ö [t,v]
example þ:=T.int
example è:=.lst (xs.map þ)
example Ç4{p:Nat}:=0
example ŏ(hp:p<É):=0
example é Ç4 ŏ:=0
example ê:=by simp[dep]
example ë{t:Û Addr}{c c':Str}{fs fs':List (Str×T)}:=0
example ì:=(cI 0)
example í:=by have hl:=(AM.mp hw).1;have h5:=aY (i:Int) 0 ((Ó:Int)-1);rw[za3 ⋯] at h5
example É7:=(nT p)
example Ű _:=x rfl hc
example ă:=(zc (o8 Ű) À)
example î:=(xY (zt ă) (zt (zc (zc (zc (iP Ű) rfl (fL F)) (zc (o8 Ű) rfl (r:=↑ É7) rfl) h2) rfl h3)))
example ï:=decide
example ð:=xs.length
example Ę:=if_pos
example ŗ:=(zt (zc À hq))
example Ê2:=(s.p:Int)
example ñ:=by .rw[za3 (show Ê2=p by rw[h])] at hq;rw[Ę (za3 h)];show yy ŗ (yN (zc (zc À hm) (zc À (dq q s.pu)) rfl))
example É1:=List Str
example ő{st:Sd}:=0
example À9:=(.own (ù a c (hF Î)))
example ò{cs:É1}{i:Nat}{a:Û Addr}{c:Str}ő{n:Nat}{Y:Ev}(h0:Y[i]?=↑↑ À9) (hc:c∈cs):=0
example ó:=(nT k)
example ô _:=x a "Keeper"
example õ _:=x rfl (yO ())
example Ŗ:=(ze 0)
example Ś:=(cI 2)
example È4:=(zu xV (za (zb zh Ŗ Ś) zf))
example ĩ:=(cI 1)
example Æ9:=(zb zh (ze 3) ĩ)
example ø:=(w9 (xr (zu ki (za Æ9 (za ì (za (zb xS È4 ĩ) zf))))))
example š:=mT [æ,yP st,nT k,ç]
example ú:=∃ e j z,gF Î k t v e st n/\yx e=true/\š=↑(Ö [Ê j,z])/\lF [e,Ö [Ê j,z]]=↑ Í
example û:=(by change (zb zh _ _ _).bind _=_;rw[zc À (Wl F)];rfl)
example ü _:=x F p q
example ý:=["Keeper","Taker"]
example ÿ _:=x rfl xu À (ej (m:=m) (q:=q) (n:=n) xu hp (by rw[ho];rfl))
example Ĉ:=(zD Ç)
example Ď:=(ze 2)
example Ā _:=x (zE (zb Ĉ (zb yv (zb zh (ze 7) (cI 5)) Ś) ì)) (zI 8 (zb zh (xQ (za ĩ (za (cI 3) zf))) Ď)) zS
example Ň:=nT i
example ā:=Ö [nT kk,Ň]
example Ą _:=x rfl pE À (ej (m:=m) (q:=q) (n:=n) pE hp (by rw[ho];rfl))
example Ŕ:=(ze 1)
example Ä8:=(zb zh Ŕ ì)
example ą:=(w9 (xr (zu pA (za (zi 0) (za Ä8 (za (zb zh Ŕ ĩ) (za (zb zh (ze 3) ì) zf)))))))
example Ć:=(lU (zm (lW rfl) (zm (lW rfl) (zm (lW rfl) rfl))) Ã)
example ć _:=x a "Taker"
example ĉ _:=x F m st' n'
example ċ:=pA [æ,nT p,zx q,nT kk]=↑ Í
example č(hq:yF F q):=0
example ď:=(within_int _ _ _)
example Å6:=(zD true)
example Đ:=(zE (zb Å6 (zb zh (zb zh (zb zh Ŗ Ś) Æ9) ì) Ä8))
example đ(ok:F.Ok):=0
example ē _:=x (is:=[4,5,6,7]) (g:=vE 4 (yE (zG 4) (yE (zG 5) (yE (zG 6) (yE (zG 7) pD))))) (b:=bx) xK
example ĕ _:=x (im .zk) (im .zk)
example Ė:=im (æ)
example ė(n:Nat):=0
example Æ4:=(k:Nat)
example Â4:=(Ï 9).map
example ę:=Â4 λ Æ4=>ï (j=k)
example Ě:=(3+18*(j:Int))
example É5:=if_neg
example ě:=by .rw[za2 (show ¬ Ê2=p by lia)] at hq;rw[É5 (by simp[h])];show zT ŗ rfl
example Ĝ:=by let#[s,ht,_,h]:=h;by_cases hi:wz s "int"=true
example ş:=.inr
example Ŵ:=.inl
example ĝ:=Ŵ j::xs.map ş
example Ğ:=.own (ù ↑a c [])
example ś{q:Ò}:=0
example ğ Ç4 ś:=0
example Ġ:=(xJ rfl Ã)
example ġ:=(zT Â rfl)
example Ģ _:=x (zc (zc (zc À (nW F)) ŭ h2) À) Ë
example Ê7:=ns.getD
example ģ:=(Ï 18).map λ k:Nat=>Ê7 (3+18*j+k) 0
example Ĥ(hg:g Y=↑ys) (h:F ys=↑y):=0
example ĥ _:=x 4 lH (za (zi 1) (za (zi 2) (za (zi 3) zf)))
example Ħ:=by have hg:=pT (pu:=s.pu).mp hq;have:=WK ok s.pu
example ħ:=(cS .zk)
example Ī:=(xY Â (zt (zc (zc (zc (zc À (fL F)) Ë h2) rfl (RK _)) (Tz k rfl) ?_)))
example ī _:=x ns most zF F xs (im (nT j))
example Ĭ:=Ê 0
example ĭ:=(x_ ü)[k]?=↑r
example Į:=F.stall p
example į:=pA [æ,nT p,zx q,t]
example İ:=.lst ([((x,A),b),((y,B),c)].map λ z:(T×Int)×Bool=>T.bl z.2)
example ı(F:zr):=0
example Ĳ _:=x F st xs (im (ph ys))
example È8 _:=x ↑a "Keeper"
example ĳ _:=x (L:=[(a,ù È8 (hF Î))]) rfl pE À (Z_ (m:=m) pE h n rfl) À
example Ĵ:=gp [æ]=↑(mw (wH F m))
example ĵ:=oa [v,Ĭ,Ê ((É:Int)-1)]=↑ â
example Ķ:=.str "keeper"
example ķ:=#[_,rfl,.odd (ff _)]
example ĸ:=List Int
example Ĺ{n:Nat}{t v e:T}(h:kT [æ,nT p,zx q,ç]=↑e) (he:yx e=true):=0
example ĺ _:=x (L:=[(a,ù ↑a "Taker" (hF Î))]) rfl xu À (Z_ (m:=m) xu h n rfl) À
example Ļ:=by unfold lS;rw[hg,AI,ZF (Y:=[↑(.own (ù none c []))]) (j:=0) rfl h,AI]
example ľ _:=x Ñ st n (im (Ê x))
example ŀ{F:Al}{ys:List T}{y:T}:=0
example Ł:=((List.replicate ð true).map .bl)
example ł:=pA [æ,nT p,zx q,nT 0]=↑ Í
example Ń:=dep v<=60
example ń Ç3(h:kl [v,Ö [Ö [Ĭ,Ê F.A],Ö [Ĭ,Ê F.B]]]=↑ â):=0
example Ņ(a:Û Addr):=0
example ň:=za2 ⋯
example Æ6:=(zA (zm (Zr rfl) Õ) (bG ht h))
example ŉ:=(yQ (yy (zt Æ5) (yN Æ6)))
example Ŋ:=(wa (xq (zA (zm rfl (zm Ë (zm ŭ (zm Ë rfl)))) hc)))
example ŋ{kind:Nat}(hk:kind<2):=0
example Ō:=ki [v,Ĭ,Ê ((Ó:Int)-1)]=↑ â\/∃ i w,v=Ň/\Ċ/\w.f≠p
example ō _:=x (zE (zb Ĉ (zb yv Ď Ś) ĩ)) (zE (zb (wt true) (ze 4) ħ))
example Ŏ:=zZ s.pu q
example Ő _:=x rfl (ll kind) rfl
example œ:=vE 4 (yE (zG 6) (yE (zG 7) (yE (zG 8) (yE (zG 9) pD))))
example ŕ:=λ o h=>zo (zT (xY rfl (xY rfl (zt (zc À Au)))) rfl) h
example Ř:=(z_ ((yr F m).getD p []) q=true->wc F (yr F m) r w=true)
example ř:=by decide +kernel
example Ŝ:=by rcases hv.at p with ⟨i,w,rfl,a3,a4⟩ | ⟨b1,b2⟩
example ŝ:=(∀ k,lu (wH F m) p q=↑k->wc F (yr F (k-1)) q w=Ç)
example Ş _:=x (m:=m) (n:=n)
example Š:=zN (yN (fS (by rw[ã,eq_false_of_ne_true hi]))) rfl
example Ţ(st:Sd):=0
example ţ _:=x F m (nB F r w) (n+1)
example Ť _:=x F m (nB F q w) (n+1)
example ť _:=x hp ho
example Ŧ _:=x ns (nT most) (nT zF)
example ŧ:=(mY Ñ st' n' (im (Ê x)) y7 y8 y9 y10 y11 y12 y13)
example Ê0:=R.fx.ok
example ũ:=by let#[i0,w0,hw1,hw2,hfw]:=R8 (m:=m) Ê0 gw hp q
example Ū:=by simp![Ao,zc0,or_false] at hz
example ū:=[.str "taker"]
example Ŭ:=im ó
example Ů:=by simp[dep,wA]
example ů{L:List (Addr×C)}:=0
example Ç7:=aW h0 hc hl hg h
example ű:=by unfold nM;rw[Ç7,Option.map_some];dsimp only
example Ų:=#[_,_,rfl,by rw[within_int,ň],rfl,ê]
example ų:=by have hq:=ļ Ê2 (p:Int) Ç
example ŵ:=[æ,nT p,zx q,Ê n]
example ŷ:=(yP st)
example Ÿ:=yS s.pu q+Ü*s.gt
example Ź:=ownOf k
example ź:=Ö [t,Ň]
example ż:=by unfold mW;rw[h0];rfl
example Ž:=(YZ (L:=[(a,ù ↑a (l9 k) (hF ĉ))]) Ġ rfl)
example ž:=by change ↑(v,og [j] [ä] Y)=_
example ſ(k:Nat):=0
example À0{xs:List T}:=0
example À1{b:Sm}{o:Û Out}:=0
example À2:=.err "NoPlace" "place" v
example À3{w:Wy}:=0
example À4 _:=x ý "first_way" ["self"] eL
example À5 _:=x (zc (zc À f2) rfl h2) rfl
example À6{f:Ae}{Y:Ev}:=0
example À7:=(kg Â (zt (zc (zc (zc À hv0) õ) rfl hgt)))
example À8:=(zE (zb (wt Ç) Ŕ ħ))
example Á0{F:zr}{m:Nat}:=0
example Á1{k:Ev->Û Bool}{a b:Xf}{y:Û (Û T×Ev)}:=0
example Á2:=.err "NoPair" "pair" v
example Á3:=(if x.2+w.b<x.1+w.a then x.2+w.b else x.1+w.a)
example Á4:=(zA (zm (zc À (fL F)) rfl) (kD kt F.os))
example Á5:=(zm (iP Ű) (zm ă (zm ă (zm Ġ rfl))))
example Á6:=F.zF (!s.pu)
example Á7:=xV [Ö xs]=↑(nT ð)
example Á8:=#[_,rfl,ê]
example Á9:=eC [hW a (l9 k) Î,.im ó,.im (ç)]
example Â0{F:List W->Û T}:=0
example Â1:=[im (.err c fl v),im (Ö [nT j,w])]
example Â2(he:yx y=Ç):=0
example Â3:=by have h2:=aG (F:=F) hp
example Â5:=im (Ö xs)
example Â6:=by rcases h with rfl | ⟨p,q,rfl,hp,ho⟩
example Â7:=[(a,ù none c [])]
example Â8:=(λ k:Nat=>þ (0+Ü))
example Â9:=(wa (xq (zA Ì h5)))
example Ã0:=(wa (xq (inst_b (s:="tuple") À SK)))
example Ã1:=(xJ (zm rfl (zm (zc Ŀ À) rfl)) Ã)
example Ã2:=wq (Ê n) (Ê s.gv)=↑(Ê (n*s.gv))
example Ã3:=(zt (zc (zc (zc À hv2) õ) rfl he))
example Ã4:=(zt (zc (zc (zc À hv4) õ) rfl he))
example Ã5:=[Ė,im (ß),Ŭ,im (ā),im y]
example Ã6:=(zt (zc (zc (zc À hv5) õ) rfl he))
example Ã7(he:yx v=true):=0
example Ã8(p:Nat) (q:Ò):=0
example Ã9 _:=x (xs:=[t,v]) rfl jy rfl (zm Ë Õ) h he
example Ä0:=[nT k,Ň]
example Ä1:=[6,7,8,9,10,11,12,13]
example Ä2:=by have fr:=pj (f:=wL (zb zh Ŗ (cI 3))) û hl
example Ä3(ns:ĸ) (most zF:T):=0
example Ä4(he:yx y=true):=0
example Ä5:=lH [Ğ,.im (æ),.im v,.im y]
example Ä6 _:=x R gw pw h4
example Ä7:=im (Ö [nT j,v])
example Ä9:=(zb Ĉ Ď ì)
example Å0(hc:Hd c):=0
example Å1:=(zt (zc Ģ (by rw[hf];show h4)))
example Å2:=dG (s:="tuple") rfl (Ů) (Ŵ ())
example Å3:=(zt (zc (zc À (yO ())) rfl h7))
example Å4:=ZE ok (Q1 ok hq (A5 a2)) (A5 a3)
example Å5:=by have hv:ze 2 Y=↑ ó:=by unfold ze;rw[h]
example Å7:=by let#[s,a,b,_]:=h;show#[s,a,b]
example Å8:=hW ć È n
example Å9:=hW ô È n
example Æ0:=l7 F s q k
example Æ2:=(.bl b)
example Æ3:=(zt (zc (ã) (ã) (ne_self _)))
example Æ7:=(zb Ĉ Ď (cI 3))
example Æ8:=wz s "int"=Ç\/wz s "bool"=true
example Ç0:=Ö [x,y]
example Ç1:=two (li _) (li _)
example Ç2(hL:vx is Y=↑L):=0
example Ç5 _:=x (s:="NoneType") rfl
example Ç6:=ù none c fs
example Ç8:=gu [v,v]=↑ Í
example Ç9:=[Ė,im (ß),Ŭ,im (ź)]
example È0{k:Nat}:=0
example È1(ho:Ô=true):=0
example È2:=(zO (zA rfl h1))
example È3:=λ k=>ï ((F.ws.getD k w).f=p)
example È5:=Pj (ZJ (l9 k) a Î k (ç) ĕ)
example È6:=mY ľ Á Ĕ none
example È7:=(pQ ý "steps" ["self"] eK 1)
example È9 _:=x hq () (jJ ü)
example É0 _:=x _ _ _ _ _
example É3:=λ _=>rfl
example É4:=Ev->Û (List T)
example É8:=(hF È n)
example É9:=[nT 0,Ň]
example Ê1:=im (zx q)
example Ê5:=#[_,rfl,.num (k:=0) ()]
example Ê6:=by unfold nS;rw[h];show h'
example Ê8:=(21+18*(j:Int))
example Ê9:=by rw[hg,AI,h,AI,he,hL];rfl
example Ë0(c:Str):=0
example Ë1(hk:k<=100):=0
example Ë2 _:=x (g:=zG 0) (c:=o9)
example Ë3:=by ext Ø;rw[hf,za3 rfl] at h4;ext í
example Ë4 _:=x hw hf hc (λ h=>absurd h ()) rfl
example Ë5(h:f Y=↑x) (ht:vD x=↑s):=0
end
end zU
namespace L5
open PySem L2 L3
section
variable {cs:É1}{m:Str}{i j:Nat}{is:List Nat}{Â0}{g:É4}{Y:Ev}{ë}{À0}{Ç3}
def aW Ä:fh cs m j F g Y=↑(v,Ù):=by
 unfold fh;rw[h0];dsimp only;rw[Ę #[hc,hl],hg];change ((mJ F Y (ĝ)).map _)=_;rw[ZF h0 h];have:mW Y j=t:=ż
 ext ž;rw[og,this];rfl
def lR Č Ŷ
  (h:∀ a,F (Ē)=↑(xM .zk [(a,ä)])):nN is cs m j F g Y=↑(.nx (Ù)):=by
 unfold nN;rw[Ç7];rfl
def fg ů Ä Ã7 (hL:vx is (Ù)=↑L):nN is cs m j F g Y=↑(.rt (xM v L)):=by
 unfold nN;rw[Ç7,AI];dsimp only;rw[Ę he,hL];rfl
theorem UM {f:Ae}{y:T}ů(h:f Y=↑y) Â2 Ç2:dh is f Y=↑(.rt (xM y L)):=by
 unfold dh;rw[h,AI,É5 (by rw[he];decide),hL];rfl
def Yy ŀ Ĥ Â2:ic is F g Y=↑(.nx Y):=by unfold ic;rw[hg,AI,h,AI,he];rfl
def VP ŀ ů Ĥ Ä4 Ç2:ic is F g Y=↑(.rt (xM y L)):=by unfold ic;ext Ê9
theorem MU ŀ{f:Str}(h0:Y[i]?=↑↑(.own É6)) (hc:c∈cs) (hl:fs.length<1000) Ĥ Â2 (hp:ot f y fs=fs'):gX is cs i f F g Y=↑(.nx (Y.set i ↑(.own (ù t c fs')))):=by
 unfold gX;rw[hg,AI,h,AI,he,h0];dsimp only;rw[É5 (),Ę #[hc,hl],hp]
def MT ŀ{f:Str}ů Ĥ Ä4 Ç2:gX is cs i f F g Y=↑(.rt (xM y L)):=by unfold gX;ext Ê9
end
end L5
namespace zU
open PySem L2 L3 L5 RN
section
variable {Á0}{c:Str}
abbrev hW å Ë0 ı (m:Nat) Ţ ė:W:=.own (ù ↑a c (hF Î))
abbrev wZ (v:T) å Ë0 ı (m:Nat) Ţ ė:T:=xM v [(a,ù none c (hF Î))]
def Hd Ë0:Prop:=c∈(ý:É1)
def pE:Hd "Keeper":=Av
def xu:Hd "Taker":=Ay _ Av
def jz:("Keeper":Str)∈(["Keeper"]:É1):=AJ.mpr rfl
def jy:("Taker":Str)∈(["Taker"]:É1):=AJ.mpr rfl
abbrev jn:T:=.err "NoMore" "" .zk
def Cp Å0 (hr:Ĵ) é ś č å:
  lH [Ğ,.im (æ),.im É7,.im (zx q)]=↑(wZ .zk a c È 0):=
 eY (L:=[(a,ù ↑a c (hF È 0))]) (zo (Yy rfl (Yo F p hp) rfl) (zo (Yy rfl (C5 F q hq) rfl) (zo (dk Ű Ã À) (zo (dk Ű Ã (zA rfl hr) rfl) (zo (dk Ű Ã Ġ rfl) (dk Ű Ã À)))))) À
def Cf ı Ç3(h:ĵ):jY [æ,v]=↑(À2):=
 zN (yy (wa (xq (zA (zm rfl (zm rfl (zm (zc (zA rfl (Yb F)) À) rfl))) h))) (gS rfl)) rfl
def Cg ı ń:Yn [æ,v]=↑(Á2):=
 zN (yy (wa (xq (zA (zm rfl (zm (xJ (zm Ã1 (zm Ã1 rfl)) Ã) rfl)) h))) (gS rfl)) rfl
def DD {v y:T}(h:ĵ) å:Ä5=↑(xM (À2) Â7):=
 om (yQ (VP (L:=[(a,ù ↑a c [])]) rfl (Cf F h) À)) rfl
def DC é ń å:lH [Ğ,.im (æ),.im É7,.im v]=↑(xM (Á2) Â7):=
 om (zo (Yy rfl (Yo F p hp) rfl) (yQ (VP (L:=[(a,ù ↑a c [])]) rfl (Cg F h) À))) rfl
def o8 ò:wW cs i "stand" Y=↑ ŷ:=j8 h0 hc rfl
def iP ò:wW cs i "floor" Y=↑(æ):=j8 h0 hc rfl
def ej Å0 ğ{n:Nat}{s:T}ŏ (hs:kt (Ô)=s) å:jZ [hW a c È n,.im s]=↑(wZ .zk a c È n):=by
 ext Â3;have h3:zD true (kt (Ô)) s=↑ â:=by rw[<- hs];cases Ô <;> simp[kt,zD,dep,eqT]
 show eY (L:=[(a,ù ↑a c É8)]) (zT î rfl) À
def D_ Å0 ė (s:T) å:jZ [hW a c F m none n,.im s]=↑(wZ jn a c F m none n):=
 om (yy (jk (zt ă)) rfl) rfl
def gj ı (own:Bool) Ţ:Prop:=st=none\/∃ p q,st=↑(p,q)/\p<É/\Ô=!own
def Z_ Å0 {own:Bool}ő(h:gj F own st) ė {s:T}(hs:kt own=s) å:jZ [hW a c Î,.im s]=↑(wZ jn a c Î):=by
 ext Â6
 .show D_ hc n s a
 .ext Â3;have h3:zD true (kt (Ô)) s=↑ Í:=by rw[<- hs,ho];cases own <;> (simp[kt,zD,dep,eqT];try decide)
  show om (yy î rfl) rfl
def Mo Ţ:yx ŷ=Ç:=by cases st <;> rfl
def Ya Å0 ğ{n k i:Nat}ő(h:kT [æ,nT p,zx q,Ö Ä0]=↑ ŷ) å:
  gA [hW a c È n,.im ó,.im (Ň)]=↑(wZ .zk a c F m st (n+1)):=
 eY (L:=[(a,ù ↑a c (hF F m st (n+1)))]) (zo (MU (fs:=hF È n) (fs':=hF Î) Ű Ã Á5 h (Mo st) rfl) (dk (fs:=hF Î) (fs':=hF F m st (n+1)) Ű Ã (zc (j8 Ű rfl) À) rfl)) À
def Pq Å0 ğ Ĺ å:
  gA [hW a c È n,.im t,.im v]=↑(wZ e a c È n):=
 om (yQ (MT (L:=[(a,ù ↑a c É8)]) Á5 h he rfl)) rfl
def Cz đ é È1 {q r:Ò}č {k i n:Nat}À3 Ë1 (hr:ĭ) Ð å:
  gy [Å8,.im ó,.im (Ň)]=↑(wZ .zk ć ţ):=
 eY (L:=[(a,ù ↑a "Taker" (hF ţ))]) (zo (lR (xs:=[Ķ]) ÿ) (lR (xs:=Ä0) rfl xu À (Ya Ş xu (Yr ok hp hq hk hr hw hf)))) À
def DY đ é (ho:Ô=Ç) ś č {i n:Nat}À3 Ð å:
  gz [Å9,.im (Ň)]=↑(wZ .zk ô Ť):=
 eY (L:=[(a,ù È8 (hF Ť))]) (zo (lR (xs:=ū) Ą) (lR (xs:=É9) rfl pE À (Ya Ş (k:=0) pE (Yr ok hp È9 hw hf)))) À
def Oe é È1 ś Ĺ å:
  gy [Å8,.im t,.im v]=↑(wZ e ć È n):=
 om (zo (lR (xs:=[Ķ]) ÿ) (fg (xs:=[t,v]) (L:=[(a,ù ↑a "Taker" É8)]) rfl xu À (Pq Ş xu h he) he rfl)) rfl
def CD é (ho:Ô=Ç) ś{n:Nat}{v e:T}(h:kT [æ,nT p,zx q,Ö [nT 0,v]]=↑e) (he:yx e=true) å:
  gz [Å9,.im v]=↑(wZ e ô È n):=
 om (zo (lR (xs:=ū) Ą) (fg (xs:=[nT 0,v]) (L:=[(a,ù È8 É8)]) rfl pE À (Pq Ş pE h he) he rfl)) rfl
def DF ő(h:gj F true st) ė å:eF [hW ô Î]=↑(wZ jn ô Î):=
 om (yQ (fg (xs:=[Ķ]) ĳ)) rfl
def DB ő(h:gj F Ç st) ė (y:T) å:gz [hW ô Î,.im y]=↑(wZ jn ô Î):=
 om (yQ (fg (xs:=ū) ĳ)) rfl
def DE ő(h:gj F Ç st) ė å:eE [hW ć Î]=↑(wZ jn ć Î):=
 om (yQ (fg (xs:=ū) ĺ)) rfl
def DG ő(h:gj F true st) ė (y z:T) å:gy [hW ć Î,.im y,.im z]=↑(wZ jn ć Î):=
 om (yQ (fg (xs:=[Ķ]) ĺ)) rfl
def Nm Ç4(h:∃ w∈F.ws,w.f=p):∃ wi r,vC F p=wi::r:=by
 cases q:vC F p with
 | cons wi r=>show#[wi,r,rfl]
 | nil=>
  let#[w,hw,hf]:=h;let#[i,hi]:=zaJ.mp hw;have:(w,i)∈vC F p:=A9.mpr #[zcF.mpr hi,za3 hf];rw[q] at this;cases this
def R8 đ ö é (q:Ò):∃ (i:Nat) (w:Wy),Ċ/\w.f=p/\
  ∀ Ë0 ė Ņ (j:Nat) (Y:Ev),Hd c->Y[j]?=↑↑(.own (ù a c É8))->pQ À4 j Y=↑(Ň):=by
 let#[wi,rr,hwn]:=Nm (gw p hp);let#[hw1,hw2]:=eN (F:=F) (p:=p) (wi:=wi) (by rw[hwn];show Av);have w1:=ZZ F p hp ok.mV;rw[show (F.ws.zipIdx.filter λ wi=>ï (wi.1.f=p))=vC F p from rfl,hwn,Az] at w1;show#[wi.2,wi.1,hw1,hw2,λ c n a j Y hc h0=>gW h0 hc rfl (zc (zA (zm (iP Ű) (zm ă rfl)) w1) rfl xB)]
def Cq (R:mL F m) ö é (ho:Ô=Ç) ś č:
  ∃ (i:Nat) (w:Wy),Ċ/\w.f=p/\ŝ/\∀ ė å,eE [Å8]=↑(wZ (Ň) ć Ť):=by
 let#[o,h1,h2,h3]:=Ci R hp hq ho;ext ũ;have key:∃ (i:Nat) (w:Wy),Ċ/\w.f=p/\ŝ/\∀ ė å,
   zQ À8 (zI 1 (pQ À4 0)) zS [↑(Å8),im (Zw o)]=↑(.nx [↑(Å8),im (Ň)]):=by
  cases ho':o with
  | none=>
   exact#[i0,w0,hw1,hw2,λ k hk=>?_,λ n a=>yy Â (zO (hfw _ n ↑a 0 _ xu rfl))];let#[i,w,e,_]:=h3 k hk;rw[ho'] at e;cases e
  | some i=>
   cases hd:lu (wH F m) p q with
   | none=>rw[h2 hd] at ho';cases ho'
   | some k=>
    let#[i',w,e,g1,g2,g3]:=h3 k hd;rw[ho'] at e;cases e;show#[i,w,g1,g2,λ k' hk'=>by cases hk';show g3,λ n a=>zT Â rfl]
 let#[i,w,k1,k2,k3,k4]:=key;show#[i,w,k1,k2,k3,λ n a=>om (zo (lR (xs:=ū) ÿ) (zo (zO (zA (zm (iP rfl jy) (zm (zc (o8 rfl jy) À) (zm (zc (o8 rfl jy) À) (zm (j8 rfl jy rfl) rfl)))) h1)) (zo (k4 n a) (zo (lR (xs:=É9) rfl xu À (Ya Ş (k:=0) xu (Yr Ê0 hp È9 k1 k2))) (UM (L:=[(a,ù ↑a "Taker" (hF Ť))]) À rfl))))) rfl]
def Cy (R:mL F m) ö é È1 ś č:
  ∃ (k i:Nat) (r:Ò) (w:Wy),(k<=100/\ĭ/\Ċ/\w.f=p)/\Ř/\∀ ė å,eF [Å9]=↑(wZ (Ö Ä0) ô ţ):=by
 have h1:=C0 Ê0 (l:=yr F m) (f9 F m) R.fx.sz hp hq;ext ũ;have key:∃ (k i:Nat) (r:Ò) (w:Wy),(k<=100/\ĭ/\Ċ/\w.f=p)/\Ř/\∀ ė å,
   zQ À8 (zI 1 (tupS (za ì (za (pQ À4 0) zf)))) zS [↑(Å9),im (dT (lx F (yr F m) p 0 (x_ ü)))]=↑(.nx [↑(Å9),im (Ö Ä0)]):=by
  cases hd:lx F (yr F m) p 0 (x_ ü) with
  | none=>
   exact#[0,i0,q,w0,#[(),jJ ü,hw1,hw2],λ hc=>?_,λ n a=>yy Â (zO (xJ (zm rfl (zm (hfw _ n ↑a 0 _ pE rfl) rfl)) Ã))];rw[R.fx.go p hp q hq] at hc;unfold cu at hc;rw[Ę ho] at hc;let#[x,hx]:=Qa (k:=0) hc;rw[hd] at hx;cases hx
  | some x=>
   let#[_,r,w,g1,g2,g3,g4]:=R_ hd;rw[Nat.sub_zero] at g1;have hl:=(AM.mp g1).1;have:=Q0 ü;show#[x.1,x.2,r,w,#[⋯,g1,g2,g3],λ _=>g4,λ n a=>zT Â rfl]
 let#[k,i,r,w,#[k0,k1,k2,k3],k4,k5]:=key;show#[k,i,r,w,#[k0,k1,k2,k3],k4,λ n a=>om (zo (lR (xs:=[Ķ]) Ą) (zo (zO (zA (zm (iP rfl jz) (zm (zc (o8 rfl jz) À) (zm (zc (o8 rfl jz) À) (zm (zc (j8 rfl jz rfl) rfl NB) rfl)))) h1)) (zo (k5 n a) (zo (lR (xs:=Ä0) rfl pE rfl (zm Ë Õ) (Ya Ş pE (Yr Ê0 hp hq k0 k1 k2 k3))) (UM (L:=[(a,ù È8 (hF ţ))]) À rfl))))) rfl]
def eV Ç4{s:Sl}(h:Į=↑s):s∈F.ss/\s.p=p:=#[zaZ h,by have:=zcG h;exists this]
def fQ ı Ã8 ſ:Bool:=match Į with
 | some s=>ï (Ü*s.gv<=Ŏ)
 | none=>ï (k=0)
def WK đ (pu:Bool):F.zF pu<=12:=by
 have:=ok.a1;have:=ok.b1;unfold zr.zF;split <;> assumption
theorem Q8 đ ğ č ſ:fQ ü k=((x_ ü)[k]?).isSome:=by
 unfold fQ x_;cases h:Į with
 | none=>
  dsimp only;cases k with
  | zero=>rfl
  | succ k=>rfl
 | some s=>
  have hs:=ok.ss s (eV h).1;ext Ħ;dsimp only;rw[Z9 hs 20 hq ⋯ k];by_cases c:Ü*s.gv<=Ŏ
  .rw[Ę c,za3 c];rfl
  .rw[É5 c,za2 c];rfl
abbrev bj ı Ã8 ſ (a b c d:Û W):Ev:=[Ė,im É7,Ê1,Ŭ,a,b,c,d]
theorem Vz ğ È0 Ë1:pA [æ,nT p,zx q,nT k]=↑(.bl (fQ ü k)):=by
 have hl:=fm ē (λ s=>.bl (ï (Ü*s.gv<=Ŏ))) (λ s:Sl=>ï (s.p=p)) (bj ü k Á) F.ss (bj ü k Á) rfl λ s hs=>#[bj ü k Æ,rfl,by
  ext ų;have hm:wq ó (Ê s.gv)=↑(Ê (k*s.gv)):=jq (Ŵ #[⋯,⋯]);change bx (bj ü k Æ)=_;by_cases h:s.p=p
  ext ñ
  ext ě]
 have Au:ltI ó (Ĭ)=↑ â:=Œ Ľ (ň);have pre:∀ o,_->VC (bj ü k Á)=o:=ŕ;ext Ä2;unfold fQ zr.stall;generalize F.ss.find? _=o at *;cases o with
 | none=>show zN (pre _ (zo fr (yN (zc À à)))) rfl
 | some s=>show zN (pre _ (yQ fr)) rfl
abbrev jK ı Ã8 (k i:Nat) (x:Ò) (a b c d:Û W):Ev:=[Ė,im É7,Ê1,Ŭ,im (Ň),↑(.own (.lst [Ê x.1,Ê x.2])),a,b,c,d]
theorem E_ Ç4{q x:Ò}{k i:Nat}Ë1 (s:Sl):∃ Y',turn (œ) ZI (xK s) (jK ü k i x Á)=↑(.nx Y')/\xy [6,7,8,9] Y'=jK ü k i (if s.p=p/\0<k then Æ0 else x) Á:=by
 ext ų;change ∃ Y',ZI (jK ü k i x Æ)=↑(.nx Y')/\_;by_cases h:s.p=p
 .rw[show ï (Ê2=(p:Int))=true from za3 (by rw[h])] at hq;have gt:fF ó (Ĭ)=↑(.bl (ï (0<Ü))):=rfl;by_cases hk0:0<k
  .rw[za3 ⋯] at gt;have m:∀ j,wq ó (Ê j)=↑(Ê (Ü*j)):=λ j=>jq (Ŵ #[⋯,⋯]);obtain⟨j,j',y,a1,a2,a3,a4,a5,a6,a7⟩:∃ (j j':Nat) (y:Ò),o6 2 (Ê3)=↑j/\o6 2 (1-Ê3)=↑j'/\([þ x.1,þ x.2].set j (Ê (Ŏ-Ü*s.gv)))=[þ y.1,þ y.2]/\[þ y.1,þ y.2].set j' (Ê (min (Ÿ) (Á6)))=[þ (Æ0).1,þ (Æ0).2]/\Æ1 [þ q.1,þ q.2] (Ê3)=↑(Ê (Ŏ))/\Æ1 [þ q.1,þ q.2] (1-Ê3)=↑(Ê (yS s.pu q))/\Æ1 [þ F.A,þ F.B] (1-Ê3)=↑(Ê (Á6)):=by
    unfold l7;cases s.pu
    .show#[0,1,(q.1-Ü*s.gv,x.2),rfl,rfl,rfl,rfl,rfl,rfl,rfl]
    .show#[1,0,(x.1,q.2-Ü*s.gv),rfl,rfl,rfl,rfl,rfl,rfl,rfl]
   rw[Ę #[h,hk0]];have e1:=X6 (n:=5) (f:=ze 7) (v:=zb xS (zb zh Ď (ze 7)) (zb wq (ze 3) (ze 8))) (Y:=jK ü k i x Æ) (zc (zc À a5) (zc À (m s.gv)) rfl) À a1;rw[a3] at e1;have sb:∀ y,zb xS ĩ (ze 7) (jK ü k i y Æ)=↑(Ê (1-Ê3)):=λ y=>zc À rfl;have e2:=X6 (n:=5) (z:=Ê (min (Ÿ) (Á6))) (v:=zu oy (za (zb zh (zb zh Ŗ ì) (zb xS ĩ (ze 7))) (za (zb yI (zb zh Ď (zb xS ĩ (ze 7))) (zb wq (ze 3) (ze 9))) zf))) (zA (zm (zc (zc À (cy F)) (sb y) a7) (zm (zc (zc rfl (sb y) a6) (zc À (m s.gt)) rfl) rfl)) (by
    change ↑(þ (if Ÿ<Á6 then Ÿ else Á6))=_;rw[mi,Int.min_comm])) (sb y) rfl a2
   rw[a4] at e2;show#[_,yy (kg ŗ (zt (zc À gt))) (zo e1 e2),rfl]
  .rw[ň] at gt;rw[É5 (λ z=>hk0 z.2)];show#[_,zT (kg ŗ (zt (zc À gt))) rfl,rfl]
 .rw[show ï (Ê2=(p:Int))=Ç from ň] at hq;rw[É5 (λ z=>h z.1)];show#[_,zT (fR ŗ) rfl,rfl]
theorem Uv:∀ {ss:List Sl},ss.Pairwise (λ a b=>a.p≠b.p)->∀ {s s':Sl},s∈ss->s'∈ss->s.p=s'.p->s=s'
 | [],_,_,_,h,_,_=>by cases h
 | a::l,hp,s,s',h,h',e=>by
  let#[h1,h2]:=BU.mp hp;rcases Ao.mp h with r1 | r1
  .rcases Ao.mp h' with r2 | r2
   .rw[r1,r2]
   .show absurd (r1▸e) (h1 s' r2)
  .rcases Ao.mp h' with r2 | r2
   .show absurd (r2▸e.symm) (h1 s r1)
   .show Uv h2 r1 r2 e
theorem Ee đ Ă Ç4{q r:Ò}č È0(hr:ĭ):(k=0->r=q)/\(0<k->∃ s∈F.ss,s.p=p/\r=Æ0):=by
 exact#[λ e=>?_,λ e=>?_]
 .subst e;rw[jJ] at hr;cases hr;rfl
 .unfold x_ at hr;cases h:Į with
  | none=>
   rw[h] at hr;obtain⟨k,rfl⟩:∃ j,k=j+1:=#[k-1,⋯];cases hr
  | some s=>
   rw[h] at hr;let#[h1,h2]:=eV h;have hs:=ok.ss s h1;ext Ħ;dsimp only at hr;rw[Z9 hs 20 hq ⋯ k] at hr;split at hr
   .cases hr;show#[s,h1,h2,rfl]
   .cases hr
def Ye đ Ă Ç4{q r:Ò}č {k i:Nat}À3 Ë1 (hr:ĭ) (hw:Ċ):
  Yj [æ,Ê (p:Int),zx q,Ê Ü,Ê (i:Int)]=↑(yP (nB F r w)):=by
 let#[c1,c2]:=Ee ok pw hq hr;let#[Y',g1,x,g2,g3]:=lg (is:=[6,7,8,9]) (g:=œ) (b:=ZI) xK
  (λ pre Y=>∃ x,Y=jK ü k i x Á/\((x=q/\∀ s∈pre,¬ (s.p=p/\0<k))\/∃ s∈pre,s.p=p/\0<k/\x=Æ0)) F.ss (jK ü k i q Á) #[q,rfl,Ŵ #[rfl,nofun]] (by
   rintro pre s post e Y ⟨x,rfl,hx⟩;let#[Y',h1,h2]:=E_ (F:=F) (p:=p) (q:=q) (x:=x) (i:=i) hk s;exact#[Y',h1,_,h2,?_];by_cases c:s.p=p/\0<k
   .rw[Ę c];show ş #[s,#[],c.1,c.2,rfl]
   .rw[É5 c];rcases hx with ⟨e1,e2⟩ | ⟨s',e1,e2⟩
    .exact Ŵ #[e1,λ y hy=>?_];rcases A8.mp hy with hy | hy
     .show e2 y hy
     .cases AJ.mp hy;show c
    .show ş #[s',zaE _ e1,e2])
 have hx:x=r:=by
  rcases zbR k with k0 | k0
  .rcases g3 with ⟨e,_⟩ | ⟨_,_,_,z,_⟩
   .rw[e,c1 k0]
   .lia
  .let#[s,a1,a2,a3]:=c2 k0;rcases g3 with ⟨_,e⟩ | ⟨s',b1,b2,_,b3⟩
   .show absurd #[a2,k0] (e s a1)
   .rw[b3,a3,Uv pw b1 a1 (by rw[b2,a2])]
 subst hx g2;have f0:=cy F;have f2:=nW F;ext ņ;have lt:ltI (Ê Á3) (Ĭ)=↑(.bl (ï (Á3<0))):=rfl;have pre:∀ o,_->O6 [Ė,im É7,Ê1,Ŭ,im (Ň),none,none,none,none,none]=o:=λ o h=>
  zo (Y':=jK ü k i q Á) rfl (zo (pj (ts:=F.ss.map xK) û g1) (zo (Y':=[Ė,im É7,Ê1,Ŭ,im (Ň),im (zx (x.1+w.a,x.2+w.b)),none,none,none,none]) (by
   change (tupS _ _).bind _=_;rw[xJ (zm (zc Ë (zc À5 Dh) rfl) (zm (zc ŭ (zc À5 Dg) rfl) rfl)) Ã];rfl) h))
 unfold nB kz;by_cases c:x.1+w.a<0\/x.2+w.b<0
 .rw[za3 (by split <;> lia)] at lt;rw[Ę c];show zN (pre _ (yQ (yy (zt (zc (zA À) rfl lt)) rfl))) rfl
 .rw[za2 (by split <;> lia)] at lt;rw[É5 c];have mn:∀ a b:Int,oy [Ê a,Ê b]=↑(Ê (min a b)):=λ a b=>by
   change ↑(þ (if b<a then b else a))=_;rw[mi]
  show zN (pre _ (zo (zT (zt (zc (zA À) rfl lt)) rfl) (yN (xJ (zm (zc À5 wC) (zm (xJ (zm (zA (zm Ë (zm (zc (zc À f0) rfl xB) rfl)) (mn _ _)) (zm (zA (zm ŭ (zm (zc (zc À f0) rfl wC) rfl)) (mn _ _)) rfl)) Ã) rfl)) Ã)))) rfl
theorem Eo ğ č:fQ ü 0=true:=by
 unfold fQ;cases h:Į with
 | none=>rfl
 | some s=>
  have:=(pT (pu:=s.pu).mp hq).1.1;show za3 ⋯
end
section
variable {À6}{x t:T}{c fl:Str}
def inst_at {ty s:String}Ë5:instS ty f Y=↑(.bl (wz s ty)):=by unfold instS;rw[h,AI,ht];rfl
def lW {k:Str->Bool}(h:f Y=↑(.err c fl t)):nq k f Y=↑(.bl (k c)):=by unfold nq;rw[h];rfl
def Zr (h:f Y=↑(.err c fl t)):iQ fl f Y=↑t:=by unfold iQ;rw[h,AI];show Ę rfl
theorem lU {u:É4}À0(hu:u Y=↑xs) (hl:ð<=100):xQ u Y=↑(.lst xs):=by change (u Y).bind _=_;rw[hu];show Ę (BH hl ())
def T6 {g:Ae}{y:Û T}(h:f Y=↑ â) (h':g Y=y):kC f g Y=y:=by unfold kC;rw[h];show h'
def T5 {g:Ae}(h:f Y=↑ Í):kC f g Y=↑ Í:=by unfold kC;rw[h];rfl
end
def ne_self (b:Bool):zD true Æ2 Æ2=↑ â:=by cases b <;> simp[zD,dep,eqT]
def eq_self Ç3(h:Ń):zD Ç v v=↑ Í:=by
 unfold zD;rw[Ę #[h,h],cG];rfl
def bG á (h:Ń):jV [v,v]=↑ Í:=
 zN (zo (zT (xY Æ3 Æ3) rfl) (yN (zc À (eq_self h)))) rfl
def flags Ë0:List Bool:=[qJ "NoFloor" c,qJ "NoPlace" c,qJ "NoWay" c,qJ "NoPair" c,qJ "NoCount" c,qJ "NoMore" c,qJ "NoChange" c,qJ "NoName" c,qJ "NoRow" c]
def Cs (c fl:Str) (v:T):Yh [.err c fl v]=↑(.lst ((flags c).map .bl)):=
 zN (zo (zO Ć)
  (zo (zO (zc rfl Ć rfl))
  (yN (zc rfl Ć rfl)))) rfl
theorem EL (e:T) (j:Nat) (v:T):WH [im e,Ä7]=↑(.lst ((ę).map .bl)):=by
 have:=lh Â8 (λ k:Nat=>T.bl (ï (j=k))) (pick:=[none,↑1]) Ë2 (f:=zb Ĉ Ä8 Ŗ) (Y:=[im e,Ä7]) (it:=vh oO (za (cI 9) zf)) (Ï 9) (jw (n:=9) rfl ()) () λ k _=>fu (Y':=[im (Ê (0+Ü)),Ä7]) rfl (zc Ë rfl à);rw[A1];show this
def GG {c:Str}{j:Nat}(h:flags c=ę):zD true (.lst ((flags c).map .bl)) (.lst ((ę).map .bl))=↑ â:=by
 rw[h];have hd:∀ l:List Bool,wA (l.map T.bl)=0:=λ l=>by
  induction l with
  | nil=>simp[wA]
  | cons b l ih=>simp[wA,dep,ih]
 have d:∀ l:List Bool,dep (.lst (l.map T.bl))<=60:=λ l=>by simp![dep,hd];lia
 unfold zD;rw[Ę #[d _,d _],cG];rfl
def de {c fl:Str}{v w:T}{j:Nat}(h:flags c=ę) À1(hb:b Â1=o):
  zp (zQ (xN (w9 (xr (nq (λ _=>true) Ŗ))) (zE (zb Å6 (zu Yh (za (zi 0) zf)) WH))) (retS (cS â)) zS) b Â1=o:=
 zo (zT (xY (wa (b:=true) (xq (lW rfl))) (zt (zc (zA rfl (Cs c fl v)) (EL _ j w) (GG h)))) rfl) hb
def GI:flags "NoPlace"=Â4 λ Æ4=>ï (1=k):=ř
def GH:flags "NoWay"=Â4 λ Æ4=>ï (2=k):=ř
def GJ:flags "NoPair"=Â4 λ Æ4=>ï (3=k):=ř
def GK:flags "NoMore"=Â4 λ Æ4=>ï (5=k):=ř
def GL:flags "NoChange"=Â4 λ Æ4=>ï (6=k):=ř
def DN á (h:Ń):lF [À2,Ö [Ê 1,v]]=↑ Í:=
 zN (de (j:=1) GI ŉ) rfl
def Py á (h:Ń):lF [.err "NoWay" "way" v,Ö [Ê 2,v]]=↑ Í:=
 zN (de (j:=2) GH (zo Ý ŉ)) rfl
def DR á (h:Ń):lF [.err "NoChange" "times" v,Ö [Ê 6,v]]=↑ Í:=
 zN (de (j:=6) GL (zo Ý (zo Ý (zo Ý (yN (T6 Æ5 Æ6)))))) rfl
def DQ:lF [jn,Ö [Ê 5,.zk]]=↑ Í:=
 zN (de (j:=5) GK (zo Ý (zo Ý (zo Ý (yN (T5 Æ5)))))) rfl
def Sk á (hs:wz s "tuple"=Ç) (h:Ń):Ç8:=
 zN (zo (zT (fR (xq (by rw[ã,hs]))) rfl) (yN (zA rfl (bG ht h)))) rfl
theorem X9 (xs:List T) (hx:∀ x∈xs,∃ s,vD x=↑s/\dep x<=60) (hl:ð<=100):gu [Ö xs,Ö xs]=↑ Í:=by
 have hc:QG [Â5,Â5]=↑(.lst Ł):=by
  have h1:Á7:=#[];have:=lh Â8 (λ _:Nat=>T.bl true) (pick:=[none,↑0,↑1]) Ë2 (f:=zu jV (za (zb zh Ŕ Ŗ) (za (zb zh Ď Ŗ) zf))) (Y:=[Â5,Â5]) (it:=vh oO (za (zu xV (za Ŗ zf)) zf)) (Ï ð) (jw (n:=ð) (zA rfl h1) ⋯) (by rw[zC5];lia) λ k hk=>by
    have hk:=AL.mp hk;have h2:zh (Ö xs) (Ê (0+Ü))=↑xs[k]:=by rw[zaY];show wX (A2 hk)
    let#[s,ht,hd]:=hx xs[k] (B9 hk);show fu (Y':=[im (Ê (0+Ü)),Â5,Â5]) rfl (zA (zm (zc À h2) (zm (zc À h2) rfl)) (bG ht hd))
  rw[List.map_replicate,show (List.replicate ð (T.bl true))=(Ï ð).map λ _=>T.bl true by rw[List.map_const',zC5]];show this
 have hl':Á7:=#[];have ht:vD (Ö xs)=↑"tuple":=rfl;have hq:=ļ (ð:Int) (ð:Int) Ç;rw[za3 rfl] at hq;have ha:i_ (λ bs=>bs.all id) [.lst Ł]=↑ Í:=by
  change (kd Ł).map _=_;rw[QO];simp
 show zN (yQ (yy (kg (xq (ã)) (kg (xq (ã)) (zt (zc (zA rfl hl') (zA rfl hl') hq)))) (yN (zA (zm hc rfl) ha)))) rfl
def DP Ç3(h:Ç8):lF [Á2,Ö [Ê 3,v]]=↑ Í:=
 zN (de (j:=3) GJ (zo Ý (zo Ý (yQ (yy (zt Æ5) (yN (zA (zm (Zr rfl) Õ) h))))))) rfl
def lD (v:T):Prop:=∃ s,Ê4/\Ń/\(Æ8)
def TH À6{b:Bool}(h:f Y=↑ Æ2):dH f Y=↑(.bl (!b)):=by unfold dH;rw[h];rfl
theorem ig Ç3(h:lD v):lG [v]=↑ â:=by
 ext Ĝ
 .rcases h with h | h
  .rw[h] at hi;cases hi
  .show zN (yN (Vc (by rw[ã,hi]) (by rw[TH (ã),h];rfl))) rfl
 .show Š
theorem JX {v a b:T}(h:lD v):ki [v,a,b]=↑ â:=by
 ext Ĝ
 .rcases h with h | h
  .rw[h] at hi;cases hi
  .show zN (yN (Vc (by rw[ã,hi]) (fS (by rw[TH (ã),h];rfl)))) rfl
 .show Š
theorem aY (n a b:Int):ki [Ê n,Ê a,Ê b]=↑(.bl (ï (a<=n/\n<=b))):=by
 have h1:wz "int" "int"=true:=()
 have h2:wz "int" "bool"=Ç:=()
 by_cases h:a<=n <;> by_cases h':n<=b <;> simp[ki,O3,vD,h1,h2,h,h']
section
variable {F:zr}
def ownOf ſ:Bool:=ï (k=0)||ï (k=3)
theorem Tz ſ {Y:Ev}(h:Y[2]?=↑(Ŭ)):kC Ä9 Æ7 Y=↑(.bl (Ź)):=by
 ext Å5
 have a:=ļ Ü 0 Ç;have b:=ļ Ü 3 Ç;unfold ownOf;by_cases h0:k=0
 .subst h0;show T5 (zc hv À)
 .rw[ň] at a;exact T6 (zc hv rfl a) (zc hv rfl (b.trans ?_));rw[za2 h0,Bool.false_or];show Œ (λ z=>↑(T.bl z)) (decide_eq_decide.mpr ⋯)
def TU (a b:Bool):zD true (.bl a) Æ2=↑(.bl (a != b)):=by cases a <;> cases b <;> simp[zD,dep,eqT]
def RK (b:Bool):zD Ç (kt b) (Ķ)=↑ Æ2:=S9 b
def CG È0 ő(h:gj F (Ź) st) (d:T):mT [æ,yP st,nT k,d]=↑(Ö [Ê 5,.zk]):=by
 ext Â6
 .show zN (yQ (yy (jk Â) rfl)) rfl
 .ext Â3;exact zN (yQ (yy Ī rfl)) rfl;rw[TU,ho];cases Ź <;> rfl
def cM {k p:Nat}ś{d:T}À1 ŏ (ho:Ô=Ź) (hb:b [Ė,im (ß),Ŭ,im d]=o):
  zp (zQ (xN À8 (zE (zb Å6 (zb Ĉ (zb zh (zb zh Ŗ ĩ) Ä8) (cS (Ķ))) (kC Ä9 Æ7)))) (retS (tupS (za (cI 5) (za ħ zf)))) zS) b [Ė,im (ß),Ŭ,im d]=o:=by
 ext Â3;exact zo (zT Ī rfl) hb;rw[TU,ho];cases Ź <;> rfl
def Oi {k p:Nat}ś(d:T) ŏ (ho:Ô=Ź) (hk:k=0\/k=2):mT [æ,ß,nT k,d]=↑.zk:=by
 exact zN (cM ť (yQ (yy ?_ rfl))) rfl;rcases hk with rfl | rfl
 .show jk Â
 .show xY Â Â
def Oh {k p:Nat}ś{t v:T}ŏ (ho:Ô=Ź) (hk:k=1\/k=3)
  (h:Ō):mT [æ,ß,nT k,ç]=↑(Ö [Ê 2,v]):=by
 have hno:∀ Y:Ev,Y[2]?=↑(Ŭ)->xN (zE Ä9) (zE (zb Ĉ Ď Ś)) Y=↑ Ç:=fun Y h=>by
  ext Å5
  rcases hk with rfl | rfl <;> show xY (zt (zc hv À)) (zt (zc hv À))
 exact zN (cM ť (zo (zT (hno _ rfl) rfl) (yQ (yy ?_ (yN (xJ (zm rfl Õ) Ã)))))) rfl;rcases h with h | ⟨i,w,rfl,hw,hf⟩
 .show jk (wa (xq (zA Ì h)))
 .ext Ø;rw[ň] at h4;ext í;show xY Â9 (zt (zc Ģ h4))
def Wx {k p i:Nat}ś{t:T}À3 À1 Ð (hk:k=1\/k=3) (hb:b Ç9=o):
  zp (zQ (xN (zE Ä9) (zE (zb Ĉ Ď Ś))) (retS ħ) zS) (zp (zQ (xN ø Đ) (retS (tupS (za Ś (za Æ9 zf)))) zS) b) Ç9=o:=by
 ext Ë3;exact zo (zT ?_ rfl) (zo (zT (xY Â9 Å1) rfl) hb);rcases hk with rfl | rfl <;> show xY Â Â
def CF {p i:Nat}ś{t:T}À3 ŏ (ho:Ô=Ç) Ð:mT [æ,ß,nT 1,ź]=↑.zk:=
 zN (cM (k:=1) ť (Wx hw hf (Ŵ rfl) (zo (zT (fR Â) rfl) rfl))) rfl
def Oj {p i:Nat}ś{t:T}À3{c:Bool}ŏ È1 Ð (hc:į=↑(.bl c)):mT [æ,ß,nT 3,ź]=↑(if c=true then .zk else Ö [Ê 6,t]):=by
 have BO:∀ Y:Ev,Y=[Ė,im (ß),im (nT 3),im (ź)]->nv (zE Æ7) ą Y=↑(!c):=fun Y e=>by
  subst e;show kg Â Ŋ
 cases c with
 | true=>show zN (cM (k:=3) ť (Wx hw hf (ş rfl) (zo (zT (BO _ rfl) rfl) rfl))) rfl
 | Ç=>show zN (cM (k:=3) ť (Wx hw hf (ş rfl) (yQ (yy (BO _ rfl) (yN (xJ (zm rfl (zm Ë rfl)) Ã)))))) rfl
end
section
variable {F:zr}{ğ}
def inst_b À6{x:T}{ty s:String}{b:Bool}Ë5 (hb:wz s ty=b):instS ty f Y=↑ Æ2:=by rw[inst_at h ht,hb]
def El {t:T}(h:lD t):į=↑ â:=by
 ext Ĝ
 .rcases h with h | h
  .rw[h] at hi;cases hi
  .show zN (yQ (yy (xY (wa (xq (inst_b rfl ht hi))) (jk (xq (inst_b rfl ht h)))) rfl)) rfl
 .show zN (yQ (yy (jk (wa (xq (inst_b rfl ht (eq_false_of_ne_true hi))))) rfl)) rfl
def Em {n:Int}(h:n<0):pA ŵ=↑ â:=
 zN (yQ (yy (xY rfl (xY rfl (zt (zc À (Œ Ľ (za3 h)))))) rfl)) rfl
abbrev bh ı Ã8 (n:Int) (a b c d:Û W):Ev:=[Ė,im É7,Ê1,im (Ê n),a,b,c,d]
theorem En {n:Int}(h0:0<=n) (hm:∀ s∈F.ss,mU n s.gv):pA ŵ=↑(.bl (match Į with
  | some s=>ï (n*s.gv<=Ŏ)
  | none=>ï (n=0))):=by
 have hl:=fm ē (λ s=>.bl (ï (n*s.gv<=Ŏ))) (λ s:Sl=>ï (s.p=p)) (bh ü n Á) F.ss (bh ü n Á) rfl λ s hs=>#[bh ü n Æ,rfl,by
  ext ų;have hm:Ã2:=jq (hm s hs);change bx (bh ü n Æ)=_;by_cases h:s.p=p
  ext ñ
  ext ě]
 have Au:ltI (Ê n) (Ĭ)=↑ â:=Œ Ľ (ň);have pre:∀ o,_->VC (bh ü n Á)=o:=ŕ;ext Ä2;unfold zr.stall;generalize F.ss.find? _=o at *;cases o with
 | none=>show zN (pre _ (zo fr (yN (zc À (ļ _ _ _))))) rfl
 | some s=>show zN (pre _ (yQ fr)) rfl
theorem Eb đ ŏ {n:Int}(h0:0<n) (hm:∀ s∈F.ss,mU n s.gv) (h:∀ s,Į=↑s->Ŏ<n*s.gv):kS ŵ=↑.zk:=by
 have h1:=Vt F p hp ok.s8;have h2:=ļ n 0 Ç;rw[ň] at h2;cases hs:Į with
 | none=>rw[hs] at h1;show zN (zo (zT (zt (zc À h2)) rfl) (zo È2 (yQ (yy Â rfl)))) rfl
 | some s=>
  rw[hs] at h1;have mu:Ã2:=jq (hm s (eV hs).1);have hb:eD [Ö [Ê F.A,Ê F.B],xK s,zx q,Ê n]=↑.zk:=
   zN (zo (zO Ŀ) (zo (zO (zc (zc À (dq q s.pu)) (zc rfl Ŀ mu) rfl)) (yQ (yy (zt (zc À (Œ (λ z=>↑(T.bl z)) (za3 (by have:=h s hs;lia))))) rfl)))) rfl
  show zN (zo (zT (zt (zc À h2)) rfl) (zo È2 (zo ġ (yN (zA (zm (zc À (cy F)) rfl) hb))))) rfl
inductive Tm ı:T->Prop where
 | num È0(h:k<=100):Tm F ó
 | odd {t:T}(h:lD t):Tm F t
 | neg:Tm F (Ê (-1))
 | big:Tm F (Ê (10 ^ 20))
def Tm.ty {t:T}(h:Tm F t):∃ s,vD t=↑s/\dep t<=60:=by
 cases h with
 | odd h=>ext Å7
 | _=>show Á8
def NF đ (h4:∀ s∈F.ss,s.gv<=4) ŏ č {t:T}(h:Tm F t):
  (∃ k r,t=nT k/\k<=100/\ĭ/\į=↑ Í)\/eg ü t/\į=↑ â:=by
 cases h with
 | odd h=>show ş #[.odd (ig h),El h]
 | neg=>show ş #[.neg (),Em ()]
 | big=>
  have hm:∀ s∈F.ss,mU (10 ^ 20) s.gv:=λ s hs=>ş (by have:=ok.ss s hs;have:=h4 s hs;lia);have Au:∀ s,Į=↑s->Ŏ<10 ^ 20*s.gv:=λ s hs=>by
   have:=ok.ss s (eV hs).1;ext Ħ;lia
  exact ş #[.off () (Eb ok hp () hm Au),?_];rw[En () hm];cases hs:Į with
  | none=>rfl
  | some s=>show Œ Ľ (za2 (by have:=Au s hs;lia))
 | num h=>
  rename_i k;have hc:=Vz (F:=F) (p:=p) (q:=q) h;have hi:=Q8 ok (p:=p) hq k;cases hr:(x_ ü)[k]? with
  | some r=>rw[hr] at hi;show Ŵ #[k,r,rfl,h,hr,by rw[hc,hi];rfl]
  | none=>
   rw[hr] at hi;exact ş #[?_,by rw[hc,hi];rfl];have h5:=V4 ok hp hq h;rw[hr] at h5;show .off ⋯ h5
end
inductive Vy ı:T->Prop where
 | num {i:Nat}(h:i<Ó):Vy F (Ň)
 | out {n:Int}(h:n<0\/(Ó:Int)<=n):Vy F (Ê n)
 | odd Ç3(h:lD v):Vy F v
section
variable {F:zr}
def Vy.ty Ç3(h:Vy F v):∃ s,Ê4/\Ń:=by
 cases h with
 | odd h=>ext Å7
 | _=>show Á8
def Vy.at Ç3(h:Vy F v) (p:Nat):(∃ i w,v=Ň/\Ċ/\w.f=p)\/
  ee F p v/\(Ō):=by
 cases h with
 | num h=>
  rename_i i;have hw:=A2 h;by_cases hf:(F.ws[i]).f=p
  .show Ŵ #[i,_,rfl,hw,hf]
  .show ş #[.off hw hf,ş #[i,_,rfl,hw,hf]]
 | out h=>
  rename_i n;show ş #[.out h,Ŵ (by rw[aY,ň])]
 | odd h=>show ş #[.odd (ig h),Ŵ (JX h)]
def dG á (hd:Ń) (h:Æ8):lD v:=#[s,ht,hd,h]
def ff (b:Bool):lD Æ2:=dG (s:="bool") rfl (ê) (ş ())
def Xr:lD .zk:=dG Ç5 (ê) (Ŵ ())
def Xq (x:Str):lD (.str x):=dG (s:="str") rfl (ê) (Ŵ ())
def TF (x:Int):lD (Ö [Ê x]):=Å2
def Jo (x y:Int):lD (Ö [Ê x,Ê y]):=Å2
def Tj (c:Int):∃ k:Nat,k<7/\c%7=Ü:=#[(c%7).toNat,⋯,⋯]
def L6 (c:Int):∃ k:Nat,k<4/\c%4=Ü:=#[(c%4).toNat,⋯,⋯]
theorem Jm ė (hn:n=Ó) (c:Int):∃ v,Æ1 [nT n,Ê (0-1),É2,.bl Ç,.zk,.str "0",Ö [Ĭ,Ĭ]] (c%7)=↑v/\Vy F v:=by
 let#[k,hk,e]:=Tj c;rw[e]
 match k,hk with
 | 0,_=>show#[_,rfl,.out (ş ⋯)]
 | 1,_=>show#[_,rfl,.out (Ŵ ())]
 | 2,_=>show ķ
 | 3,_=>show ķ
 | 4,_=>show#[_,rfl,.odd Xr]
 | 5,_=>show#[_,rfl,.odd (Xq _)]
 | 6,_=>show#[_,rfl,.odd (Jo _ _)]
 | k+7,h=>lia
def Jn (c:Int):∃ t,Æ1 [þ (0-1),É2,.bl Ç,.zk,.str "0",Ê (10 ^ 20),Ö [Ĭ]] (c%7)=↑t/\Tm F t:=by
 let#[k,hk,e]:=Tj c;rw[e]
 match k,hk with
 | 0,_=>show#[_,rfl,.neg]
 | 1,_=>show ķ
 | 2,_=>show ķ
 | 3,_=>show#[_,rfl,.odd Xr]
 | 4,_=>show#[_,rfl,.odd (Xq _)]
 | 5,_=>show#[_,rfl,.big]
 | 6,_=>show#[_,rfl,.odd (TF _)]
 | k+7,h=>lia
theorem Mw (c d:Int):∃ t,Æ1 [þ 0,Ĭ,Ê 1,Ê (d%5)] (c%4)=↑t/\Tm F t:=by
 let#[k,hk,e]:=L6 c;obtain⟨m,hm,e'⟩:∃ m:Nat,m<5/\d%5=(m:Int):=#[(d%5).toNat,⋯,⋯];rw[e,e']
 match k,hk with
 | 0,_=>show Ê5
 | 1,_=>show Ê5
 | 2,_=>show#[_,rfl,.num (k:=1) ()]
 | 3,_=>show#[_,rfl,.num (k:=m) ⋯]
 | k+4,h=>lia
abbrev dE ı Ţ (xs:ĸ) (a b c:Û W):Ev:=[Ė,im ŷ,im (è),a,b,c]
theorem C1 Ţ (AB:∀ p q,st=↑(p,q)->p<É/\∃ w∈F.ws,w.f=p) (h0:0<Ó) (hl:Ó<=60) (xs:ĸ) (hx:ð=6):∃ t v,Yi [æ,yP st,è]=↑(ç)/\Tm F t/\Vy F v:=by
 ext Ú;have hrg:fk [nT Ó]=↑(ph (Ï Ó)):=by
  change (if 0<=(Ó:Int)/\(Ó:Int)<=16777216 then ↑(T.lst (rangeT 0 (Ó:Int).toNat)) else none)=_;rw[Ę #[⋯,⋯]];change ↑(T.lst ((Ï (Ó:Int).toNat).map λ Æ4=>þ (0+Ü)))=_;rw[zaR];unfold ph;simp
 have hgt:fF (Ê (v0%4)) (Ĭ)=↑(.bl (ï (0<v0%4))):=rfl;have s1:∃ ys:List Nat,0<ys.length/\(∀ y∈ys,y<Ó)/\zQ (nv (zE (zb (wt true) Ŕ ħ)) (zE (zb fF (zb yv (zb zh Ď ì) (cI 4)) ì))) (zI 3 QH) zS (dE F st xs (im (ph (Ï Ó))) Ĕ)=↑(.nx (dE Ĳ Ĕ)):=by
  have rg:0<(Ï Ó).length/\∀ y∈ Ï Ó,y<Ó:=#[by rw[zC5];show h0,λ y hy=>AL.mp hy];cases st with
  | none=>show#[_,rg.1,rg.2,zT (fR Â) rfl]
  | some x=>
   let#[p,q]:=x;by_cases c:0<v0%4
   .rw[za3 c] at hgt;let#[hp,w,hw,hf]:=AB p q rfl;let#[i,hi]:=zaJ.mp hw;have hil:=(AM.mp hi).1;have hc:=fw (λ k:Nat=>þ Ü) (È3) (λ k:Nat=>þ Ü) (pick:=[none,↑0,↑1]) (it:=wL (ze 3)) (g:=zG 0) (c:=zE (zb Ĉ (zb zh (zb zh (zb zh Ŕ Ś) Ŗ) ì) (zb zh Ď ì))) (f:=zi 0) (Y:=dE F ↑(p,q) xs (im (ph (Ï Ó))) Ĕ) (Ï Ó) rfl (by rw[zC5];lia) λ k hk=>by
     have hk:=AL.mp hk;have h2:Æ1 (F.ws.map yi) Ü=↑(yi (F.ws.getD k w)):=wX (by rw[AF,A2 hk,BI,A2 hk];rfl);show#[[Ŭ,Ė,im (ß)],rfl,zt (zc (zc (zc (zc À (nW F)) rfl h2) À) Ë à),rfl]
    exact#[(Ï Ó).filter È3,zbS (a:=i) (A9.mpr #[AL.mpr hil,?_]),λ y hy=>AL.mp (A9.mp hy).1,yy À7 (zO hc)];rw[BI,hi];show za3 hf
   .rw[za2 c] at hgt;show#[_,rg.1,rg.2,zT À7 rfl]
 let#[ys,hy0,hy1,s1]:=s1;let#[k,hk,hkm]:=dJ v1 hy0;have hlen:xV [ph ys]=↑(nT ys.length):=by simp[ph]
 have hpk:Æ1 (ys.map λ Æ4=>þ Ü) Ü=↑(nT ys[k]):=wX (by rw[AF,A2 hk];rfl);have s2:∃ v,Vy F v/\zQ (zE (zb Ĉ (zb yv (zb zh Ď Ś) (cI 6)) ĩ)) (zI 4 (zb zh (xQ (za È4 (za (zb xS ì ĩ) (za (cS Í) (za (cS â) (za ħ (za (cS (.str "0")) (za (tupS (za ì (za ì zf))) zf)))))))) (zb yv (zb pk (zb zh Ď Ś) (cI 6)) (cI 7)))) zS (dE Ĳ (im (nT ys[k])) none)=↑(.nx (dE Ĳ (im v) none)):=by
  have he:=ļ (v2%6) 1 Ç;by_cases c:v2%6=1
  .rw[za3 c] at he;let#[v,g1,g2]:=Jm (F:=F) _ rfl (v2/6);show#[v,g2,yy Ã3 (zO (zc (lU (zm Ĩ rfl) Ã) (zc (zc (zc À hv2) rfl (pU ())) õ) g1))]
  .rw[za2 c] at he;show#[_,.num (hy1 _ (B9 hk)),zT Ã3 rfl]
 let#[v,hv,s2]:=s2;let#[t0,ht0,ht1]:=Mw (F:=F) v3 (v3/9);have s3:∃ t,Tm F t/\zQ (zE (zb Ĉ (zb yv (zb zh Ď (cI 4)) (cI 6)) ĩ)) (zI 5 (zb zh (xQ (za (zb xS ì ĩ) (za (cS Í) (za (cS â) (za ħ (za (cS (.str "0")) (za (zb pR (cI 10) (cI 20)) (za (tupS (za ì zf)) zf)))))))) (zb yv (zb pk (zb zh Ď (cI 4)) (cI 6)) (cI 7)))) zS (dE Ĳ (im v) (im t0))=↑(.nx (dE Ĳ (im v) (im t))):=by
  have he:=ļ (v4%6) 1 Ç;by_cases c:v4%6=1
  .rw[za3 c] at he;let#[t,g1,g2]:=Jn (F:=F) (v4/6);show#[t,g2,yy Ã4 (zO (zc (lU (zm rfl (zm rfl (zm rfl (zm rfl (zm rfl (zm (gY 20 () _) rfl)))))) Ã) (zc (zc (zc À hv4) rfl (pU ())) õ) g1))]
  .rw[za2 c] at he;show#[t0,ht1,zT Ã4 rfl]
 let#[t,ht,s3]:=s3;show#[t,v,zN (zo (zO (zA (zm Ĩ rfl) hrg)) (zo s1 (zo (zO (zc rfl (zc (zc À hv1) (zA rfl hlen) hkm) hpk)) (zo s2 (zo (zO (zc (lU (zm rfl (zm rfl (zm rfl (zm (zc (zc (zc À hv3) rfl (pU ())) õ) rfl)))) Ã) (zc (zc À hv3) õ) ht0)) (zo s3 (yN Ġ))))))) rfl,ht,hv]
end
end zU
namespace L5
open PySem L2 L3
section
variable {cs:É1}{m:Str}{i j:Nat}{Â0}{g:É4}{Y Y':Ev}{ë}{À0}{Ç3}{x:Xf}
def aN Ä (he:yx v=Ç):nM cs m i j F g Y=↑(none,(Ù).set i ↑(.im v)):=by
 ext ű;rw[É5 (by rw[he];decide)]
def aM Ä Ã7:nM cs m i j F g Y=↑(↑v,Ù):=by
 ext ű;rw[Ę he]
def JL (hg:g Y=↑xs) (h:∀ a,F (Ğ::xs.map .im)=↑(xM .zk [(a,ä)])):lS c i F g Y=↑(none,Y.set i ↑(.own (ä))):=by
 ext Ļ;rfl
def JK (hg:g Y=↑xs) (h:∀ a,F (Ğ::xs.map .im)=↑ Ż) Ã7:lS c i F g Y=↑(↑v,Y):=by
 ext Ļ;dsimp only;rw[Ę he]
def Uk (h:x Y=↑(none,Y')):iq i j x Y=↑(.nx Y'):=by unfold iq;rw[h];rfl
def Uj (h:x Y=↑(↑v,Y')) Ã7:iq i j x Y=↑(.nx (((Y'.set i none).set j ↑(.im v)).set i none)):=by unfold iq;rw[h,AI];dsimp only;rw[Ę he]
def iM Á1(h:k Y=↑true) (h':a Y=y):nS k a b Y=y:=Ê6
def nR Á1(h:k Y=↑ Ç) (h':b Y=y):nS k a b Y=y:=Ê6
end
end L5
namespace zU
open PySem L2 L3 L5 RN
section
variable {Á0}
def vc ſ:Str:=if k=0 then "Keeper" else "Taker"
def ll ſ:Hd (vc k):=by
 unfold vc;split
 .show pE
 .show xu
abbrev aU ſ ı (v y:T) (a b:Û W):Ev:=[Ŭ,Ė,im v,im y,a,b,none]
def TY È0(hk:k<2) {v y:T}{r:Û T×Ev}(h:∀ c Y,c=vc k->Y=aU k F v y ĕ->lS c ĥ Y=↑r):
  nS (zE (zb Ĉ Ŗ ì)) (lS "Keeper" ĥ) (lS "Taker" ĥ) (aU k F v y ĕ)=↑r:=by
 match k,hk with
 | 0,_=>show iM Â (h "Keeper" _ À)
 | 1,_=>show nR Â (h "Taker" _ À)
 | k+2,h=>lia
def DW È0(hk:k<2) (hr:Ĵ) é ś č:
  eA [nT k,æ,nT p,zx q]=↑(.lst [vk (ù none (vc k) (hF È 0)),.zk]):=by
 exact zN (zo rfl (zo rfl (zo (Uk (TY hk (r:=(none,(aU k F É7 (zx q) ĕ).set 4 ↑(.own (ù none (vc k) (hF È 0))))) λ c Y e e'=>?_)) rfl))) rfl;subst e e';show JL rfl (Cp (m:=m) (ll k) hr hp hq)
def PK È0(hk:k<2) {v y e:T}(h:∀ c a,Ä5=↑(xM e Â7)) (he:yx e=true):eA [nT k,æ,v,y]=↑(Ö [.zk,e]):=by
 exact zN (zo rfl (zo rfl (zo (Uj (TY hk (r:=(↑e,aU k F v y ĕ)) λ c Y e1 e2=>?_) he) rfl))) rfl;subst e1 e2;show JK rfl (h _) he
abbrev ZJ Ë0 Ņ ı (m:Nat) Ţ (n k:Nat) (d:T) (x y:Û W):Ev:=[↑ À9,Ŭ,im d,x,y,none]
abbrev Pj:Xf:=nS (zE (zb Ĉ Ŕ ì)) (nM ["Keeper"] "does" 3 0 eF zf) (nS (zE (zb Ĉ Ŕ ĩ)) (nM ["Keeper"] "went" 3 0 gz (za (zb zh Ď ĩ) zf)) (nS (zE (zb Ĉ Ŕ Ś)) (nM ["Taker"] "goes" 3 0 eE zf) (nM ["Taker"] "did" 3 0 gy (za (zb zh Ď ì) (za (zb zh Ď ĩ) zf)))))
def gF ı (m:Nat) Ţ (n k:Nat) (t v y:T) (st':Sd) (n':Nat):Prop:=match k with
 | 0=>∀ a,eF [hW ô Î]=↑(wZ y ô ĉ)
 | 1=>∀ a,gz [hW ô Î,.im v]=↑(wZ y ô ĉ)
 | 2=>∀ a,eE [hW ć Î]=↑(wZ y ć ĉ)
 | 3=>∀ a,gy [hW ć Î,.im t,.im v]=↑(wZ y ć ĉ)
 | _=>False
def l9 ſ:Str:=if k<2 then "Keeper" else "Taker"
def Dj Þ Â2 Ņ:È5=↑(none,ZJ (l9 k) a ĉ k (ç) (im y) (im .zk)):=by
 match k,h with
 | 0,h=>show iM Â (aN rfl jz À h he)
 | 1,h=>show nR Â (iM Â (aN (xs:=[v]) rfl jz rfl Õ h he))
 | 2,h=>show nR Â (nR Â (iM Â (aN rfl jy À h he)))
 | 3,h=>show nR Â (nR Â (nR Â (aN Ã9)))
def Di Þ Ä4 Ņ:È5=↑(↑y,ZJ (l9 k) a ĉ k (ç) ĕ):=by
 match k,h with
 | 0,h=>show iM Â (aM rfl jz À h he)
 | 1,h=>show nR Â (iM Â (aM (xs:=[v]) rfl jz rfl Õ h he))
 | 2,h=>show nR Â (nR Â (iM Â (aM rfl jy À h he)))
 | 3,h=>show nR Â (nR Â (nR Â (aM Ã9)))
def B1 Þ Â2 å:Á9=↑(wZ (Ö [y,.zk]) a (l9 k) ĉ):=
 om (zo rfl (zo rfl (zo (Uk (Dj h he ↑a)) Ž))) rfl
def B0 Þ Ä4 å:Á9=↑(wZ (Ö [.zk,y]) a (l9 k) ĉ):=
 om (zo rfl (zo rfl (zo (Uj (Di h he ↑a) he) Ž))) rfl
end
section
variable {F:zr}{ğ}
def af {k kk i:Nat}À3{y:T}{o:Û Out}Ð (hc:ċ) (hy:k%2=1->y=.zk) (ho:↑(Out.rt (ā))=o):
  zp (zQ (xN (w9 (xr (instS "tuple" (ze 3)))) (xN (zE (zb Å6 (zu xV (za (ze 3) zf)) Ś)) ø)) (retS ħ) zS)
 (zp (zQ (xN Đ ą) (retS ħ) zS)
 (zp (zQ (nv ō) (retS ħ) zS)
 (retS (zi 3)))) Ã5=o:=by
 ext Ë3;have h6:wz "tuple" "tuple"=true:=()
 have h7:=ļ (Ü%2) 1 Ç;have last:nv ō Ã5=↑ Ç:=by
  by_cases c:k%2=1
  .rw[za3 ⋯] at h7;rw[hy c];show kg Å3 Â
  .rw[ň] at h7;show fR Å3
 rw[<- ho];show zo (zT (xY (wa (xq (inst_b (s:="tuple") À h6))) (xY (zt (zc (zA À) À)) Â9)) rfl)
  (zo (zT (xY Å1 Ŋ) rfl)
  (zo (zT last rfl) rfl))
def DL {kk i:Nat}À3{d:T}Ð (hc:ċ):gr [æ,ß,nT 0,d,ā]=↑(ā):=
 zN (zo ġ (zo ġ (zo (yy Â rfl) (af (k:=0) Ë4)))) rfl
def DI {i:Nat}À3{t:T}Ð (hc:ł):gr [æ,ß,nT 1,ź,.zk]=↑(Ö É9):=
 zN (zo (yy Â (zO (xJ (zm rfl Õ) Ã))) (zo ġ (zo ġ (af (k:=1) (kk:=0) hw hf hc (É3) rfl)))) rfl
def DJ {i:Nat}À3{d:T}Ð (hc:ł):gr [æ,ß,nT 2,d,Ň]=↑(Ö É9):=
 zN (zo ġ (zo (yy Â (zO Ġ)) (zo ġ (af (k:=2) (kk:=0) Ë4)))) rfl
def DM {kk i:Nat}À3 Ð (hc:ċ):gr [æ,ß,nT 3,ā,.zk]=↑(ā):=
 zN (zo ġ (zo ġ (zo ġ (af (k:=3) hw hf hc (É3) rfl)))) rfl
end
def Ri {x y:Int}(h1:0<=x) (h2:x<=F.A) (h3:0<=y) (h4:y<=F.B):yF F (x,y):=#[#[h1,h2],h3,h4]
theorem ML {F:zr}đ ö Ă:∃ m,m<=2000/\Ĵ/\mL F m:=by
 let#[more,hr,hn,hmo,hR]:=Cc ok;have n1:=ok.n1;have AD:Ï É ≠[]:=λ h=>by
  have h2:=Œ List.length h;rw[zC5] at h2;rw[h2] at n1;show absurd n1 ()
 let#[m,e,AB]:=UJ ok gw 2000 [] 0 (Ï É) _ (St.start ok) AD rfl hR;have ht:RN.start F::more=wH F m:=e;have el:=Œ List.length ht;rw[Uq] at el;rw[ht] at hr hn;have hgk:∀ k,k<=m->∀ b∈yr F k,Gd F.A F.B b:=λ k hk=>(hn (yr F k) (Ax.mpr #[k,AL.mpr ⋯,rfl])).2;show#[m,by simp at el;lia,hr,GN ok pw (hgk m (Ap _)) AB,hgk]
section
variable {Á0}
def jO ı Ţ:Prop:=∀ x,st=↑x->x.1<É/\yF F x.2
def Q1 đ Ç4{q r:Ò}č (h:r∈x_ ü):yF F r:=by
 unfold x_ at h;cases e:Į with
 | none=>rw[e] at h;cases AJ.mp h;show hq
 | some s=>rw[e] at h;show Z8 (ok.ss s (eV e).1) 20 hq r h
def ZE đ {r:Ò}(hr:yF F r) À3(hw:w∈F.ws):jO F (nB F r w):=λ x e=>by
 unfold nB at e;let#[y,h1,rfl]:=Aw.mp e;exact#[(ok.ws w hw).2,?_];unfold kz at h1;have:=ok.a0;have:=ok.b0;split at h1
 .cases h1
 .cases h1;show Ri ⋯ ⋯ ⋯ ⋯
def KQ Å ő ė (hs:jO F st) È0(hk:k<4) {t v:T}(ht:Tm F t) (hv:Vy F v):
  (ú)\/
  ∃ p q y kk i st',st=↑(p,q)/\gF Î k t v y st' (n+1)/\yx y=Ç/\š=↑.zk/\gr [æ,yP st,nT k,ç,y]=↑(ā)/\Yj [æ,nT p,zx q,nT kk,Ň]=↑(yP st')/\jO F st':=by
 have ok:=Ê0;have noturn:gj F (Ź) st->ú:=λ h=>by
  exact#[jn,5,.zk,?_,rfl,CG h _,DQ]
  match k,hk,h with
  | 0,_,h=>show DF h n
  | 1,_,h=>show DB h n v
  | 2,_,h=>show DE h n
  | 3,_,h=>show DG h n t v
  | k+4,h,_=>lia
 cases st with
 | none=>show Ŵ (noturn (Ŵ rfl))
 | some x=>
  let#[p,q]:=x;let#[hp,hq]:=hs _ rfl;by_cases ho:Ô=Ź
  .have c0:ł:=by rw[Vz (),Eo hq]
   match k,hk,ho with
   | 0,_,ho=>
    let#[kk,i,r,w,#[a1,a2,a3,a4],_,a5]:=Cy R gw ť hq;have hc:ċ:=by rw[Vz a1,Q8 ok hq,a2];rfl
    show ş #[p,q,_,kk,i,_,rfl,a5 n,rfl,Oi _ ť (Ŵ rfl),DL a3 a4 hc,Ye ok pw hq a1 a2 a3,Å4]
   | 2,_,ho=>
    let#[i,w,a3,a4,_,a5]:=Cq R gw ť hq;show ş #[p,q,_,0,i,_,rfl,a5 n,rfl,Oi _ ť (ş rfl),DJ a3 a4 c0,Ye ok pw È9 a3,ZE ok hq (A5 a3)]
   | 1,_,ho=>
    ext Ŝ
    .show ş #[p,q,.zk,0,i,_,rfl,DY ok ť hq a3 a4,rfl,CF ť a3 a4,DI a3 a4 c0,Ye ok pw È9 a3,ZE ok hq (A5 a3)]
    .let#[s,y1,y2]:=hv.ty;show Ŵ #[_,2,v,CD ť (Ob b1) rfl,rfl,Oh ť (Ŵ rfl) b2,Py y1 y2]
   | 3,_,ho=>
    ext Ŝ
    .rcases NF ok h4 hp hq ht with ⟨kk,r,rfl,a1,a2,hc⟩ | ⟨b1,hc⟩
     .show ş #[p,q,.zk,kk,i,_,rfl,Cz ok ť hq a1 a2 a3 a4,rfl,Oj ť a3 a4 hc,DM a3 a4 hc,Ye ok pw hq a1 a2 a3,Å4]
     .let#[s,y1,y2]:=ht.ty;show Ŵ #[_,6,t,Oe ť (CA #[rfl,a3,a4] b1) rfl,rfl,Oj ť a3 a4 hc,DR y1 y2]
    .let#[s,y1,y2]:=hv.ty;show Ŵ #[_,2,v,Oe ť (Ob b1) rfl,rfl,Oh ť (ş rfl) b2,Py y1 y2]
   | k+4,h,_=>lia
  .show Ŵ (noturn (ş #[p,q,rfl,hp,by cases h1:Ô <;> cases h2:Ź <;> simp_all]))
end
end zU
namespace L5
open PySem L2 L3
def Dd Â0{g:Ga}{Y:Ev}{j:Nat}ë À0 Ç3(hg:g Y=↑(ĝ)) Č
  (h:∀ a,F (Ē)=↑ Ż):jL F g Y=↑(v,Ù):=by
 have sl:slots (ĝ)=[j]:=by rw[slots,ix]
 have:mW Y j=t:=ż
 unfold jL;rw[hg,AI,sl,Ę #[],ZF h0 h];ext ž;rw[og,this];rfl
def NJ {f:Xm}{g:T->Ev->Û Ev}{Y Y1 Y2:Ev}{y:T}(h:f Y=↑(y,Y1)) (h':g y Y1=↑Y2):eR f g Y=↑(.nx Y2):=by unfold eR;rw[h,AI,h'];rfl
end L5
namespace zU
open PySem L2 L3 L5 RN
section
variable {Á0}
def RJ (neg:Bool) Ţ:zD neg ŷ ŷ=↑(.bl (cond neg Ç true)):=by
 have h:dep ŷ<=60:=by
  cases st with
  | none=>simp[yP,dep]
  | some x=>simp[yP,zx,dep,wA]
 unfold zD;rw[Ę #[h,h],cG];cases neg <;> rfl
abbrev mY ı (m:Nat) Ņ Ë0 (kind:Nat) (cells:T) Ţ ė (x6 x7 x8 x9 x10 x11 x12 x13:Û W):Ev:=[Ė,↑ À9,im (nT kind),im ŷ,im cells,im (nT n),x6,x7,x8,x9,x10,x11,x12,x13]
theorem Dk ŋ (b:Bool):∃ k0 k:Nat,Æ1 [þ 0,Ê 2] (kind:Int)=↑(nT k0)/\(b=true->Æ1 [þ 1,Ê 3] (kind:Int)=↑ ó)/\(b=Ç->k=k0)/\k<4/\l9 k=vc kind:=by
 match kind,hk with
 | 0,_=>cases b with
  | true=>show#[0,1,rfl,É3,nofun,(),rfl]
  | Ç=>show#[0,0,rfl,nofun,É3,(),rfl]
 | 1,_=>cases b with
  | true=>show#[2,3,rfl,É3,nofun,(),rfl]
  | Ç=>show#[2,2,rfl,nofun,É3,(),rfl]
 | k+2,h=>lia
def inst_no:wz "int" "bool"=Ç:=()
def Lu Å ŋ (cells:T) ő ė (hs:jO F st) (x:Int):
  ∃ st' n',jO F st'/\∀ a:Û Addr,∃ x7 x8 x9 x10 x11 x12 x13,WU (È6)=↑(.nx (mY Ñ st' n' (im (Ê x)) x7 x8 x9 x10 x11 x12 x13)):=by
 have ok:=Ê0;let#[xs,hxs,hx]:=Vs x 6 ();let#[v5,hv5]:=o5 (xs:=xs) (j:=5) ⋯;let#[k0,k,e0,e1,e2,hk4,ec]:=Dk hk (ï (v5%2=0));let#[w0,hw0,_]:=gw 0 ok.n1;let#[t,v,hd,ht,hv]:=C1 st (λ p q e=>#[(hs _ e).1,gw p (hs _ e).1]) (zbS hw0) ok.mV xs hx;have he:=ļ (v5%2) 0 Ç;have s8:∀ a:Û Addr,zQ Ā (mY ľ (im (è)) (im (nT k0)) Á none)=↑(.nx (mY ľ (im (è)) (Ŭ) Á none)):=λ a=>by
  by_cases c:v5%2=0
  .rw[za3 c] at he e1;show yy Ã6 (zO (zc (lU rfl Ã) rfl (e1 rfl)))
  .rw[za2 c] at he e2;rw[e2 rfl];show zT Ã6 rfl
 have last:∀ Ņ st' n' y7 y8 y9 y10 y11 y12 y13,zQ (xN (zE (zb Å6 (pQ ý "where" ["self"] Yv 1) (ze 3))) (xN (zE (zb Å6 È7 (ze 5))) (xr (instS "bool" È7)))) (jg [1] (cS â)) zS ŧ=↑(.nx ŧ):=λ a st' n' y7 y8 y9 y10 y11 y12 y13=>by
  have q:=ļ (n':Int) (n':Int) true;rw[za3 rfl] at q;show zT (xY (zt (zc (gW Ő (o8 rfl (ll kind))) rfl (RJ true st'))) (xY (zt (zc (gW Ő (j8 Ő)) rfl q)) (xq (inst_b (s:="int") (gW Ő (j8 Ő)) rfl inst_no)))) rfl
 have pre:∀ Ņ {st':Sd}{n':Nat}{y z d:T}À1,š=↑d->(∀ a,eC [hW a Ũ Î,.im ó,.im (ç)]=↑(wZ (Ö [y,z]) a Ũ ĉ))->
   b [Ė,↑(.own (ù a Ũ (hF ĉ))),im (nT kind),im ŷ,im cells,im (nT n),im (Ê x),im (è),Ŭ,im (ç),im d,im y,im z,none]=o->
   zp (zI 7 (zu e9 (za (zi 6) (za (cI 6) zf)))) (zp (zI 8 (zb zh (xQ (za ì (za Ś zf))) Ď)) (zp (zQ Ā) (zp (zI 9 (zu Yi (za (zi 0) (za (zi 3) (za (zi 7) zf))))) (zp (zI 10 (zu mT (za (zi 0) (za (zi 3) (za (zi 8) (za (zi 9) zf)))))) (zp (eR (jL eC (dS 1 (kx (zi 8) (kx (zi 9) aK)))) (vE 2 (yE (zG 11) (yE (zG 12) pD)))) b))))) (È6)=o:=λ a _ _ _ _ _ _ _ h1 h2 h3=>
  zo (zO (zA rfl hxs)) (zo (zO (zc (lU rfl Ã) rfl e0)) (zo (s8 a) (zo (zO (zA rfl hd)) (zo È2 (zo (NJ (Dd (j:=1) (xs:=[nT k,ç]) À h2) rfl) h3)))))
 rcases KQ Ä6 n hs hk4 ht hv with ⟨e,j,z,g1,g2,g3,g4⟩ | ⟨p,q,y,kk,i,st',rfl,g1,g2,g3,g5,g6,g7⟩
 .have as:=B0 g1 g2;rw[ec] at as;show#[st,n,hs,λ a=>#[_,_,_,_,_,_,_,pre a g3 as (zo (yy Â (zT (wa (xq (zA rfl g4))) rfl)) (last a st n É0 _ _))]]
 .have as:=B1 g1 g2;rw[ec] at as;show#[st',n+1,g7,λ a=>#[_,_,_,_,_,_,_,pre a g3 as (zo (zT Â (zo (zO (zA rfl g5)) (zo (zT (xY Â Â) rfl) (zo (zO (zA (zm rfl (zm Ë (zm ŭ (zm Ë Õ)))) g6)) (zO Ŀ))))) (last a st' (n+1) É0 _ _))]]
theorem Te Å ŋ (cells:T):∀ (xs:ĸ) ő ė,jO F st->
  ∃ st' n',∀ Ņ (Y:Ev),xy Ä1 Y=mY Ñ st n Á Á->vw Ä1 (zG 6) WU (xs.map þ) Y=↑(.nx (mY Ñ st' n' Á Á))
 | [],st,n,_=>#[st,n,λ a Y e=>by rw[B6,vw,e]]
 | x::xs,st,n,hs=>by
  let#[st1,n1,h1,g1]:=Lu Ä6 hk cells n hs x;let#[st',n',g2]:=Te Ä6 hk cells xs n1 h1;exact#[st',n',λ a Y e=>?_];let#[x7,x8,x9,x10,x11,x12,x13,g3]:=g1 a;rw[Az,X7,e,lL (Y':=È6) rfl g3];show g2 a _ rfl
def Ce Å ŋ (xs:ĸ) ő(hs:jO F st):
  ∃ st' n',∀ a,V1 [.im (æ),hW a Ũ F m st 0,.im (nT kind),.im ŷ,.im (è)]=↑(wZ Í a Ũ ĉ):=by
 let#[st',n',g]:=Te Ä6 hk (è) xs 0 hs;exact#[st',n',λ a=>om (zo rfl (zo (pj rfl (g ↑a (mY F m ↑a Ũ kind (è) st 0 Á Á) rfl)) (YZ (L:=[(a,ù ↑a Ũ (hF ĉ))]) À))) rfl]
end
end zU
namespace L5
open PySem L2 L3
def NI {i j:Nat}À6{c:Str}{fs:List (Str×T)}Ç3(h:f Y=↑(.lst [vk (Ç6),v])):ag i j f Y=↑(.nx ((Y.set i ↑(.own (Ç6))).set j ↑(.im v))):=by
 have hx:∃ c',vk (Ç6)=vk c'/\wV c'=true/\vp c'=none:=#[_,rfl,rfl,rfl];have e:hx.choose=Ç6:=by
  let#[g1,g2,g3]:=hx.choose_spec;have:=W9 g1 rfl g2;rw[az g3] at this;show this.symm
 unfold ag;rw[h,AI];dsimp only;rw[dif_pos hx,e]
def SE À6{x v:T}(h:f Y=↑(Ö [x,v])):dY f Y=↑v:=by unfold dY;rw[h];rfl
def Dc Â0{g:Ga}{Y:Ev}{j:Nat}ë{x:T}À0 Ç3(hg:g Y=↑(ş x::ĝ)) Č
  (h:∀ a,F (.im x::Ē)=↑ Ż):jL F g Y=↑(v,Ù):=by
 have sl:slots (ş x::ĝ)=[j]:=by rw[slots,slots,ix]
 have ht:mW Y j=t:=ż
 have hb:mJ F Y (ş x::ĝ)=↑(v,[ä]):=by
  exact QX #[#[by rw[sl];rfl,λ y hy=>by cases AJ.mp hy;show#[rfl,rfl]],λ ad=>#[.im x::.own (ù ↑(ad j) c fs)::xs.map .im,?_,?_]]
  .rw[oX,oX,h0];change ((if wV É6=true then _ else none):Û (List W)).map _=_;rw[Ę (show wV É6=true from rfl),Yz];rfl
  .rw[h (ad j),sl];rfl
 unfold jL;rw[hg,AI,sl,Ę #[],hb];ext ž;rw[og,ht];rfl
end L5
namespace zU
open PySem L2 L3 L5 RN
theorem Yp (ns:ĸ) ſ:jW [eX ns,nT k]=↑(Ê (Ê7 k 0)):=by
 unfold jW O5 eX;by_cases h:k<ns.length
 .have e:Æ1 (ns.map þ) Ü=↑(Ê (Ê7 k 0)):=wX (by simp[h]);simp[h,e,ltI]
 .simp[h,ltI]
theorem Ca (v:Int):∃ most zF:Nat,Yg [Ê v]=↑(Ö [nT most,nT zF])/\(1<=most/\most<=8)/\zF<=8:=by
 obtain⟨m,hm,m10⟩:∃ m:Nat,v%10=(m:Int)/\m<10:=#[(v%10).toNat,⋯,⋯];have hs:∃ L:List (Nat×Nat),m<L.length/\L.all (λ x=>ï ((1<=x.1/\x.1<=8)/\x.2<=8))=true/\∀ y,Æ1 (L.map λ x=>T.tup [nT x.1,nT x.2]) (v%10)=↑y->Yg [Ê v]=↑y:=
  #[[(4,5),(3,5),(4,4),(2,6),(5,3),(3,4),(1,8),(4,3),(8,2),(2,5)],m10,(),λ y h=>zN (yN (zc rfl (zc À (yO ())) h)) rfl]
 let#[L,hl,ha,h]:=hs;show#[L[m].1,L[m].2,h _ (by rw[hm];show wX (by rw[AF,A2 hl];rfl)),of_decide_eq_true (zE4.mp ha _ (B9 hl))]
section
variable {F:zr}
theorem Jp đ (c:Int):∃ v s,Æ1 [nT É,Ê (0-1),É2,.zk,.str "0",Ö [Ĭ]] (c%6)=↑v/\ĵ/\Ê4/\Ń:=by
 obtain⟨k,hk,e⟩:∃ k:Nat,k<6/\c%6=Ü:=#[(c%6).toNat,⋯,⋯];rw[e]
 match k,hk with
 | 0,_=>show Ų
 | 1,_=>show Ų
 | 2,_=>show#[_,_,rfl,gK (ig (ff _)),rfl,ê]
 | 3,_=>show#[_,_,rfl,gK (ig Xr),rfl,ê]
 | 4,_=>show#[_,_,rfl,gK (ig (Xq _)),rfl,ê]
 | 5,_=>show#[_,_,rfl,gK (ig (TF _)),rfl,Ů]
 | k+6,h=>lia
abbrev bt (A B:Int):T:=Ö [Ö [Ĭ,Ê A],Ö [Ĭ,Ê B]]
def SK:wz "tuple" "tuple"=true:=()
def UE Ç3{s:String}{A B:Int}(ht:Ê4) (h:wz s "tuple"=Ç):kl [v,bt A B]=↑ â:=
 zN (yQ (yy (jk (wa (xq (inst_b rfl ht h)))) rfl)) rfl
theorem UG À0{A B:Int}(h:ð ≠2):kl [Ö xs,bt A B]=↑ â:=by
 have hl:Á7:=#[];have hq:=ļ (ð:Int) 2 true;rw[ň] at hq;show zN (yQ (yy (xY Ã0 (zt (zc (zA rfl hl) (zA À) hq))) rfl)) rfl
theorem ay {x y:T}{A B:Int}{b c:Bool}(hx:oa [x,Ĭ,Ê A]=↑ Æ2) (hy:oa [y,Ĭ,Ê B]=↑(.bl c)):kl [Ç0,bt A B]=↑(.bl (b&&c)):=by
 have hc:bo [im (Ç0),im (bt A B)]=↑(İ):=by
  exact lh (λ z:(T×Int)×Bool=>T.tup [z.1.1,Ö [Ĭ,Ê z.1.2]]) _ [((x,A),b),((y,B),c)] #[] #[] λ z hz=>?_;have hz':oa [z.1.1,Ĭ,Ê z.1.2]=↑(.bl z.2):=by
   ext Ū;rcases hz with rfl | rfl
   .show hx
   .show hy
  show fu (Y':=[im z.1.1,im (Ö [Ĭ,Ê z.1.2])]) rfl (zA (zm rfl (zm Ë Õ)) hz')
 have hl:xV [Ç0]=↑(nT 2):=#[];have ha:i_ (λ bs=>bs.all id) [İ]=↑(.bl (b&&c)):=by
  simp[kd]
 show zN (zo (zT (xY Ã0 (zt (zc (zA rfl hl) (zA À) rfl))) rfl) (yN (zA (zm hc rfl) ha))) rfl
theorem De đ (c:Int):∃ v,Æ1 [T.tup [Ê (F.A+1),Ĭ],Ö [Ĭ,Ê (0-1)],Ö [Ĭ,Ê (F.B+1)],.lst [Ĭ,Ĭ],Ö [Ĭ],Ö [É2,Ĭ],.zk,Ö [Ĭ,Ĭ,Ĭ]] (c%8)=↑v/\kl [v,bt F.A F.B]=↑ â/\Ç8:=by
 have a0:=ok.a0;have b0:=ok.b0;obtain⟨k,hk,e⟩:∃ k:Nat,k<8/\c%8=Ü:=#[(c%8).toNat,⋯,⋯];rw[e];have li:∀ x:Int,∃ s,vD (Ê x)=↑s/\dep (Ê x)<=60:=λ x=>Á8;have two:∀ {x y:T},(∃ s,vD x=↑s/\dep x<=60)->(∃ s,vD y=↑s/\dep y<=60)->gu [Ç0,Ç0]=↑ Í:=λ hx hy=>X9 _ (λ z hz=>by
  ext Ū;rcases hz with rfl | rfl
  .show hx
  .show hy) #[]
 match k,hk with
 | 0,_=>show#[_,rfl,by rw[ay ď ď,ň];rfl,Ç1]
 | 1,_=>show#[_,rfl,by rw[ay ď ď,za2 (p:=0<=(0-1:Int)/\(0-1:Int)<=F.B) ⋯,zaP],Ç1]
 | 2,_=>show#[_,rfl,by rw[ay ď ď,za2 (p:=0<=F.B+1/\F.B+1<=F.B) ⋯,zaP],Ç1]
 | 3,_=>show#[_,rfl,UE (s:="list") rfl (),Sk (s:="list") rfl () (Ů)]
 | 4,_=>show#[_,rfl,UG (),X9 _ (λ z hz=>by cases AJ.mp hz;show li 0) #[]]
 | 5,_=>show#[_,rfl,by rw[ay (gK (ig (ff true))) ď];rfl,two Á8 (li _)]
 | 6,_=>show#[_,rfl,UE Ç5 (),Sk Ç5 () (ê)]
 | 7,_=>show#[_,rfl,UG (),X9 _ (λ z hz=>by
   ext Ū;rcases hz with rfl | rfl | rfl <;> show li 0) #[]]
 | k+8,h=>lia
end
section
variable {Á0}
abbrev iE Ä3 ı (xs:ĸ) (x5 x6 x7 x8 x9 x10 x11 x12 x13:Û W):Ev:=[im (eX ns),im most,im zF,Ė,im (è),x5,x6,x7,x8,x9,x10,x11,x12,x13]
theorem Ek Ä3 (xs:ĸ) (j:Nat) (hj:j<2) (x6 x7:Û W):QI (iE ī x6 x7 Á Ĕ)=↑(.lst ((ģ).map þ)):=by
 have hi:vh da (za (zb yI (cI 3) (zb wq (cI 18) (ze 5))) (za (zb yI (cI 21) (zb wq (cI 18) (ze 5))) zf)) (iE ī x6 x7 Á Ĕ)=↑((Ï 18).map λ k:Nat=>þ (Ě+Ü)):=by
  have mu:wq (Ê 18) (nT j)=↑(Ê (18*j)):=jq (Ŵ #[(),()]);change (za _ _ _).bind da=_;rw[zm (zc rfl (zc À mu) rfl) (zm (zc rfl (zc À mu) rfl) rfl)];change (if inR Ě=true/\inR Ê8=true then ↑(rangeT Ě (Ê8-Ě).toNat) else none)=_;rw[Ę #[by simp[inR];lia,by simp[inR];lia],show (Ê8-Ě).toNat=18 by lia];rfl
 have:=lh (λ k:Nat=>þ (Ě+Ü)) (λ k:Nat=>þ (Ê7 (3+18*j+k) 0)) (pick:=[none,↑0]) Ë2 (f:=zu jW (za (zi 1) (za (zi 0) zf))) (Ï 18) hi () λ k _=>by
  have hc:=Yp ns (3+18*j+k);rw[show nT (3+18*j+k)=þ (Ě+Ü) from Œ þ ⋯] at hc;show fu (Y':=[im (Ê (Ě+Ü)),im (eX ns)]) rfl (zA Ű)
 rw[A1];show this
def Hn {f:Xm}{h:Sm}{Y Y':Ev}(hf:f Y=↑(É2,Y')):XQ (notM (YB f)) h zS Y=↑(.nx Y'):=by simp[hf]
def Iv Å (hr:Ĵ) Ä3 {xs:ĸ}(hx:ð=6) {j:Nat}(hj:j<2):
  ∃ x6 x7 x8 x9 x10 x11 x12 x13,WW (iE ī Á Á)=↑(.nx (iE ī x6 x7 x8 x9 x10 x11 x12 x13)):=by
 have ok:=Ê0;ext Ú;let#[p,hp,hpm]:=dJ v0 (n:=É) ok.n1;let#[a,ha,ham]:=aP v1 ok.a0;let#[b,hb,hbm]:=aP v2 ok.b0;have hq:yF F (a,b):=Ri ha.1 ha.2 hb.1 hb.2;have hs:jO F ↑(p,(a,b)):=λ x e=>by cases e;show#[hp,hq]
 let#[st',n',An]:=Ce Ä6 hj (ģ) hs;let#[o,s,o1,o2,o3,o4]:=Jp ok v3;let#[w,w1,w2,w3]:=De ok v4;have q0:=ļ (0:Int) 0 true;have md:=DW (F:=F) (m:=m) hj hr hp hq;have e1:=PK (F:=F) hj (v:=o) (y:=w) (e:=.err "NoPlace" "place" o) (λ c a=>DD o2 a) rfl;have e2:=PK (F:=F) hj (v:=nT p) (y:=w) (e:=.err "NoPair" "pair" w) (λ c a=>DC hp w2 a) rfl;show#[_,_,_,_,_,_,_,_,zo (zO (zc (zc À hv0) Á4 hpm)) (zo (zO (xJ (zm (zc (zc À hv1) (zc (zc Ŀ À) À) ham) (zm (zc (zc À hv2) (zc (zc Ŀ À) À) hbm) rfl)) Ã)) (zo (zO (Ek ns most zF xs j hj _ _))
  (zo (NI (zA rfl md)) (zo (zT (xY Â (xY (zt (zc (gW rfl (ll j) rfl (o8 rfl (ll j))) Ġ (RJ true ↑(p,(a,b))))) (zt (zc (gW rfl (ll j) rfl (j8 rfl (ll j) rfl)) rfl q0)))) rfl)
  (zo (Hn (Dc (j:=9) (x:=æ) (xs:=[nT j,yP ↑(p,(a,b)),.lst ((ģ).map þ)]) À An))
  (zo (zO (zc (lU (zm Á4 rfl) Ã) (zc (zc À hv3) õ) o1))
  (zo (zO (lU rfl Ã))
  (zo (zO (zc rfl (zc (zc À hv4) õ) w1))
  (zo (zT (wa (xq (zA (zm (SE (zA rfl e1)) (zm Ġ rfl)) (DN o3 o4)))) rfl)
  (zT (wa (xq (zA (zm (SE (zA rfl e2)) (zm Ġ rfl)) (DP w3)))) rfl))))))))))]
theorem Iw (ns:ĸ) (_:ns.length<=63):bH [eX ns]=↑ Í:=by
 let#[most,zF,z1,z2,z3]:=Ca (Ê7 0 0);let#[F,f1,ok,gw,pw,h4]:=Cr (Ê7 1 0) most zF z2.1 z2.2 z3;let#[m,_,hr,R]:=ML ok gw pw;let#[xs,hxs,hx]:=Vs (Ê7 2 0) 6 ();let#[Y',g1,rfl]:=lg (is:=[5,6,7,8,9,10,11,12,13]) (g:=zG 5) (b:=WW) Â8 (λ _ Y=>Y=iE Ŧ F xs Á Á none) (Ï 2) (iE Ŧ F xs Á Á none) rfl (by
  rintro q j r e Y rfl;have hj:j<2:=AL.mp (by rw[e];simp);let#[x6,x7,x8,x9,x10,x11,x12,x13,g]:=Iv Ä6 hr Ŧ hx hj;show#[_,lL (Y':=iE Ŧ F xs (im (nT j)) Á Á) (by rw[zaY];rfl) g,rfl])
 show zN (zo (NH (zA (zm (zA rfl (Yp ns 0)) rfl) z1) rfl) (zo (zO (zA (zm (zA rfl (Yp ns 1)) rfl) f1)) (zo (zO (zA (zm (zA rfl (Yp ns 2)) rfl) hxs)) (zo (pj (jw (n:=2) rfl ()) g1) rfl)))) rfl
end
end zU
namespace PySem.W.Fast
def te9789339275405108022:=0
)
local macro_rules|`(command|example:=$s:str)=>do
 let mut r:Array Lean.Syntax:=.empty
 let mut n:=0
 let mut k:=0
 for c in s.getString.toList do
  let a:=c.toNat
  n:=n*62+(if a>96 then a-61 else if a>64 then a-55 else a-48)
  k:=k+1
  if k==11 then
   let i:=Lean.mkIdent (.mkSimple s!"tw{n}")
   r:=r.push (<-`(command|theorem $i:ident:True:=trivial))
   n:=0
   k:=0
 return Lean.mkNullNode r
example:="EpIyYMJvlNqFwWAeR88oINJckZk53EFWXKCUtW8Saew99gfNsTaHsEHL2PkuGwE71Z60sp6PtEqYU2kd5r9KuNHa9OmzUSCFofqGz5IJgae7Qm1UQWv0F8yBvGoxqOPbDKXu68stELWak9y6jnUJoYNBSwDv5hpUIwzh9AbmAJWI7OI87tw3M78MOzf9LmCFYvRiI3LHCYU2RcmIF5or7tKDpxWVAGGlSwuacloBmJdCvmyxqo62zSp9nPPIg5FyH86zKTDx4i0NXF0L9SWEahETkk4ycl0EFitTdegyEHqbihvd8ZrdAA8kbFdFOhZEiyHYkB8Zay8tNQ2RokVDkB7lKBY6g4xk67D8z87bKSF0MhD5QqfD8o1Namea6PNzSDQuEbtQQcqKBNi4jZ2UW9h93CJ6IaZC9V7ETNZyW8OteH4TVUBagdCxDTu7e29JSa70n7NFB9ERjE2QyJDpVQhyB6PJpkPO9isT902X29uKa8gCNfQuqKRKQY64sIOs14uW344ZC8RRpdHfDCUVQrA5ZKDI1a0bTiksxcDXP0lftyjlaI52kjPI0b9rKTH66QeWqymHiYD4T6nLQWKqZnSZ9UnL50seWUIQggLxFdMIHeNkQ5MCKhQZqidRyf2TomKBPN7Iu3AnccgTvrnMAVRmbsqj0I5A0rSl1n3sKy962HyjRtbnQ0xEtEY45UtE08tPaZcVKA22uy3qnYtxn3JikuCzFcXuo5wVYlJEycuMBWNyPxqS57K8PlDi3F7UNk9ZdgixZAgUcFRqsWU0kxLGFmmzUq92yyWHZcwT9GsaWz8jl9KyPzU0B3YJ1MDEB4179qxx185W8uQB9ZhnNhDtDj9XTEu804F892eTOpcUQgJ4IsPALpwZRvoI9mvA3HDTqr1ebLiarlTGdGo0henCCRF4GDb9pqqGcndGmP6ZFK8vuh9WIUUDbbpOf4ArseIfEIQU1xdH243LBqj98Oi77idCjtHGBgyBCHNjAEjKZoZVZVsqCA0OI0Use3ZIEIBVWLzDBsEhKAxOFsD6i7rRU2KLQ9cJ7V5BYOx46NPGOpoMNxgPok9kWdAl8HHHP5d8F6GRUczHJEGUwtLL0UZ8Ws3pOhylC7IexxiJLQQi1AaDqBRRNTcq1VnXRQNfRvsHwokiwZhdcdAOhPlXypL5501M3rwZ2REPENOZifdmnNjEsxdApMcPjHLsKgpijgOzyIoo9LYrMLDOGDHqmePEXTRLJUQURBlFfXFBjilKVt1FgBZ3VYlWUmKNDQ98xme5rmnJpRBugQ7nb35NRso91jWDF7YyxGdblW6I9LdFha0c3PAEyS1IqmAC3T0S9qdPAPXjVIzzAsTgR94j5kX3sb4oZbm9LxSpJ2oePP5YMD0hlxLzZ3NPIYCVaRfIJG0CCK6BnZyIEPYgymGSTuLPe3XYye2g9DEM7G57wXGoDenGNerB7X3JKaO27bmhLlHnpR7ImIjdhIpjY46oDO5hJrGUZb5OSjCCPO3sXR7VJe40yCKOuY9GAJHui8WmQoP06Uh7bk94oDnJVOxNQvZqyJJGI195xC6m3CQ6yUUs9M1LHhg4heaXgW29OUB6M9EzzjKqr8yFEgxqD730cI03ySGf91PQspl92qT5aBQcVVIyV5GA2TXCkIihH7P9YV8ICqAlBP6VqvW5y8mIYd92BAGi4OKpSeqKMBgvm2GBq5M5J7l04PajRMVb0EIC0m3TUgeain1AqqPxOpORZIX8TY1yj2z4Az9GCy9V6kh5Ew1QLvJG7AFYUcNLwGE8uE2TbdZaclAi7sFzWh3PUKQ4aHLvnQWHOT9A9WwLENMDw6wzOWx1l3c3FOzDgwDgS1n0zSvTURnHfDIdxTpJBERsjF0wwgEZJiLU4m1UG5NQKAh8cmZw37sg2cJ3Hdj4JJKrcAAipKP007h34q4RGXHJRPN9e5PPlpYobe8mbhvyE5qIu7Wtm3elzHkb54rQTXHtk49EZFgPRUcnix7Ybe2n2XviK4ZFoKGLPlna7H9AsTjkHNoBa1EqoQaeV9KCp92Xri0kLJLNCpJqh2aAKhxu8AA6S5BIUTCLn4Aymr0y0AbGqJmCdIjAIRa8jPlpLVclBSFZiIaGfTq6cmGl7HD15wfet9rHdDylAhd3R3jJ3lShD1gv0mTK9XWthTwdfBBey3P7dBSnT2Zz04ZJ4rL97OcpLlZVDXO8eTOfnIA95MI9DL9Gzi2qp1WucibSoo9TAlrOniac0dL0NDcd9t12WoKDYx94Ukdu90WI7wduqH93FeXOj8nO6eR5BLpw85t6Bc0EBlKsCKHi273scQXd6LvE7EtVqMXd9NICYvsJIGMAdxFHlTaWRZotI4WAbfSXmMheCD2plNlbGcX80ThgrRe86jKIfFxJQnLhr8WhcmJHUINHIJbLHXqJ1xUB6lpEUNRxmQ0wOqBOK18cTDmexBcaha3x9Mh2m5DuigF19HRlwy52NUIDXGWCEUEHn3ebMV127JrGBFEGxZdKlSvKD4LACrS4iF3H9giX5AUMOASyetvzpkpPEPA3cazXGjv1Lwq5FhXTigA9oQlnxPGxMCoFpp5nZt821in1aPqK6HPBXmKJSeW4lDKupFIb4cYCtFkjDDvDPYkd7dyPI282gGg8ZEsvNAcIRnCwmKq5S4tfJHTDiNwasCYUEnsbqgzCpja4i4nYCdK6yTHgkLFl0SKkp1qTPYIh7dnG57nNDL6ogSQ9yIMaYZfGaSJonctT7aLn7ALw7CFAKYhz0TG0Y7IaBKp9uUkjZuvMhTEBoxy4BRTQcETWrytx5cnCLAUL9z4Q4l8Krc2eQaJ6Bl6SWkd7624siBBbaEF0CC5d3VbPkqekhBrCYdymguhW7bBDv8NYHucBO5ZXB8dLS3CEG8l9dlgEeUkK2gUBhJr9Sm5bTtLQMTkFHJD47UjpSepZ0V2dJyZ0jXZ6UZA9yHblFXElWBeV94A44DL1NlFTr7l36QbaQvfeZP37L9H0c9eoNSFCAKAco2g2C1hvdjqD8XwZ1aCT9dJWxRm1RX98GXU6C704JEAV8Kk5A6mXVm5Am3emELMy3SDDZ84GYw01y4KW5LLY5Sf0bk7DGKFwb3dBkxsN8Pgb77gQ0yaG7bfqDfSVJkKxCv4YY7c0u0AEYjlrmNwt07TuBXUAIyB0lSdZa07SHBCjrCkdop0XyKVlknBeu6ViGzy8KABAsXmEArBD60IqZeF6EpwLJUhNHBHpe2AGjYl5HzpFDYPQ5YpDXAKwDa95rAJOsJWN4O9l35e0Ifj6WHlM6oV7QdWjWoK4VfCyKG3ge2CY8qK8NZpsJL9qRRSiUaVO5IBwUZE4pqV1vzNfTrp9yjEqxX622hTNVBjIVOlwVAqy2vDm4cSNyrFKgu6RSkR8hAEpkd2W9ZAjMI3leEuSBtkY0ZfL5c4LRonKLJURE8IqkIJ2uewePyjC29YEAengTmlYALlk9pUgAzc5Pdb62HjIPDDKSAhHTYaDNISfM0wT5YfH1gTH9U6Bzw36qN2LcJvTnJF1dIY6D0XAx0Om7kSjDs0EFVrfNyi9DQw0TUuvTThNzL61FmMy3bYA39vS51yUAZip967dgaomWXhAaRCQNKbo8FJMmuGCUOy3uBIKXrkxWiMLFS1geLlaNl57LQ3OewL9FSKmeigPBMBcPHX9QqBj4FGr0CpH9mgPOUYB12noNCCYuxANbXNzU07ea9P6i3BFnknh5UV0VdeXZhrE72l87tjSBzDJc1eZFr3m70dSBPCA3DDC1OHvDuisdo57WVFGJ6MboJEGCTo0qH51vIVWl2Hk8P8k52D8KZExW8KCgJZ90tLuSD2Oy7E051vRfJX5a4JbnJZrAhBla7V4ZW66wi3L1W3yfFAEL1NxZsLPZDr5c1nPAU8sBETGxqazIQ4HHHPA1ju88N3cjspnOwjW2IjZOwxPsTpzEKqPbnJZu0CIOOvDvjfiFyAtsrQilIsdkGpPHFeItggv5Spusbi0xl5FziiEi8mIN41A0Uv072btV46g54oUpOqA7iVmrLCbiMpDkprZoAueIw0Dghj36FxvlHCEDUhYeJU3H48pNIrY7DN4jf1KY1pGQqBD2Wdqnb2oI4LKO44uyh5Y9sHBU9q3HP4GDc3Qx6aJYZ3ngNK0Q2IGTFgnxvFgO7YHLGxKHsyyrOaDPYwNIOrOyoJLLLGEeOH6bB3NH7HqXkRCE2TrSEBehamHCKwDekNsifAlrR95qFzde5W98ydEOqwGEsWC4dJyIZqFOzUn6pmp4SJ8Or1PeF567EaEWX3l1QRS9ItZfQs02rN2xgowqS5yuqGfOy0L8aFg33P8txXqAzMe3XsprTYcqXHHpSAAu2gcxP92N6On0gzcnGHpuS6Kt2l46DLbvljBvni90XqMf8Qec84F4jiQ9jVKS17FwJD314ro2ylbOdnjbwUBUtjjtLaNbQAL3yBi5iaHZCJNGfBtrY7C8f8O7J5SGH87WGfQHFjROuABGeeD6376wLbSGfOFxH7THDmvP9YtINk8hUaVfd31se0jjuyr1M8Aj1CfVWC20M8T20XdFCf0Bf01h1WosLbS6wEgxgDTPiygFLo3tXlL0RuSGXDFTDJE5hm6dXEJk6MTLI8azAV3iEVGsDupBsfvbxiADnHcjIjmOeQ7VhUng62PzwFtI7IgSy5Fw6smCfOqNbVnGt8RTKGcM2Y5T33YII6G5F5Gh7HTAylYaB2m0MKE6jisBU9rTcUjjmr0XsElfEuujjBLU4AV8jRquHlOd1m0gUz83tHZZWPiB4yIo1OQvLWktwG0FnJO39MgKGldFw9JFrGi23eaP1T85tM8NQjuZTEumkGnP5HhgGMmmFibuEBoNiNZHiSHEquJgH5IgqAbPK8ITbFRWwEQjapRBGXKNu3kJCCcAlC7tzRiYJJLviTxXkFai24UpaS31cYWG4sxvDCVgPdD6PALCheUKIkFG57pVOkYc6GSWyLVaGnnc6hGAuBNxyS49yRaQ2FnWvaA4wlzODY8ZkEercrAHbCAKHmzvDcJKmhw4b5hyzqmaAcGNpP0dHyhIMKdN3UM48dkh7FWCwyPKBVc7QTDzaVLZ8CHKTrIXV0aOdBu2KqD9AKF6GOovkcsV61NJUcHB9CXvY1F4Demtn8KBPDwTomYD54PYFfAeZKuqT4oI3SQo4xabx31ORL7v9CAkQ3kQMNTaAB6HD93lbTdJf5hCCEF4UtqKxX5Emd9ru6DBt7FtbdcDppFZ6ZdwvZSU0dRFDeMLN7dKQVI23uccITsfyARNk7enqFdM9Wz5rs8IfWs2bB57nKJwok99mhFy0rKSxKnsvjcI4HMS6eVyIG9Tl1zLX3qEAeRXKF5wInDsTQ5QsEY7lAtA6yNIKOQVJy46P0X3FDI3tjHfHU6GHFzQSegWsDCAjZSFeR7WBNxB59lnoZQ1MaEYUta9ZkDMxtUX6iE9e0xjv9rEFlrI2iX7hyTnTTbJOECQDeElJ5BTbwOzGcGnhJ9eR3au7VVb82UpJoaXwiz9ocyjI9zJ5JF7MaDT7jNIh3agZxLt9njjCAmGG5MZvxGCQZtFhJFW4q9Ui8gnly5eN30yWtOcPCVT2INWfXBRt7yAWbM2DS7ywNI1PYznZE0BaJ31mG31v4yq688JgMSKmEg3cZqGVqbjvz5mjM1fHQS4YKY5L2srwYC3I5kdLhB5k7N4RbGNckAiFR2vxYNUsWDnMLqGV6yzUAg4Jwe9vR1FboZAfWUCnaL4jGL96BbFPYEGw6XMB9Jv9q1NFsHfSehRAuK5x9iZ1kRgWmFPwFyybRBMIACd94CeNqdm3nhqS6XIBWOIL6bWn7mVHDIsN0NhEF2bs9z9Wx8gV4QL55MT4aaymTR1CJKDEavoA87Ms1cO2uUwb5IHjhtFnEr0BdJwxKtByFn9LkuExXenkwGTbD03ug6tHIRuE1Gv2QXvAyQvYQ0suvLG7FWA7IREdzBSfVMNVmWf55X260XK3NI0A1LXLyVQQmREbNgLMWLZ0L6TgBzX8evuo0vMUxijYmGE56BLdL0FlSjAAUtJdEdAOAAL8zBORod9J1ueCEQidsypI8XL8ze0S9vFETiQ3WoysWJUdVrJfjwACAdLKjFWbE9e5WL57L3O9YC6pSFrct0Ctk9VAH7rStlrZ9eXUzs0p6EP3rFGG1Eu2bg1ePbYbKuHCUKM0L0PaPvqq4IopMSJFLr47oslDexPhNJJDVEw1G55dJLklgUzkXtEmDyxNwKeJ3gM23OVk2DTmNC8XEB8krQwE64ydYrnvJ2RG1lV2H0a1l6JD09VryiSW4aFFi5JJFVf32DIUDF0pWOHd952M5HGKbM2APpLTUVKl6pB3SjI34i1GuLB9Ow4zQRcw7l1t3zpjxbs2yR9kjryFOP2zOscBJvcQrFL2kic4PWX4B90yjc6izU5C7R5lO3pQDmH3bjq1LpTubIxLAI3TrUj78601AUECWK3E6NITXoxN1bJdHd7yDvW4x0o9DqTITzstGvL941xmdEo0mVKwVzIPZY8JZldu1BIpOKo1L3NwIfpQBQ88niamksM1CLnYOv2n0lI8RUBcIx9p08mfleJlwK0LIPwLrbRuCL392SbsPVwQnd878m1g8KeecG6jM9BXbc1j15437K8dm4uIQBZSrwKuV15rt2iqBIqZECa5HBSnavQMGRTodFGAPquEYnl6f14nSwCviWOmoTwRW"
example:=`(
example Ą:=.Subscript (.Name "lows" _) _ _
example û _:=x _ _ _
example ù:=by assumption
example À:=by (change PD û;first | (change PD _ (.Name _ _) _;first | show zg 0 | show zg 1 | show zg 2 | show zg 3 | show zg 4 | show zg 5 | show zg 6 | show zg 7 | show zg 8 | show zg 9 | show zg 10 | show zg 11 | show zg 12 | show zg 13 | show zg 14 | show tS (by ext ù)) | show tQ | show sg | show uU | show tj | (change PD _ (Ą) _;apply t_ hr) | (change PD _ (.Call _ [.Name "lows" _] _ _) _;apply tZ T.len) | show sd | apply se hr | apply uX | apply tJ | apply uS | apply tE | (change PD _ (.Call û _) _;first | (apply yZ;ext ù) | (apply yX;ext ù) | (apply yX;show xX.no (by ext ù)) | (apply yZ;show xO.no (by ext ù)) | apply t8 T.min | apply tH T.len | apply tF T.list T.range | apply tG T.list | apply uR T.tuple | apply t9 T.max | apply t7 T.min | apply sj T.any | apply sr T.all | apply uV hr T.sorted U.set | apply uW T.sorted | apply tM T | apply tN T | apply tL T | apply sv U.abs | apply tD | apply tB | (apply tP;ext ù) | apply L3.yY xl) | (change PD _ (.BinOp û _) _;first | (have:=hB;first | apply tW | apply tw) | apply su | apply uT | apply t6 | apply tX | apply tu | apply uY) | (change PD _ (.Compare û _) _;first | apply tY hr | apply tI | apply tU | apply L5.yY | apply tK | apply sf yR yR fit_le fit_le ye.mo ye.mo) | apply sk | apply uZ | apply u_ | apply tf | apply tq | apply tR | (apply tT;ext ù) | apply tV | (apply pl (Hs.a hc) hS hN;show zV hS hN;decide +kernel) | (apply pl (Hs.b hc) hS hN;show zV hS hN;decide +kernel))
example ú:=(by with_reducible first | show yk | show ym | show yn | show yo)
example Á:=by ((try first | exact zP.fr ?_ | exact zP.fe ?_);with_reducible first | show qw _ | exact yf (R:=zC) (by with_reducible first | show qZ | show yk | show qX | show qW | show qV | show ym | show yn | show yo | show qO) ?_ ?_ | exact zH (R:=zC) ?_ | exact qF (R:=zC) (by with_reducible first | show qU | show qL | show qT | show qR | show qQ | show qY | show qN | show qM | show qS | show q_ | show qP) ?_ | apply qb | apply qf | apply qq | apply q8 | apply qt | show qG _ | show qg _ | show qm | apply qu | apply qx | apply qo | exact qE ú ú ?_ ?_ ?_ | apply qj | apply qh | show qD _ | apply qv | apply qz | apply qp)
example Â:=by (with_reducible first | apply sH | apply sR | apply sO | apply rn | apply sU | show sI | apply sN | apply sS | apply sC | apply rN | apply rL | apply rM | apply sL | apply sD | apply sE | apply sy | apply sQ | apply rq | apply rp | apply vt | apply r0 | show rX | apply rY | apply rW | apply rj | apply sV | show sG | apply sP | apply rl | apply rh | apply sX | apply sA | show y_ _ | apply sZ | apply sW | apply sF | apply sY | show rf _ | apply s_ | apply sT | apply sJ | apply sM | apply xa | apply xb)
example Ã:=by (change yt û;first | apply u6 | apply uA | apply uB za4 rfl | apply uz za4 | (apply yU (Hs.a hc) hS hN nd;show zV hS hN;rfl;decide +kernel) | (apply yU (Hs.b hc) hS hN nd;show zV hS hN;rfl;decide +kernel) | (change yt _ (.Assign [Ą] _ _) _;apply uD hr) | apply u4 | (apply u7;ext ù) | apply u5 | apply u9 | apply uC | apply uE)
example Ä:=by with_reducible first | show xc _ | exact yf (R:=zL) xm ?_ ?_ | exact zH (R:=zL) ?_ | apply xi | apply xj | apply xk | show xh _ _ | show xf _ | apply xg | exact zH (R:=yL) ?_
example Å:=(_:List Str)
example Æ:=by (change xH û _;first | (apply vY;ext ù) | (apply v_;ext ù) | (apply vM;ext ù) | (apply vO;ext ù) | (apply vU;ext ù) | (apply vW;ext ù) | (apply vV;ext ù) | (apply vT;ext ù) | (apply vP;ext ù;ext ù) | apply vN | apply vX | apply vR)
example Ç:=by (with_reducible first | show rZ | apply r_ | show rS | apply rV | apply qc | apply qe | apply qB | apply qA | apply qC | show qd | show rK _ | show rG | apply rH | show rO | apply rP | apply rD | apply rC | apply rA | apply rB | apply rE | apply rF | apply r9)
example È:=by (change yh û;first | (change yh _ (.Compare û _) _;first | apply ui | apply ur hr | apply uh hr | apply uj | apply uq | apply uo hr | apply um | apply uk) | apply ug | (apply wF.pt;first | apply yV | apply yW) | apply uf)
example É:=by (change xW û _;first | apply uI T.range | apply uH T.range | apply uF U.zip | apply uJ U.enumerate | apply uG)
example ć _:=x K mg
example Ê _:=x P w ć base
example Ë:=by (with_reducible first | show qa _ | apply qH | apply qk | apply ql | apply qy)
example Ì:=by intro f Af A outer s H E hc nd hN hS hr
example ý:=by have xl:=C.pJ;cases C;cases d1
example Í:=by ext ý;cases d2;cases d3;cases d4
example Î:=by (exact ve.s ?_;with_reducible first | apply xa | apply xb)
example Ï:=by (change xI û _;first | show vS | apply vQ | apply vZ)
example Ð:=by (change xw û;first | show uv | apply uu | apply uw)
example Ñ:=#[rfl,rfl,rfl,rfl]
example Ò:=by (change y6 û;first | show uP | apply uQ)
example Ó:=by (exact zP.er ?_;ext Ä)
example Ô:=by (first | show rR _ | apply rJ | apply rQ)
example Õ:=by (change _∈w6;simp)
example ÿ:=by ext Í;cases d5;cases d6
example Ö:=by ext ÿ;cases d7;cases d8;cases d9
example ö:=λ _=>rfl
example ï:=λ _ _=>rfl
example Ø:=#[lq,#[_,_,_,_,rfl,ö],λ _ _ _ _ _ _ _ _=>bz ï]
example Ù:=(rfl:Å[10]?=_)
example Ú:=(rfl:Å[11]?=_)
example Û:=(rfl:Å[12]?=_)
example Ü:=(rfl:Å[13]?=_)
example Ý:=(rfl:Å[14]?=_)
example Þ:=(rfl:Å[0]?=_)
example ß:=(rfl:Å[1]?=_)
example à:=(rfl:Å[2]?=_)
example á:=(rfl:Å[3]?=_)
example â:=(rfl:Å[4]?=_)
example ã:=(rfl:Å[5]?=_)
example ä:=(rfl:Å[6]?=_)
example å:=(rfl:Å[7]?=_)
example æ:=(rfl:Å[8]?=_)
example ç:=(rfl:Å[9]?=_)
example è _:=x K mainGlobals
example é:=["Keeper","Taker"]
example ê:=by intro _ _ _ _ _ nd
example ë:=PySem.W.nsIn
example ì:=λ _ _ _ h=>h
example í:=zJ.fv (y_ _)
example î:=["floor","told","stand","done"]
example ð:=λ _ _ z=>z
example ñ:=Or.inl rfl
example ā:=xt _
example ò:=zJ.fv (ā)
example ó:=Or.inr rfl
example ô:=Bool.false
example õ:=(.Pass #[0,0,0,0])
example ø:=by ext Ö;cases d10;cases d11;cases d12
example ü _:=x X G
example þ:=["self"]
example Ā _:=x 9 ["self","floor","place","pair"] (xU lH)
example Ă:=["Keeper"]
example ă:=["floor","place","pair","times"]
example ą:=by (ext Ä)
example Ć:=["Taker"]
example Ĉ:=["_law_one","_law_other"]
example ĉ:=["floor","place"]
example Ċ:=["self","times","way"]
end PySem.W.Fast
namespace zU
open PySem L2 L3 L5
open PyProof.Rows hiding St
def top (i:Nat):Stmt:=PySem.Challenge.pw_purseborder_k81_hands_refused.main.body.getD i õ
abbrev Zh:Stmt:=(Z7 (top 4)).getD 0 õ
abbrev Zi:Stmt:=(Z7 (top 5)).getD 0 õ
abbrev Zg:Stmt:=(Z7 (top 6)).getD 0 õ
abbrev Zj:Stmt:=(Z7 (top 7)).getD 0 õ
def met (i j:Nat):Stmt:=(Ea (top i)).getD j õ
def IX:mR "times" Zj:=Ø
def IW:mR "pair" Zi:=Ø
def IV:mR "place" Zh:=Ø
def IU:mR "way" Zg:=Ø
set_option maxHeartbeats 0
structure HH (K:Ac):Prop where
 h0:Fx K "is_whole" (top 14)
 h1:Fx K "is_whole_within" (top 15)
 h2:Fx K "is_from_nought_on" (top 16)
 h3:Fx K "is_row_within" (top 17)
 h4:Fx K "places_of" (top 18)
 h5:Fx K "check_place" (top 19)
 h6:Fx K "check_pair" (top 20)
 h7:Fx K "ways_from" (top 21)
 h8:Fx K "stall_at" (top 22)
 h9:Fx K "at_or_above" (top 24)
 Gy:Fx K "least_pairs" (top 25)
 Gx:Fx K "holds" (top 26)
 cm:Fx K "both" (top 27)
 Gw:Fx K "either" (top 28)
 Gv:Fx K "border_ahead_of_way" (top 30)
 Gu:Fx K "pairs_ahead_of_changes" (top 31)
 Ro:Fx K "border_ahead_of_changes" (top 32)
 Gs:Fx K "border_of_either" (top 33)
 Gr:Fx K "border_of_all" (top 34)
 Gq:Fx K "next_border" (top 35)
 Gp:Fx K "next_round" (top 36)
 Gn:Fx K "rounds" (top 37)
 XT:Fx K "first_without" (top 38)
 XS:Fx K "is_way" (top 40)
 Rn:Fx K "step_by" (top 41)
 Gm:Fx K "change_by" (top 42)
 Gk:Fx K "change_at" (top 43)
 Gj:Fx K "check_way_from" (top 44)
 Gi:Fx K "made_ready" (top 45)
 Gh:Fx K "behind_deed" (top 46)
 Gg:Fx K "leads_into" (top 48)
 Gf:Fx K "deed_into" (top 49)
 Ge:Fx K "way_out_of" (top 50)
 Gb:Fx K "_law_cell_at" (top 56)
 H_:Fx K "_law_stirred" (top 57)
 HZ:Fx K "_law_amount" (top 58)
 HY:Fx K "_law_way" (top 59)
 HX:Fx K "_law_floor" (top 60)
 HW:Fx K "_law_sized" (top 61)
 HV:Fx K "_law_flags" (top 62)
 HU:Fx K "_law_like" (top 63)
 HS:Fx K "_law_whole" (top 64)
 HR:Fx K "_law_made" (top 65)
 HQ:Fx K "_law_asked" (top 66)
 HP:Fx K "_law_right" (top 67)
 HN:Fx K "_law_like_pair" (top 68)
 HM:Fx K "_law_behind" (top 69)
 HL:Fx K "_law_can" (top 70)
 HK:Fx K "_law_due" (top 71)
 HJ:Fx K "_law_deed" (top 72)
 HI:Fx K "_law_told" (top 73)
 HG:Fx K "_law_played" (top 74)
 HF:Fx K "law" (top 75)
 JW:Fc K "Keeper" "Hand.__init__" (met 52 0)
 JV:Fc K "Taker" "Hand.__init__" (met 52 0)
 m1:Fm K é "where" "Hand.where" (met 52 1)
 m2:Fm K é "steps" "Hand.steps" (met 52 2)
 m3:Fm K é "check_turn" "Hand.check_turn" (met 52 3)
 m4:Fm K é "first_way" "Hand.first_way" (met 52 4)
 m5:Fm K é "step_on" "Hand.step_on" (met 52 5)
 m6:Fm K Ă "does" "Keeper.does" (met 53 0)
 m7:Fm K Ă "went" "Keeper.went" (met 53 1)
 m8:Fm K Ć "goes" "Taker.goes" (met 54 0)
 m9:Fm K Ć "did" "Taker.did" (met 54 1)
 XF:Kl K "Keeper" î
 XE:Kl K "Taker" î
 G6:Cn K "KEEPER" (.str "keeper")
 G5:Cn K "TAKER" (.str "taker")
 Hw:Ei K "NoChange" "times" Zj
 Hv:Ez K "NoMore"
 Hu:Ei K "NoPair" "pair" Zi
 Hr:Ei K "NoPlace" "place" Zh
 Ho:Ei K "NoWay" "way" Zg
 Jy:Ec K "NoChange"
 Jx:Ec K "NoCount"
 Jw:Ec K "NoFloor"
 Jv:Ec K "NoMore"
 Ju:Ec K "NoName"
 Jt:Ec K "NoPair"
 Js:Ec K "NoPlace"
 Jr:Ec K "NoRow"
 Jq:Ec K "NoWay"
 xl:ë è "ValueError"=↑none
 y0:ë è "set"=↑none
 y1:ë è "zip"=↑none
 y2:ë è "enumerate"=↑none
 y3:ë è "abs"=↑none
 z0:ë è "len"=↑none
 z1:ë è "range"=↑none
 z2:ë è "any"=↑none
 z3:ë è "all"=↑none
 z4:ë è "sorted"=↑none
 z5:ë è "isinstance"=↑none
 z6:ë è "bool"=↑none
 z7:ë è "int"=↑none
 z8:ë è "str"=↑none
 z9:ë è "list"=↑none
 OI:ë è "tuple"=↑none
 OH:ë è "max"=↑none
 OG:ë è "min"=↑none
structure CC (K:Ac) (mg:Aq):Prop where
 c0:Cm mg "KEEPER" (.str "keeper")
 c1:Cm mg "TAKER" (.str "taker")
 c2:yF ć "NoChange" "times" Zj/\mR "times" Zj
 c3:ZW ć "NoMore"
 c4:yF ć "NoPair" "pair" Zi/\mR "pair" Zi
 c5:yF ć "NoPlace" "place" Zh/\mR "place" Zh
 c6:yF ć "NoWay" "way" Zg/\mR "way" Zg
 c7:Og ć "NoChange"
 c8:Og ć "NoCount"
 c9:Og ć "NoFloor"
 c10:Og ć "NoMore"
 c11:Og ć "NoName"
 c12:Og ć "NoPair"
 c13:Og ć "NoPlace"
 c14:Og ć "NoRow"
 c15:Og ć "NoWay"
 pJ:mg "ValueError"=none
structure KK (K:Ac):Prop where
 k0:∀ c∈(Ă:List Str),Kl K c î
 k1:∀ c∈(é:List Str),Kl K c î
 k2:∀ c∈(Ć:List Str),Kl K c î
section
variable (P:Program)(w:World)(K:Ac)(mg:Aq)(base:Heap)
structure D1:Prop where
 x0:FD Ê "is_whole" 1 ["thing"] (zR zC lG)
 x1:FD Ê "places_of" 1 ["floor"] (zR zC ez)
 x2:FD Ê "at_or_above" 1 ["pair","other"] (zR zC bL)
 x3:FD Ê "least_pairs" 1 ["pairs"] (zR zC gq)
 x4:FD Ê "pairs_ahead_of_changes" 1 ["brims","stall","pair"] (zR zC Vu)
structure D2:Prop where
 x0:FD Ê "step_by" 1 ["floor","pair","way"] (zR zC bE)
 x1:FD Ê "change_by" 1 ["brims","stall","pair","times"] (zR zC eD)
 x2:FD Ê "_law_cell_at" 1 ["_law_script","_law_k"] (zR zL jW)
 x3:FD Ê "_law_stirred" 1 ["_law_cell","_law_count"] (zR zC e9)
 x4:FD Ê "_law_amount" 1 ["_law_number","_law_most"] (zR zC Yk)
structure D3:Prop where
 x0:FD Ê "_law_sized" 1 ["_law_number"] (zR zL Yg)
 x1:FD Ê "_law_flags" 1 ["_law_caught"] (zR zC Yh)
 x2:FD Ê "_law_like" 1 Ĉ (zR zC jV)
 x3:FD Ê "_law_whole" 1 ["_law_thing","_law_least","_law_most"] (zR zC ki)
 x4:FD Ê "_law_behind" 1 ["_law_floor_here","_law_place","_law_pair","_law_times","_law_way_here"] (zR zC Yj)
structure D4:Prop where
 x0:FD Ê "_law_can" 1 ["_law_floor_here","_law_place","_law_pair","_law_times"] (zR zC pA)
 x1:FD Ê "_law_deed" 1 ["_law_floor_here","_law_here","_law_xs"] (zR zC Yi)
 x2:eG Ê é "where" 1 þ (k7 þ 1 Yv)
 x3:eG Ê é "steps" 1 þ (k7 þ 1 eK)
structure D5:Prop where
 x0:FD Ê "is_whole_within" 2 ["thing","least","most"] (zR zC oa)
 x1:FD Ê "is_from_nought_on" 2 ["thing"] (zR zC jX)
 x2:FD Ê "holds" 2 ["border","pair"] (zR zC bI)
 x3:FD Ê "both" 2 ["border","other"] (zR zC Yq)
 x4:FD Ê "either" 2 ["border","other"] (zR zC bJ)
structure D6:Prop where
 x0:FD Ê "border_ahead_of_way" 2 ["brims","way","border"] (zR zC V7)
 x1:FD Ê "_law_way" 2 ["_law_place","_law_many","_law_number","_law_size"] (zR zC Yf)
 x2:FD Ê "_law_like_pair" 2 Ĉ (zR zC gu)
 x3:FD Ê "_law_due" 2 ["_law_floor_here","_law_here","_law_way_here","_law_deed_here"] (zR zC mT)
 x4:FD Ê "_law_told" 2 ["_law_floor_here","_law_here","_law_way_here","_law_deed_here","_law_found"] (zR zL gr)
structure D7:Prop where
 x0:FD Ê "is_row_within" 3 ["thing","bounds"] (zR zC kl)
 x1:xO Ê "check_place" 3 ĉ (zR zC jY)
 x2:FD Ê "border_of_either" 3 ["borders"] (zR zL V5)
 x3:FD Ê "border_of_all" 3 ["borders"] (zR zL V6)
 x4:FD Ê "first_without" 3 ["told","place","pair"] (zR zL V2)
structure D8:Prop where
 x0:FD Ê "is_way" 3 ["floor","thing"] (zR zC Yl)
 x1:FD Ê "leads_into" 3 ["floor","pair","way","held"] (zR zC Yd)
 x2:FD Ê "_law_floor" 3 ["_law_cell","_law_most","_law_brim"] (zR zC eB)
 x3:FD Ê "_law_right" 3 ["_law_caught","_law_due_here"] (zR zC lF)
 x4:xX Ê é "check_turn" 3 ["self","owner"] (xU jZ)
structure D9:Prop where
 x0:xO Ê "check_pair" 4 ["floor","pair"] (zR zC Yn)
 x1:FD Ê "ways_from" 4 ĉ (zR zC ei)
 x2:FD Ê "stall_at" 4 ĉ (zR zL gm)
 x3:xO Ê "check_way_from" 4 ["floor","place","way"] (zR zC bK)
structure Ow:Prop where
 x0:FD Ê "border_ahead_of_changes" 5 ["floor","place","border"] (zR zL V8)
 x1:FD Ê "change_at" 5 ă (zR zC kS)
 x2:FD Ê "way_out_of" 5 ["floor","place","pair","told"] (zR zL Vr)
 x3:eG Ê é "first_way" 5 þ (k7 þ 1 eL)
structure Ov:Prop where
 x0:FD Ê "next_border" 6 ["floor","place","last"] (zR zL Vx)
 x1:xO Ê "made_ready" 6 ă (zR zL bF)
 x2:FD Ê "deed_into" 6 ["floor","place","pair","held"] (zR zC V3)
structure Ou:Prop where
 x0:FD Ê "next_round" 7 ["floor","last","fresh"] (zR zC Vv)
 x1:xO Ê "behind_deed" 7 ["floor","place","pair","deed"] (zR zC kT)
structure Ot:Prop where
 x0:FD Ê "rounds" 8 ["floor"] (zR zC gp)
 x1:xX Ê é "step_on" 8 Ċ (xU gA)
structure Oq:Prop where
 x0:bM Ê "Keeper" Ā
 x1:bM Ê "Taker" Ā
 x2:xX Ê Ă "does" 9 þ (xU eF)
 x3:xX Ê Ă "went" 9 ["self","way"] (xU gz)
 x4:xX Ê Ć "goes" 9 þ (xU eE)
structure Oo:Prop where
 x0:xX Ê Ć "did" 9 Ċ (xU gy)
structure Om:Prop where
 x0:FD Ê "_law_asked" 10 ["_law_hand","_law_way_here","_law_deed_here"] (xU eC)
structure Ol:Prop where
 x0:FD Ê "_law_made" 11 ["_law_kind","_law_floor_here","_law_place","_law_pair"] (zR yL eA)
 x1:FD Ê "_law_played" 11 ["_law_floor_here","_law_hand","_law_kind","_law_here","_law_cells"] (xU V1)
variable {K mg}(T:Bt mg)(U:Ox mg){h:Heap}(H:HH K)(C:CC ć)(Q:KK K)(X:K.In h)(G:h.Ns mainGlobals mg)
include T U H C Q X G
theorem Jj:D1 Ê:=by
 have xl:=C.pJ;cases C;exact#[yH [] (H.h0.mk ü) ?_,
  yH [] (H.h4.mk ü) ?_,
  yH [] (H.h9.mk ü) ?_,
  yH [] (H.Gy.mk ü) ?_,
  yH [] (H.Gu.mk ü) ?_]
 all_goals
  ext Ì;show#[_,(by
    repeat' first
     | show rfl
     | ext À
     | ext Ò
     | ext È
     | apply yV | apply yW | apply uc | apply ud
     | ext Ð
     | ext Ã
     | apply uM | apply vL | apply vK | apply vJ | apply uL | show uK
     | ext É
     | show uO | apply uN
     | ext Ï
     | ext Æ
     | ext Õ | show ð | show ì | show T
     | show hr | show nd | ext ê | show ö | show ï | show ñ | show ó | show Ñ | decide
     | show Þ | show ß | show à | show á | show â | show ã | show ä | show å | show æ | show ç | show Ù | show Ú | show Û | show Ü | show Ý),(by
    repeat' first
     | ext Ë
     | ext ą
     | ext Á
     | ext Ó
     | ext Â
     | ext Î
     | show ā
     | ext Ç
     | ext Ô
     | show í
     | show ò
     | show ô)]
variable (d1:D1 Ê)
include d1
theorem Ja:D2 Ê:=by
 ext ý;exact#[yH [] (H.Rn.mk ü) ?_,
  yH [] (H.Gm.mk ü) ?_,
  yH [] (H.Gb.mk ü) ?_,
  yH [] (H.H_.mk ü) (by ext Ì;have hB:=trivial;show#[_,(by
    repeat' first
     | show rfl
     | ext À
     | ext Ò
     | ext È
     | apply yV | apply yW | apply uc | apply ud
     | ext Ð
     | ext Ã
     | apply uM | apply vL | apply vK | apply vJ | apply uL | show uK
     | ext É
     | show uO | apply uN
     | ext Ï
     | ext Æ
     | ext Õ | show ð | show ì | show T
     | show hr | show nd | ext ê | show ö | show ï | show ñ | show ó | show Ñ | decide
     | show Þ | show ß | show à | show á | show â | show ã | show ä | show å | show æ | show ç | show Ù | show Ú | show Û | show Ü | show Ý),(by
    repeat' first
     | ext Ë
     | ext ą
     | ext Á
     | ext Ó
     | ext Â
     | ext Î
     | show ā
     | ext Ç
     | ext Ô
     | show í
     | show ò
     | show ô)]),
  yH [] (H.HZ.mk ü) ?_]
 all_goals
  ext Ì;show#[_,(by
    repeat' first
     | show rfl
     | ext À
     | ext Ò
     | ext È
     | apply yV | apply yW | apply uc | apply ud
     | ext Ð
     | ext Ã
     | apply uM | apply vL | apply vK | apply vJ | apply uL | show uK
     | ext É
     | show uO | apply uN
     | ext Ï
     | ext Æ
     | ext Õ | show ð | show ì | show T
     | show hr | show nd | ext ê | show ö | show ï | show ñ | show ó | show Ñ | decide
     | show Þ | show ß | show à | show á | show â | show ã | show ä | show å | show æ | show ç | show Ù | show Ú | show Û | show Ü | show Ý),(by
    repeat' first
     | ext Ë
     | ext ą
     | ext Á
     | ext Ó
     | ext Â
     | ext Î
     | show ā
     | ext Ç
     | ext Ô
     | show í
     | show ò
     | show ô)]
variable (d2:D2 Ê)
include d2
theorem dF:D3 Ê:=by
 ext ý;cases d2;exact#[yH [] (H.HW.mk ü) ?_,
  yH [] (H.HV.mk ü) ?_,
  yH [] (H.HU.mk ü) ?_,
  yH [] (H.HS.mk ü) ?_,
  yH [] (H.HM.mk ü) ?_]
 all_goals
  ext Ì;show#[_,(by
    repeat' first
     | show rfl
     | ext À
     | ext Ò
     | ext È
     | apply yV | apply yW | apply uc | apply ud
     | ext Ð
     | ext Ã
     | apply uM | apply vL | apply vK | apply vJ | apply uL | show uK
     | ext É
     | show uO | apply uN
     | ext Ï
     | ext Æ
     | ext Õ | show ð | show ì | show T
     | show hr | show nd | ext ê | show ö | show ï | show ñ | show ó | show Ñ | decide
     | show Þ | show ß | show à | show á | show â | show ã | show ä | show å | show æ | show ç | show Ù | show Ú | show Û | show Ü | show Ý),(by
    repeat' first
     | ext Ë
     | ext ą
     | ext Á
     | ext Ó
     | ext Â
     | ext Î
     | show ā
     | ext Ç
     | ext Ô
     | show í
     | show ò
     | show ô)]
variable (d3:D3 Ê)
include d3
theorem K_:D4 Ê:=by
 ext ý;cases d2;cases d3;exact#[yH [] (H.HL.mk ü) ?_,
  yH [(["_law_k","_law_floor_here","_law_here"],[none,↑0,↑1])] (H.HJ.mk ü) ?_,
  (have:=Q.k1;Wm [] H.m1 ?_),
  (have:=Q.k1;Wm [] H.m2 ?_)]
 all_goals
  ext Ì;show#[_,(by
    repeat' first
     | show rfl
     | ext À
     | ext Ò
     | ext È
     | apply yV | apply yW | apply uc | apply ud
     | ext Ð
     | ext Ã
     | apply uM | apply vL | apply vK | apply vJ | apply uL | show uK
     | ext É
     | show uO | apply uN
     | ext Ï
     | ext Æ
     | ext Õ | show ð | show ì | show T
     | show hr | show nd | ext ê | show ö | show ï | show ñ | show ó | show Ñ | decide
     | show Þ | show ß | show à | show á | show â | show ã | show ä | show å | show æ | show ç | show Ù | show Ú | show Û | show Ü | show Ý),(by
    repeat' first
     | ext Ë
     | ext ą
     | ext Á
     | ext Ó
     | ext Â
     | ext Î
     | show ā
     | ext Ç
     | ext Ô
     | show í
     | show ò
     | show ô)]
variable (d4:D4 Ê)
include d4
theorem KZ:D5 Ê:=by
 ext Í;exact#[yH [] (H.h1.mk ü) ?_,
  yH [] (H.h2.mk ü) ?_,
  yH [(["own","pair"],[none,↑1])] (H.Gx.mk ü) ?_,
  yH [(["pair"],[none])] (H.cm.mk ü) ?_,
  yH [] (H.Gw.mk ü) ?_]
 all_goals
  ext Ì;show#[_,(by
    repeat' first
     | show rfl
     | ext À
     | ext Ò
     | ext È
     | apply yV | apply yW | apply uc | apply ud
     | ext Ð
     | ext Ã
     | apply uM | apply vL | apply vK | apply vJ | apply uL | show uK
     | ext É
     | show uO | apply uN
     | ext Ï
     | ext Æ
     | ext Õ | show ð | show ì | show T
     | show hr | show nd | ext ê | show ö | show ï | show ñ | show ó | show Ñ | decide
     | show Þ | show ß | show à | show á | show â | show ã | show ä | show å | show æ | show ç | show Ù | show Ú | show Û | show Ü | show Ý),(by
    repeat' first
     | ext Ë
     | ext ą
     | ext Á
     | ext Ó
     | ext Â
     | ext Î
     | show ā
     | ext Ç
     | ext Ô
     | show í
     | show ò
     | show ô)]
variable (d5:D5 Ê)
include d5
theorem KY:D6 Ê:=by
 ext Í;cases d5;exact#[yH [(["pair","way"],[none,↑1]),(["pair","brims"],[none,↑0])] (H.Gv.mk ü) ?_,
  yH [] (H.HY.mk ü) ?_,
  yH [(["_law_k","_law_one","_law_other"],[none,↑0,↑1])] (H.HN.mk ü) ?_,
  yH [] (H.HK.mk ü) ?_,
  yH [] (H.HI.mk ü) ?_]
 all_goals
  ext Ì;show#[_,(by
    repeat' first
     | show rfl
     | ext À
     | ext Ò
     | ext È
     | apply yV | apply yW | apply uc | apply ud
     | ext Ð
     | ext Ã
     | apply uM | apply vL | apply vK | apply vJ | apply uL | show uK
     | ext É
     | show uO | apply uN
     | ext Ï
     | ext Æ
     | ext Õ | show ð | show ì | show T
     | show hr | show nd | ext ê | show ö | show ï | show ñ | show ó | show Ñ | decide
     | show Þ | show ß | show à | show á | show â | show ã | show ä | show å | show æ | show ç | show Ù | show Ú | show Û | show Ü | show Ý),(by
    repeat' first
     | ext Ë
     | ext ą
     | ext Á
     | ext Ó
     | ext Â
     | ext Î
     | show ā
     | ext Ç
     | ext Ô
     | show í
     | show ò
     | show ô)]
variable (d6:D6 Ê)
include d6
theorem KW:D7 Ê:=by
 ext ÿ;exact#[yH [(["number","bound"],[none,none])] (H.h3.mk ü) ?_,
  cA [] (H.h5.mk ü) ?_,
  yH [] (H.Gs.mk ü) ?_,
  yH [] (H.Gr.mk ü) ?_,
  yH [] (H.XT.mk ü) ?_]
 all_goals
  ext Ì;show#[_,(by
    repeat' first
     | show rfl
     | ext À
     | ext Ò
     | ext È
     | apply yV | apply yW | apply uc | apply ud
     | ext Ð
     | ext Ã
     | apply uM | apply vL | apply vK | apply vJ | apply uL | show uK
     | ext É
     | show uO | apply uN
     | ext Ï
     | ext Æ
     | ext Õ | show ð | show ì | show T
     | show hr | show nd | ext ê | show ö | show ï | show ñ | show ó | show Ñ | decide
     | show Þ | show ß | show à | show á | show â | show ã | show ä | show å | show æ | show ç | show Ù | show Ú | show Û | show Ü | show Ý),(by
    repeat' first
     | ext Ë
     | ext ą
     | ext Á
     | ext Ó
     | ext Â
     | ext Î
     | show ā
     | ext Ç
     | ext Ô
     | show í
     | show ò
     | show ô)]
variable (d7:D7 Ê)
include d7
theorem KU:D8 Ê:=by
 ext ÿ;cases d7;exact#[yH [] (H.XS.mk ü) ?_,
  yH [] (H.Gg.mk ü) ?_,
  yH [] (H.HX.mk ü) ?_,
  yH [(["_law_k","_law_due_here"],[none,↑1])] (H.HP.mk ü) ?_,
  (have:=Q.k1;fM [] H.m3 ?_)]
 all_goals
  ext Ì;show#[_,(by
    repeat' first
     | show rfl
     | ext À
     | ext Ò
     | ext È
     | apply yV | apply yW | apply uc | apply ud
     | ext Ð
     | ext Ã
     | apply uM | apply vL | apply vK | apply vJ | apply uL | show uK
     | ext É
     | show uO | apply uN
     | ext Ï
     | ext Æ
     | ext Õ | show ð | show ì | show T
     | show hr | show nd | ext ê | show ö | show ï | show ñ | show ó | show Ñ | decide
     | show Þ | show ß | show à | show á | show â | show ã | show ä | show å | show æ | show ç | show Ù | show Ú | show Û | show Ü | show Ý),(by
    repeat' first
     | ext Ë
     | ext ą
     | ext Á
     | ext Ó
     | ext Â
     | ext Î
     | show ā
     | ext Ç
     | ext Ô
     | show í
     | show ò
     | show ô)]
variable (d8:D8 Ê)
include d8
theorem KS:D9 Ê:=by
 ext ÿ;cases d7;cases d8;exact#[cA [] (H.h6.mk ü) ?_,
  yH [(["number","way","place"],[none,none,↑1])] (H.h7.mk ü) ?_,
  yH [] (H.h8.mk ü) ?_,
  cA [] (H.Gj.mk ü) ?_]
 all_goals
  ext Ì;show#[_,(by
    repeat' first
     | show rfl
     | ext À
     | ext Ò
     | ext È
     | apply yV | apply yW | apply uc | apply ud
     | ext Ð
     | ext Ã
     | apply uM | apply vL | apply vK | apply vJ | apply uL | show uK
     | ext É
     | show uO | apply uN
     | ext Ï
     | ext Æ
     | ext Õ | show ð | show ì | show T
     | show hr | show nd | ext ê | show ö | show ï | show ñ | show ó | show Ñ | decide
     | show Þ | show ß | show à | show á | show â | show ã | show ä | show å | show æ | show ç | show Ù | show Ú | show Û | show Ü | show Ý),(by
    repeat' first
     | ext Ë
     | ext ą
     | ext Á
     | ext Ó
     | ext Â
     | ext Î
     | show ā
     | ext Ç
     | ext Ô
     | show í
     | show ò
     | show ô)]
variable (d9:D9 Ê)
include d9
theorem Ji:Ow Ê:=by
 ext Ö;exact#[yH [] (H.Ro.mk ü) ?_,
  yH [] (H.Gk.mk ü) ?_,
  yH [(["way","floor","pair","told","steps"],[none,↑0,↑2,↑3,↑4])] (H.Ge.mk ü) ?_,
  (have:=Q.k1;Wm [] H.m4 ?_)]
 all_goals
  ext Ì;show#[_,(by
    repeat' first
     | show rfl
     | ext À
     | ext Ò
     | ext È
     | apply yV | apply yW | apply uc | apply ud
     | ext Ð
     | ext Ã
     | apply uM | apply vL | apply vK | apply vJ | apply uL | show uK
     | ext É
     | show uO | apply uN
     | ext Ï
     | ext Æ
     | ext Õ | show ð | show ì | show T
     | show hr | show nd | ext ê | show ö | show ï | show ñ | show ó | show Ñ | decide
     | show Þ | show ß | show à | show á | show â | show ã | show ä | show å | show æ | show ç | show Ù | show Ú | show Û | show Ü | show Ý),(by
    repeat' first
     | ext Ë
     | ext ą
     | ext Á
     | ext Ó
     | ext Â
     | ext Î
     | show ā
     | ext Ç
     | ext Ô
     | show í
     | show ò
     | show ô)]
variable (d10:Ow Ê)
include d10
theorem Jh:Ov Ê:=by
 ext Ö;cases d10;exact#[yH [(["number","floor"],[none,↑0]),(["way","floor","last"],[none,↑0,↑2])] (H.Gq.mk ü) ?_,
  cA [] (H.Gi.mk ü) ?_,
  yH [] (H.Gf.mk ü) ?_]
 all_goals
  ext Ì;show#[_,(by
    repeat' first
     | show rfl
     | ext À
     | ext Ò
     | ext È
     | apply yV | apply yW | apply uc | apply ud
     | ext Ð
     | ext Ã
     | apply uM | apply vL | apply vK | apply vJ | apply uL | show uK
     | ext É
     | show uO | apply uN
     | ext Ï
     | ext Æ
     | ext Õ | show ð | show ì | show T
     | show hr | show nd | ext ê | show ö | show ï | show ñ | show ó | show Ñ | decide
     | show Þ | show ß | show à | show á | show â | show ã | show ä | show å | show æ | show ç | show Ù | show Ú | show Û | show Ü | show Ý),(by
    repeat' first
     | ext Ë
     | ext ą
     | ext Á
     | ext Ó
     | ext Â
     | ext Î
     | show ā
     | ext Ç
     | ext Ô
     | show í
     | show ò
     | show ô)]
variable (d11:Ov Ê)
include d11
theorem Jg:Ou Ê:=by
 ext Ö;cases d10;cases d11;exact#[yH [(["way","fresh"],[none,↑2])] (H.Gp.mk ü) ?_,
  cA [] (H.Gh.mk ü) ?_]
 all_goals
  ext Ì;show#[_,(by
    repeat' first
     | show rfl
     | ext À
     | ext Ò
     | ext È
     | apply yV | apply yW | apply uc | apply ud
     | ext Ð
     | ext Ã
     | apply uM | apply vL | apply vK | apply vJ | apply uL | show uK
     | ext É
     | show uO | apply uN
     | ext Ï
     | ext Æ
     | ext Õ | show ð | show ì | show T
     | show hr | show nd | ext ê | show ö | show ï | show ñ | show ó | show Ñ | decide
     | show Þ | show ß | show à | show á | show â | show ã | show ä | show å | show æ | show ç | show Ù | show Ú | show Û | show Ü | show Ý),(by
    repeat' first
     | ext Ë
     | ext ą
     | ext Á
     | ext Ó
     | ext Â
     | ext Î
     | show ā
     | ext Ç
     | ext Ô
     | show í
     | show ò
     | show ô)]
variable (d12:Ou Ê)
include d12
theorem Jf:Ot Ê:=by
 ext ø;exact#[yH [(["place","border","last"],[none,none,↑3])] (H.Gn.mk ü) ?_,
  (have:=Q.k1;fM [] H.m5 ?_)]
 all_goals
  ext Ì;show#[_,(by
    repeat' first
     | show rfl
     | ext À
     | ext Ò
     | ext È
     | apply yV | apply yW | apply uc | apply ud
     | ext Ð
     | ext Ã
     | apply uM | apply vL | apply vK | apply vJ | apply uL | show uK
     | ext É
     | show uO | apply uN
     | ext Ï
     | ext Æ
     | ext Õ | show ð | show ì | show T
     | show hr | show nd | ext ê | show ö | show ï | show ñ | show ó | show Ñ | decide
     | show Þ | show ß | show à | show á | show â | show ã | show ä | show å | show æ | show ç | show Ù | show Ú | show Û | show Ü | show Ý),(by
    repeat' first
     | ext Ë
     | ext ą
     | ext Á
     | ext Ó
     | ext Â
     | ext Î
     | show ā
     | ext Ç
     | ext Ô
     | show í
     | show ò
     | show ô)]
variable (d13:Ot Ê)
include d13
theorem Je:Oq Ê:=by
 ext ø;cases d13;exact#[(have:=Q.k1;RC [] H.JW ü ?_),
  (have:=Q.k1;RC [] H.JV ü ?_),
  (have:=Q.k0;fM [] H.m6 ?_),
  (have:=Q.k0;fM [] H.m7 ?_),
  (have:=Q.k2;fM [] H.m8 ?_)]
 all_goals
  ext Ì;show#[_,(by
    repeat' first
     | show rfl
     | ext À
     | ext Ò
     | ext È
     | apply yV | apply yW | apply uc | apply ud
     | ext Ð
     | ext Ã
     | apply uM | apply vL | apply vK | apply vJ | apply uL | show uK
     | ext É
     | show uO | apply uN
     | ext Ï
     | ext Æ
     | ext Õ | show ð | show ì | show T
     | show hr | show nd | ext ê | show ö | show ï | show ñ | show ó | show Ñ | decide
     | show Þ | show ß | show à | show á | show â | show ã | show ä | show å | show æ | show ç | show Ù | show Ú | show Û | show Ü | show Ý),(by
    repeat' first
     | ext Ë
     | ext ą
     | ext Á
     | ext Ó
     | ext Â
     | ext Î
     | show ā
     | ext Ç
     | ext Ô
     | show í
     | show ò
     | show ô)]
variable (d14:Oq Ê)
include d14
theorem Jd:Oo Ê:=by
 ext ø;cases d13;cases d14;exact#[(have:=Q.k2;fM [] H.m9 ?_)]
 all_goals
  ext Ì;show#[_,(by
    repeat' first
     | show rfl
     | ext À
     | ext Ò
     | ext È
     | apply yV | apply yW | apply uc | apply ud
     | ext Ð
     | ext Ã
     | apply uM | apply vL | apply vK | apply vJ | apply uL | show uK
     | ext É
     | show uO | apply uN
     | ext Ï
     | ext Æ
     | ext Õ | show ð | show ì | show T
     | show hr | show nd | ext ê | show ö | show ï | show ñ | show ó | show Ñ | decide
     | show Þ | show ß | show à | show á | show â | show ã | show ä | show å | show æ | show ç | show Ù | show Ú | show Û | show Ü | show Ý),(by
    repeat' first
     | ext Ë
     | ext ą
     | ext Á
     | ext Ó
     | ext Â
     | ext Î
     | show ā
     | ext Ç
     | ext Ô
     | show í
     | show ò
     | show ô)]
variable (d15:Oo Ê)
include d15
theorem Jc:Om Ê:=by
 ext ø;cases d13;cases d14;cases d15;exact#[RB [] (H.HQ.mk ü) ?_]
 all_goals
  ext Ì;show#[_,(by
    repeat' first
     | show rfl
     | ext À
     | ext Ò
     | ext È
     | apply yV | apply yW | apply uc | apply ud
     | ext Ð
     | ext Ã
     | apply uM | apply vL | apply vK | apply vJ | apply uL | show uK
     | ext É
     | show uO | apply uN
     | ext Ï
     | ext Æ
     | ext Õ | show ð | show ì | show T
     | show hr | show nd | ext ê | show ö | show ï | show ñ | show ó | show Ñ | decide
     | show Þ | show ß | show à | show á | show â | show ã | show ä | show å | show æ | show ç | show Ù | show Ú | show Û | show Ü | show Ý),(by
    repeat' first
     | ext Ë
     | ext ą
     | ext Á
     | ext Ó
     | ext Â
     | ext Î
     | show ā
     | ext Ç
     | ext Ô
     | show í
     | show ò
     | show ô)]
)
example:=`(
example Î:=by assumption
example Ï _:=x _ _ _
example ß:=.Subscript (.Name "lows" _) _ _
example À:=by (change PD Ï;first | (change PD _ (.Name _ _) _;first | show zg 0 | show zg 1 | show zg 2 | show zg 3 | show zg 4 | show zg 5 | show zg 6 | show zg 7 | show zg 8 | show zg 9 | show zg 10 | show zg 11 | show zg 12 | show zg 13 | show zg 14 | show tS (by ext Î)) | show tQ | show sg | show uU | show tj | (change PD _ (ß) _;apply t_ hr) | (change PD _ (.Call _ [.Name "lows" _] _ _) _;apply tZ T.len) | show sd | apply se hr | apply uX | apply tJ | apply uS | apply tE | (change PD _ (.Call Ï _) _;first | (apply yZ;ext Î) | (apply yX;ext Î) | (apply yX;show xX.no (by ext Î)) | (apply yZ;show xO.no (by ext Î)) | apply t8 T.min | apply tH T.len | apply tF T.list T.range | apply tG T.list | apply uR T.tuple | apply t9 T.max | apply t7 T.min | apply sj T.any | apply sr T.all | apply uV hr T.sorted U.set | apply uW T.sorted | apply tM T | apply tN T | apply tL T | apply sv U.abs | apply tD | apply tB | (apply tP;ext Î) | apply L3.yY xl) | (change PD _ (.BinOp Ï _) _;first | (have:=hB;first | apply tW | apply tw) | apply su | apply uT | apply t6 | apply tX | apply tu | apply uY) | (change PD _ (.Compare Ï _) _;first | apply tY hr | apply tI | apply tU | apply L5.yY | apply tK | apply sf yR yR fit_le fit_le ye.mo ye.mo) | apply sk | apply uZ | apply u_ | apply tf | apply tq | apply tR | (apply tT;ext Î) | apply tV | (apply pl (Hs.a hc) hS hN;show zV hS hN;decide +kernel) | (apply pl (Hs.b hc) hS hN;show zV hS hN;decide +kernel))
example Ò:=(by with_reducible first | show yk | show ym | show yn | show yo)
example Á:=by ((try first | exact zP.fr ?_ | exact zP.fe ?_);with_reducible first | show qw _ | exact yf (R:=zC) (by with_reducible first | show qZ | show yk | show qX | show qW | show qV | show ym | show yn | show yo | show qO) ?_ ?_ | exact zH (R:=zC) ?_ | exact qF (R:=zC) (by with_reducible first | show qU | show qL | show qT | show qR | show qQ | show qY | show qN | show qM | show qS | show q_ | show qP) ?_ | apply qb | apply qf | apply qq | apply q8 | apply qt | show qG _ | show qg _ | show qm | apply qu | apply qx | apply qo | exact qE Ò Ò ?_ ?_ ?_ | apply qj | apply qh | show qD _ | apply qv | apply qz | apply qp)
example Â _:=x l.prog w base T U H C Q X
example Ã:=by with_reducible first | show xc _ | exact yf (R:=zL) xm ?_ ?_ | exact zH (R:=zL) ?_ | apply xi | apply xj | apply xk | show xh _ _ | show xf _ | apply xg | exact zH (R:=yL) ?_
example Ä:=(_:List Str)
example Å:=by (with_reducible first | apply sH | apply sR | apply sO | apply rn | apply sU | show sI | apply sN | apply sS | apply sC | apply rN | apply rL | apply rM | apply sL | apply sD | apply sE | apply sy | apply sQ | apply rq | apply rp | apply vt | apply r0 | show rX | apply rY | apply rW | apply rj | apply sV | show sG | apply sP | apply rl | apply rh | apply sX | apply sA | show y_ _ | apply sZ | apply sW | apply sF | apply sY | show rf _ | apply s_ | apply sT | apply sJ | apply sM | apply xa | apply xb)
example Ö _:=x Â G d1 d2 d3 d4
example Æ _:=x Ö d5 d6 d7
example Ç:=by (change yt Ï;first | apply u6 | apply uA | apply uB za4 rfl | apply uz za4 | (apply yU (Hs.a hc) hS hN nd;show zV hS hN;rfl;decide +kernel) | (apply yU (Hs.b hc) hS hN nd;show zV hS hN;rfl;decide +kernel) | (change yt _ (.Assign [ß] _ _) _;apply uD hr) | apply u4 | (apply u7;ext Î) | apply u5 | apply u9 | apply uC | apply uE)
example È:=by (change xH Ï _;first | (apply vY;ext Î) | (apply v_;ext Î) | (apply vM;ext Î) | (apply vO;ext Î) | (apply vU;ext Î) | (apply vW;ext Î) | (apply vV;ext Î) | (apply vT;ext Î) | (apply vP;ext Î;ext Î) | apply vN | apply vX | apply vR)
example É:=by (with_reducible first | show rZ | apply r_ | show rS | apply rV | apply qc | apply qe | apply qB | apply qA | apply qC | show qd | show rK _ | show rG | apply rH | show rO | apply rP | apply rD | apply rC | apply rA | apply rB | apply rE | apply rF | apply r9)
example Ê:=by (change yh Ï;first | (change yh _ (.Compare Ï _) _;first | apply ui | apply ur hr | apply uh hr | apply uj | apply uq | apply uo hr | apply um | apply uk) | apply ug | (apply wF.pt;first | apply yV | apply yW) | apply uf)
example Ë:=by (change xW Ï _;first | apply uI T.range | apply uH T.range | apply uF U.zip | apply uJ U.enumerate | apply uG)
example á _:=x Æ d8 d9 d10
example Ì _:=x á d11 d12
example Í _:=x á d11 d12 d13
example Ð:=by (with_reducible first | show qa _ | apply qH | apply qk | apply ql | apply qy)
example Ñ:=by cases d10;cases d11;cases d12;cases d13;cases d14;cases d15
example Ó:=by have xl:=C.pJ;cases C;cases d1;cases d2;cases d3;cases d4
example Ô:=K w.params
example Õ _:=x Â G d1 d2 d3
example Ø:=by (exact ve.s ?_;with_reducible first | apply xa | apply xb)
example Ù:=by cases d6;cases d7;cases d8;cases d9;ext Ñ;cases d16
example Ú _:=x w K mg base
example Û _:=x X G
example Ü _:=x mainGlobals mg
example Ý:=by (change xI Ï _;first | show vS | apply vQ | apply vZ)
example Þ _:=x fd ["_law_script"] (mv K (zR zC bH))
example à:=by (change xw Ï;first | show uv | apply uu | apply uw)
example â:=by (change y6 Ï;first | show uP | apply uQ)
example ã:=by (first | show rR _ | apply rJ | apply rQ)
variable (d16:Om P Ú)
include d16
theorem Jb:Ol P Ú:=by
 ext Ó;cases d5;ext Ù;exact#[yH [] (H.HR.mk Û) ?_,
  RB [] (H.HG.mk Û) ?_]
 all_goals
  intro f Af A outer s H E hc nd hN hS hr;show#[_,(by
    repeat' first
     | show rfl
     | ext À
     | ext â
     | ext Ê
     | apply yV | apply yW | apply uc | apply ud
     | ext à
     | ext Ç
     | apply uM | apply vL | apply vK | apply vJ | apply uL | show uK
     | ext Ë
     | show uO | apply uN
     | ext Ý
     | ext È
     | (change _∈w6;simp) | show λ _ _ z=>z | show λ _ _ _ h=>h | show T
     | show hr | show nd | intro _ _ _ _ _ nd | show λ _=>rfl | show λ _ _=>rfl | show Or.inl rfl | show Or.inr rfl | show#[rfl,rfl,rfl,rfl] | decide
     | show (rfl:Ä[0]?=_) | show (rfl:Ä[1]?=_) | show (rfl:Ä[2]?=_) | show (rfl:Ä[3]?=_) | show (rfl:Ä[4]?=_) | show (rfl:Ä[5]?=_) | show (rfl:Ä[6]?=_) | show (rfl:Ä[7]?=_) | show (rfl:Ä[8]?=_) | show (rfl:Ä[9]?=_) | show (rfl:Ä[10]?=_) | show (rfl:Ä[11]?=_) | show (rfl:Ä[12]?=_) | show (rfl:Ä[13]?=_) | show (rfl:Ä[14]?=_)),(by
    repeat' first
     | ext Ð
     | (ext Ã)
     | ext Á
     | (exact zP.er ?_;ext Ã)
     | ext Å
     | ext Ø
     | show xt _
     | ext É
     | ext ã
     | show zJ.fv (y_ _)
     | show zJ.fv (xt _)
     | show Bool.false)]
variable (d17:Ol P Ú)
include d17
theorem KR {f:Addr}{fd:FuncData}(F:pM K "law" "law" (top 75) f fd):wg P Ú xP 12 f Þ:=by
 ext Ó;cases d5;ext Ù;cases d17;exact GF [(["_law_k","_law_script"],[none,↑0])] F ?_
 all_goals
  intro Af A outer s H E hc nd hN hS hr;show#[_,(by
    repeat' first
     | show rfl
     | ext À
     | ext â
     | ext Ê
     | apply yV | apply yW | apply uc | apply ud
     | ext à
     | ext Ç
     | apply uM | apply vL | apply vK | apply vJ | apply uL | show uK
     | ext Ë
     | show uO | apply uN
     | ext Ý
     | ext È
     | (change _∈w6;simp) | show λ _ _ z=>z | show λ _ _ _ h=>h | show T
     | show hr | show nd | intro _ _ _ _ _ nd | show λ _=>rfl | show λ _ _=>rfl | show Or.inl rfl | show Or.inr rfl | show#[rfl,rfl,rfl,rfl] | decide
     | show (rfl:Ä[0]?=_) | show (rfl:Ä[1]?=_) | show (rfl:Ä[2]?=_) | show (rfl:Ä[3]?=_) | show (rfl:Ä[4]?=_) | show (rfl:Ä[5]?=_) | show (rfl:Ä[6]?=_) | show (rfl:Ä[7]?=_) | show (rfl:Ä[8]?=_) | show (rfl:Ä[9]?=_) | show (rfl:Ä[10]?=_) | show (rfl:Ä[11]?=_) | show (rfl:Ä[12]?=_) | show (rfl:Ä[13]?=_) | show (rfl:Ä[14]?=_)),(by
    repeat' first
     | ext Ð
     | (ext Ã)
     | ext Á
     | (exact zP.er ?_;ext Ã)
     | ext Å
     | ext Ø
     | show xt _
     | ext É
     | ext ã
     | show zJ.fv (y_ _)
     | show zJ.fv (xt _)
     | show Bool.false)]
end
def all_mk {l:PySem.W.OpenLaw}{w:World}{K:Ac}{h:Heap}{mg:Aq}{fa:Addr}(X:K.In h) (G:h.Ns Ü) (hfa:mg "law"=↑(.ref fa)) (H:HH K):
  ∃ fd:FuncData,(∀ (s:Shared) (v:Value),BindsTo s fd #[[v],[]] [("_law_script",v)])/\∀ base:Heap,K.In base->base.Ns Ü->wg l.prog Ú xP 12 fa Þ:=by
 have T:Bt mg:=#[BL Û H.z0,BL Û H.z1,BL Û H.z2,BL Û H.z3,BL Û H.z4,BL Û H.z5,BL Û H.z6,BL Û H.z7,BL Û H.z8,BL Û H.z9,BL Û H.OI,BL Û H.OH,BL Û H.OG];have U:Ox mg:=#[#[BL Û H.y0,BL Û H.y1,BL Û H.y2],BL Û H.y3];have XF:=H.XF;have XE:=H.XE;have C:CC K mg:=#[H.G6.mk Û,H.G5.mk Û,And.intro (H.Hw.mk Û) IX,H.Hv.mk Û,And.intro (H.Hu.mk Û) IW,And.intro (H.Hr.mk Û) IV,And.intro (H.Ho.mk Û) IU,H.Jy.mk Û,H.Jx.mk Û,H.Jw.mk Û,H.Jv.mk Û,H.Ju.mk Û,H.Jt.mk Û,H.Js.mk Û,H.Jr.mk Û,H.Jq.mk Û,BL Û H.xl];have Q:KK K:=#[λ c hc=>by cases AJ.mp hc;show XF,λ c hc=>by simp![Ao,A4,or_false] at hc;rcases hc with rfl | rfl <;> assumption,λ c hc=>by cases AJ.mp hc;show XE];let#[fd,Fl,hb]:=H.HF.law Û hfa λ _ _ _ _ _ _ _ _=>.of_eq rfl;exact#[fd,hb,λ base _ _=>?_];have d1:=Jj Â G;have d2:=Ja Â G d1;have d3:=dF Â G d1 d2;have d4:=K_ Õ;have d5:=KZ Ö;have d6:=KY Ö d5;have d7:=KW Ö d5 d6;have d8:=KU Æ;have d9:=KS Æ d8;have d10:=Ji Æ d8 d9;have d11:=Jh á;have d12:=Jg á d11;have d13:=Jf Ì;have d14:=Je Í;have d15:=Jd Í d14;have d16:=Jc Í d14 d15;have d17:=Jb Í d14 d15 d16;show KR Í d14 d15 d16 d17 Fl
def walk {l:PySem.W.OpenLaw}{q:Program}{loose:List Str}{XP:(Str->Option Value)->Heap->Prop}{YP:World->Heap->Prop}{d:DefRec}{K:Params->Ac}(hn:l.most=↑63) (hdf:d.params.defaults=[])
  (hY:∀ (w:World) (h:Heap),YP w h->(Ô).In h)
  (F:∀ (w:World) (mg:Aq) (fa:Addr) (h:Heap),(Ô).In h->h.Ns Ü->mg d.name=↑(.ref fa)->
   ∃ fd:FuncData,(∀ (s:Shared) (u:Value),BindsTo s fd #[[u],[]] [("_law_script",u)])/\∀ base:Heap,(Ô).In base->base.Ns Ü->wg l.prog w (Ô) mg base xP 12 fa fd ["_law_script"] (mv (Ô) (zR zC bH))):
  PySem.W.WalkO q loose XP YP l.row.toRowW d [] (λ f vs=>PySem.call f vs):=
 L2.Nq (n:=63) (k:=12) (x:="_law_script") (CX:=λ _=>xP) (sp:=λ w=>mv (Ô) (zR zC bH)) hn () hdf #[rfl,(),()] hY F (λ _ _ a ns hl hO hS=>Iz Iw hO hS hl) λ _ _ _ _ _ z=>z
end zU
)

open PySem PySem.W PyProof.Rows
set_option maxHeartbeats 0 in
theorem PySem.Challenge.cw_purseborder_k81_hands_refused_holds : PySem.Challenge.rw_purseborder_k81_hands_refused.Holds := by
 w_on;o_law;k_head;(case hw=>w_witness2)
 k_fill
 refine zU.walk (l:=PySem.Challenge.rw_purseborder_k81_hands_refused) rfl rfl (λ w h Y=>PySem.W.kIn_of Y) ?F
 case F=>
  intro w mg fa h KX G hmg;refine' zU.all_mk KX G hmg ⟨?_,?_,?_,?_,?_,?_,?_,?_,?_,?_,?_,?_,?_,?_,?_,?_,?_,?_,?_,?_,?_,?_,?_,?_,?_,?_,?_,?_,?_,?_,?_,?_,?_,?_,?_,?_,?_,?_,?_,?_,?_,?_,?_,?_,?_,?_,?_,?_,?_,?_,?_,?_,?_,?_,?_,?_,?_,?_,?_,?_,?_,?_,?_,?_,?_,?_,?_,?_,?_,?_,?_,?_,?_,?_,?_,?_,?_,?_,?_,?_,?_,?_,?_,?_,?_,?_,?_,?_,?_,?_,?_,?_,?_,?_,?_,?_,?_,?_,?_,?_⟩
  all_goals first | exact L3.Ei.i (by k_is) (by k_is) (by k_is) (by k_is) (by kernel_rfl) (by k_is) (by k_is) (by k_is) (by k_is) (by k_is) (by k_is) | exact L3.Ec.i (by k_is) (by k_is) (by k_is) (by k_is) (by kernel_rfl) | exact L3.Ez.i (by k_is) (by k_is) (by k_is) (by k_is) (by kernel_rfl) (by k_is) (by k_is) | exact L5.Fx.i (by k_is) (by k_is) (by k_is) (by k_is) | exact L5.Fm.i1 (L5.Ck.i (by k_is) (by k_is) (by k_is) (by k_is) (by k_is) (by k_is) (by k_is) (by k_is)) (by k_is) (by k_is) (by k_is) | exact L5.Fm.i2 (L5.Ck.i (by k_is) (by k_is) (by k_is) (by k_is) (by k_is) (by k_is) (by k_is) (by k_is)) (L5.Ck.i (by k_is) (by k_is) (by k_is) (by k_is) (by k_is) (by k_is) (by k_is) (by k_is)) (by k_is) (by k_is) (by k_is) | exact L5.Fc.i (by k_is) (by k_is) (by k_is) (by k_is) (by k_is) (by k_is) (by k_is) (by k_is) | exact L5.Kl.i (by k_is) (by k_is) (by k_is) (by k_is) (by k_is) (by kernel_rfl) | k_is | exact L5.Cn.i (by k_is) (by exact⟨_,rfl⟩)
